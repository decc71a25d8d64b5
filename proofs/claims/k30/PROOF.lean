import PyProof.Rows.All
import Wide.All
import OpenK.AllK
import Wide.FinOn
import PyProof.EqAt
import PyProof.EqKinds
import PyProof.TupleCall
import Lean
import PySem.Challenge.RW_flipwright_k30_parts_kept_once
set_option Elab.async false
set_option linter.all false
set_option maxRecDepth 100000
namespace L2
open PySem PySem.Spec PyProof.Rows
abbrev Key := Sum Int Str
def keyIs : Key → Value → Bool
  | .inl k, v => Value.isInt k v
  | .inr x, v => Value.isStrOf x v
def keyH (w : World) : Key → Int
  | .inl k => hashInt k
  | .inr x => hashStr w x
theorem keyIs_shape : ∀ {k : Key} {v : Value}, keyIs k v = true → (∃ i t, k = Sum.inl i ∧ v = Value.int i t) ∨ (∃ x t, k = Sum.inr x ∧ v = Value.str x t)
  | .inl i, v, h => by
    obtain ⟨t, e⟩ := Value.isInt_shape (k := i) (v := v) h
    exact .inl ⟨i, t, rfl, e⟩
  | .inr x, v, h => by
    obtain ⟨t, e⟩ := Value.isStrOf_shape (x := x) (v := v) h
    exact .inr ⟨x, t, rfl, e⟩
theorem keyIs_int (i : Int) (t : Tok) : keyIs (.inl i) (.int i t) = true := by simp [keyIs, Value.isInt]
theorem keyIs_str (x : Str) (t : Tok) : keyIs (.inr x) (.str x t) = true := by simp [keyIs, Value.isStrOf]
theorem key_ll (a b : Int) : decide ((Sum.inl a : Key) = Sum.inl b) = (a == b) := by
  by_cases e : a = b
  · subst e; simp
  · have h : ¬ (Sum.inl a : Key) = Sum.inl b := fun q => e (Sum.inl.inj q)
    rw [decide_eq_false h]
    exact (beq_eq_false_iff_ne.mpr e).symm
theorem key_rr (a b : Str) : decide ((Sum.inr a : Key) = Sum.inr b) = decide (a = b) := by
  by_cases e : a = b
  · subst e; simp
  · have h : ¬ (Sum.inr a : Key) = Sum.inr b := fun q => e (Sum.inr.inj q)
    rw [decide_eq_false h, decide_eq_false e]
theorem key_lr (a : Int) (b : Str) : decide ((Sum.inl a : Key) = Sum.inr b) = false := decide_eq_false (fun q => nomatch q)
theorem key_rl (a : Str) (b : Int) : decide ((Sum.inr a : Key) = Sum.inl b) = false := decide_eq_false (fun q => nomatch q)
def mixKind (prog : Program) (w : World) : PySem.KeyKind prog w Key where
  is := keyIs
  hash := keyH w
  inj := fun v a b ha hb => by
    rcases keyIs_shape ha with ⟨i, t, rfl, rfl⟩ | ⟨x, t, rfl, rfl⟩
    · rcases keyIs_shape hb with ⟨j, u, rfl, e⟩ | ⟨y, u, rfl, e⟩
      · injection e with e1 _; rw [e1]
      · exact nomatch e
    · rcases keyIs_shape hb with ⟨j, u, rfl, e⟩ | ⟨y, u, rfl, e⟩
      · exact nomatch e
      · injection e with e1 _; rw [e1]
  byValue := fun k v h => by
    rcases keyIs_shape h with ⟨i, t, rfl, rfl⟩ | ⟨x, t, rfl, rfl⟩ <;> rfl
  pyHash := fun hv h => by
    rcases keyIs_shape hv with ⟨i, t, rfl, rfl⟩ | ⟨x, t, rfl, rfl⟩
    · exact wpAny_pyHash_int h
    · exact wpAny_pyHash_str h
  eqBool := fun hu hv h => by
    rcases keyIs_shape hu with ⟨i, t, rfl, rfl⟩ | ⟨x, t, rfl, rfl⟩
    · rcases keyIs_shape hv with ⟨j, u, rfl, rfl⟩ | ⟨y, u, rfl, rfl⟩
      · rw [key_ll] at h; exact wpAny_eqBool_int h
      · rw [key_lr] at h; exact SeqAt.EqAt.int_str i t y u _ _ _ _ h
    · rcases keyIs_shape hv with ⟨j, u, rfl, rfl⟩ | ⟨y, u, rfl, rfl⟩
      · rw [key_rl] at h; exact SeqAt.EqAt.str_int x t j u _ _ _ _ h
      · rw [key_rr] at h; exact wpAny_eqBool_str h
  «strs» := fun k x t v h => by
    rcases keyIs_shape h with ⟨i, u, rfl, e⟩ | ⟨y, u, rfl, e⟩
    · exact nomatch e
    · injection e with e1 _
      subst e1
      cases v <;> rfl
theorem mixKind_int (prog : Program) (w : World) (i : Int) (t : Tok) : (mixKind prog w).is (.inl i) (.int i t) = true := keyIs_int i t
theorem mixKind_str (prog : Program) (w : World) (x : Str) (t : Tok) : (mixKind prog w).is (.inr x) (.str x t) = true := keyIs_str x t
end L2
namespace L2
open PySem PySem.Spec PyProof.Rows
inductive V where
  | non | bl (b : Bool) | int (i : Int) | str (x : Str) | byt (b : Array UInt8) | flt (b : UInt64) | ref (a : Addr) | ty (n : String)
  deriving DecidableEq
def RelV : V → Value → Prop
  | .non, u => u = Value.none
  | .bl b, u => u = Value.bool b
  | .int i, u => ∃ t, u = Value.int i t
  | .str x, u => ∃ t, u = Value.str x t
  | .byt b, u => ∃ t, u = Value.bytes b t
  | .flt b, u => ∃ t, u = Value.float b t
  | .ref a, u => u = Value.ref a
  | .ty n, u => u = Value.type n
abbrev Vals : List V → List Value → Prop := Paired RelV
theorem Vals.length {xs : List V} {us : List Value} (r : Vals xs us) : xs.length = us.length := Paired.length r
theorem Vals.get : ∀ {xs : List V} {us : List Value} {i : Nat} {x : V}, Vals xs us → xs[i]? = some x → ∃ u, us[i]? = some u ∧ RelV x u
  | _, _, _, _, .nil, e => by simp at e
  | _, _, 0, _, .cons r _, e => by simp at e; subst e; exact ⟨_, rfl, r⟩
  | _, _, i + 1, x, .cons _ t, e => by
    obtain ⟨u, h1, h2⟩ := Vals.get (i := i) (x := x) t (by simpa using e)
    exact ⟨u, by simpa using h1, h2⟩
theorem Vals.append : ∀ {xs ys : List V} {us ws : List Value}, Vals xs us → Vals ys ws → Vals (xs ++ ys) (us ++ ws)
  | _, _, _, _, .nil, s => s
  | _, _, _, _, .cons r t, s => .cons r (Vals.append t s)
def RelO : Option V → Option Value → Prop
  | some v, some u => RelV v u
  | none, none => True
  | _, _ => False
def KV {κ : Type} : List (κ × V) → List (κ × Value) → Prop := Paired fun (p : κ × V) (q : κ × Value) => p.1 = q.1 ∧ RelV p.2 q.2
def kV : Key → V
  | .inl i => .int i
  | .inr x => .str x
inductive HO where
  | lst (xs : List V)
  | tup (xs : List V)
  | dK (kvs : List (Key × V)) | dT (kvs : List (List Key × V))
  | set (S : Int → Bool) (n : Nat)
  | ins (C dx : Addr) (fs : List (Str × V))
  | own (x : Addr)
  | xd (fs : List (Str × V))
  | met (f x : Addr)
  | rng (lo hi : Int)
  | frz (o : Obj) (u : HO)
  | tbl (ps : Array Value)
  | ext (φ : Heap → Prop)
abbrev Hp := Addr → Option HO
def upd (H : Hp) (a : Addr) (o : HO) : Hp := fun b => if b = a then some o else H b
theorem upd_same {H : Hp} {a : Addr} {o : HO} : upd H a o a = some o := by unfold upd; rw [if_pos rfl]
theorem upd_ne {H : Hp} {a b : Addr} {o : HO} (h : b ≠ a) : upd H a o b = H b := by unfold upd; rw [if_neg h]
theorem ne_of {H : Hp} {a b : Addr} {o u : HO} (h : H a = some o) (h' : H b = some u) (d : o ≠ u) : a ≠ b := by
  intro e; subst e; rw [h] at h'; exact d (Option.some.inj h')
theorem ne_of_none {H : Hp} {a b : Addr} {o : HO} (h : H a = some o) (h' : H b = none) : a ≠ b := by
  intro e; subst e; rw [h] at h'; cases h'
section
variable (P : Program) (w : World)
def ObjOk (H : Hp) (h : Heap) (a : Addr) : HO → Prop
  | .lst xs => xs.length ≤ sizeLine ∧ ∃ (its : List Value) (n : Nat), Vals xs its ∧ h.get? a = some { cls := .type "list", data := .seq its.toArray n }
  | .tup xs => xs.length ≤ sizeLine ∧ ∃ its : List Value, Vals xs its ∧ IsTup h a its.toArray
  | .dK kvs => kvs.length ≤ sizeLine ∧ (a == sysModules) = false ∧ ∃ vs, KV kvs vs ∧ h.DictOf (mixKind P w) a vs
  | .dT kvs => kvs.length ≤ sizeLine ∧ (a == sysModules) = false ∧ ∃ xs : List (List Key × Addr × Value),
      Paired (fun (p : List Key × V) (q : List Key × Addr × Value) => p.1 = q.1 ∧ H q.2.1 = some (.tup (p.1.map kV)) ∧ RelV p.2 q.2.2) kvs xs ∧
      ∃ o es ep, h.get? a = some o ∧ o.ExactDict ∧ o.data = .dict es ep ∧ es.toList = xs.map (entryOfKey (tupleKind (mixKind P w))) ∧ (xs.map (·.1)).Nodup
  | .set S n => h.SetOf (intKind P w) a S n
  | .ins C dx fs => H dx = some (.own a) ∧ fs.length ≤ 1000 ∧ dx ≠ a ∧ h.get? a = some (PySem.W.instObj C dx) ∧
      ∃ mA, h.Ns1 dx mA ∧ (∀ f, RelO (fs.lookup f) (mA f)) ∧ PySem.Within mA (fs.map (·.1))
  | .own _ => ∃ o, h.get? a = some o
  | .xd fs => ∃ mA, h.Ns1 a mA ∧ ∀ f, RelO (fs.lookup f) (mA f)
  | .rng lo hi => ∃ t u v, h.get? a = some { cls := .type "range", data := .fields #[.int lo t, .int hi u, .int 1 v] }
  | .frz o u => h.get? a = some o ∧ ObjOk H h a u
  | .tbl ps => h.get? a = some { cls := .none, data := .fields ps }
  | .met f x => h.get? a = some (PySem.W.methodObj (.ref f) (.ref x))
  | .ext φ => φ h ∧ (∃ o, h.get? a = some o) ∧ ∀ h1 h2 : Heap, φ h1 → (∀ o, h1.get? a = some o → h2.get? a = some o) → φ h2
def HOk (H : Hp) (h : Heap) : Prop := ∀ a o, H a = some o → ObjOk P w H h a o
end
section
variable {P : Program} {w : World} {H H' : Hp} {h h' : Heap} {a : Addr} {o : HO}
theorem ObjOk.lt (x : ObjOk P w H h a o) : a < h.objs.size := by
  cases o with
  | lst xs => obtain ⟨_, _, _, _, e⟩ := x; exact Heap.lt_size e
  | tup xs => obtain ⟨_, _, _, p⟩ := x; exact p.lt
  | dK kvs => obtain ⟨_, _, _, _, o, _, _, e, _⟩ := x; exact Heap.lt_size e
  | dT kvs => obtain ⟨_, _, _, _, o, _, _, e, _⟩ := x; exact Heap.lt_size e
  | set S n => obtain ⟨o, _, _, _, e, _⟩ := x; exact Heap.lt_size e
  | ins C dx fs => obtain ⟨_, _, _, e, _⟩ := x; exact Heap.lt_size e
  | own y => obtain ⟨_, e⟩ := x; exact Heap.lt_size e
  | xd fs => obtain ⟨_, ⟨_, _, _, e, _⟩, _⟩ := x; exact Heap.lt_size e
  | rng lo hi => obtain ⟨_, _, _, e⟩ := x; exact Heap.lt_size e
  | frz ob u => obtain ⟨e, _⟩ := x; exact Heap.lt_size e
  | tbl ps => exact Heap.lt_size (show h.get? a = some _ from x)
  | met f y => exact Heap.lt_size (show h.get? a = some _ from x)
  | ext φ => obtain ⟨_, ⟨_, e⟩, _⟩ := x; exact Heap.lt_size e
theorem Paired.mapP {α β : Type} {F G : α → β → Prop} : ∀ {l₁ : List α} {l₂ : List β}, Paired F l₁ l₂ → (∀ a b, F a b → G a b) → Paired G l₁ l₂
  | _, _, .nil, _ => .nil
  | _, _, .cons r t, f => .cons (f _ _ r) (Paired.mapP t f)
theorem ObjOk.stay (x : ObjOk P w H h a o) (k : ∀ b u, (b = a ∨ H b = some (.own a)) → h.get? b = some u → h'.get? b = some u)
    (ho : ∀ b, H b = some (.own a) → H' b = some (.own a)) (ht : ∀ b xs, H b = some (.tup xs) → H' b = some (.tup xs)) : ObjOk P w H' h' a o := by
  induction o with
  | lst xs => obtain ⟨z, its, n, r, e⟩ := x; exact ⟨z, its, n, r, k _ _ (.inl rfl) e⟩
  | tup xs => obtain ⟨z, its, r, ob, e, c⟩ := x; exact ⟨z, its, r, ob, k _ _ (.inl rfl) e, c⟩
  | dK kvs => obtain ⟨z, y, vs, r, ob, es, ep, e, c⟩ := x; exact ⟨z, y, vs, r, ob, es, ep, k _ _ (.inl rfl) e, c⟩
  | dT kvs =>
    obtain ⟨z, y, xs, r, ob, es, ep, e, c⟩ := x
    exact ⟨z, y, xs, Paired.mapP r fun p q z => ⟨z.1, ht _ _ z.2.1, z.2.2⟩, ob, es, ep, k _ _ (.inl rfl) e, c⟩
  | set S n => obtain ⟨ob, es, ep, t, e, c⟩ := x; exact ⟨ob, es, ep, t, k _ _ (.inl rfl) e, c⟩
  | ins C dx fs =>
    obtain ⟨d, z, ne, e, mA, ⟨od, es, ep, e2, c⟩, r⟩ := x
    exact ⟨ho _ d, z, ne, k _ _ (.inl rfl) e, mA, ⟨od, es, ep, k _ _ (.inr d) e2, c⟩, r⟩
  | own y => obtain ⟨ob, e⟩ := x; exact ⟨ob, k _ _ (.inl rfl) e⟩
  | xd fs => obtain ⟨mA, ⟨od, es, ep, e, c⟩, r⟩ := x; exact ⟨mA, ⟨od, es, ep, k _ _ (.inl rfl) e, c⟩, r⟩
  | rng lo hi => obtain ⟨t, u, v, e⟩ := x; exact ⟨t, u, v, k _ _ (.inl rfl) e⟩
  | frz ob u ih => obtain ⟨e, q⟩ := x; exact ⟨k _ _ (.inl rfl) e, ih q⟩
  | tbl ps =>
    have e : h.get? a = some { cls := .none, data := .fields ps } := x
    show h'.get? a = some { cls := .none, data := .fields ps }
    exact k a _ (.inl rfl) e
  | met f y =>
    have e : h.get? a = some (PySem.W.methodObj (.ref f) (.ref y)) := x
    show h'.get? a = some (PySem.W.methodObj (.ref f) (.ref y))
    exact k a _ (.inl rfl) e
  | ext φ => obtain ⟨p, ⟨o, e⟩, st⟩ := x; exact ⟨st _ _ p fun o q => k _ _ (.inl rfl) q, ⟨o, k _ _ (.inl rfl) e⟩, st⟩
theorem HOk.lt (x : HOk P w H h) (e : H a = some o) : a < h.objs.size := (x a o e).lt
theorem HOk.fresh (x : HOk P w H h) (e : h.objs.size ≤ a) : H a = none := by
  cases q : H a with
  | none => rfl
  | some u => exact absurd (Nat.lt_of_lt_of_le (x.lt q) e) (Nat.lt_irrefl _)
theorem HOk.kept (x : HOk P w H h) (k : ∀ b u, h.get? b = some u → h'.get? b = some u) : HOk P w H h' := fun a o e =>
  (x a o e).stay (fun b u _ q => k b u q) (fun _ q => q) fun _ _ q => q
theorem HOk.laid (x : HOk P w H h) (k : ∀ b u, h.get? b = some u → h'.get? b = some u) (hp : h.objs.size ≤ a) (new : ObjOk P w (upd H a o) h' a o) : HOk P w (upd H a o) h' := fun b u e => by
  have hn := x.fresh hp
  by_cases hb : b = a
  · subst hb; rw [upd_same] at e; cases e; exact new
  · rw [upd_ne hb] at e
    exact (x b u e).stay (fun c v _ q => k c v q) (fun c q => by rw [upd_ne (ne_of_none q hn)]; exact q) fun c xs q => by rw [upd_ne (ne_of_none q hn)]; exact q
end
def Rd (H : Hp) (a : Addr) (u : HO) : Prop := H a = some u ∨ ∃ o, H a = some (.frz o u)
theorem Rd.ok {P : Program} {w : World} {H : Hp} {h : Heap} {a : Addr} {u : HO} (r : Rd H a u) (x : HOk P w H h) : ObjOk P w H h a u := by
  rcases r with r | ⟨o, r⟩
  · exact x a u r
  · obtain ⟨_, q⟩ := x a _ r
    exact q
def Mut : Option HO → Prop
  | some (.lst _) => True
  | some (.dK _) => True
  | some (.dT _) => True
  | some (.set _ _) => True
  | some (.ins _ _ _) => True
  | some (.ext _) => True
  | _ => False
section
variable {P : Program} {w : World} {H : Hp} {h h' : Heap} {x e : Addr} {o' : HO}
theorem HOk.write (ok : HOk P w H h) (mu : Mut (H x)) (he : e = x ∨ H e = some (.own x)) (k : ∀ b u, b ≠ e → h.get? b = some u → h'.get? b = some u) (heo : ∃ u, h'.get? e = some u)
    (new : ObjOk P w (upd H x o') h' x o') : HOk P w (upd H x o') h' := fun b u q => by
  have nown : ∀ c y, H c = some (.own y) → c ≠ x := fun c y r z => by subst z; rw [r] at mu; exact mu
  have ntup : ∀ c xs, H c = some (.tup xs) → c ≠ x := fun c xs r z => by subst z; rw [r] at mu; exact mu
  by_cases hb : b = x
  · subst hb; rw [upd_same] at q; cases q; exact new
  · rw [upd_ne hb] at q
    by_cases hbe : b = e
    · have q' : H b = some (.own x) := by
        rcases he with z | z
        · exact absurd (hbe.trans z) hb
        · rw [hbe]; exact z
      rw [q] at q'; cases q'
      obtain ⟨v, hv⟩ := heo
      exact ⟨v, by rw [hbe]; exact hv⟩
    · refine (ok b u q).stay (fun c v hc r => k c v ?_ r) (fun c r => by rw [upd_ne (nown c b r)]; exact r) fun c xs r => by rw [upd_ne (ntup c xs r)]; exact r
      rcases hc with rfl | hc
      · exact hbe
      · rintro rfl
        rcases he with z | z
        · exact nown c b hc z
        · rw [hc] at z; cases z; exact hb rfl
end
structure Un (fs ex : List Addr) (H H' : Hp) (h h' : Heap) : Prop where
  keep : ∀ b o, h.get? b = some o → H b = none → b ∉ fs → b ∉ ex → h'.get? b = some o
  slot : ∀ b o, h.get? b = some o → H b = none → b ∈ fs → b ∉ ex → ∃ sl, h'.get? b = some { o with slots := sl }
  free : ∀ b o, h.get? b = some o → H b = none → b ∉ ex → H' b = none
  there : ∀ b o, h.get? b = some o → b ∉ ex → ∃ o', h'.get? b = some o'
  tups : ∀ b xs, H b = some (.tup xs) → H' b = some (.tup xs)
  frzs : ∀ b o u, H b = some (.frz o u) → H' b = some (.frz o u)
  tbls : ∀ b ps, H b = some (.tbl ps) → ∃ more, H' b = some (.tbl (ps ++ more))
section
variable {fs fs' ex ex' : List Addr} {H H1 H2 : Hp} {h h1 h2 h' : Heap} {a x e : Addr} {o : HO}
theorem Un.any (u : Un fs ex H H1 h h1) {b : Addr} {ob : Obj} (q : h.get? b = some ob) (n : H b = none) (hx : b ∉ ex) : ∃ sl, h1.get? b = some { ob with slots := sl } := by
  by_cases hb : b ∈ fs
  · exact u.slot b ob q n hb hx
  · exact ⟨ob.slots, u.keep b ob q n hb hx⟩
theorem Un.kept (k : ∀ b u, h.get? b = some u → h'.get? b = some u) : Un fs ex H H h h' :=
  ⟨fun b ob q _ _ _ => k b ob q, fun b ob q _ _ _ => ⟨ob.slots, k b ob q⟩, fun _ _ _ n _ => n, fun b ob q _ => ⟨ob, k b ob q⟩, fun _ _ q => q, fun _ _ _ q => q, fun _ ps q => ⟨#[], by rw [q]; simp⟩⟩
theorem Un.refl : Un fs ex H H h h := Un.kept fun _ _ q => q
theorem Un.laid (k : ∀ b u, h.get? b = some u → h'.get? b = some u) (hp : h.objs.size ≤ a) (hn : H a = none) : Un fs ex H (upd H a o) h h' where
  keep := fun b u q _ _ _ => k b u q
  slot := fun b u q _ _ _ => ⟨u.slots, k b u q⟩
  free := fun b u q n _ => by rw [upd_ne (Nat.ne_of_lt (Nat.lt_of_lt_of_le (Heap.lt_size q) hp))]; exact n
  there := fun b u q _ => ⟨u, k b u q⟩
  tups := fun b xs q => by rw [upd_ne (ne_of_none q hn)]; exact q
  frzs := fun b u xs q => by rw [upd_ne (ne_of_none q hn)]; exact q
  tbls := fun b ps q => ⟨#[], by rw [upd_ne (ne_of_none q hn), q]; simp⟩
theorem Un.write (mu : Mut (H x)) (he : e = x ∨ H e = some (.own x)) (k : ∀ b u, b ≠ e → h.get? b = some u → h'.get? b = some u) (heo : ∃ u, h'.get? e = some u) : Un fs ex H (upd H x o) h h' := by
  have hx : ∀ b, H b = none → b ≠ x := fun b n z => by subst z; rw [n] at mu; exact mu
  have hb : ∀ b, H b = none → b ≠ e := fun b n z => by
    subst z
    rcases he with r | r
    · exact hx b n r
    · rw [n] at r; cases r
  have hm : ∀ b u, H b = some u → ¬ Mut (some u) → b ≠ x := fun b u q nm z => by subst z; rw [q] at mu; exact nm mu
  refine ⟨fun b u q n _ _ => k b u (hb b n) q, fun b u q n _ _ => ⟨u.slots, k b u (hb b n) q⟩, fun b u q n _ => by rw [upd_ne (hx b n)]; exact n, fun b u q _ => ?_,
    fun b xs q => by rw [upd_ne (hm b _ q fun z => z)]; exact q, fun b u xs q => by rw [upd_ne (hm b _ q fun z => z)]; exact q, fun b ps q => ⟨#[], by rw [upd_ne (hm b _ q fun z => z), q]; simp⟩⟩
  by_cases hbe : b = e
  · subst hbe; exact heo
  · exact ⟨u, k b u hbe q⟩
end
def trk (h : Heap) (H : Hp) : List Addr := (List.range h.objs.size).filter fun a => (H a).isSome
def hidT (h : Heap) (H : Hp) : Heap := PySem.W.hideAll h (trk h H)
theorem hidT_size (h : Heap) (H : Hp) : (hidT h H).objs.size = h.objs.size := PySem.W.hideAll_size _ _
theorem hidT_get {h : Heap} {H : Hp} {b : Addr} {o : Obj} (e : h.get? b = some o) (n : H b = none) : (hidT h H).get? b = some o :=
  PySem.W.hideAll_get _ e fun hm => by
    have q : (H b).isSome = true := (List.mem_filter.mp hm).2
    rw [n] at q; simp at q
theorem of_hidT {h : Heap} {H : Hp} {b : Addr} {o : Obj} (e : (hidT h H).get? b = some o) : h.get? b = some o ∧ H b = none := by
  have e' : h.get? b = some o := PySem.W.of_hideAll (trk h H) e
  refine ⟨e', ?_⟩
  cases q : H b with
  | none => rfl
  | some x =>
    have hm : b ∈ trk h H := List.mem_filter.mpr ⟨List.mem_range.mpr (Heap.lt_size e'), by simp [q]⟩
    have z : (hidT h H).get? b = none := PySem.W.hideAll_none (trk h H) hm
    rw [z] at e; cases e
def allNews (g h : Heap) (L : Addr) : List (Addr × Obj) := (List.range h.objs.size).filterMap fun a => if a = L ∨ (g.get? a).isSome = true then none else (h.get? a).map fun o => (a, o)
def rest (g h : Heap) (L d : Addr) : List (Addr × Obj) := (allNews g h L).filter fun p => decide (p.1 ≠ d)
end L2
namespace L2
open PySem PySem.Spec PyProof.Rows
structure Mod (K : PySem.W.Frag) (mg : Str → Option Value) (base : Heap) : Prop where
  kin : K.In base
  glob : base.Ns mainGlobals mg
  blt : ∃ mb, base.Ns builtinsNs mb ∧ ∀ x : Str, x ≠ "__name__" → mb x = bootBuiltins x
  nolimit : base.NoLimit
/-- the context: a def's body (or a comprehension's block) running. base: fixed through the whole law; s₀, H₀: the entry; outer: the frames whose slots others may change (a def's callers); stack: all frames that run;
   ex: iterators that were made ahead of the entry and are walked here (a comprehension's); fn: the names whose cells were made at the entry (a def: all; a comprehension's block: its own); calm: not within an except suite; pn: pins that every state bears; xe: what is wanted of an exception that leaves the code -/
structure Cx where
  prog : Program
  w : World
  K : PySem.W.Frag
  mg : Str → Option Value
  base : Heap
  A : Around
  N : List Str
  s₀ : Shared
  H₀ : Hp
  env : Env
  outer : List Env
  stack : List Env
  ex : List Addr
  fn : Str → Bool
  calm : Bool
  pn : List (Addr × Obj)
  xe : Value → Shared → Prop
def frs (l : List Env) : List Addr := l.filterMap (·.frame)
abbrev Cx.fs (X : Cx) : List Addr := frs X.outer
def Vis (sc : Scope) (x : Str) : Prop := sc.names.lookup x = some .local ∨ sc.names.lookup x = some .cell ∨ sc.names.lookup x = some .free
def Loc (sc : Scope) (x : Str) : Prop := sc.names.lookup x = some .local ∨ sc.names.lookup x = some .cell
def Look (env : Env) (h : Heap) (m : Str → Option Value) (x : Str) (u : Value) : Prop :=
  (env.kindOf x = some .local ∧ m x = some u) ∨ ((env.kindOf x = some .cell ∨ env.kindOf x = some .free) ∧ ∃ c, env.cells.lookup x = some c ∧ h.IsCell c (some u))
structure Cx.Ok (X : Cx) : Prop where
  mod : Mod X.K X.mg X.base
  kind : X.env.scope.kind = .function
  glob : X.env.globals = mainGlobals
  blt : X.env.builtins = builtinsNs
  above : X.s₀.heap.objs.size ≤ X.env.locals
  inj : ∀ x y c, X.env.cells.lookup x = some c → X.env.cells.lookup y = some c → x = y
  has : ∀ x, (X.env.kindOf x = some .cell ∨ X.env.kindOf x = some .free) → ∃ c, X.env.cells.lookup x = some c
  cab : ∀ x c, X.fn x = true → X.env.cells.lookup x = some c → X.s₀.heap.objs.size ≤ c
  hd : X.calm = true → X.A.handled = none
  frames : X.A.frames = some X.stack
  stk : X.stack = X.outer ∨ (X.stack = X.env :: X.outer ∧ X.env.frame = some X.env.locals)
  exf : ∀ b ∈ X.ex, b ≠ X.env.locals ∧ ∀ x c, X.env.cells.lookup x = some c → c ≠ b
  bs : ∀ b o, X.base.get? b = some o → X.s₀.heap.get? b = some o ∧ X.H₀ b = none
  bsz : X.base.objs.size ≤ X.s₀.heap.objs.size
  noex : ∀ b o, X.base.get? b = some o → b ∉ X.ex
  exfs : ∀ b ∈ X.ex, b ∉ X.fs
  funs : X.s₀.heap.FunFrames X.base X.outer
  frf : ∀ b ∈ X.fs, X.H₀ b = none
structure Inv (X : Cx) (pins : List (Addr × Obj)) (σ : List (Option V)) (H : Hp) (s : Shared) : Prop where
  ok : X.Ok
  os : s.os = X.s₀.os
  bare : AllBare s.gens
  base : Un X.fs X.ex X.H₀ H X.s₀.heap s.heap
  loc : ∃ m, s.heap.Ns X.env.locals m ∧ ∀ (i : Nat) (x : Str) (v : V), X.N[i]? = some x → σ[i]? = some (some v) → Vis X.env.scope x → ∃ u, RelV v u ∧ Look X.env s.heap m x u
  cell : ∀ x c, X.env.cells.lookup x = some c → ∃ v, s.heap.IsCell c v
  free : H X.env.locals = none
  freeC : ∀ x c, X.env.cells.lookup x = some c → H c = none
  pin : ∀ p ∈ X.pn ++ pins, s.heap.get? p.1 = some p.2 ∧ H p.1 = none ∧ p.1 ≠ X.env.locals ∧ p.1 ∉ X.fs ∧ ∀ v, p.2.data ≠ .cell v
  hok : HOk X.prog X.w H s.heap
  len : σ.length = X.N.length
section
variable {X : Cx} {pins : List (Addr × Obj)} {σ : List (Option V)} {H H' : Hp} {s : Shared} {h' : Heap}
theorem Cx.Ok.nofr (ok : X.Ok) {b : Addr} {o : Obj} (e : X.base.get? b = some o) : b ∉ X.fs := fun hb => by
  have := (ok.funs.mem hb).1
  rw [e] at this; cases this
theorem Inv.bs (I : Inv X pins σ H s) : ∀ b o, X.base.get? b = some o → s.heap.get? b = some o ∧ H b = none := fun b o e =>
  ⟨I.base.keep b o (I.ok.bs b o e).1 (I.ok.bs b o e).2 (I.ok.nofr e) (I.ok.noex b o e), I.base.free b o (I.ok.bs b o e).1 (I.ok.bs b o e).2 (I.ok.noex b o e)⟩
theorem Inv.bk (I : Inv X pins σ H s) : ∀ b o, X.base.get? b = some o → s.heap.get? b = some o := fun b o e => (I.bs b o e).1
theorem Inv.mod (I : Inv X pins σ H s) : Mod X.K X.mg X.base := I.ok.mod
theorem Inv.kIn (I : Inv X pins σ H s) : X.K.In s.heap := I.ok.mod.kin.keeps I.bk
theorem Inv.nolimit (I : Inv X pins σ H s) : s.heap.NoLimit := I.ok.mod.nolimit.keeps I.bk
theorem Inv.lt (I : Inv X pins σ H s) : X.env.locals < s.heap.objs.size := let ⟨_, hn, _⟩ := I.loc; hn.lt
theorem Inv.sz (I : Inv X pins σ H s) : X.s₀.heap.objs.size ≤ s.heap.objs.size := Nat.le_trans I.ok.above (Nat.le_of_lt I.lt)
theorem Inv.nofs (I : Inv X pins σ H s) {a : Addr} (h : s.heap.objs.size ≤ a) : a ∉ X.fs := fun hb => by
  obtain ⟨_, o, ho, _⟩ := I.ok.funs.mem hb
  exact absurd (Nat.lt_of_lt_of_le (Heap.lt_size ho) (Nat.le_trans I.sz h)) (Nat.lt_irrefl _)
theorem Inv.cne (I : Inv X pins σ H s) : ∀ x c, X.env.cells.lookup x = some c → c ≠ X.env.locals := fun x c e z => by
  obtain ⟨v, o, ho, hd⟩ := I.cell x c e
  obtain ⟨m, ⟨o', es, ep, ho', hd', _⟩, _⟩ := I.loc
  rw [z, ho'] at ho; cases ho; rw [hd'] at hd; cases hd
theorem Inv.funs (I : Inv X pins σ H s) : s.heap.FunFrames X.base X.outer := by
  have all : ∀ (l : List Env), (∀ b ∈ frs l, b ∈ X.fs) → X.s₀.heap.FunFrames X.base l → s.heap.FunFrames X.base l := by
    intro l
    induction l with
    | nil => intro _ _; trivial
    | cons env r ih =>
      intro hs hl
      obtain ⟨hk, ⟨L, o, hf, hn, ho, hd⟩, hr⟩ := hl
      have hL : L ∈ X.fs := hs L (by unfold frs; rw [List.filterMap_cons, hf]; exact List.mem_cons_self)
      obtain ⟨sl, e⟩ := I.base.slot L o ho (I.ok.frf L hL) hL fun z => I.ok.exfs L z hL
      exact ⟨hk, ⟨L, _, hf, hn, e, hd⟩, ih (fun b hb => hs b (by unfold frs; rw [List.filterMap_cons, hf]; exact List.mem_cons_of_mem _ hb)) hr⟩
  exact all X.outer (fun _ hb => hb) I.ok.funs
theorem Inv.stack (I : Inv X pins σ H s) : s.heap.FunFrames X.base X.stack := by
  rcases I.ok.stk with e | ⟨e, hf⟩
  · rw [e]; exact I.funs
  · rw [e]
    obtain ⟨m, hn, _⟩ := I.loc
    refine .cons (by rw [I.ok.kind]; decide) hf hn ?_ I.funs
    exact Heap.get?_none_of_le (Nat.le_trans I.ok.bsz I.ok.above)
theorem Inv.stkSub (I : Inv X pins σ H s) : ∀ b ∈ frs X.stack, b ∈ X.env.locals :: X.fs := fun b hb => by
  rcases I.ok.stk with e | ⟨e, hf⟩
  · rw [e] at hb; exact List.mem_cons_of_mem _ hb
  · rw [e] at hb
    unfold frs at hb
    rw [List.filterMap_cons, hf] at hb
    exact hb
theorem Inv.stkFree (I : Inv X pins σ H s) : ∀ b ∈ frs X.stack, H b = none := fun b hb => by
  rcases List.mem_cons.mp (I.stkSub b hb) with e | hb
  · rw [e]; exact I.free
  · obtain ⟨_, o, ho, _⟩ := I.ok.funs.mem hb
    exact I.base.free b o ho (I.ok.frf b hb) fun z => I.ok.exfs b z hb
theorem Inv.step {g' : Array GenState} {t' : Nat} {d' : Drawn} {ch : List Addr} (I : Inv X pins σ H s)
    (hch : ∀ b ∈ ch, (b ∈ X.ex ∨ X.s₀.heap.objs.size ≤ b) ∧ b ≠ X.env.locals ∧ (∀ x c, X.env.cells.lookup x = some c → c ≠ b) ∧ ∀ p ∈ X.pn ++ pins, p.1 ≠ b)
    (keep : ∀ b o, b ≠ X.env.locals → b ∉ X.fs → b ∉ ch → s.heap.get? b = some o → H b = none → h'.get? b = some o)
    (slot : ∀ b o, b ≠ X.env.locals → b ∈ X.fs → b ∉ ch → s.heap.get? b = some o → H b = none → ∃ sl, h'.get? b = some { o with slots := sl }) (free : ∀ b o, b ∉ ch → s.heap.get? b = some o → H b = none → H' b = none)
    (there : ∀ b o, b ∉ ch → s.heap.get? b = some o → ∃ o', h'.get? b = some o')
    (tups : ∀ b xs, H b = some (.tup xs) → H' b = some (.tup xs)) (frzs : ∀ b o u, H b = some (.frz o u) → H' b = some (.frz o u)) (tbls : ∀ b ps, H b = some (.tbl ps) → ∃ more, H' b = some (.tbl (ps ++ more)))
    (ns : ∀ m, s.heap.Ns X.env.locals m → h'.Ns X.env.locals m) (hok : HOk X.prog X.w H' h') (hg : AllBare g') :
    Inv X pins σ H' { s with heap := h', gens := g', drawn := d', toks := t' } := by
  have neL : ∀ b o, X.s₀.heap.get? b = some o → b ≠ X.env.locals := fun b o e => Nat.ne_of_lt (Nat.lt_of_lt_of_le (Heap.lt_size e) I.ok.above)
  have neC : ∀ b o, X.s₀.heap.get? b = some o → b ∉ X.ex → b ∉ ch := fun b o e hx hb => by
    rcases (hch b hb).1 with z | z
    · exact hx z
    · exact absurd (Nat.lt_of_lt_of_le (Heap.lt_size e) z) (Nat.lt_irrefl _)
  have cellK : ∀ x c, X.env.cells.lookup x = some c → ∀ v, s.heap.IsCell c v → h'.IsCell c v := fun x c e v ⟨o, ho, hd⟩ => by
    have nch : c ∉ ch := fun z => (hch c z).2.2.1 x c e rfl
    by_cases hc : c ∈ X.fs
    · obtain ⟨sl, q⟩ := slot c o (I.cne x c e) hc nch ho (I.freeC x c e)
      exact ⟨_, q, hd⟩
    · exact ⟨o, keep c o (I.cne x c e) hc nch ho (I.freeC x c e), hd⟩
  refine ⟨I.ok, I.os, hg, ⟨fun b o e n hb hx => ?_, fun b o e n hb hx => ?_, fun b o e n hx => ?_, fun b o e hx => ?_, fun b xs e => tups b xs (I.base.tups b xs e), fun b o xs e => frzs b o xs (I.base.frzs b o xs e), fun b ps e => ?_⟩, ?_, fun x c e => ?_, ?_, fun x c e => ?_, fun p hp => ?_, hok, I.len⟩
  · exact keep b o (neL b o e) hb (neC b o e hx) (I.base.keep b o e n hb hx) (I.base.free b o e n hx)
  · obtain ⟨sl, e1⟩ := I.base.slot b o e n hb hx
    obtain ⟨sl', e2⟩ := slot b _ (neL b o e) hb (neC b o e hx) e1 (I.base.free b o e n hx)
    exact ⟨sl', e2⟩
  · obtain ⟨o', e1⟩ := I.base.there b o e hx
    exact free b o' (neC b o e hx) e1 (I.base.free b o e n hx)
  · obtain ⟨o', e1⟩ := I.base.there b o e hx
    exact there b o' (neC b o e hx) e1
  · obtain ⟨m1, e1⟩ := I.base.tbls b ps e
    obtain ⟨m2, e2⟩ := tbls b _ e1
    exact ⟨m1 ++ m2, by rw [e2, Array.append_assoc]⟩
  · obtain ⟨m, hn, hl⟩ := I.loc
    refine ⟨m, ns m hn, fun i x v e1 e2 e3 => ?_⟩
    obtain ⟨u, r, l⟩ := hl i x v e1 e2 e3
    refine ⟨u, r, ?_⟩
    rcases l with l | ⟨k, c, e, z⟩
    · exact .inl l
    · exact .inr ⟨k, c, e, cellK x c e _ z⟩
  · obtain ⟨v, z⟩ := I.cell x c e
    exact ⟨v, cellK x c e v z⟩
  · obtain ⟨m, ⟨o, _, _, ho, _⟩, _⟩ := I.loc
    exact free _ o (fun z => (hch _ z).2.1 rfl) ho I.free
  · obtain ⟨v, o, ho, hd⟩ := I.cell x c e
    exact free c o (fun z => (hch c z).2.2.1 x c e rfl) ho (I.freeC x c e)
  · obtain ⟨e, n, ne, nf, d⟩ := I.pin p hp
    have nch : p.1 ∉ ch := fun z => (hch p.1 z).2.2.2 p hp rfl
    exact ⟨keep p.1 p.2 ne nf nch e n, free p.1 p.2 nch e n, ne, nf, d⟩
theorem Inv.un {t' : Nat} (I : Inv X pins σ H s) (u : Un X.fs [] H H' s.heap h') (hok : HOk X.prog X.w H' h') : Inv X pins σ H' { s with heap := h', toks := t' } := by
  obtain ⟨m, ⟨o, es, ep, ho, r⟩, _⟩ := id I.loc
  obtain ⟨sl, hL⟩ := u.any ho I.free (by simp)
  exact I.step (g' := s.gens) (d' := s.drawn) (ch := []) (fun _ z => nomatch z) (fun b o _ hb _ e n => u.keep b o e n hb (by simp)) (fun b o _ hb _ e n => u.slot b o e n hb (by simp)) (fun b o _ e n => u.free b o e n (by simp)) (fun b o _ e => u.there b o e (by simp)) u.tups u.frzs u.tbls (fun m' hm => by
    obtain ⟨o', es', ep', ho', r'⟩ := hm
    rw [ho] at ho'; cases ho'
    exact ⟨_, es', ep', hL, r'⟩) hok I.bare
theorem Inv.call {g' : Array GenState} {t' : Nat} {d' : Drawn} {ch : List Addr} (I : Inv X pins σ H s) (u : Un (frs X.stack) ch H H' s.heap h') (hok : HOk X.prog X.w H' h') (hg : AllBare g')
    (hch : ∀ b ∈ ch, (b ∈ X.ex ∨ X.s₀.heap.objs.size ≤ b) ∧ b ≠ X.env.locals ∧ (∀ x c, X.env.cells.lookup x = some c → c ≠ b) ∧ ∀ p ∈ X.pn ++ pins, p.1 ≠ b) :
    Inv X pins σ H' { s with heap := h', gens := g', drawn := d', toks := t' } := by
  obtain ⟨m, ⟨o, es, ep, ho, r⟩, _⟩ := id I.loc
  obtain ⟨sl, hL⟩ := u.any ho I.free fun z => (hch _ z).2.1 rfl
  exact I.step (ch := ch) hch (fun b o hL hb hc e n => u.keep b o e n (fun z => (List.mem_cons.mp (I.stkSub b z)).elim hL hb) hc) (fun b o _ _ hc e n => u.any e n hc) (fun b o hc e n => u.free b o e n hc) (fun b o hc e => u.there b o e hc) u.tups u.frzs u.tbls (fun m' hm => by
    obtain ⟨o', es', ep', ho', r'⟩ := hm
    rw [ho] at ho'; cases ho'
    exact ⟨_, es', ep', hL, r'⟩) hok hg
theorem Inv.turned {t' : Nat} {it : Addr} (I : Inv X pins σ H s) (k : ∀ b o, b ≠ it → s.heap.get? b = some o → h'.get? b = some o) (hn : H it = none) (hL : it ≠ X.env.locals)
    (h1 : it ∈ X.ex ∨ X.s₀.heap.objs.size ≤ it) (h2 : ∀ x c, X.env.cells.lookup x = some c → c ≠ it) (h3 : ∀ p ∈ X.pn ++ pins, p.1 ≠ it) : Inv X pins σ H { s with heap := h', toks := t' } := by
  have nit : ∀ b u, H b = some u → b ≠ it := fun b u e z => by rw [z, hn] at e; cases e
  refine I.step (g' := s.gens) (d' := s.drawn) (ch := [it]) (fun b hb => ?_) (fun b o _ _ hc e _ => k b o (fun z => hc (by simp [z])) e) (fun b o _ _ hc e _ => ⟨o.slots, k b o (fun z => hc (by simp [z])) e⟩) (fun _ _ _ _ n => n)
    (fun b o hc e => ⟨o, k b o (fun z => hc (by simp [z])) e⟩) (fun _ _ e => e) (fun _ _ _ e => e) (fun b ps e => ⟨#[], by rw [e]; simp⟩) (fun m hm => ?_) (fun b u e => ?_) I.bare
  · have e : b = it := by simpa using hb
    subst e
    exact ⟨h1, hL, h2, h3⟩
  · obtain ⟨o, es, ep, ho, r⟩ := hm
    exact ⟨o, es, ep, k _ o (Ne.symm hL) ho, r⟩
  · refine (I.hok b u e).stay (fun c v hc q => k c v ?_ q) (fun _ q => q) fun _ _ q => q
    rcases hc with z | z
    · rw [z]; exact nit b u e
    · exact nit c _ z
theorem Inv.tok (I : Inv X pins σ H s) (t : Nat) : Inv X pins σ H { s with toks := t } := I.un (h' := s.heap) (t' := t) Un.refl I.hok
theorem Inv.kept {t' : Nat} (I : Inv X pins σ H s) (k : ∀ b u, s.heap.get? b = some u → h'.get? b = some u) : Inv X pins σ H { s with heap := h', toks := t' } := I.un (Un.kept k) (I.hok.kept k)
theorem Inv.laid {a : Addr} {o : HO} {t' : Nat} (I : Inv X pins σ H s) (k : ∀ b u, s.heap.get? b = some u → h'.get? b = some u) (hp : s.heap.objs.size ≤ a) (new : ObjOk X.prog X.w (upd H a o) h' a o) :
    Inv X pins σ (upd H a o) { s with heap := h', toks := t' } := I.un (Un.laid k hp (I.hok.fresh hp)) (I.hok.laid k hp new)
theorem Inv.write {x e : Addr} {o : HO} {t' : Nat} (I : Inv X pins σ H s) (mu : Mut (H x)) (he : e = x ∨ H e = some (.own x)) (k : ∀ b u, b ≠ e → s.heap.get? b = some u → h'.get? b = some u) (heo : ∃ u, h'.get? e = some u)
    (new : ObjOk X.prog X.w (upd H x o) h' x o) : Inv X pins σ (upd H x o) { s with heap := h', toks := t' } := I.un (Un.write mu he k heo) (I.hok.write mu he k heo new)
theorem Inv.pins_of {pins' : List (Addr × Obj)} (I : Inv X pins σ H s) (h : ∀ p ∈ pins', s.heap.get? p.1 = some p.2 ∧ H p.1 = none ∧ p.1 ≠ X.env.locals ∧ p.1 ∉ X.fs ∧ ∀ v, p.2.data ≠ .cell v) : Inv X pins' σ H s :=
  ⟨I.ok, I.os, I.bare, I.base, I.loc, I.cell, I.free, I.freeC, fun p hp => (List.mem_append.mp hp).elim (fun z => I.pin p (List.mem_append_left _ z)) (h p), I.hok, I.len⟩
theorem nodup_ix {N : List Str} (hN : N.Nodup) {i j : Nat} {x : Str} (a : N[i]? = some x) (b : N[j]? = some x) : i = j := by
  obtain ⟨h1, e1⟩ := List.getElem?_eq_some_iff.mp a
  obtain ⟨h2, e2⟩ := List.getElem?_eq_some_iff.mp b
  exact (List.getElem_inj hN).mp (e1.trans e2.symm)
theorem store_ok2 {M : Model} {A : Around} {E : Value → Shared → Prop} {i : Nat} {x : Str} {v : V} {u : Value} {Q : Unit → Shared → Prop} (I : Inv X pins σ H s) (hN : X.N.Nodup) (hi : X.N[i]? = some x) (hx : Loc X.env.scope x) (r : RelV v u)
    (h : ∀ s', Inv X pins (σ.set i (some v)) H s' → (∃ a, Heap.SameBut a s.heap s'.heap ∧ (a = X.env.locals ∨ X.env.cells.lookup x = some a)) → Q () s') (hf : X.fn x = true ∨ X.env.scope.names.lookup x = some .local := by first | exact .inl rfl | exact .inr rfl | assumption) : wpAny M A (storeName X.env x u) Q E s := by
  obtain ⟨m, hn, hl⟩ := id I.loc
  have hcls : (X.env.scope.kind == .class || (X.env.scope.kind == .module && X.env.locals != X.env.globals)) = false := by rw [I.ok.kind]; rfl
  have hiσ : i < σ.length := by rw [I.len]; exact (List.getElem?_eq_some_iff.mp hi).1
  have cne := I.cne
  have tracked : ∀ {a : Addr} {h' : Heap}, (∃ o, s.heap.get? a = some o ∧ H a = none) → Heap.SameBut a s.heap h' → HOk X.prog X.w H h' := fun {a h'} ha hs b ob e => by
    obtain ⟨_, _, hfree⟩ := ha
    refine (I.hok b ob e).stay (fun c w' hc q => (hs.2 c ?_).trans q) (fun _ q => q) fun _ _ q => q
    rintro rfl
    rcases hc with rfl | hc
    · rw [hfree] at e; cases e
    · rw [hfree] at hc; cases hc
  rcases hx with hk | hk
  · refine wpAny_storeName_local hk hn (fun h' hn' hs => ?_) hcls
    obtain ⟨oL, _, _, hoL, _⟩ := id hn
    refine h _ ⟨I.ok, I.os, I.bare, ⟨fun b o e n hb hx => ?_, fun b o e n hb hx => ?_, I.base.free, fun b o e hx => ?_, I.base.tups, I.base.frzs, I.base.tbls⟩, ⟨_, hn', fun j y v' e1 e2 e3 => ?_⟩, fun y c e => ?_, I.free, I.freeC, fun p hp => ?_, tracked ⟨oL, hoL, I.free⟩ hs, by simpa using I.len⟩ ⟨_, hs, .inl rfl⟩
    · exact (hs.2 b (Nat.ne_of_lt (Nat.lt_of_lt_of_le (Heap.lt_size e) I.ok.above))).trans (I.base.keep b o e n hb hx)
    · obtain ⟨sl, e1⟩ := I.base.slot b o e n hb hx
      exact ⟨sl, (hs.2 b (Nat.ne_of_lt (Nat.lt_of_lt_of_le (Heap.lt_size e) I.ok.above))).trans e1⟩
    · obtain ⟨o', e1⟩ := I.base.there b o e hx
      exact ⟨o', (hs.2 b (Nat.ne_of_lt (Nat.lt_of_lt_of_le (Heap.lt_size e) I.ok.above))).trans e1⟩
    · by_cases hj : j = i
      · subst hj
        rw [hi] at e1; cases e1
        rw [List.getElem?_set_self hiσ] at e2
        cases e2
        exact ⟨u, r, .inl ⟨hk, by simp⟩⟩
      · rw [List.getElem?_set_ne (Ne.symm hj)] at e2
        obtain ⟨u', r', q⟩ := hl j y v' e1 e2 e3
        refine ⟨u', r', ?_⟩
        rcases q with ⟨k, e⟩ | ⟨k, c, e, z⟩
        · refine .inl ⟨k, ?_⟩
          have : y ≠ x := fun e => hj (nodup_ix hN e1 (e ▸ hi))
          simp [this, e]
        · exact .inr ⟨k, c, e, z.sameBut hs (cne y c e)⟩
    · obtain ⟨w', z⟩ := I.cell y c e
      exact ⟨w', z.sameBut hs (cne y c e)⟩
    · obtain ⟨e, n, ne, nf, d⟩ := I.pin p hp
      exact ⟨(hs.2 p.1 ne).trans e, n, ne, nf, d⟩
  · have hfn : X.fn x = true := by
      rcases hf with z | z
      · exact z
      · rw [z] at hk; cases hk
    obtain ⟨c, hc⟩ := I.ok.has x (.inl hk)
    obtain ⟨w', z⟩ := I.cell x c hc
    refine wpAny_storeName_cell I.ok.kind hk hc z (fun h' hc' hs => ?_)
    obtain ⟨oc, hoc, hocd⟩ := id z
    refine h { s with heap := h' } ⟨I.ok, I.os, I.bare, ⟨fun b o e n hb hx => ?_, fun b o e n hb hx => ?_, I.base.free, fun b o e hx => ?_, I.base.tups, I.base.frzs, I.base.tbls⟩, ⟨m, hn.sameBut hs (Ne.symm (cne x c hc)), fun j y v' e1 e2 e3 => ?_⟩, fun y c' e => ?_, I.free, I.freeC, fun p hp => ?_, tracked ⟨oc, hoc, I.freeC x c hc⟩ hs, by simpa using I.len⟩ ⟨c, hs, .inr hc⟩
    · exact (hs.2 b (Nat.ne_of_lt (Nat.lt_of_lt_of_le (Heap.lt_size e) (I.ok.cab x c hfn hc)))).trans (I.base.keep b o e n hb hx)
    · obtain ⟨sl, e1⟩ := I.base.slot b o e n hb hx
      exact ⟨sl, (hs.2 b (Nat.ne_of_lt (Nat.lt_of_lt_of_le (Heap.lt_size e) (I.ok.cab x c hfn hc)))).trans e1⟩
    · obtain ⟨o', e1⟩ := I.base.there b o e hx
      exact ⟨o', (hs.2 b (Nat.ne_of_lt (Nat.lt_of_lt_of_le (Heap.lt_size e) (I.ok.cab x c hfn hc)))).trans e1⟩
    · by_cases hj : j = i
      · subst hj
        rw [hi] at e1; cases e1
        rw [List.getElem?_set_self hiσ] at e2
        cases e2
        exact ⟨u, r, .inr ⟨.inl hk, c, hc, hc'⟩⟩
      · rw [List.getElem?_set_ne (Ne.symm hj)] at e2
        obtain ⟨u', r', q⟩ := hl j y v' e1 e2 e3
        refine ⟨u', r', ?_⟩
        rcases q with q | ⟨k, c', e, z'⟩
        · exact .inl q
        · refine .inr ⟨k, c', e, z'.sameBut hs ?_⟩
          rintro rfl
          exact hj (nodup_ix hN e1 (I.ok.inj _ _ _ e hc ▸ hi))
    · by_cases hcc : c' = c
      · subst hcc; exact ⟨_, hc'⟩
      · obtain ⟨w2, z2⟩ := I.cell y c' e
        exact ⟨w2, z2.sameBut hs hcc⟩
    · obtain ⟨e, n, ne, nf, d⟩ := I.pin p hp
      refine ⟨(hs.2 p.1 ?_).trans e, n, ne, nf, d⟩
      intro q
      rw [q, hoc] at e
      have q' : oc = p.2 := Option.some.inj e
      exact d w' (by rw [← q']; exact hocd)
theorem store_ok {M : Model} {A : Around} {E : Value → Shared → Prop} {i : Nat} {x : Str} {v : V} {u : Value} {Q : Unit → Shared → Prop} (I : Inv X pins σ H s) (hN : X.N.Nodup) (hi : X.N[i]? = some x) (hx : Loc X.env.scope x) (r : RelV v u)
    (h : ∀ s', Inv X pins (σ.set i (some v)) H s' → Q () s') (hf : X.fn x = true ∨ X.env.scope.names.lookup x = some .local := by first | exact .inl rfl | exact .inr rfl | assumption) : wpAny M A (storeName X.env x u) Q E s :=
  store_ok2 I hN hi hx r (fun s' I' _ => h s' I') hf
theorem Inv.call' {s' : Shared} {ch : List Addr} (I : Inv X pins σ H s) (ho : s'.os = s.os) (u : Un (frs X.stack) ch H H' s.heap s'.heap) (hok : HOk X.prog X.w H' s'.heap) (hg : AllBare s'.gens)
    (hch : ∀ b ∈ ch, (b ∈ X.ex ∨ X.s₀.heap.objs.size ≤ b) ∧ b ≠ X.env.locals ∧ (∀ x c, X.env.cells.lookup x = some c → c ≠ b) ∧ ∀ p ∈ X.pn ++ pins, p.1 ≠ b) : Inv X pins σ H' s' := by
  obtain ⟨h', g', d', t', o'⟩ := s'
  have e : o' = s.os := ho
  subst e
  exact I.call (g' := g') (t' := t') (d' := d') u hok hg hch
end
abbrev XK := Value → Option Addr → Hp → Prop
abbrev St := List (Option V)
abbrev VK := V → Hp → Prop
abbrev TE := St → Hp → VK → Prop
abbrev TT := St → Hp → (Bool → Hp → Prop) → Prop
abbrev TA := St → Hp → (List V → Hp → Prop) → Prop
structure Ends where
  nx : St → Hp → Prop
  rt : VK
  bk : St → Hp → Prop := fun _ _ => False
  ct : St → Hp → Prop := fun _ _ => False
abbrev TS := Ends → St → Hp → Prop
def EP (X : Cx) (pins : List (Addr × Obj)) (σ : St) (Q : VK) (u : Value) (s' : Shared) : Prop := ∃ v H', Inv X pins σ H' s' ∧ RelV v u ∧ Q v H'
def TP (X : Cx) (pins : List (Addr × Obj)) (σ : St) (Q : Bool → Hp → Prop) (b : Bool) (s' : Shared) : Prop := ∃ H', Inv X pins σ H' s' ∧ Q b H'
def AP (X : Cx) (pins : List (Addr × Obj)) (σ : St) (Q : List V → Hp → Prop) (us : List Value) (s' : Shared) : Prop := ∃ vs H', Inv X pins σ H' s' ∧ Vals vs us ∧ Q vs H'
def SP (X : Cx) (pins : List (Addr × Obj)) (D : Ends) (f : Flow) (s' : Shared) : Prop :=
  match f with
  | .next => ∃ σ' H', Inv X pins σ' H' s' ∧ D.nx σ' H'
  | .brk => ∃ σ' H', Inv X pins σ' H' s' ∧ D.bk σ' H'
  | .cont => ∃ σ' H', Inv X pins σ' H' s' ∧ D.ct σ' H'
  | .ret u => ∃ v σ' H', Inv X pins σ' H' s' ∧ RelV v u ∧ D.rt v H'
def PE (X : Cx) (e : Expr) (t : TE) : Prop :=
  ∀ (pins : List (Addr × Obj)) (s : Shared) (σ : St) (H : Hp) (Q : VK), Inv X pins σ H s → t σ H Q → wpAny (model X.prog X.w) X.A (eval e X.env) (EP X pins σ Q) X.xe s
def PT (X : Cx) (e : Expr) (t : TT) : Prop :=
  ∀ (pins : List (Addr × Obj)) (s : Shared) (σ : St) (H : Hp) (Q : Bool → Hp → Prop), Inv X pins σ H s → t σ H Q → wpAny (model X.prog X.w) X.A (isTrue e X.env (eval e X.env)) (TP X pins σ Q) X.xe s
def PW (X : Cx) (e : Expr) (t : TT) : Prop :=
  ∀ (whole : Sem Value) (pins : List (Addr × Obj)) (s : Shared) (σ : St) (H : Hp) (Q : Bool → Hp → Prop), Inv X pins σ H s → t σ H Q → wpAny (model X.prog X.w) X.A (isTrue e X.env whole) (TP X pins σ Q) X.xe s
theorem PW.pt {X : Cx} {e : Expr} {t : TT} (h : PW X e t) : PT X e t := h _
def PA (X : Cx) (es : List Expr) (t : TA) : Prop :=
  ∀ (pos : Pos) (pins : List (Addr × Obj)) (s : Shared) (σ : St) (H : Hp) (Q : List V → Hp → Prop), Inv X pins σ H s → t σ H Q → wpAny (model X.prog X.w) X.A (spliced (backTo pos (starEach es X.env))) (AP X pins σ Q) X.xe s
def PS (X : Cx) (st : Stmt) (t : TS) : Prop :=
  ∀ (pins : List (Addr × Obj)) (s : Shared) (σ : St) (H : Hp) (D : Ends), Inv X pins σ H s → t D σ H → wpAny (model X.prog X.w) X.A (exec st X.env) (SP X pins D) X.xe s
def PSs (X : Cx) (st : List Stmt) (t : TS) : Prop :=
  ∀ (pins : List (Addr × Obj)) (s : Shared) (σ : St) (H : Hp) (D : Ends), Inv X pins σ H s → t D σ H → wpAny (model X.prog X.w) X.A (execs st X.env) (SP X pins D) X.xe s
theorem thn {α : Type} {t : Sem α} {Q Q' : α → Shared → Prop} {M : Model} {A : Around} {E : Value → Shared → Prop} {s : Shared} (h : wpAny M A t Q E s) (hQ : ∀ a s, Q a s → Q' a s) : wpAny M A t Q' E s := wpAny_mono h hQ fun _ _ x => x
end L2
namespace L2
open PySem PySem.Spec PyProof.Rows
section
variable {X : Cx}
def tVar (i : Nat) : TE := fun σ H Q => ∃ v, σ[i]? = some (some v) ∧ Q v H
def tC (v : V) : TE := fun _ H Q => Q v H
theorem pe_var {i : Nat} {x : Str} {pos : Pos} (hN : X.N[i]? = some x) (hv : Vis X.env.scope x) (hd : (x == ("__debug__" : Str)) = false := by decide) (hcd : (x == ("__classdict__" : Str)) = false := by decide) : PE X (.Name x pos) (tVar i) := by
  intro pins s σ H Q I h
  obtain ⟨v, e, h⟩ := h
  obtain ⟨m, hn, hl⟩ := I.loc
  obtain ⟨u, r, l⟩ := hl i x v hN e hv
  have fin : EP X pins σ Q u s := ⟨v, H, I, r, h⟩
  rcases l with ⟨hk, hm⟩ | ⟨hk, c, hc, hcell⟩
  · exact wpAny_Name (wpAny_loadName_local I.ok.kind hk hn hm fin) hd
  · rcases hk with hk | hk
    · exact wpAny_Name (wpAny_loadName_cell I.ok.kind hk hc hcell fin) hd
    · exact wpAny_Name (wpAny_loadName_free I.ok.kind hk hc hcell fin hcd) hd
theorem pe_int {i j pos} : PE X (.Constant (.int i) j pos) (tC (.int i)) := fun _ _ _ H _ I h => wpAny_Constant_int ⟨.int i, H, I.tok _, ⟨_, rfl⟩, h⟩
theorem pe_bl {b j pos} : PE X (.Constant (.bool b) j pos) (tC (.bl b)) := fun _ _ _ H _ I h => Constant_bool ⟨.bl b, H, I, rfl, h⟩
theorem pe_non {j pos} : PE X (.Constant .none j pos) (tC .non) := fun _ _ _ H _ I h => Constant_none ⟨.non, H, I, rfl, h⟩
theorem pe_str {x j pos} : PE X (.Constant (.str x) j pos) (tC (.str x)) := fun _ _ _ H _ I h => Calls.Constant_str ⟨.str x, H, I.tok _, ⟨_, rfl⟩, h⟩
def Gl (X : Cx) (x : Str) : Prop := X.env.kindOf x = some .globalImplicit
theorem ld_glob {E : Value → Shared → Prop} {pins : List (Addr × Obj)} {s : Shared} {σ : St} {H : Hp} {x : Str} {u : Value} {pos : Pos} {Q : Value → Shared → Prop} (I : Inv X pins σ H s) (hg : Gl X x) (hm : X.mg x = some u) (h : Q u s)
    (hd : (x == ("__debug__" : Str)) = false := by decide) : wpAny (model X.prog X.w) X.A (eval (.Name x pos) X.env) Q E s :=
  Calls.Name_function_global I.ok.kind hg (Calls.loadGlobal_global (by rw [I.ok.glob]; exact I.mod.glob.keeps I.bk) hm h) hd
theorem ld_blt {E : Value → Shared → Prop} {pins : List (Addr × Obj)} {s : Shared} {σ : St} {H : Hp} {x : Str} {u : Value} {pos : Pos} {Q : Value → Shared → Prop} (I : Inv X pins σ H s) (hg : Gl X x) (hm : X.mg x = none) (hv : bootBuiltins x = some u) (h : Q u s)
    (hn : x ≠ "__name__" := by decide) (hd : (x == ("__debug__" : Str)) = false := by decide) : wpAny (model X.prog X.w) X.A (eval (.Name x pos) X.env) Q E s := by
  obtain ⟨mb, h1, h2⟩ := I.mod.blt
  exact Calls.Name_function_global I.ok.kind hg (Calls.loadGlobal_builtin (by rw [I.ok.glob]; exact I.mod.glob.keeps I.bk) hm (by rw [I.ok.blt]; exact h1.keeps I.bk) ((h2 x hn).trans hv) h) hd
theorem pe_glob {x : Str} {v : V} {u : Value} {pos : Pos} (hg : Gl X x) (hm : X.mg x = some u) (r : RelV v u) (hd : (x == ("__debug__" : Str)) = false := by decide) : PE X (.Name x pos) (tC v) :=
  fun _ _ _ H _ I h => ld_glob I hg hm ⟨v, H, I, r, h⟩ hd
theorem pe_bltn {x : Str} {v : V} {u : Value} {pos : Pos} (hg : Gl X x) (hm : X.mg x = none) (hv : bootBuiltins x = some u) (r : RelV v u) (hn : x ≠ "__name__" := by decide) (hd : (x == ("__debug__" : Str)) = false := by decide) : PE X (.Name x pos) (tC v) :=
  fun _ _ _ H _ I h => ld_blt I hg hm hv ⟨v, H, I, r, h⟩ hn hd
def t2I (ta tb : TE) (k : Int → Int → Hp → Prop) : St → Hp → Prop := fun σ H => ta σ H fun x H1 => tb σ H1 fun y H2 => ∃ i j, x = .int i ∧ y = .int j ∧ k i j H2
def tAdd (ta tb : TE) : TE := fun σ H Q => t2I ta tb (fun i j H2 => Q (.int (i + j)) H2) σ H
def tSub (ta tb : TE) : TE := fun σ H Q => t2I ta tb (fun i j H2 => Q (.int (i - j)) H2) σ H
def tMul (ta tb : TE) : TE := fun σ H Q => t2I ta tb (fun i j H2 => (-(2 ^ 64) < i ∧ i < 2 ^ 64) ∧ Q (.int (i * j)) H2) σ H
variable {a b : Expr} {ta tb : TE} {pos : Pos}
def PC (X : Cx) (op : CmpOp) (a b : Expr) (t : TE) : Prop :=
  ∀ (pins : List (Addr × Obj)) (s : Shared) (σ : St) (H : Hp) (Q : VK), Inv X pins σ H s → t σ H Q →
    wpAny (model X.prog X.w) X.A (eval a X.env) (fun v s₁ => wpAny (model X.prog X.w) X.A (eval b X.env) (fun u s₂ => wpAny (model X.prog X.w) X.A (compareOp op v u) (EP X pins σ Q) X.xe s₂) X.xe s₁) X.xe s
def tCmp (p : Int → Int → Bool) (ta tb : TE) : TE := fun σ H Q => t2I ta tb (fun i j H2 => Q (.bl (p i j)) H2) σ H
abbrev tLt : TE → TE → TE := tCmp fun i j => decide (i < j)
abbrev tLe : TE → TE → TE := tCmp fun i j => decide (i ≤ j)
abbrev tGt : TE → TE → TE := tCmp fun i j => decide (j < i)
abbrev tGe : TE → TE → TE := tCmp fun i j => decide (j ≤ i)
abbrev tEqI : TE → TE → TE := tCmp fun i j => decide (i = j)
abbrev tNeI : TE → TE → TE := tCmp fun i j => !decide (i = j)
def tIsN (ta : TE) : TE := fun σ H Q => ta σ H fun x H1 => Q (.bl (decide (x = .non))) H1
def tNotN (ta : TE) : TE := fun σ H Q => ta σ H fun x H1 => Q (.bl (!decide (x = .non))) H1
def tB (t : TE) : TT := fun σ H Q => t σ H fun x H1 => ∃ c, x = .bl c ∧ Q c H1
theorem pt_val {e : Expr} {t : TE} (h : PE X e t) (he : ∀ whole, isTrue e X.env whole = (do let v ← whole; standAt e.pos; holding [v] (truthy v)) := by intro _; rfl) : PT X e (tB t) := by
  intro pins s σ H Q I hw
  refine isTrue_plain (thn (h pins s σ H _ I hw) fun v s1 ⟨x, H1, I1, r1, q1⟩ => ?_) (he _)
  obtain ⟨d, rfl, q⟩ := q1
  cases r1
  exact wpAny_truthy_bool ⟨H1, I1, q⟩
variable {tA tB' : TT} {rest : List Expr}
def tAnd (t u : TT) : TT := fun σ H Q => t σ H fun c H1 => if c = true then u σ H1 Q else Q false H1
def tOr (t u : TT) : TT := fun σ H Q => t σ H fun c H1 => if c = true then Q true H1 else u σ H1 Q
def tNot (t : TT) : TT := fun σ H Q => t σ H fun c H1 => Q (!c) H1
theorem pw_and1 (ha : PT X a tA) : PW X (.BoolOp .And [a] pos) tA := by
  intro wh pins s σ H Q I h
  refine isTrue_and (thn (ha pins s σ H Q I h) fun c s1 e => ?_)
  cases c with
  | true => exact isTrue_and_nil e
  | false => exact e
theorem pw_or1 (ha : PT X a tA) : PW X (.BoolOp .Or [a] pos) tA := by
  intro wh pins s σ H Q I h
  refine isTrue_or (thn (ha pins s σ H Q I h) fun c s1 e => ?_)
  cases c with
  | false => exact isTrue_or_nil e
  | true => exact e
theorem pw_and (ha : PT X a tA) (hb : PW X (.BoolOp .And (b :: rest) pos) tB') : PW X (.BoolOp .And (a :: b :: rest) pos) (tAnd tA tB') := by
  intro wh pins s σ H Q I h
  refine isTrue_and (thn (ha pins s σ H _ I h) fun c s1 ⟨H1, I1, q1⟩ => ?_)
  cases c with
  | true => exact hb wh pins s1 σ H1 Q I1 q1
  | false => exact ⟨H1, I1, q1⟩
theorem pw_or (ha : PT X a tA) (hb : PW X (.BoolOp .Or (b :: rest) pos) tB') : PW X (.BoolOp .Or (a :: b :: rest) pos) (tOr tA tB') := by
  intro wh pins s σ H Q I h
  refine isTrue_or (thn (ha pins s σ H _ I h) fun c s1 ⟨H1, I1, q1⟩ => ?_)
  cases c with
  | true => exact ⟨H1, I1, q1⟩
  | false => exact hb wh pins s1 σ H1 Q I1 q1
theorem pt_not (ha : PT X a tA) : PT X (.UnaryOp .Not a pos) (tNot tA) := by
  intro pins s σ H Q I h
  exact isTrue_not (ha pins s σ H (fun c H1 => Q (!c) H1) I h)
def tAndV (ta tb : TE) : TE := fun σ H Q => ta σ H fun x H1 => ∃ c, x = .bl c ∧ if c = true then tb σ H1 Q else Q (.bl false) H1
def tOrV (ta tb : TE) : TE := fun σ H Q => ta σ H fun x H1 => ∃ c, x = .bl c ∧ if c = true then Q (.bl true) H1 else tb σ H1 Q
def tNotV (ta : TE) : TE := fun σ H Q => ta σ H fun x H1 => ∃ c, x = .bl c ∧ Q (.bl (!c)) H1
theorem pe_one {op} {t : TE} (h : PE X a t) : PE X (.BoolOp op [a] pos) t := fun pins s σ H Q I hw => BoolOp_one (h pins s σ H Q I hw)
theorem pe_and (ha : PE X a ta) (hb : PE X (.BoolOp .And (b :: rest) pos) tb) : PE X (.BoolOp .And (a :: b :: rest) pos) (tAndV ta tb) := by
  intro pins s σ H Q I h
  refine BoolOp_and (thn (ha pins s σ H _ I h) fun v s1 ⟨x, H1, I1, r1, q1⟩ => ?_)
  obtain ⟨c, rfl, q1⟩ := q1
  cases r1
  refine wpAny_truthy_bool ?_
  cases c with
  | true => exact hb pins s1 σ H1 Q I1 q1
  | false => exact ⟨.bl false, H1, I1, rfl, q1⟩
theorem pe_or (ha : PE X a ta) (hb : PE X (.BoolOp .Or (b :: rest) pos) tb) : PE X (.BoolOp .Or (a :: b :: rest) pos) (tOrV ta tb) := by
  intro pins s σ H Q I h
  refine BoolOp_or (thn (ha pins s σ H _ I h) fun v s1 ⟨x, H1, I1, r1, q1⟩ => ?_)
  obtain ⟨c, rfl, q1⟩ := q1
  cases r1
  refine wpAny_truthy_bool ?_
  cases c with
  | false => exact hb pins s1 σ H1 Q I1 q1
  | true => exact ⟨.bl true, H1, I1, rfl, q1⟩
theorem pe_not (ha : PE X a ta) : PE X (.UnaryOp .Not a pos) (tNotV ta) := by
  intro pins s σ H Q I h
  refine UnaryOp_ (thn (ha pins s σ H _ I h) fun v s1 ⟨x, H1, I1, r1, q1⟩ => ?_)
  obtain ⟨c, rfl, q1⟩ := q1
  cases r1
  exact not_of (wpAny_truthy_bool ⟨.bl (!c), H1, I1, rfl, q1⟩)
def tIf (t : TT) (ta tb : TE) : TE := fun σ H Q => t σ H fun c H1 => if c = true then ta σ H1 Q else tb σ H1 Q
end
end L2
namespace L2
open PySem PySem.Spec PyProof.Rows
def SqL (K : PySem.W.Frag) (H : Hp) (a : Addr) (xs : List V) : Prop :=
  Rd H a (.lst xs) ∨
    ∃ (o : Obj) (its : Array Value) (n : Nat), K.lookup a = some o ∧ o.cls = .type "list" ∧ o.dict = none ∧ o.data = .seq its n ∧ its.size ≤ sizeLine ∧ Vals xs its.toList
def SqT (K : PySem.W.Frag) (H : Hp) (a : Addr) (xs : List V) : Prop :=
  Rd H a (.tup xs) ∨
    ∃ (o : Obj) (its : Array Value) (n : Nat), K.lookup a = some o ∧ o.cls = .type "tuple" ∧ o.data = .seq its n ∧ its.size ≤ sizeLine ∧ Vals xs its.toList
def absV : Value → Option V
  | .none => some .non
  | .bool b => some (.bl b)
  | .int i _ => some (.int i)
  | .str x _ => some (.str x)
  | .bytes b _ => some (.byt b)
  | .float b _ => some (.flt b)
  | .ref a => some (.ref a)
  | .type n => some (.ty n)
  | _ => none
theorem RelV.abs {x : V} {u : Value} (r : RelV x u) : absV u = some x := by
  cases x with
  | non => cases r; rfl
  | bl _ => cases r; rfl
  | int _ => obtain ⟨t, rfl⟩ := r; rfl
  | str _ => obtain ⟨t, rfl⟩ := r; rfl
  | byt _ => obtain ⟨t, rfl⟩ := r; rfl
  | flt _ => obtain ⟨t, rfl⟩ := r; rfl
  | ref _ => cases r; rfl
  | ty _ => cases r; rfl
theorem RelV.inj {x y : V} {u : Value} (r : RelV x u) (q : RelV y u) : x = y := Option.some.inj (r.abs.symm.trans q.abs)
theorem Vals.inj : ∀ {xs ys : List V} {us : List Value}, Vals xs us → Vals ys us → xs = ys
  | _, _, _, .nil, .nil => rfl
  | _, _, _, .cons r t, .cons r' t' => by rw [r.inj r', Vals.inj t t']
section
variable {X : Cx} {pins : List (Addr × Obj)} {σ : St} {H : Hp} {s : Shared} {a : Addr} {xs ys : List V}
theorem SqL.of {K : PySem.W.Frag} (h : H a = some (.lst xs)) : SqL K H a xs := .inl (.inl h)
theorem SqT.of {K : PySem.W.Frag} (h : H a = some (.tup xs)) : SqT K H a xs := .inl (.inl h)
theorem Inv.list (I : Inv X pins σ H s) (h : SqL X.K H a xs) : ∃ its : List Value, Vals xs its ∧ PlainL s.heap a its.toArray ∧ xs.length ≤ sizeLine := by
  rcases h with h | ⟨o, its, n, hk, hc, hd, hs, hz, r⟩
  · obtain ⟨z, its, n, r, e⟩ := h.ok I.hok
    exact ⟨its, r, ⟨_, n, e, rfl, rfl, rfl⟩, z⟩
  · refine ⟨its.toList, r, ⟨o, n, I.kIn a o hk, hc, hd, by simpa using hs⟩, ?_⟩
    have e := r.length
    simp only [Array.length_toList] at e
    omega
theorem Inv.tuple (I : Inv X pins σ H s) (h : SqT X.K H a xs) : ∃ its : List Value, Vals xs its ∧ IsTup s.heap a its.toArray ∧ xs.length ≤ sizeLine := by
  rcases h with h | ⟨o, its, n, hk, hc, hs, hz, r⟩
  · obtain ⟨z, its, r, p⟩ := h.ok I.hok
    exact ⟨its, r, p, z⟩
  · refine ⟨its.toList, r, ⟨o, I.kIn a o hk, hc, n, by simpa using hs⟩, ?_⟩
    have e := r.length
    simp only [Array.length_toList] at e
    omega
theorem Inv.list_inj (I : Inv X pins σ H s) (h : SqL X.K H a xs) (h' : SqL X.K H a ys) : xs = ys := by
  obtain ⟨its, r, ⟨o, n, e, _, _, d⟩, _⟩ := I.list h
  obtain ⟨its', r', ⟨o', n', e', _, _, d'⟩, _⟩ := I.list h'
  rw [e] at e'; cases e'
  rw [d] at d'
  injection d' with d1 _
  have : its = its' := by simpa using congrArg Array.toList d1
  subst this
  exact r.inj r'
theorem Inv.tuple_inj (I : Inv X pins σ H s) (h : SqT X.K H a xs) (h' : SqT X.K H a ys) : xs = ys := by
  obtain ⟨its, r, ⟨o, e, _, n, d⟩, _⟩ := I.tuple h
  obtain ⟨its', r', ⟨o', e', _, n', d'⟩, _⟩ := I.tuple h'
  rw [e] at e'; cases e'
  rw [d] at d'
  injection d' with d1 _
  have : its = its' := by simpa using congrArg Array.toList d1
  subst this
  exact r.inj r'
end
abbrev Cx.wish (X : Cx) (E : Value → Shared → Prop) : Cx := { X with xe := E }
abbrev Cx.nox (X : Cx) : Cx := X.wish fun _ _ => False
theorem Cx.Ok.wish {X : Cx} (ok : X.Ok) (E : Value → Shared → Prop) : (X.wish E).Ok :=
  ⟨ok.mod, ok.kind, ok.glob, ok.blt, ok.above, ok.inj, ok.has, ok.cab, ok.hd, ok.frames, ok.stk, ok.exf, ok.bs, ok.bsz, ok.noex, ok.exfs, ok.funs, ok.frf⟩
theorem Cx.Ok.unwish {X : Cx} {E : Value → Shared → Prop} (ok : (X.wish E).Ok) : X.Ok :=
  ⟨ok.mod, ok.kind, ok.glob, ok.blt, ok.above, ok.inj, ok.has, ok.cab, ok.hd, ok.frames, ok.stk, ok.exf, ok.bs, ok.bsz, ok.noex, ok.exfs, ok.funs, ok.frf⟩
section
variable {X : Cx} {pins : List (Addr × Obj)} {σ : St} {H : Hp} {s : Shared} {E : Value → Shared → Prop}
theorem Inv.wish (I : Inv X pins σ H s) (E : Value → Shared → Prop) : Inv (X.wish E) pins σ H s := ⟨I.ok.wish E, I.os, I.bare, I.base, I.loc, I.cell, I.free, I.freeC, I.pin, I.hok, I.len⟩
theorem Inv.unwish (I : Inv (X.wish E) pins σ H s) : Inv X pins σ H s := ⟨I.ok.unwish, I.os, I.bare, I.base, I.loc, I.cell, I.free, I.freeC, I.pin, I.hok, I.len⟩
theorem SP.unwish {D : Ends} {f : Flow} {s' : Shared} (h : SP (X.wish E) pins D f s') : SP X pins D f s' := by
  cases f with
  | next => obtain ⟨σ', H', I, q⟩ := h; exact ⟨σ', H', I.unwish, q⟩
  | brk => obtain ⟨σ', H', I, q⟩ := h; exact ⟨σ', H', I.unwish, q⟩
  | cont => obtain ⟨σ', H', I, q⟩ := h; exact ⟨σ', H', I.unwish, q⟩
  | ret u => obtain ⟨v, σ', H', I, r, q⟩ := h; exact ⟨v, σ', H', I.unwish, r, q⟩
theorem PSs.nox {st : List Stmt} {t : TS} (h : PSs X.nox st t) : PSs X st t := fun pins s σ H D I hw =>
  wpAny_mono (h pins s σ H D (I.wish _) hw) (fun _ _ q => q.unwish) fun _ _ z => False.elim z
end
section
variable {X : Cx} {st : Stmt} {rest : List Stmt} {t u : TS} {e : Expr} {te : TE} {pos : Pos}
def tNext : TS := fun D σ H => D.nx σ H
def tSeq (t u : TS) : TS := fun D σ H => t { D with nx := u D } σ H
theorem pss_nil : PSs X [] tNext := fun _ _ σ H _ I h => wpAny_execs_nil ⟨σ, H, I, h⟩
theorem pss_cons (h1 : PS X st t) (h2 : PSs X rest u) : PSs X (st :: rest) (tSeq t u) := by
  intro pins s σ H D I h
  refine wpAny_execs_cons (thn (h1 pins s σ H { D with nx := u D } I h) fun f s1 q => ?_)
  cases f with
  | next =>
    obtain ⟨σ', H', I', q⟩ := q
    exact h2 pins s1 σ' H' D I' q
  | ret v => exact q
  | brk => exact q
  | cont => exact q
theorem pss_one (h1 : PS X st t) : PSs X [st] t := by
  intro pins s σ H D I h
  refine wpAny_execs_cons (thn (h1 pins s σ H D I h) fun f s1 q => ?_)
  cases f with
  | next => exact wpAny_execs_nil q
  | ret v => exact q
  | brk => exact q
  | cont => exact q
def tBreak : TS := fun D σ H => D.bk σ H
def tCont : TS := fun D σ H => D.ct σ H
theorem Inv.quiet {pins : List (Addr × Obj)} {σ : St} {H : Hp} {s : Shared} (I : Inv X pins σ H s) : interactive X.env = false := by simp [interactive, I.ok.kind]
def tDrop (te : TE) : TS := fun D σ H => te σ H fun _ H1 => D.nx σ H1
theorem ps_expr (he : PE X e te) (hs : swapsWith e none pos.line X.env = pure false := by rfl) : PS X (.Expr e pos) (tDrop te) := by
  intro pins s σ H D I h
  exact wpAny_Expr_any (thn (he pins s σ H _ I h) fun v s1 ⟨x, H1, I1, r1, q1⟩ => ⟨σ, H1, I1, q1⟩) I.quiet hs
def tRet (te : TE) : TS := fun D σ H => te σ H D.rt
theorem ps_ret (he : PE X e te) : PS X (.Return (some e) pos) (tRet te) := by
  intro pins s σ H D I h
  exact wpAny_Return_some (thn (he pins s σ H _ I h) fun v s1 ⟨x, H1, I1, r1, q1⟩ => ⟨x, σ, H1, I1, r1, q1⟩)
def tRetN : TS := fun D _ H => D.rt .non H
def tIfS (c : TT) (t u : TS) : TS := fun D σ H => c σ H fun b H1 => if b = true then t D σ H1 else u D σ H1
theorem ps_if {c : Expr} {a b : List Stmt} {tc : TT} (hc : PT X c tc) (ha : PSs X a t) (hb : PSs X b u) : PS X (.If c a b pos) (tIfS tc t u) := by
  intro pins s σ H D I h
  refine wpAny_If (thn (hc pins s σ H _ I h) fun d s1 ⟨H1, I1, q1⟩ => ?_)
  cases d with
  | true => exact ha pins s1 σ H1 D I1 q1
  | false => exact hb pins s1 σ H1 D I1 q1
def tNever : TS := fun _ _ _ => False
end
abbrev TG := V → St → Hp → (St → Hp → Prop) → Prop
abbrev TGs := List V → St → Hp → (St → Hp → Prop) → Prop
def PG (X : Cx) (target : Expr) (t : TG) : Prop :=
  ∀ (pins : List (Addr × Obj)) (s : Shared) (σ : St) (H : Hp) (v : V) (u : Value) (Q : St → Hp → Prop), Inv X pins σ H s → RelV v u → t v σ H Q →
    wpAny (model X.prog X.w) X.A (assign target X.env u) (fun _ s' => ∃ σ' H', Inv X pins σ' H' s' ∧ Q σ' H') X.xe s
def PGs (X : Cx) (ts : List Expr) (t : TGs) : Prop :=
  ∀ (pins : List (Addr × Obj)) (s : Shared) (σ : St) (H : Hp) (vs : List V) (us : List Value) (Q : St → Hp → Prop), Inv X pins σ H s → Vals vs us → t vs σ H Q →
    wpAny (model X.prog X.w) X.A (assignInOrder ((assignEach ts X.env).map (·.2)) us) (fun _ s' => ∃ σ' H', Inv X pins σ' H' s' ∧ Q σ' H') X.xe s
abbrev TSet := V → V → V → Hp → (Hp → Prop) → Prop
def PSet (X : Cx) (t : TSet) : Prop :=
  ∀ (pins : List (Addr × Obj)) (s : Shared) (σ : St) (H : Hp) (o i v : V) (ov iv u : Value) (Q : Hp → Prop), Inv X pins σ H s → RelV o ov → RelV i iv → RelV v u → t o i v H Q →
    wpAny (model X.prog X.w) X.A (setItem ov iv u) (fun _ s' => ∃ H', Inv X pins σ H' s' ∧ Q H') X.xe s
abbrev TIp := V → V → Hp → VK → Prop
def PIp (X : Cx) (op : Operator) (t : TIp) : Prop :=
  ∀ (pins : List (Addr × Obj)) (s : Shared) (σ : St) (H : Hp) (x y : V) (v u : Value) (Q : VK), Inv X pins σ H s → RelV x v → RelV y u → t x y H Q →
    wpAny (model X.prog X.w) X.A (inplaceOp op v u) (EP X pins σ Q) X.xe s
section
variable {X : Cx} {pos : Pos}
def gName (i : Nat) : TG := fun v σ H Q => Q (σ.set i (some v)) H
theorem pg_name {i : Nat} {x : Str} (hN : X.N.Nodup) (hi : X.N[i]? = some x) (hx : Loc X.env.scope x) (hf : X.fn x = true ∨ X.env.scope.names.lookup x = some .local := by first | exact .inl rfl | exact .inr rfl | assumption) : PG X (.Name x pos) (gName i) := by
  intro pins s σ H v u Q I r h
  exact wpAny_assign_Name (store_ok I hN hi hx r (fun s' I' => ⟨_, H, I', h⟩) hf)
def gNil : TGs := fun vs σ H Q => vs = [] ∧ Q σ H
def gCons (t : TG) (u : TGs) : TGs := fun vs σ H Q => ∃ v r, vs = v :: r ∧ t v σ H fun σ' H' => u r σ' H' Q
def gTup (K : PySem.W.Frag) (n : Nat) (t : TGs) : TG := fun v σ H Q => ∃ a xs, v = .ref a ∧ SqT K H a xs ∧ xs.length = n ∧ t xs σ H Q
def gSub (to ti : TE) (t : TSet) : TG := fun v σ H Q => to σ H fun o H1 => ti σ H1 fun i H2 => t o i v H2 fun H3 => Q σ H3
theorem pg_sub {o i : Expr} {to ti : TE} {t : TSet} (ho : PE X o to) (hi : PE X i ti) (hs : PSet X t)
    (ha : ∀ v, assign (.Subscript o i pos) X.env v = (do
      let ov ← holding [v] (eval o X.env)
      let iv ← holding [v, ov] (eval i X.env)
      standAt pos
      holding [v, ov, iv] (setItem ov iv v)
      release [v, ov, iv] []) := by intro _; rfl) : PG X (.Subscript o i pos) (gSub to ti t) := by
  intro pins s σ H v u Q I r h
  rw [ha]
  refine wpAny_bind (wpAny_holding (thn (ho pins s σ H _ I h) fun ov s1 ⟨x, H1, I1, r1, q1⟩ => ?_))
  refine wpAny_bind (wpAny_holding (thn (hi pins s1 σ H1 _ I1 q1) fun iv s2 ⟨y, H2, I2, r2, q2⟩ => ?_))
  refine wpAny_bind (wpAny_standAt (wpAny_bind (wpAny_holding (thn (hs pins s2 σ H2 x y v ov iv u _ I2 r1 r2 r q2) fun _ s3 ⟨H3, I3, q3⟩ => ?_))))
  exact wpAny_release ⟨σ, H3, I3, q3⟩
def tAsg (te : TE) (g : TG) : TS := fun D σ H => te σ H fun x H1 => g x σ H1 D.nx
theorem ps_asg {tg e : Expr} {te : TE} {g : TG} (he : PE X e te) (hg : PG X tg g) (hs : swapsWithSole [tg] e pos.line X.env = pure false := by rfl) (hw : swappedStores [tg] e X.env = pure none := by rfl)
    (h1 : (assignEach [tg] X.env).map (·.2) = [assign tg X.env] := by rfl) : PS X (.Assign [tg] e pos) (tAsg te g) := by
  intro pins s σ H D I h
  refine wpAny_Assign_stores (thn (he pins s σ H _ I h) fun v s1 ⟨x, H1, I1, r1, q1⟩ => ?_) hs hw
  rw [h1]
  exact thn (hg pins s1 σ H1 x v _ I1 r1 q1) fun _ s2 q => q
theorem ps_set {i : Nat} {x : Str} {e : Expr} {te : TE} {pos' : Pos} (hN : X.N.Nodup) (hi : X.N[i]? = some x) (hx : Loc X.env.scope x) (he : PE X e te) (hs : swapsWith e (some (.Name x pos')) pos.line X.env = pure false := by rfl) (hf : X.fn x = true ∨ X.env.scope.names.lookup x = some .local := by first | exact .inl rfl | exact .inr rfl | assumption) :
    PS X (.Assign [.Name x pos'] e pos) (tAsg te (gName i)) := by
  intro pins s σ H D I h
  refine wpAny_Assign_Name (thn (he pins s σ H _ I h) fun v s1 ⟨y, H1, I1, r1, q1⟩ => ?_) hs
  exact store_ok I1 hN hi hx r1 (fun s2 I2 => ⟨_, H1, I2, q1⟩) hf
def tPar (i j : Nat) (ta : TA) : TS := fun D σ H => ta σ H fun vs H1 => ∃ v w, vs = [v, w] ∧ D.nx ((σ.set i (some v)).set j (some w)) H1
def tAug (i : Nat) (te : TE) (ti : TIp) : TS := fun D σ H => ∃ x, σ[i]? = some (some x) ∧ te σ H fun y H1 => ti x y H1 fun z H2 => D.nx (σ.set i (some z)) H2
def tAugS (to ti te : TE) (tget : V → V → Hp → VK → Prop) (tip : TIp) (tset : TSet) : TS := fun D σ H => to σ H fun o H1 => ti σ H1 fun i H2 => tget o i H2 fun x H3 => te σ H3 fun y H4 => tip x y H4 fun z H5 => tset o i z H5 fun H6 => D.nx σ H6
def PGet (X : Cx) (t : V → V → Hp → VK → Prop) : Prop :=
  ∀ (pins : List (Addr × Obj)) (s : Shared) (σ : St) (H : Hp) (o i : V) (ov iv : Value) (Q : VK), Inv X pins σ H s → RelV o ov → RelV i iv → t o i H Q →
    wpAny (model X.prog X.w) X.A (getItem ov iv) (EP X pins σ Q) X.xe s
def ipI (f : Int → Int → Int) : TIp := fun x y H Q => ∃ i j, x = .int i ∧ y = .int j ∧ Q (.int (f i j)) H
end
section
variable {X : Cx} {pos : Pos}
def tWhile (c : TT) (tb : TS) : TS := fun D σ H => ∃ W : Nat → St → Hp → Prop, (∃ m, W m σ H) ∧ ∀ m σ H, W m σ H →
  c σ H fun b H1 => if b = true then ∃ N : St → Hp → Prop, (∀ σ' H', N σ' H' → ∃ m', m' < m ∧ W m' σ' H') ∧ tb { D with nx := N, ct := N, bk := D.nx } σ H1 else D.nx σ H1
theorem ps_while {c : Expr} {body : List Stmt} {tc : TT} {tb : TS} (hp : PassesOwn (model X.prog X.w) X.A X.env X.xe) (hc : PT X c tc) (hb : PSs X body tb) : PS X (.While c body [] pos) (tWhile tc tb) := by
  intro pins s σ H D I h
  obtain ⟨W, ⟨m0, w0⟩, turn⟩ := h
  refine wpAny_While (codeAny_whileLoop (fun n s' => ∃ σ' H', Inv X pins σ' H' s' ∧ W n σ' H') ?_ m0 ⟨σ, H, I, w0⟩)
  rintro n s1 ⟨σ1, H1, I1, w1⟩
  refine wpAny_passesOwn hp (thn (hc pins s1 σ1 H1 _ I1 (turn n σ1 H1 w1)) fun b s2 ⟨H2, I2, q2⟩ => ?_)
  cases b with
  | true =>
    obtain ⟨N, hN, q2⟩ := q2
    rw [if_pos rfl]
    refine wpAny_passesOwn hp (thn (hb pins s2 σ1 H2 _ I2 q2) fun f s3 q3 => ?_)
    cases f with
    | next =>
      obtain ⟨σ3, H3, I3, n3⟩ := q3
      obtain ⟨m', hm, w3⟩ := hN σ3 H3 n3
      exact ⟨m', hm, σ3, H3, I3, w3⟩
    | cont =>
      obtain ⟨σ3, H3, I3, n3⟩ := q3
      obtain ⟨m', hm, w3⟩ := hN σ3 H3 n3
      exact ⟨m', hm, σ3, H3, I3, w3⟩
    | brk => exact q3
    | ret v => exact q3
  | false =>
    rw [if_neg Bool.false_ne_true]
    exact wpAny_execs_nil ⟨σ1, H2, I2, q2⟩
end
structure It where
  go : Nat → Hp → Prop
  yld : Nat → Hp → V → Hp → Prop
  stop : Nat → Hp → Prop
def FpOk (X : Cx) (pins : List (Addr × Obj)) (H : Hp) (b : Addr) : Prop :=
  H b = none ∧ b ≠ X.env.locals ∧ b ∉ X.fs ∧ (b ∈ X.ex ∨ X.s₀.heap.objs.size ≤ b) ∧ (∀ x c, X.env.cells.lookup x = some c → c ≠ b) ∧ ∀ p ∈ X.pn ++ pins, p.1 ≠ b
theorem Inv.fpOk {X : Cx} {pins : List (Addr × Obj)} {σ : St} {H H' : Hp} {s : Shared} {b : Addr} (I : Inv X pins σ H s) (hb : s.heap.objs.size ≤ b) (hn : H' b = none) : FpOk X pins H' b := by
  refine ⟨hn, Nat.ne_of_gt (Nat.lt_of_lt_of_le I.lt hb), I.nofs hb, .inr (Nat.le_trans I.sz hb), fun x c e z => ?_, fun p hp z => ?_⟩
  · obtain ⟨v, q⟩ := I.cell x c e
    exact absurd (Nat.lt_of_lt_of_le q.lt (by rw [z]; exact hb)) (Nat.lt_irrefl _)
  · exact absurd (Nat.lt_of_lt_of_le (Heap.lt_size (I.pin p hp).1) (by rw [z]; exact hb)) (Nat.lt_irrefl _)
structure Turn (P : Program) (w : World) (K : PySem.W.Frag) (tg : Expr) (J : It) (fp : List Addr) (it : Addr) (tn : Nat → Heap → Prop) : Prop where
  mem : it ∈ fp
  obj : ∀ i h, tn i h → ∀ b ∈ fp, ∃ o, h.get? b = some o ∧ ∀ v, o.data ≠ .cell v
  keep : ∀ i h h', tn i h → (∀ b ∈ fp, ∀ o, h.get? b = some o → h'.get? b = some o) → tn i h'
  item : ∀ (X : Cx), X.prog = P → X.w = w → X.K = K → X.calm = true → ∀ (i : Nat) (pins : List (Addr × Obj)) (s : Shared) (σ : St) (H : Hp) (E : Value → Shared → Prop), Inv X pins σ H s → (∀ b ∈ fp, FpOk X pins H b) → tn i s.heap → J.go i H →
    wpAny (model P w) X.A (pyNext (.ref it)) (fun r s1 => ∃ u, r = some u ∧
      wpAny (model P w) X.A (letOwnedTupleGo tg (.ref it) u) (fun _ s2 => ∃ x H', Inv X pins σ H' s2 ∧ RelV x u ∧ J.yld i H x H' ∧ tn (i + 1) s2.heap ∧ ∀ b ∈ fp, H' b = none) E s1) E s
  done : ∀ (X : Cx), X.prog = P → X.w = w → X.K = K → X.calm = true → ∀ (i : Nat) (pins : List (Addr × Obj)) (s : Shared) (σ : St) (H : Hp) (E : Value → Shared → Prop), Inv X pins σ H s → (∀ b ∈ fp, FpOk X pins H b) → tn i s.heap → J.stop i H →
    wpAny (model P w) X.A (pyNext (.ref it)) (fun r s1 => r = none ∧ Inv X pins σ H s1) E s
  self : ∀ (A : Around) (i : Nat) (s : Shared) (Q : Value → Shared → Prop) (E : Value → Shared → Prop), tn i s.heap → Q (.ref it) s → wpAny (model P w) A (pyIter (.ref it)) Q E s
abbrev TI := St → Hp → (It → Hp → Prop) → Prop
def PIE (X : Cx) (pins : List (Addr × Obj)) (σ : St) (tg : Expr) (R : It → Hp → Prop) (itv : Value) (s2 : Shared) : Prop :=
  ∃ (it : Addr) (fp : List Addr) (tn : Nat → Heap → Prop) (J : It) (H' : Hp), itv = .ref it ∧ Inv X pins σ H' s2 ∧ Turn X.prog X.w X.K tg J fp it tn ∧ tn 0 s2.heap ∧ (∀ b ∈ fp, FpOk X pins H' b) ∧ R J H'
def PI (X : Cx) (tg iter : Expr) (wi : TI) : Prop :=
  ∀ (pins : List (Addr × Obj)) (s : Shared) (σ : St) (H : Hp) (R : It → Hp → Prop), Inv X pins σ H s → wi σ H R →
    wpAny (model X.prog X.w) X.A (eval iter X.env) (fun v s1 => wpAny (model X.prog X.w) X.A (pyIter v) (PIE X pins σ tg R) X.xe s1) X.xe s
theorem go_of {M : Model} {A : Around} {E : Value → Shared → Prop} {s : Shared} {tg : Expr} {it : Addr} {u : Value} {o : Obj} {n : String} {vs : Array Value} {Q : Unit → Shared → Prop} (ho : s.heap.get? it = some o) (hc : o.cls = .type n) (hd : o.data = .fields vs)
    (hn : ["enumerate", "zip", "dict_itemiterator", "dict_reverseitemiterator", "odict_iterator", "itertools.zip_longest", "itertools.pairwise"].contains n = false) (hQ : Q () s) : wpAny M A (letOwnedTupleGo tg (.ref it) u) Q E s := by
  unfold letOwnedTupleGo
  cases tg <;> first
    | exact wpAny_pure hQ
    | (cases u <;> first
        | exact wpAny_pure hQ
        | (refine wpAny_bind (wpAny_load ho ?_)
           rw [hc, hd]
           show wpAny M A (if (["enumerate", "zip", "dict_itemiterator", "dict_reverseitemiterator", "odict_iterator", "itertools.zip_longest", "itertools.pairwise"].contains n && vs[0]? == some (rawInt _)) = true then _ else _) Q E s
           rw [if_neg (by intro h; rw [hn, Bool.false_and] at h; cases h)]
           exact wpAny_pure hQ))
def Itl (K : PySem.W.Frag) (a : Addr) : It :=
  ⟨fun i H => ∃ xs x, SqL K H a xs ∧ xs[i]? = some x, fun i H x H' => H' = H ∧ ∀ xs, SqL K H a xs → xs[i]? = some x, fun i H => ∃ xs, SqL K H a xs ∧ xs.length ≤ i⟩
def Itt (K : PySem.W.Frag) (a : Addr) : It :=
  ⟨fun i H => ∃ xs x, SqT K H a xs ∧ xs[i]? = some x, fun i H x H' => H' = H ∧ ∀ xs, SqT K H a xs → xs[i]? = some x, fun i H => ∃ xs, SqT K H a xs ∧ xs.length ≤ i⟩
def Itr (lo : Int) (n : Nat) : It := ⟨fun i _ => i < n, fun i H x H' => H' = H ∧ x = .int (lo + i), fun i _ => n ≤ i⟩
theorem turn_list {P : Program} {w : World} {K : PySem.W.Frag} {tg : Expr} (a it : Addr) : Turn P w K tg (Itl K a) [it] it (fun i h => h.IsListIter it a i) where
  mem := by simp
  obj := fun i h st b hb => by
    have e : b = it := by simpa using hb
    subst e
    obtain ⟨o, e, c, d⟩ := st
    exact ⟨o, e, fun v z => by rw [d] at z; cases z⟩
  keep := fun i h h' st k => st.at fun o e => k it (by simp) o e
  item := by
    intro X hP hw hK hc i pins s σ H E I hf st hg
    subst hP hw hK
    obtain ⟨xs, x, hq, hx⟩ := hg
    obtain ⟨its, rv, p, hz⟩ := I.list hq
    obtain ⟨u, hu, ru⟩ := rv.get hx
    obtain ⟨f0, f1, f2, f3, f4, f5⟩ := hf it (by simp)
    refine wpAny_pyNext_list_item st p.isList (x := u) (by simpa using hu) fun h' st' sb => ?_
    have I1 : Inv X pins σ H { s with heap := h' } := I.turned (t' := s.toks) (fun b o hb e => (sb.2 b hb).trans e) f0 f1 f3 f4 f5
    obtain ⟨o, e, c, d⟩ := id st'
    exact ⟨u, rfl, go_of (s := { s with heap := h' }) e c d (by decide) ⟨x, H, I1, ru, ⟨rfl, fun ys hy => by rw [I.list_inj hy hq]; exact hx⟩, st', fun b hb => (hf b hb).1⟩⟩
  done := by
    intro X hP hw hK hc i pins s σ H E I hf st hg
    subst hP hw hK
    obtain ⟨xs, hq, hx⟩ := hg
    obtain ⟨its, rv, p, hz⟩ := I.list hq
    obtain ⟨f0, f1, f2, f3, f4, f5⟩ := hf it (by simp)
    have hl := rv.length
    exact wpAny_pyNext_list_end (I.ok.hd hc) st p.isList (by simp; omega) fun h' eb => ⟨rfl, I.turned (t' := s.toks) (fun b o hb e => eb b o hb e) f0 f1 f3 f4 f5⟩
  self := fun _ _ _ _ _ st h => wpAny_pyIter_listiter st h
theorem turn_range {P : Program} {w : World} {K : PySem.W.Frag} {tg : Expr} (it : Addr) (lo : Int) (n : Nat) : Turn P w K tg (Itr lo n) [it] it (fun i h => IsRangeIter h it (lo + (i : Nat) * 1) ((n : Int) - (i : Nat)) 1) where
  mem := by simp
  obj := fun i h st b hb => by
    have e : b = it := by simpa using hb
    subst e
    exact ⟨_, st, fun v z => by
      have z' : Data.fields _ = Data.cell v := z
      cases z'⟩
  keep := fun i h h' st k => k it (by simp) _ st
  item := by
    intro X hP hw hK hc i pins s σ H E I hf st hg
    subst hP hw hK
    obtain ⟨f0, f1, f2, f3, f4, f5⟩ := hf it (by simp)
    have W := Walks.range (prog := X.prog) (w := X.w) (I.ok.hd hc) it lo 1 n
    refine W.item i s _ _ hg st fun v h' tk hv st' kk => ?_
    obtain ⟨t, rfl⟩ := hv
    have I1 : Inv X pins σ H { s with heap := h', toks := tk } := I.turned (fun b o hb e => kk b o (by simpa using hb) e) f0 f1 f3 f4 f5
    refine ⟨_, rfl, go_of (s := { s with heap := h', toks := tk }) (n := "range_iterator") st' rfl rfl (by decide) ⟨.int (lo + i), H, I1, ⟨t, ?_⟩, ⟨rfl, rfl⟩, st', fun b hb => (hf b hb).1⟩⟩
    rw [Int.mul_one]
  done := by
    intro X hP hw hK hc i pins s σ H E I hf st hg
    subst hP hw hK
    obtain ⟨f0, f1, f2, f3, f4, f5⟩ := hf it (by simp)
    exact wpAny_pyNext_range_end (I.ok.hd hc) st (by have : n ≤ i := hg; omega) fun h' eb => ⟨rfl, I.turned (t' := s.toks) (fun b o hb e => eb b o hb e) f0 f1 f3 f4 f5⟩
  self := fun _ _ _ _ _ st h => wpAny_pyIter_rangeiter st h
end L2
namespace L2
open PySem PySem.Spec PyProof.Rows
section
variable {X : Cx} {tg : Expr}
def iList (K : PySem.W.Frag) (tl : TE) : TI := fun σ H R => tl σ H fun x H1 => ∃ a, x = .ref a ∧ (∃ xs, SqL K H1 a xs) ∧ R (Itl K a) H1
def iTup (K : PySem.W.Frag) (tl : TE) : TI := fun σ H R => tl σ H fun x H1 => ∃ a, x = .ref a ∧ (∃ xs, SqT K H1 a xs) ∧ R (Itt K a) H1
theorem pi_list {l : Expr} {tl : TE} (hl : PE X l tl) : PI X tg l (iList X.K tl) := by
  intro pins s σ H R I h
  refine thn (hl pins s σ H _ I h) fun v s1 ⟨x, H1, I1, r1, q1⟩ => ?_
  obtain ⟨a, e, ⟨xs, hq⟩, q⟩ := q1
  subst e
  cases r1
  obtain ⟨its, rv, p, hz⟩ := I1.list hq
  refine wpAny_pyIter_list p.isList ?_
  refine ⟨s1.heap.objs.size, [s1.heap.objs.size], _, _, H1, rfl, I1.kept (t' := s1.toks) fun b o e => Heap.get?_push_of_some _ e, turn_list a _, ⟨_, Heap.get?_push_size _ rfl, rfl, rfl⟩, fun b hb => ?_, q⟩
  have e : b = s1.heap.objs.size := by simpa using hb
  subst e
  exact I1.fpOk (Nat.le_refl _) (I1.hok.fresh (Nat.le_refl _))
theorem range_it {pins : List (Addr × Obj)} {σ : St} {H : Hp} {s : Shared} {R : It → Hp → Prop} {E : Value → Shared → Prop} {lo hi : Int} {t u v : Tok} {tk : Nat} (I : Inv X pins σ H s) (h1 : -(2 ^ 62) ≤ lo) (h2 : lo < 2 ^ 62) (h3 : -(2 ^ 62) ≤ hi) (h4 : hi < 2 ^ 62)
    (q : R (Itr lo (hi - lo).toNat) H) : wpAny (model X.prog X.w) X.A (pyIter (.ref s.heap.objs.size)) (PIE X pins σ tg R) E { s with heap := s.heap.push { cls := .type "range", data := .fields #[.int lo t, .int hi u, .int 1 v] }, toks := tk } := by
  refine wpAny_pyIter_range (IsRange.new ..) (small_one h1 h2 h3 h4) ?_
  have I1 : Inv X pins σ H { s with heap := s.heap.push { cls := .type "range", data := .fields #[.int lo t, .int hi u, .int 1 v] }, toks := tk } := I.kept fun b o e => Heap.get?_push_of_some _ e
  refine ⟨(s.heap.push { cls := .type "range", data := .fields #[.int lo t, .int hi u, .int 1 v] }).objs.size, [(s.heap.push { cls := .type "range", data := .fields #[.int lo t, .int hi u, .int 1 v] }).objs.size], _, _, H, rfl,
    I1.kept (t' := tk) fun b o e => Heap.get?_push_of_some _ e, turn_range _ lo (hi - lo).toNat, ?_, fun b hb => ?_, q⟩
  · have e1 : lo + ((0 : Nat) : Int) * 1 = lo := by simp
    have e2 : (((hi - lo).toNat : Nat) : Int) - ((0 : Nat) : Int) = Builtin.Range.rangeSize lo hi 1 := by rw [rangeSize_one]; split <;> omega
    show IsRangeIter _ _ (lo + ((0 : Nat) : Int) * 1) ((((hi - lo).toNat : Nat) : Int) - ((0 : Nat) : Int)) 1
    rw [e1, e2]
    exact Heap.get?_push_size _ rfl
  · have e : b = (s.heap.push { cls := .type "range", data := .fields #[.int lo t, .int hi u, .int 1 v] }).objs.size := by simpa using hb
    subst e
    exact I1.fpOk (Nat.le_refl _) (I1.hok.fresh (Nat.le_refl _))
def iRng1 (ta : TA) : TI := fun σ H R => ta σ H fun vs H1 => ∃ j : Int, vs = [.int j] ∧ -(2 ^ 62) ≤ j ∧ j < 2 ^ 62 ∧ R (Itr 0 j.toNat) H1
def iRng2 (ta : TA) : TI := fun σ H R => ta σ H fun vs H1 => ∃ i j : Int, vs = [.int i, .int j] ∧ (-(2 ^ 62) ≤ i ∧ i < 2 ^ 62 ∧ -(2 ^ 62) ≤ j ∧ j < 2 ^ 62) ∧ R (Itr i (j - i).toNat) H1
theorem pi_range1 {a : Expr} {ta : TA} {p pos : Pos} (hg : Gl X "range") (hm : X.mg "range" = none) (ha : PA X [a] ta) (hs : starEach [a] X.env = [(false, eval a X.env)] := by rfl) : PI X tg (.Call (.Name "range" p) [a] [] pos) (iRng1 ta) := by
  intro pins s σ H R I h
  refine Call_ (ld_blt I hg hm boot_range (PyProof.Rows.callWith_type1 (thn (ha pos pins s σ H _ I h) fun us s1 ⟨vs, H1, I1, r1, q1⟩ => ?_) hs rfl))
  obtain ⟨j, e, q1, q2, q⟩ := q1
  subst e
  cases r1 with
  | cons r rr =>
    cases rr
    obtain ⟨t, rfl⟩ := r
    exact call_range_1 (range_it I1 (by omega) (by omega) q1 q2 (by simpa using q))
def tFor (wi : TI) (g : TG) (tb : TS) : TS := fun D σ H => wi σ H fun J H1 => ∃ W : Nat → Nat → St → Hp → Prop, (∃ m, W 0 m σ H1) ∧ ∀ i m σ H, W i m σ H →
  (J.stop i H ∧ D.nx σ H) ∨ (J.go i H ∧ ∃ N : St → Hp → Prop, (∀ σ' H', N σ' H' → ∃ m', m' < m ∧ W (i + 1) m' σ' H') ∧ ∀ x H', J.yld i H x H' → g x σ H' fun σ2 H2 => tb { D with nx := N, ct := N, bk := D.nx } σ2 H2)
def pinsAt (fp : List Addr) (h : Heap) : List (Addr × Obj) := fp.filterMap fun b => (h.get? b).map fun o => (b, o)
theorem mem_pinsAt {fp : List Addr} {h : Heap} {b : Addr} {o : Obj} (hb : b ∈ fp) (e : h.get? b = some o) : (b, o) ∈ pinsAt fp h := List.mem_filterMap.mpr ⟨b, hb, by rw [e]; rfl⟩
theorem of_pinsAt {fp : List Addr} {h : Heap} {p : Addr × Obj} (hp : p ∈ pinsAt fp h) : p.1 ∈ fp ∧ h.get? p.1 = some p.2 := by
  obtain ⟨b, hb, e⟩ := List.mem_filterMap.mp hp
  cases q : h.get? b with
  | none => rw [q] at e; cases e
  | some o =>
    rw [q] at e
    have e' : (b, o) = p := Option.some.inj e
    subst e'
    exact ⟨hb, q⟩
theorem Inv.pinned {pins : List (Addr × Obj)} {σ : St} {H : Hp} {s : Shared} {fp : List Addr} (I : Inv X pins σ H s) (hf : ∀ b ∈ fp, FpOk X pins H b) (ho : ∀ b ∈ fp, ∃ o, s.heap.get? b = some o ∧ ∀ v, o.data ≠ .cell v) : Inv X (pins ++ pinsAt fp s.heap) σ H s :=
  I.pins_of fun p hp => (List.mem_append.mp hp).elim (fun z => I.pin p (List.mem_append_right _ z)) fun z => by
    obtain ⟨hb, e⟩ := of_pinsAt z
    obtain ⟨f0, f1, f2, _⟩ := hf p.1 hb
    obtain ⟨o, e', d⟩ := ho p.1 hb
    rw [e] at e'; cases e'
    exact ⟨e, f0, f1, f2, d⟩
theorem Inv.unpinned {pins pl : List (Addr × Obj)} {σ : St} {H : Hp} {s : Shared} (I : Inv X (pins ++ pl) σ H s) : Inv X pins σ H s := I.pins_of fun p hp => I.pin p (List.mem_append_right _ (List.mem_append_left _ hp))
theorem ps_for {iter : Expr} {body : List Stmt} {wi : TI} {g : TG} {tb : TS} {pos : Pos} (hp : PassesOwn (model X.prog X.w) X.A X.env X.xe) (hc : X.calm = true) (hi : PI X tg iter wi) (hg : PG X tg g) (hb : PSs X body tb)
    (hs : ∀ x, foldedSetIterable iter X.env x = pure x := by intro _; rfl) : PS X (.For tg iter body [] pos) (tFor wi g tb) := by
  intro pins s σ H D I h
  refine wpAny_For (thn (hi pins s σ H _ I h) fun v s1 h1 => thn h1 fun itv s2 h2 => ?_) hs
  obtain ⟨it, fp, tn, J, H2, e, I2, T, st2, f2, W, ⟨m0, w0⟩, turn⟩ := h2
  subst e
  have stat : ∀ {H' : Hp}, (∀ b ∈ fp, H' b = none) → ∀ b ∈ fp, FpOk X pins H' b := fun hn b hb => ⟨hn b hb, (f2 b hb).2⟩
  refine codeAny_forLoop_any (fun n s' => ∃ i σ' H', Inv X pins σ' H' s' ∧ tn i s'.heap ∧ (∀ b ∈ fp, H' b = none) ∧ W i n σ' H') ?_ m0 ⟨0, σ, H2, I2, st2, fun b hb => (f2 b hb).1, w0⟩
  rintro n s3 ⟨i, σ3, H3, I3, st3, fr3, w3⟩
  rcases turn i n σ3 H3 w3 with ⟨stop, qn⟩ | ⟨go, N, hN, step⟩
  · refine wpAny_passesOwn hp (thn (T.done X rfl rfl rfl hc i pins s3 σ3 H3 X.xe I3 (stat fr3) st3 stop) fun r s4 ⟨hr, I4⟩ => ?_)
    subst hr
    exact wpAny_execs_nil ⟨σ3, H3, I4, qn⟩
  · refine wpAny_passesOwn hp (thn (T.item X rfl rfl rfl hc i pins s3 σ3 H3 X.xe I3 (stat fr3) st3 go) fun r s4 ⟨u, hr, h4⟩ => ?_)
    subst hr
    refine wpAny_passesOwn hp (thn h4 fun _ s5 ⟨x, H5, I5, r5, y5, st5, fr5⟩ => ?_)
    have I5' := I5.pinned (stat fr5) (T.obj _ _ st5)
    refine wpAny_passesOwn hp (thn (hg _ s5 σ3 H5 x u _ I5' r5 (step x H5 y5)) fun _ s6 ⟨σ6, H6, I6, q6⟩ => ?_)
    refine wpAny_passesOwn hp (thn (hb _ s6 σ6 H6 _ I6 q6) fun f s7 q7 => ?_)
    have again : ∀ {σ7 : St} {H7 : Hp}, Inv X (pins ++ pinsAt fp s5.heap) σ7 H7 s7 → N σ7 H7 → ∃ m, m < n ∧ ∃ i σ' H', Inv X pins σ' H' s7 ∧ tn i s7.heap ∧ (∀ b ∈ fp, H' b = none) ∧ W i m σ' H' := fun {σ7 H7} I7 n7 => by
      obtain ⟨m', hm, w7⟩ := hN σ7 H7 n7
      refine ⟨m', hm, i + 1, σ7, H7, I7.unpinned, T.keep _ _ _ st5 fun b hb o e => (I7.pin (b, o) (List.mem_append_right _ (List.mem_append_right _ (mem_pinsAt hb e)))).1, fun b hb => ?_, w7⟩
      obtain ⟨o, e, d⟩ := T.obj _ _ st5 b hb
      exact (I7.pin (b, o) (List.mem_append_right _ (List.mem_append_right _ (mem_pinsAt hb e)))).2.1
    cases f with
    | next => obtain ⟨σ7, H7, I7, n7⟩ := q7; exact again I7 n7
    | cont => obtain ⟨σ7, H7, I7, n7⟩ := q7; exact again I7 n7
    | brk => obtain ⟨σ7, H7, I7, q7⟩ := q7; exact ⟨σ7, H7, I7.unpinned, q7⟩
    | ret v => obtain ⟨x7, σ7, H7, I7, r7, q7⟩ := q7; exact ⟨x7, σ7, H7, I7.unpinned, r7, q7⟩
end
theorem for_list {K : PySem.W.Frag} {a : Addr} {xs : List V} {g : TG} {tb : TS} {D : Ends} {σ : St} {H : Hp} (Pv : Nat → St → Hp → Prop) (h0 : Pv 0 σ H) (hl : ∀ i σ H, i ≤ xs.length → Pv i σ H → SqL K H a xs)
    (hs : ∀ i x σ H, xs[i]? = some x → Pv i σ H → g x σ H fun σ2 H2 => tb { D with nx := Pv (i + 1), ct := Pv (i + 1), bk := D.nx } σ2 H2) (hd : ∀ σ H, Pv xs.length σ H → D.nx σ H) :
    ∃ W : Nat → Nat → St → Hp → Prop, (∃ m, W 0 m σ H) ∧ ∀ i m σ H, W i m σ H →
      ((Itl K a).stop i H ∧ D.nx σ H) ∨ ((Itl K a).go i H ∧ ∃ N : St → Hp → Prop, (∀ σ' H', N σ' H' → ∃ m', m' < m ∧ W (i + 1) m' σ' H') ∧ ∀ x H', (Itl K a).yld i H x H' → g x σ H' fun σ2 H2 => tb { D with nx := N, ct := N, bk := D.nx } σ2 H2) := by
  refine ⟨fun i m σ H => m = xs.length - i ∧ i ≤ xs.length ∧ Pv i σ H, ⟨xs.length, by simp, Nat.zero_le _, h0⟩, ?_⟩
  rintro i m σ H ⟨rfl, hi, p⟩
  have q := hl i σ H hi p
  by_cases hlt : i < xs.length
  · refine .inr ⟨⟨xs, xs[i], q, by simp [hlt]⟩, Pv (i + 1), fun σ' H' p' => ⟨xs.length - (i + 1), by omega, rfl, hlt, p'⟩, fun x H' y => ?_⟩
    obtain ⟨e, y⟩ := y
    subst e
    exact hs i x σ _ (y xs q) p
  · have e : i = xs.length := by omega
    subst e
    exact .inl ⟨⟨xs, q, Nat.le_refl _⟩, hd σ H p⟩
theorem for_range {lo : Int} {n : Nat} {g : TG} {tb : TS} {D : Ends} {σ : St} {H : Hp} (Pv : Nat → St → Hp → Prop) (h0 : Pv 0 σ H)
    (hs : ∀ i σ H, i < n → Pv i σ H → g (.int (lo + i)) σ H fun σ2 H2 => tb { D with nx := Pv (i + 1), ct := Pv (i + 1), bk := D.nx } σ2 H2) (hd : ∀ σ H, Pv n σ H → D.nx σ H) :
    ∃ W : Nat → Nat → St → Hp → Prop, (∃ m, W 0 m σ H) ∧ ∀ i m σ H, W i m σ H →
      ((Itr lo n).stop i H ∧ D.nx σ H) ∨ ((Itr lo n).go i H ∧ ∃ N : St → Hp → Prop, (∀ σ' H', N σ' H' → ∃ m', m' < m ∧ W (i + 1) m' σ' H') ∧ ∀ x H', (Itr lo n).yld i H x H' → g x σ H' fun σ2 H2 => tb { D with nx := N, ct := N, bk := D.nx } σ2 H2) := by
  refine ⟨fun i m σ H => m = n - i ∧ i ≤ n ∧ Pv i σ H, ⟨n, by simp, Nat.zero_le _, h0⟩, ?_⟩
  rintro i m σ H ⟨rfl, hi, p⟩
  by_cases hlt : i < n
  · refine .inr ⟨hlt, Pv (i + 1), fun σ' H' p' => ⟨n - (i + 1), by omega, rfl, hlt, p'⟩, fun x H' y => ?_⟩
    obtain ⟨e, y⟩ := y
    subst e y
    exact hs i σ _ hlt p
  · have e : i = n := by omega
    subst e
    exact .inl ⟨Nat.le_refl _, hd σ H p⟩
theorem while_by {c : TT} {tb : TS} {D : Ends} {σ : St} {H : Hp} (Pv : St → Hp → Prop) (μ : St → Hp → Nat) (h0 : Pv σ H)
    (hs : ∀ σ H, Pv σ H → c σ H fun b H1 => if b = true then tb { D with nx := fun σ' H' => Pv σ' H' ∧ μ σ' H' < μ σ H, ct := fun σ' H' => Pv σ' H' ∧ μ σ' H' < μ σ H, bk := D.nx } σ H1 else D.nx σ H1)
    (mono : ∀ σ H Q Q', (∀ b H1, Q b H1 → Q' b H1) → c σ H Q → c σ H Q') : tWhile c tb D σ H := by
  refine ⟨fun m σ H => m = μ σ H ∧ Pv σ H, ⟨_, rfl, h0⟩, ?_⟩
  rintro m σ H ⟨rfl, p⟩
  refine mono σ H _ _ (fun b H1 q => ?_) (hs σ H p)
  cases b with
  | true => exact ⟨_, fun σ' H' ⟨p', l⟩ => ⟨_, l, rfl, p'⟩, q⟩
  | false => exact q
end L2
namespace L2
open PySem PySem.Spec PyProof.Rows
abbrev R2 := V → V → Hp → VK → Prop
def OpR (X : Cx) (f : Value → Value → Sem Value) (r : R2) : Prop :=
  ∀ (pins : List (Addr × Obj)) (s : Shared) (σ : St) (H : Hp) (x y : V) (v u : Value) (Q : VK), Inv X pins σ H s → RelV x v → RelV y u → r x y H Q →
    wpAny (model X.prog X.w) X.A (f v u) (EP X pins σ Q) X.xe s
def UnR (X : Cx) (f : Value → Sem Value) (r : V → Hp → VK → Prop) : Prop :=
  ∀ (pins : List (Addr × Obj)) (s : Shared) (σ : St) (H : Hp) (x : V) (v : Value) (Q : VK), Inv X pins σ H s → RelV x v → r x H Q →
    wpAny (model X.prog X.w) X.A (f v) (EP X pins σ Q) X.xe s
def CallR (X : Cx) (f : Value) (r : List V → Hp → VK → Prop) : Prop :=
  ∀ (pins : List (Addr × Obj)) (s : Shared) (σ : St) (H : Hp) (xs : List V) (us : List Value) (Q : VK), Inv X pins σ H s → Vals xs us → r xs H Q →
    wpAny (model X.prog X.w) X.A (call f us) (EP X pins σ Q) X.xe s
def TruR (X : Cx) (r : V → Hp → (Bool → Hp → Prop) → Prop) : Prop :=
  ∀ (pins : List (Addr × Obj)) (s : Shared) (σ : St) (H : Hp) (x : V) (v : Value) (Q : Bool → Hp → Prop), Inv X pins σ H s → RelV x v → r x H Q →
    wpAny (model X.prog X.w) X.A (truthy v) (TP X pins σ Q) X.xe s
def tOp (r : R2) (ta tb : TE) : TE := fun σ H Q => ta σ H fun x H1 => tb σ H1 fun y H2 => r x y H2 Q
def tUn (r : V → Hp → VK → Prop) (ta : TE) : TE := fun σ H Q => ta σ H fun x H1 => r x H1 Q
def rI (C : Int → Int → Prop) (g : Int → Int → V) : R2 := fun x y H Q => ∃ i j, x = .int i ∧ y = .int j ∧ C i j ∧ Q (g i j) H
def rI0 (g : Int → Int → V) : R2 := fun x y H Q => ∃ i j, x = .int i ∧ y = .int j ∧ Q (g i j) H
def rU (g : Int → V) : V → Hp → VK → Prop := fun x H Q => ∃ i, x = .int i ∧ Q (g i) H
section
variable {X : Cx} {a b c : Expr} {ta tb tc : TE} {pos : Pos}
theorem binT (ha : PE X a ta) (hb : PE X b tb) {pins : List (Addr × Obj)} {s : Shared} {σ : St} {H : Hp} {R : V → V → Hp → Prop} (I : Inv X pins σ H s)
    (h : ta σ H fun x H1 => tb σ H1 fun y H2 => R x y H2) {Q : Value → Shared → Prop} {f : Value → Value → Sem Value}
    (hf : ∀ v u s2 x y H2, Inv X pins σ H2 s2 → RelV x v → RelV y u → R x y H2 → wpAny (model X.prog X.w) X.A (f v u) Q X.xe s2) :
    wpAny (model X.prog X.w) X.A (eval a X.env) (fun v s₁ => wpAny (model X.prog X.w) X.A (eval b X.env) (fun u s₂ => wpAny (model X.prog X.w) X.A (f v u) Q X.xe s₂) X.xe s₁) X.xe s := by
  refine thn (ha pins s σ H _ I h) fun v s1 ⟨x, H1, I1, r1, q1⟩ => ?_
  refine thn (hb pins s1 σ H1 _ I1 q1) fun u s2 ⟨y, H2, I2, r2, q2⟩ => ?_
  exact hf v u s2 x y H2 I2 r1 r2 q2
theorem pe_op {op : Operator} {r : R2} (ho : OpR X (binaryOp op) r) (ha : PE X a ta) (hb : PE X b tb) : PE X (.BinOp a op b pos) (tOp r ta tb) := by
  intro pins s σ H Q I h
  exact wpAny_BinOp (binT ha hb I h fun v u s2 x y H2 I2 rx ry q => ho pins s2 σ H2 x y v u Q I2 rx ry q)
theorem pe_un {op : UnaryOp} {r : V → Hp → VK → Prop} (ho : UnR X (unaryOp op) r) (ha : PE X a ta) : PE X (.UnaryOp op a pos) (tUn r ta) := by
  intro pins s σ H Q I h
  exact UnaryOp_ (thn (ha pins s σ H _ I h) fun v s1 ⟨x, H1, I1, r1, q1⟩ => ho pins s1 σ H1 x v Q I1 r1 q1)
theorem opI {f : Value → Value → Sem Value} {C : Int → Int → Prop} {g : Int → Int → Int}
    (rule : ∀ (i j : Int) (t u : Tok) (s : Shared) (Q : Value → Shared → Prop) (E : Value → Shared → Prop), C i j → Q (.int (g i j) s.toks) { s with toks := s.toks + 1 } → wpAny (model X.prog X.w) X.A (f (.int i t) (.int j u)) Q E s) :
    OpR X f (rI C fun i j => .int (g i j)) := by
  intro pins s σ H x y v u Q I rx ry h
  obtain ⟨i, j, rfl, rfl, hc, q⟩ := h
  obtain ⟨t, rfl⟩ := rx
  obtain ⟨t', rfl⟩ := ry
  exact rule i j t t' s _ _ hc ⟨.int (g i j), H, I.tok _, ⟨_, rfl⟩, q⟩
theorem opI0 {f : Value → Value → Sem Value} {g : Int → Int → Int}
    (rule : ∀ (i j : Int) (t u : Tok) (s : Shared) (Q : Value → Shared → Prop) (E : Value → Shared → Prop), Q (.int (g i j) s.toks) { s with toks := s.toks + 1 } → wpAny (model X.prog X.w) X.A (f (.int i t) (.int j u)) Q E s) :
    OpR X f (rI0 fun i j => .int (g i j)) := by
  intro pins s σ H x y v u Q I rx ry h
  obtain ⟨i, j, rfl, rfl, q⟩ := h
  obtain ⟨t, rfl⟩ := rx
  obtain ⟨t', rfl⟩ := ry
  exact rule i j t t' s _ _ ⟨.int (g i j), H, I.tok _, ⟨_, rfl⟩, q⟩
theorem opB0 {f : Value → Value → Sem Value} {g : Int → Int → Bool}
    (rule : ∀ (i j : Int) (t u : Tok) (s : Shared) (Q : Value → Shared → Prop) (E : Value → Shared → Prop), Q (.bool (g i j)) s → wpAny (model X.prog X.w) X.A (f (.int i t) (.int j u)) Q E s) :
    OpR X f (rI0 fun i j => .bl (g i j)) := by
  intro pins s σ H x y v u Q I rx ry h
  obtain ⟨i, j, rfl, rfl, q⟩ := h
  obtain ⟨t, rfl⟩ := rx
  obtain ⟨t', rfl⟩ := ry
  exact rule i j t t' s _ _ ⟨.bl (g i j), H, I, rfl, q⟩
def CDiv (i j : Int) : Prop := 0 < j ∧ j < 1073741824
def CDivN (i j : Int) : Prop := j ≠ 0 ∧ j.natAbs < 1073741824
def CPow (i j : Int) : Prop := 0 ≤ j ∧ j ≤ 1000000 ∧ i.natAbs < 2 ^ 64
def CMul (i j : Int) : Prop := (-(2 ^ 64) < i ∧ i < 2 ^ 64) ∨ (-(2 ^ 64) < j ∧ j < 2 ^ 64)
theorem op_add : OpR X (binaryOp .Add) (rI0 fun i j => .int (i + j)) := opI0 fun _ _ _ _ _ _ _ q => add_int q
theorem op_sub : OpR X (binaryOp .Sub) (rI0 fun i j => .int (i - j)) := opI0 fun _ _ _ _ _ _ _ q => sub_int q
theorem op_mod : OpR X (binaryOp .Mod) (rI (fun _ j => 0 < j) fun i j => .int (i % j)) := opI fun i j _ _ _ _ _ hc q => by
  have h1 : (0 : Int) < j := hc
  exact mod_int' (by omega) (by rw [Int.fmod_eq_emod_of_nonneg i (by omega)]; exact q)
theorem op_pow : OpR X (binaryOp .Pow) (rI CPow fun i j => .int (i ^ j.toNat)) := opI fun _ _ _ _ _ _ _ hc q => pow_int_small hc.1 hc.2.1 hc.2.2 q
theorem unI {f : Value → Sem Value} {g : Int → Int}
    (rule : ∀ (i : Int) (t : Tok) (s : Shared) (Q : Value → Shared → Prop) (E : Value → Shared → Prop), Q (.int (g i) s.toks) { s with toks := s.toks + 1 } → wpAny (model X.prog X.w) X.A (f (.int i t)) Q E s) :
    UnR X f (rU fun i => .int (g i)) := by
  intro pins s σ H x v Q I rx h
  obtain ⟨i, rfl, q⟩ := h
  obtain ⟨t, rfl⟩ := rx
  exact rule i t s _ _ ⟨.int (g i), H, I.tok _, ⟨_, rfl⟩, q⟩
theorem un_neg : UnR X (unaryOp .USub) (rU fun i => .int (-i)) := unI fun _ _ _ _ _ q => neg_int q
end
def scal : V → V → Bool
  | .non, .non => true | .non, .int _ => true | .int _, .non => true | .non, .bl _ => true | .bl _, .non => true | .non, .str _ => true | .str _, .non => true
  | .int _, .int _ => true | .bl _, .bl _ => true | .str _, .str _ => true | .byt _, .byt _ => true
  | .int _, .str _ => true | .str _, .int _ => true | .bl _, .str _ => true | .str _, .bl _ => true
  | _, _ => false
def rEq : R2 := fun x y H Q => scal x y = true ∧ Q (.bl (decide (x = y))) H
def rNe : R2 := fun x y H Q => scal x y = true ∧ Q (.bl (!decide (x = y))) H
theorem dec_int {i j : Int} : decide (V.int i = V.int j) = (i == j) := by
  rw [Bool.eq_iff_iff]
  simp
theorem dec_bl {i j : Bool} : decide (V.bl i = V.bl j) = (i == j) := by
  rw [Bool.eq_iff_iff]
  simp
theorem dec_str {i j : Str} : decide (V.str i = V.str j) = (i == j) := by
  rw [Bool.eq_iff_iff]
  simp
theorem dec_byt {i j : Array UInt8} : decide (V.byt i = V.byt j) = (i.toList == j.toList) := by
  rw [Bool.eq_iff_iff]
  cases i
  cases j
  simp
section
variable {X : Cx} {a b c : Expr} {ta tb tc : TE} {pos : Pos}
theorem fin_bl {pins : List (Addr × Obj)} {σ : St} {H : Hp} {s : Shared} {Q : VK} {k k' : Bool} (I : Inv X pins σ H s) (q : Q (.bl k) H) (e : k = k') : EP X pins σ Q (.bool k') s := by
  subst e
  exact ⟨.bl k, H, I, rfl, q⟩
theorem op_eq : OpR X (compareOp .Eq) rEq := by
  intro pins s σ H x y v u Q I rx ry h
  obtain ⟨hs, q⟩ := h
  cases x with
  | non =>
    cases rx
    cases y with
    | non => cases ry; exact PySem.EqNone.eq_none_none (fin_bl I q (by simp))
    | bl j => cases ry; exact PySem.EqNone.eq_none_bool (fin_bl I q (by simp))
    | int j => obtain ⟨t', rfl⟩ := ry; exact PySem.EqNone.eq_none_int (fin_bl I q (by simp))
    | str j => obtain ⟨t', rfl⟩ := ry; exact PySem.EqNone.eq_none_str (fin_bl I q (by simp))
    | _ => exact absurd (show false = true from hs) Bool.false_ne_true
  | bl i =>
    cases rx
    cases y with
    | non => cases ry; exact PySem.EqNone.eq_bool_none (fin_bl I q (by simp))
    | bl j => cases ry; exact eq_bool (fin_bl I q dec_bl)
    | str j => obtain ⟨t', rfl⟩ := ry; exact PySem.EqMixed.eq_bool_str (fin_bl I q (by simp))
    | _ => exact absurd (show false = true from hs) Bool.false_ne_true
  | int i =>
    obtain ⟨t, rfl⟩ := rx
    cases y with
    | non => cases ry; exact PySem.EqNone.eq_int_none (fin_bl I q (by simp))
    | int j => obtain ⟨t', rfl⟩ := ry; exact eq_int (fin_bl I q dec_int)
    | str j => obtain ⟨t', rfl⟩ := ry; exact PySem.EqMixed.eq_int_str (fin_bl I q (by simp))
    | _ => exact absurd (show false = true from hs) Bool.false_ne_true
  | str i =>
    obtain ⟨t, rfl⟩ := rx
    cases y with
    | non => cases ry; exact PySem.EqNone.eq_str_none (fin_bl I q (by simp))
    | bl j => cases ry; exact PySem.EqMixed.eq_str_bool (fin_bl I q (by simp))
    | int j => obtain ⟨t', rfl⟩ := ry; exact PySem.EqMixed.eq_str_int (fin_bl I q (by simp))
    | str j => obtain ⟨t', rfl⟩ := ry; exact eq_str (fin_bl I q dec_str)
    | _ => exact absurd (show false = true from hs) Bool.false_ne_true
  | byt i =>
    obtain ⟨t, rfl⟩ := rx
    cases y with
    | byt j => obtain ⟨t', rfl⟩ := ry; exact PySem.W.eq_bytes (fin_bl I q dec_byt)
    | _ => exact absurd (show false = true from hs) Bool.false_ne_true
  | _ => cases y <;> exact absurd (show false = true from hs) Bool.false_ne_true
theorem op_ne : OpR X (compareOp .NotEq) rNe := by
  intro pins s σ H x y v u Q I rx ry h
  obtain ⟨hs, q⟩ := h
  cases x with
  | non =>
    cases rx
    cases y with
    | non => cases ry; exact PySem.EqNone.ne_none_none (fin_bl I q (by simp))
    | bl j => cases ry; exact PySem.EqNone.ne_none_bool (fin_bl I q (by simp))
    | int j => obtain ⟨t', rfl⟩ := ry; exact PySem.EqNone.ne_none_int (fin_bl I q (by simp))
    | str j => obtain ⟨t', rfl⟩ := ry; exact PySem.EqNone.ne_none_str (fin_bl I q (by simp))
    | _ => exact absurd (show false = true from hs) Bool.false_ne_true
  | bl i =>
    cases rx
    cases y with
    | non => cases ry; exact PySem.EqNone.ne_bool_none (fin_bl I q (by simp))
    | bl j => cases ry; exact ne_bool (fin_bl I q (congrArg not dec_bl))
    | str j => obtain ⟨t', rfl⟩ := ry; exact PySem.EqMixed.ne_bool_str (fin_bl I q (by simp))
    | _ => exact absurd (show false = true from hs) Bool.false_ne_true
  | int i =>
    obtain ⟨t, rfl⟩ := rx
    cases y with
    | non => cases ry; exact PySem.EqNone.ne_int_none (fin_bl I q (by simp))
    | int j => obtain ⟨t', rfl⟩ := ry; exact ne_int (fin_bl I q (congrArg not dec_int))
    | str j => obtain ⟨t', rfl⟩ := ry; exact PySem.EqMixed.ne_int_str (fin_bl I q (by simp))
    | _ => exact absurd (show false = true from hs) Bool.false_ne_true
  | str i =>
    obtain ⟨t, rfl⟩ := rx
    cases y with
    | non => cases ry; exact PySem.EqNone.ne_str_none (fin_bl I q (by simp))
    | bl j => cases ry; exact PySem.EqMixed.ne_str_bool (fin_bl I q (by simp))
    | int j => obtain ⟨t', rfl⟩ := ry; exact PySem.EqMixed.ne_str_int (fin_bl I q (by simp))
    | str j => obtain ⟨t', rfl⟩ := ry; exact ne_str (fin_bl I q (congrArg not dec_str))
    | _ => exact absurd (show false = true from hs) Bool.false_ne_true
  | byt i =>
    obtain ⟨t, rfl⟩ := rx
    cases y with
    | byt j => obtain ⟨t', rfl⟩ := ry; exact PySem.W.ne_bytes (fin_bl I q (congrArg not dec_byt))
    | _ => exact absurd (show false = true from hs) Bool.false_ne_true
  | _ => cases y <;> exact absurd (show false = true from hs) Bool.false_ne_true
theorem op_lt : OpR X (compareOp .Lt) (rI0 fun i j => .bl (decide (i < j))) := opB0 fun _ _ _ _ _ _ _ q => lt_int q
theorem op_le : OpR X (compareOp .LtE) (rI0 fun i j => .bl (decide (i ≤ j))) := opB0 fun _ _ _ _ _ _ _ q => le_int q
theorem op_gt : OpR X (compareOp .Gt) (rI0 fun i j => .bl (decide (j < i))) := opB0 fun _ _ _ _ _ _ _ q => gt_int q
theorem op_ge : OpR X (compareOp .GtE) (rI0 fun i j => .bl (decide (j ≤ i))) := opB0 fun _ _ _ _ _ _ _ q => ge_int q
theorem op_isN : OpR X (compareOp .Is) (fun x y H Q => y = .non ∧ Q (.bl (decide (x = .non))) H) := by
  intro pins s σ H x y v u Q I rx ry h
  obtain ⟨rfl, q⟩ := h
  cases ry
  refine is_none_gen (fin_bl I q ?_)
  cases x <;> first
    | (cases rx; rfl)
    | (obtain ⟨t, rfl⟩ := rx; rfl)
theorem op_notN : OpR X (compareOp .IsNot) (fun x y H Q => y = .non ∧ Q (.bl (!decide (x = .non))) H) := by
  intro pins s σ H x y v u Q I rx ry h
  obtain ⟨rfl, q⟩ := h
  cases ry
  refine isnot_none_gen (fin_bl I q ?_)
  cases x <;> first
    | (cases rx; rfl)
    | (obtain ⟨t, rfl⟩ := rx; rfl)
def isObj : HO → Bool
  | .lst _ => true
  | .ins _ _ _ => true
  | _ => false
theorem nomark (b : Expr) {op : CmpOp} (h : op ≠ .In := by decide) (h2 : op ≠ .NotIn := by decide) : behindInMarks op b = false := by
  have e1 : (op == CmpOp.In) = false := by cases op <;> first | rfl | exact absurd rfl h
  have e2 : (op == CmpOp.NotIn) = false := by cases op <;> first | rfl | exact absurd rfl h2
  cases b <;> simp [behindInMarks, e1, e2]
theorem pe_cmpR {op : CmpOp} {r : R2} (ho : OpR X (compareOp op) r) (ha : PE X a ta) (hb : PE X b tb) (hm : behindInMarks op b = false) : PE X (.Compare a [op] [b] pos) (tOp r ta tb) := by
  intro pins s σ H Q I h
  exact wpAny_Compare1 (binT ha hb I h fun v u s2 x y H2 I2 rx ry q => ho pins s2 σ H2 x y v u Q I2 rx ry q) hm
def tTest (t : TE) : TT := fun σ H Q => t σ H fun x H' => ∃ k, x = .bl k ∧ Q k H'
theorem pt_cmpR {op : CmpOp} {r : R2} (ho : OpR X (compareOp op) r) (ha : PE X a ta) (hb : PE X b tb) (hm : behindInMarks op b = false) : PT X (.Compare a [op] [b] pos) (tTest (tOp r ta tb)) := by
  intro pins s σ H Q I h
  refine wpAny_isTrue_Compare1 (thn (ha pins s σ H _ I h) fun v s1 ⟨x, H1, I1, r1, q1⟩ => thn (hb pins s1 σ H1 _ I1 q1) fun u s2 ⟨y, H2, I2, r2, q2⟩ =>
    thn (ho pins s2 σ H2 x y v u _ I2 r1 r2 q2) fun c s3 ⟨z, H3, I3, r3, k, e, q3⟩ => ?_) hm
  subst e
  cases r3
  exact wpAny_truthy_bool ⟨H3, I3, q3⟩
def tChain (r r' : R2) (ta tb tc : TE) : TE := fun σ H Q => ta σ H fun x H1 => tb σ H1 fun y H2 => r x y H2 fun z H3 => ∃ k, z = .bl k ∧
  (if k = true then tc σ H3 fun w' H4 => r' y w' H4 Q else Q (.bl false) H3)
def TruV (K : PySem.W.Frag) (x : V) (H : Hp) (k : Bool) : Prop :=
  match x with
  | .non => k = false
  | .bl b => k = b
  | .int i => k = (i != 0)
  | .str y => y.length ≤ sizeLine ∧ k = ((y.length : Int) != 0)
  | .byt y => y.size ≤ sizeLine ∧ k = ((y.size : Int) != 0)
  | .ref p => (∃ xs, SqL K H p xs ∧ k = !xs.isEmpty) ∨ (∃ xs, SqT K H p xs ∧ k = !xs.isEmpty) ∨ ∃ kvs, H p = some (.dK kvs) ∧ k = !kvs.isEmpty
  | _ => False
theorem line63 : (sizeLine : Nat) < 2 ^ 63 := by rw [sizeLine_eq]; decide
theorem op_add_str : OpR X (binaryOp .Add) (fun x y H Q => ∃ i j, x = .str i ∧ y = .str j ∧ i.length + j.length ≤ sizeLine ∧ Q (.str (i ++ j)) H) := by
  intro pins s σ H x y v u Q I rx ry h
  obtain ⟨i, j, rfl, rfl, hz, q⟩ := h
  obtain ⟨t, rfl⟩ := rx
  obtain ⟨t', rfl⟩ := ry
  exact add_str (fun t' tk => ⟨.str (i ++ j), H, I.tok _, ⟨_, rfl⟩, q⟩) hz
def PlainIxT (b : Expr) : Prop := ∀ o i, subscripted b false o i = operate [o, i] (getItem o i)
theorem vals1 {x : V} {us : List Value} (r : Vals [x] us) : ∃ u, us = [u] ∧ RelV x u := by
  cases r with
  | cons r1 r2 => cases r2; exact ⟨_, rfl, r1⟩
theorem vals2 {x y : V} {us : List Value} (r : Vals [x, y] us) : ∃ u w', us = [u, w'] ∧ RelV x u ∧ RelV y w' := by
  cases r with
  | cons r1 r2 =>
    cases r2 with
    | cons r3 r4 => cases r4; exact ⟨_, _, rfl, r1, r3⟩
theorem call_min2 (hc : X.calm = true) : CallR X (.builtin "min") (fun xs H Q => ∃ i j, xs = [.int i, .int j] ∧ Q (.int (if j < i then j else i)) H) := by
  intro pins s σ H xs us Q I r h
  obtain ⟨i, j, rfl, q⟩ := h
  obtain ⟨u, w', rfl, ⟨t, rfl⟩, ⟨t', rfl⟩⟩ := vals2 r
  refine min_two_ints (I.ok.hd hc) fun h' tk k => ⟨_, H, I.kept k, ?_, q⟩
  by_cases hj : j < i
  · rw [if_pos hj, if_pos hj]; exact ⟨_, rfl⟩
  · rw [if_neg hj, if_neg hj]; exact ⟨_, rfl⟩
theorem call_int1 : CallR X (.type "int") (fun xs H Q => (∃ i, xs = [.int i] ∧ Q (.int i) H) ∨ ∃ k, xs = [.bl k] ∧ Q (.int (if k then 1 else 0)) H) := by
  intro pins s σ H xs us Q I r h
  rcases h with ⟨i, rfl, q⟩ | ⟨k, rfl, q⟩
  · obtain ⟨u, rfl, t, rfl⟩ := vals1 r
    exact call_int_int ⟨.int i, H, I, ⟨_, rfl⟩, q⟩
  · obtain ⟨u, rfl, r1⟩ := vals1 r
    cases r1
    exact call_int_bool ⟨.int (if k then 1 else 0), H, I.tok _, ⟨_, rfl⟩, q⟩
def LenV (K : PySem.W.Frag) (x : V) (H : Hp) (n : Nat) : Prop :=
  match x with
  | .str y => y.length ≤ sizeLine ∧ n = y.length
  | .byt y => y.size ≤ sizeLine ∧ n = y.size
  | .ref p => (∃ xs, SqL K H p xs ∧ n = xs.length) ∨ ∃ xs, SqT K H p xs ∧ n = xs.length
  | _ => False
end
end L2
namespace L2
open PySem PySem.Spec PyProof.Rows
structure ObjM (h : Heap) (x dx C : Addr) (mA : Str → Option Value) : Prop where
  obj : h.get? x = some (PySem.W.instObj C dx)
  ns : h.Ns1 dx mA
  ne : dx ≠ x
theorem lookIn_ns {h : Heap} {dx : Addr} {mA : Str → Option Value} (n : h.Ns1 dx mA) : ∃ od, h.get? dx = some od ∧ ∀ name, PySem.W.lookIn name od = some (mA name) := by
  obtain ⟨o, es, ep, ho, hd, hk, _, hm⟩ := n
  refine ⟨o, ho, fun name => ?_⟩
  have e := hm name
  unfold nsFind findBy at e
  rw [← Array.find?_toList] at e
  unfold PySem.W.lookIn
  rw [hd]
  dsimp only
  split
  · rename_i y q
    rw [q] at e
    exact congrArg some e
  · rename_i q
    rw [q] at e
    have a : es.toList.any (·.refKey) = false := by
      rw [List.any_eq_false]
      intro y hy
      obtain ⟨z, t, hkey⟩ := hk y (Array.mem_toList_iff.mp hy)
      simp [DictEntry.refKey, hkey]
    have a' : ¬ es.toList.any (·.refKey) = true := by rw [a]; exact Bool.false_ne_true
    rw [if_neg a']
    exact congrArg some e
theorem ObjM.look {h : Heap} {x dx C : Addr} {mA : Str → Option Value} (I : ObjM h x dx C mA) : ∃ od, PySem.W.InstAt h x (PySem.W.instObj C dx) C (some od) ∧ ∀ name, PySem.W.lookIn name od = some (mA name) :=
  let ⟨od, ho, hl⟩ := lookIn_ns I.ns
  ⟨od, ⟨I.obj, rfl, rfl, ho⟩, hl⟩
section
variable {prog : Program} {w : World} {A : Around} {E : Value → Shared → Prop} {s : Shared} {K : PySem.W.Frag} {x dx C f : Addr} {mA : Str → Option Value} {name : Str} {v : Value}
theorem get_map {expr : Bool} {Q : Value → Shared → Prop} (X : K.In s.heap) (I : ObjM s.heap x dx C mA) (hg : PySem.W.plainGet K C name = true) (hh : PySem.W.hasDictIn K C = true)
    (ha : PySem.W.findIn K (.ref C) name = some none) (hv : mA name = some v) (hv' : PySem.W.handedIn v = true) (h : Q v { s with toks := s.toks + 1 }) :
    wpAny (model prog w) A (getAttr (.ref x) name expr) Q E s := by
  obtain ⟨od, J, hl⟩ := I.look
  exact PySem.W.get_value X J (PySem.W.plainGet_of hg).1 (PySem.W.findObj_own hh ha rfl (by rw [hl, hv])) hv' h
theorem get_meth {pl : Sem Bool} {Q : Value × List Value → Shared → Prop} (X : K.In s.heap) (I : ObjM s.heap x dx C mA) (hg : PySem.W.plainGet K C name = true)
    (hf : PySem.W.findIn K (.ref C) name = some (some (.ref f))) (ht : PySem.W.isFn K (.ref f) = true) (hv : mA name = none) (h : Q (.ref f, [.ref x]) s) :
    wpAny (model prog w) A (getMethod (.ref x) name pl) Q E s := by
  obtain ⟨od, J, hl⟩ := I.look
  exact PySem.W.method_fn X J (PySem.W.plainGet_of hg).1 (PySem.W.plainGet_of hg).2 hf (beq_iff_eq.mp ht) (by show (PySem.W.lookIn name od).map (·.isSome) = some false; rw [hl, hv]; rfl) h
theorem set_map {ns : List Str} {Q : Unit → Shared → Prop} (X : K.In s.heap) (I : ObjM s.heap x dx C mA)
    (hs : PySem.W.findIn K (.ref C) "__setattr__" = some (some (.builtin "object.__setattr__"))) (hp : PySem.W.plainOver K C = true) (ht : PySem.W.takerIn K C name = some none) (hh : PySem.W.hasDictIn K C = true)
    (hw : PySem.Within mA ns) (hsz : ns.length ≤ sizeLine)
    (h : ∀ h', ObjM h' x dx C (fun y => if y = name then some v else mA y) → Heap.SameBut dx s.heap h' → Q () { s with heap := h', toks := s.toks + 2 }) :
    wpAny (model prog w) A (setAttr (.ref x) name v) Q E s := by
  obtain ⟨od, J, hl⟩ := I.look
  refine PySem.W.set_plain X J hs (PySem.W.osa_open (s := { s with toks := s.toks + 1 }) (r := none) X J hp ht fun b => ?_)
  obtain ⟨cd, hc, hd'⟩ := PySem.W.any_some hh
  have hx : s.heap.get? x = some ⟨.ref C, some dx, .plain, #[]⟩ := I.obj
  refine wpAny_bind (wpAny_pure (wpAny_bind (wpAny_bind (wpAny_loadPart hx (wpAny_bind (PySem.W.Looks.here (s := { s with toks := s.toks + 1 }) (PySem.W.looks_clsIn X hc) ?_))))))
  rw [hd']
  refine wpAny_pure (a := some dx) (wpAny_bind (wpAny_pure (wpAny_bind ?_)))
  refine wpAny_nsSet1 (s := { s with toks := s.toks + 1 }) I.ns fun h' hn2 hs2 => ?_
  obtain ⟨oD, esD, epD, hoD, hdD, hcD⟩ := hn2.count (PySem.Within.cons name v hw)
  refine wpAny_bind (wpAny_lookBehind hoD (by rw [hdD]; exact pastItsLine_dict (Nat.le_trans hcD (by rw [List.length_cons]; omega))) ?_)
  exact wpAny_pure (h _ ⟨(hs2.2 _ (Ne.symm I.ne)).trans I.obj, hn2, I.ne⟩ hs2)
theorem make_map {R : Result → Shared → Prop} {vs : List Value} {kw : List (Str × Value)} (X : K.In s.heap) (hm : PySem.W.makesIn K C = true)
    (hi : PySem.W.findIn K (.ref C) "__init__" = some (some (.ref f))) (hf : PySem.W.typeIn K (.ref f) = some (.type "function"))
    (h : codeAny (model prog w) (A.under (.builtin "type.__call__" ⟨.ref C :: vs, kw⟩)) (.call (.ref f) ⟨.ref (s.heap.objs.size + 1) :: vs, kw⟩) (PySem.W.InitBack (s.heap.objs.size + 1) R)
      { s with heap := (s.heap.push PySem.W.emptyDict).push (PySem.W.instObj C s.heap.objs.size) }) :
    codeAny (model prog w) A (.call (.ref C) ⟨vs, kw⟩) R s := by
  obtain ⟨hh, g, d, t, os⟩ := s
  exact PySem.W.make_core (PySem.W.makes_of X hm) (PySem.W.looks_findIn X hi) (fun self => PySem.W.bind_fn X self hf) (.inl rfl) h
end
def putF (f : Str) (v : V) : List (Str × V) → List (Str × V)
  | [] => [(f, v)]
  | (g, x) :: r => if g = f then (g, v) :: r else (g, x) :: putF f v r
theorem lookup_putF (f g : Str) (v : V) : ∀ fs : List (Str × V), (putF f v fs).lookup g = if g = f then some v else fs.lookup g
  | [] => by
    show List.lookup g [(f, v)] = _
    by_cases h : g = f
    · have hb : (g == f) = true := beq_iff_eq.mpr h
      simp only [List.lookup, hb, if_pos h]
    · have hb : (g == f) = false := beq_eq_false_iff_ne.mpr h
      simp only [List.lookup, hb, if_neg h]
  | (k, x) :: r => by
    have ih := lookup_putF f g v r
    rw [show putF f v ((k, x) :: r) = (if k = f then (k, v) :: r else (k, x) :: putF f v r) from rfl]
    by_cases hk : k = f
    · rw [if_pos hk]
      by_cases h : g = k
      · have hb : (g == k) = true := beq_iff_eq.mpr h
        simp only [List.lookup, hb, if_pos (h.trans hk)]
      · have hb : (g == k) = false := beq_eq_false_iff_ne.mpr h
        simp only [List.lookup, hb, if_neg (fun e : g = f => h (e.trans hk.symm))]
    · rw [if_neg hk]
      by_cases h : g = k
      · have hb : (g == k) = true := beq_iff_eq.mpr h
        simp only [List.lookup, hb, if_neg (fun e : g = f => hk (h.symm.trans e))]
      · have hb : (g == k) = false := beq_eq_false_iff_ne.mpr h
        simp only [List.lookup, hb]
        exact ih
theorem keys_putF (f : Str) (v : V) : ∀ fs : List (Str × V), f ∈ (putF f v fs).map (·.1) ∧ ∀ g, g ∈ fs.map (·.1) → g ∈ (putF f v fs).map (·.1)
  | [] => ⟨by simp [putF], fun g h => by simp at h⟩
  | (k, x) :: r => by
    obtain ⟨i1, i2⟩ := keys_putF f v r
    rw [show putF f v ((k, x) :: r) = (if k = f then (k, v) :: r else (k, x) :: putF f v r) from rfl]
    by_cases hk : k = f
    · rw [if_pos hk]
      subst hk
      exact ⟨by simp, fun g h => by simpa using h⟩
    · rw [if_neg hk]
      refine ⟨?_, fun g h => ?_⟩
      · rw [List.map_cons]
        exact List.mem_cons_of_mem _ i1
      · rw [List.map_cons] at h ⊢
        rcases List.mem_cons.mp h with e | e
        · exact List.mem_cons.mpr (.inl e)
        · exact List.mem_cons_of_mem _ (i2 g e)
theorem length_putF (f : Str) (v : V) : ∀ fs : List (Str × V), (putF f v fs).length ≤ fs.length + 1
  | [] => by simp [putF]
  | (k, x) :: r => by
    have ih := length_putF f v r
    rw [show putF f v ((k, x) :: r) = (if k = f then (k, v) :: r else (k, x) :: putF f v r) from rfl]
    by_cases hk : k = f
    · rw [if_pos hk, List.length_cons, List.length_cons]; omega
    · rw [if_neg hk, List.length_cons, List.length_cons]; omega
theorem RelO.some_of {v : V} {o : Option Value} (r : RelO (some v) o) : ∃ u, o = some u ∧ RelV v u := by
  cases o with
  | none => exact (show False from r).elim
  | some u => exact ⟨u, rfl, r⟩
theorem RelO.none_of {o : Option Value} (r : RelO none o) : o = none := by
  cases o with
  | none => rfl
  | some u => exact (show False from r).elim
theorem handed_of {v : V} {u : Value} (r : RelV v u) : PySem.W.handedIn u = true := by
  cases v with
  | non => cases (show u = Value.none from r); rfl
  | bl b => cases (show u = Value.bool b from r); rfl
  | int i => obtain ⟨t, e⟩ := (show ∃ t, u = Value.int i t from r); cases e; rfl
  | str x => obtain ⟨t, e⟩ := (show ∃ t, u = Value.str x t from r); cases e; rfl
  | byt b => obtain ⟨t, e⟩ := (show ∃ t, u = Value.bytes b t from r); cases e; rfl
  | flt b => obtain ⟨t, e⟩ := (show ∃ t, u = Value.float b t from r); cases e; rfl
  | ref a => cases (show u = Value.ref a from r); rfl
  | ty n => cases (show u = Value.type n from r); rfl
section
variable {P : Program} {w : World} {H H' : Hp} {h h' : Heap} {a C dx : Addr} {fs fs' : List (Str × V)}
theorem ins_get (hok : HOk P w H h) (e : H a = some (.ins C dx fs)) : ∃ mA, ObjM h a dx C mA ∧ (∀ f, RelO (fs.lookup f) (mA f)) ∧ PySem.Within mA (fs.map (·.1)) ∧ fs.length ≤ 1000 ∧ H dx = some (.own a) := by
  obtain ⟨d, z, ne, ob, mA, n, r, q⟩ := (show ObjOk P w H h a (.ins C dx fs) from hok a _ e)
  exact ⟨mA, ⟨ob, n, ne⟩, r, q, z, d⟩
end
structure Cls (K : PySem.W.Frag) (C : Addr) : Prop where
  pg : PySem.W.plainGet K C Str.empty = true
  hd : PySem.W.hasDictIn K C = true
  po : PySem.W.plainOver K C = true
  sa : PySem.W.findIn K (.ref C) "__setattr__" = some (some (.builtin "object.__setattr__"))
theorem Cls.get {K : PySem.W.Frag} {C : Addr} (c : Cls K C) (f : Str) : PySem.W.plainGet K C f = true := c.pg
def NoAttr (K : PySem.W.Frag) (C : Addr) (f : Str) : Prop := PySem.W.findIn K (.ref C) f = some none
theorem NoAttr.taker {K : PySem.W.Frag} {C : Addr} {f : Str} (n : NoAttr K C f) : PySem.W.takerIn K C f = some none := by
  unfold PySem.W.takerIn
  rw [show PySem.W.findIn K (.ref C) f = some none from n]
  rfl
structure Con (K : PySem.W.Frag) (C : Addr) (f : Str) (v : V) (u : Value) : Prop where
  at_ : PySem.W.findIn K (.ref C) f = some (some u)
  rel : RelV v u
  get : PySem.W.specialIn K u "__get__" = some none
  cp : PySem.W.copiedNames.contains f = false
structure Meth (K : PySem.W.Frag) (C : Addr) (m : Str) (f : Addr) : Prop where
  at_ : PySem.W.findIn K (.ref C) m = some (some (.ref f))
  fn : PySem.W.isFn K (.ref f) = true
  kp : PySem.W.keepIn K (.ref f) = true
section
variable {X : Cx} {pins : List (Addr × Obj)} {σ : St} {H : Hp} {s : Shared} {a C dx : Addr} {fs : List (Str × V)} {f : Str} {v : V} {A : Around} {E : Value → Shared → Prop}
theorem getattr_ok {b : Bool} {Q : Value → Shared → Prop} (I : Inv X pins σ H s) (e : H a = some (.ins C dx fs)) (c : Cls X.K C) (n : NoAttr X.K C f) (l : fs.lookup f = some v)
    (h : ∀ u s', Inv X pins σ H s' → RelV v u → Q u s') : wpAny (model X.prog X.w) A (getAttr (.ref a) f b) Q E s := by
  obtain ⟨mA, O, r, _, _, _⟩ := ins_get I.hok e
  obtain ⟨u, hu, ru⟩ := RelO.some_of (v := v) (o := mA f) (by rw [← l]; exact r f)
  exact get_map I.kIn O (c.get f) c.hd n hu (handed_of ru) (h u _ (I.tok _) ru)
theorem getmeth_ok {m : Str} {g : Addr} {pl : Sem Bool} {Q : Value × List Value → Shared → Prop} (I : Inv X pins σ H s) (e : H a = some (.ins C dx fs)) (c : Cls X.K C) (k : Meth X.K C m g) (l : fs.lookup m = none)
    (h : Q (.ref g, [.ref a]) s) : wpAny (model X.prog X.w) A (getMethod (.ref a) m pl) Q E s := by
  obtain ⟨mA, O, r, _, _, _⟩ := ins_get I.hok e
  have hn : mA m = none := RelO.none_of (by rw [← l]; exact r m)
  exact get_meth I.kIn O (c.get m) k.at_ k.fn hn h
theorem setattr_ok {y : V} {u : Value} {Q : Unit → Shared → Prop} (I : Inv X pins σ H s) (e : H a = some (.ins C dx fs)) (c : Cls X.K C) (n : NoAttr X.K C f) (hl : fs.length < 1000) (ry : RelV y u)
    (h : ∀ s', Inv X pins σ (upd H a (.ins C dx (putF f y fs))) s' → Q () s') : wpAny (model X.prog X.w) A (setAttr (.ref a) f u) Q E s := by
  obtain ⟨mA, O, r, wi, _, ho⟩ := ins_get I.hok e
  have hz : (fs.map (·.1)).length ≤ sizeLine := by rw [List.length_map, sizeLine_eq]; omega
  refine set_map I.kIn O c.sa c.po n.taker c.hd wi hz fun h' O' sb => h _ ?_
  have hd : ∃ o, h'.get? dx = some o := let ⟨o, _, _, e', _⟩ := O'.ns; ⟨o, e'⟩
  refine I.write (x := a) (e := dx) (by rw [e]; exact True.intro) (.inr ho) (fun b q hb z => (sb.2 b hb).trans z) hd ?_
  refine ⟨by rw [upd_ne O.ne]; exact ho, ?_, O.ne, O'.obj, _, O'.ns, fun g => ?_, fun g hg => ?_⟩
  · have := length_putF f y fs; omega
  · show RelO ((putF f y fs).lookup g) (if g = f then some u else mA g)
    rw [lookup_putF]
    by_cases q : g = f
    · rw [if_pos q, if_pos q]; exact ry
    · rw [if_neg q, if_neg q]; exact r g
  · by_cases q : g = f
    · rw [q]; exact (keys_putF f y fs).1
    · refine (keys_putF f y fs).2 g (wi g fun z => hg ?_)
      show (if g = f then some u else mA g) = none
      rw [if_neg q]; exact z
theorem Inv.made (I : Inv X pins σ H s) : Inv X pins σ (upd (upd H s.heap.objs.size (.own (s.heap.objs.size + 1))) (s.heap.objs.size + 1) (.ins C s.heap.objs.size []))
    { s with heap := (s.heap.push PySem.W.emptyDict).push (PySem.W.instObj C s.heap.objs.size) } := by
  have e1 : (s.heap.push PySem.W.emptyDict).get? s.heap.objs.size = some PySem.W.emptyDict := Heap.get?_push_size s.heap rfl
  have e2 : ((s.heap.push PySem.W.emptyDict).push (PySem.W.instObj C s.heap.objs.size)).get? (s.heap.objs.size + 1) = some (PySem.W.instObj C s.heap.objs.size) := by
    have := Heap.get?_push_size (s.heap.push PySem.W.emptyDict) (o := PySem.W.instObj C s.heap.objs.size) rfl
    rwa [Heap.size_push] at this
  have e3 : (s.heap.push PySem.W.emptyDict).Ns s.heap.objs.size (fun _ => none) := ⟨PySem.W.emptyDict, #[], _, e1, rfl, (fun e he => absurd he (by simp)), fun _ => rfl⟩
  have I1 := I.laid (a := s.heap.objs.size) (o := .own (s.heap.objs.size + 1)) (h' := s.heap.push PySem.W.emptyDict) (t' := s.toks) (fun b u q => Heap.get?_push_of_some _ q) (Nat.le_refl _) ⟨_, e1⟩
  refine I1.laid (a := s.heap.objs.size + 1) (o := .ins C s.heap.objs.size []) (t' := s.toks) (fun b u q => Heap.get?_push_of_some _ q) (Nat.le_of_eq (Heap.size_push _ _)) ?_
  have ne : s.heap.objs.size ≠ s.heap.objs.size + 1 := Nat.ne_of_lt (Nat.lt_succ_self _)
  refine ⟨by rw [upd_ne ne, upd_same], Nat.zero_le _, ne, e2, fun _ => none, (Heap.Ns1.of_empty e3).at fun o q => Heap.get?_push_of_some _ q, fun _ => True.intro, fun y hy => absurd rfl hy⟩
theorem attr_of {prog : Program} {w : World} {env : Env} {e : Expr} {f : Str} {pos : Pos} {s : Shared} {Q : Value → Shared → Prop} (hb : attributeBase e f env (eval e env) = eval e env)
    (h : wpAny (model prog w) A (eval e env) (fun o s₁ => wpAny (model prog w) A (getAttr o f true) Q E s₁) E s) : wpAny (model prog w) A (eval (.Attribute e f pos) env) Q E s :=
  Attribute_any_ h (by rw [arm_eval_Attribute, hb])
end
def tFld (K : PySem.W.Frag) (ta : TE) (f : Str) : TE := fun σ H Q => ta σ H fun x H1 => ∃ a C dx fs v, x = .ref a ∧ H1 a = some (.ins C dx fs) ∧ Cls K C ∧ NoAttr K C f ∧ fs.lookup f = some v ∧ Q v H1
def tCon (K : PySem.W.Frag) (ta : TE) (f : Str) : TE := fun σ H Q => ta σ H fun x H1 => ∃ a C dx fs v u, x = .ref a ∧ H1 a = some (.ins C dx fs) ∧ Cls K C ∧ Con K C f v u ∧ fs.lookup f = none ∧ Q v H1
def sFld (K : PySem.W.Frag) (ta tv : TE) (f : Str) : TS := fun D σ H => tv σ H fun y H1 => ta σ H1 fun x H2 => ∃ a C dx fs, x = .ref a ∧ H2 a = some (.ins C dx fs) ∧ Cls K C ∧ NoAttr K C f ∧ fs.length < 1000 ∧
  D.nx σ (upd H2 a (.ins C dx (putF f y fs)))
def InOp (X : Cx) (op : Operator) (rd : V → V → Hp → VK → Prop) : Prop :=
  ∀ (pins : List (Addr × Obj)) (s : Shared) (σ : St) (H : Hp) (x y : V) (u v : Value) (Q : VK), Inv X pins σ H s → RelV x u → RelV y v → rd x y H Q → wpAny (model X.prog X.w) X.A (inplaceOp op u v) (EP X pins σ Q) X.xe s
def sFldAug (K : PySem.W.Frag) (ta tv : TE) (rd : V → V → Hp → VK → Prop) (f : Str) : TS := fun D σ H => ta σ H fun x H1 => ∃ a C dx fs v, x = .ref a ∧ H1 a = some (.ins C dx fs) ∧ Cls K C ∧ NoAttr K C f ∧ fs.lookup f = some v ∧
  tv σ H1 fun y H2 => rd v y H2 fun z H3 => ∃ dx' fs', H3 a = some (.ins C dx' fs') ∧ fs'.length < 1000 ∧ D.nx σ (upd H3 a (.ins C dx' (putF f z fs')))
section
variable {X : Cx} {o e value : Expr} {f : Str} {pos pos' tpos : Pos} {ta tv : TE}
theorem pe_fld (he : PE X e ta) (hb : attributeBase e f X.env (eval e X.env) = eval e X.env) : PE X (.Attribute e f pos) (tFld X.K ta f) := by
  intro pins s σ H Q I h
  refine attr_of hb (thn (he pins s σ H _ I h) fun u s1 ⟨x, H1, I1, rx, a, C, dx, fs, v, ex, ea, c, n, l, q⟩ => ?_)
  subst ex
  obtain rfl : u = Value.ref a := rx
  exact getattr_ok I1 ea c n l fun u' s2 I2 ru => ⟨v, H1, I2, ru, q⟩
theorem ps_fld (ha : PE X o ta) (hv : PE X value tv) (hs : swapsWith value (some (.Attribute o f pos')) pos.line X.env = pure false) : PS X (.Assign [.Attribute o f pos'] value pos) (sFld X.K ta tv f) := by
  intro pins s σ H D I h
  refine plainObj_wpAny_Assign_Attribute (thn (hv pins s σ H _ I h) fun u s1 ⟨y, H1, I1, ry, q⟩ => thn (ha pins s1 σ H1 _ I1 q) fun ov s2 ⟨x, H2, I2, rx, a, C, dx, fs, ex, ea, c, n, l, q2⟩ => ?_) hs
  subst ex
  obtain rfl : ov = Value.ref a := rx
  exact setattr_ok I2 ea c n l ry fun s3 I3 => ⟨σ, _, I3, q2⟩
def rAdd : V → V → Hp → VK → Prop := fun x y H Q => ∃ i j, x = .int i ∧ y = .int j ∧ Q (.int (i + j)) H
def rSub : V → V → Hp → VK → Prop := fun x y H Q => ∃ i j, x = .int i ∧ y = .int j ∧ Q (.int (i - j)) H
end
section
variable {X : Cx} {pins : List (Addr × Obj)} {σ : St} {H : Hp} {s : Shared} {A : Around} {E : Value → Shared → Prop} {Q : Value → Shared → Prop} {c : Value} {b : Bool}
inductive TyOf (K : PySem.W.Frag) (H : Hp) : V → Value → Prop where
  | non : TyOf K H .non (.type "NoneType")
  | bl (x : Bool) : TyOf K H (.bl x) (.type "bool")
  | int (i : Int) : TyOf K H (.int i) (.type "int")
  | str (x : Str) : TyOf K H (.str x) (.type "str")
  | flt (x : UInt64) : TyOf K H (.flt x) (.type "float")
  | lst {a : Addr} {xs : List V} (e : H a = some (.lst xs)) : TyOf K H (.ref a) (.type "list")
  | frz {a : Addr} {o : Obj} {xs : List V} (e : H a = some (.frz o (.lst xs))) : TyOf K H (.ref a) (.type "list")
  | tup {a : Addr} {xs : List V} (e : H a = some (.tup xs)) : TyOf K H (.ref a) (.type "tuple")
  | dK {a : Addr} {kvs : List (Key × V)} (e : H a = some (.dK kvs)) : TyOf K H (.ref a) (.type "dict")
  | dT {a : Addr} {kvs : List (List Key × V)} (e : H a = some (.dT kvs)) : TyOf K H (.ref a) (.type "dict")
  | ins {a C dx : Addr} {fs : List (Str × V)} (e : H a = some (.ins C dx fs)) (cl : Cls K C) (ha : PySem.W.findIn K (.ref C) "__class__" = some (some (.builtin "object.__class__")))
      (hn : PySem.W.specialIn K (.builtin "object.__class__") "__get__" = some (some (.builtin "getset_descriptor.__get__"))) (htk : PySem.W.takesIn K (.builtin "object.__class__") = some true)
      (hm : PySem.W.mroIn K C (.type "object") = some true) : TyOf K H (.ref a) (.ref C)
theorem isinst_ok {x : V} {u t : Value} (I : Inv X pins σ H s) (rx : RelV x u) (ty : TyOf X.K H x t) (e : PySem.W.kitOne X.K t c = some b) (h : ∀ tk, Q (.bool b) { s with toks := tk }) :
    wpAny (model X.prog X.w) A (call (.builtin "isinstance") [u, c]) Q E s := by
  cases ty with
  | non => cases (show u = Value.none from rx); exact PySem.W.kia_one PySem.W.kitx_none I.kIn True.intro e (fun z => nomatch z) h
  | bl y => cases (show u = Value.bool y from rx); exact PySem.W.kia_one PySem.W.kitx_bool I.kIn True.intro e (fun z => nomatch z) h
  | int i => obtain ⟨t, q⟩ := (show ∃ t, u = Value.int i t from rx); cases q; exact PySem.W.kia_one PySem.W.kitx_int I.kIn True.intro e (fun z => nomatch z) h
  | str y => obtain ⟨t, q⟩ := (show ∃ t, u = Value.str y t from rx); cases q; exact PySem.W.kia_one PySem.W.kitx_str I.kIn True.intro e (fun z => nomatch z) h
  | flt y => obtain ⟨t, q⟩ := (show ∃ t, u = Value.float y t from rx); cases q; exact PySem.W.kia_one PySem.W.kitx_float I.kIn True.intro e (fun z => nomatch z) h
  | @lst a xs ea =>
    cases (show u = Value.ref a from rx)
    obtain ⟨_, _, n, _, h1⟩ := (show ObjOk X.prog X.w H s.heap a (.lst xs) from I.hok a _ ea)
    exact PySem.W.kia_one PySem.W.kitx_list I.kIn ⟨_, h1, rfl⟩ e (fun z => nomatch z) h
  | @frz a ob xs ea =>
    cases (show u = Value.ref a from rx)
    obtain ⟨_, _, _, n, _, h1⟩ := (show ObjOk X.prog X.w H s.heap a (.frz ob (.lst xs)) from I.hok a _ ea)
    exact PySem.W.kia_one PySem.W.kitx_list I.kIn ⟨_, h1, rfl⟩ e (fun z => nomatch z) h
  | @tup a xs ea =>
    cases (show u = Value.ref a from rx)
    obtain ⟨_, _, _, p⟩ := (show ObjOk X.prog X.w H s.heap a (.tup xs) from I.hok a _ ea)
    obtain ⟨o, h1, h2, _⟩ := p
    exact PySem.W.kia_one PySem.W.kitx_tuple I.kIn ⟨o, h1, h2⟩ e (fun z => nomatch z) h
  | @dK a kvs ea =>
    cases (show u = Value.ref a from rx)
    obtain ⟨_, _, vs, _, p⟩ := (show ObjOk X.prog X.w H s.heap a (.dK kvs) from I.hok a _ ea)
    obtain ⟨o, es, ep, h1, h2, _⟩ := p
    exact PySem.W.kia_one PySem.W.kitx_dict I.kIn ⟨o, h1, h2.1⟩ e (fun z => nomatch z) h
  | @dT a kvs ea =>
    cases (show u = Value.ref a from rx)
    obtain ⟨_, _, xs, _, o, es, ep, h1, h2, _⟩ := (show ObjOk X.prog X.w H s.heap a (.dT kvs) from I.hok a _ ea)
    exact PySem.W.kia_one PySem.W.kitx_dict I.kIn ⟨o, h1, h2.1⟩ e (fun z => nomatch z) h
  | @ins a C dx fs ea cl ha hn htk hm =>
    cases (show u = Value.ref a from rx)
    obtain ⟨mA, O, _⟩ := ins_get I.hok ea
    obtain ⟨od, J, _⟩ := O.look
    exact PySem.W.kia_one (PySem.W.kitx_own (cl.get _) cl.hd ha hn htk hm) I.kIn J e (fun z => nomatch z) h
end
end L2
namespace L2
open PySem PySem.Spec PyProof.Rows
structure Room (k : Nat) (A : Around) : Prop where
  hd : A.handled = none
  dp : A.depth + 3 * k + 5 < recursionLimit
  un : A.units + 16 * k + 200 < cLine
theorem Room.mono {j k : Nat} {A : Around} (r : Room k A) (h : j ≤ k) : Room j A := ⟨r.hd, by have := r.dp; omega, by have := r.un; omega⟩
theorem Room.deeper {k : Nat} {A : Around} (r : Room (k + 1) A) (env : Env) : Room k (A.deeper env) :=
  ⟨r.hd, by have := r.dp; show A.depth + 1 + 3 * k + 5 < _; omega, by have := r.un; show A.units + 3 + 16 * k + 200 < _; omega⟩
theorem make_depth {A : Around} {C : Addr} {us : List Value} {kw : List (Str × Value)} : (A.under (.builtin "type.__call__" ⟨.ref C :: us, kw⟩)).depth = A.depth + 1 := by
  first | rfl | simp [Around.under, Code.weight, Code.isCreation, Code.isGuard, Code.isCaller, Code.frames, Code.isFrame, guardIds]
theorem make_units {A : Around} {C : Addr} {us : List Value} {kw : List (Str × Value)} : (A.under (.builtin "type.__call__" ⟨.ref C :: us, kw⟩)).units = A.units + 1 := by
  first | rfl | simp [Around.under, Code.cUnits, Code.frames, Code.isFrame]
theorem Room.make {k : Nat} {A : Around} (r : Room (k + 1) A) (C : Addr) (us : List Value) (kw : List (Str × Value)) : Room k (A.under (.builtin "type.__call__" ⟨.ref C :: us, kw⟩)) :=
  ⟨r.hd, by have := r.dp; rw [make_depth]; omega, by have := r.un; rw [make_units]; omega⟩
theorem Room.depth {k : Nat} {A : Around} (r : Room k A) : A.depth < recursionLimit := by have := r.dp; omega
theorem Room.units {k : Nat} {A : Around} (r : Room k A) : A.units + 64 < cLine := by have := r.un; omega
def tNil : TA := fun _ H Q => Q [] H
def tCons (ta : TE) (tr : TA) : TA := fun σ H Q => ta σ H fun x H1 => tr σ H1 fun xs H2 => Q (x :: xs) H2
section
variable {X : Cx} {e : Expr} {es : List Expr} {te : TE} {t : TA} {pos : Pos}
theorem pa_nil : PA X [] tNil := fun _ _ _ _ H Q I h => Calls.spliced_nil ⟨[], H, I, .nil, h⟩
theorem pa_cons (ha : PE X e te) (hr : PA X es t) (hs : starEach (e :: es) X.env = (false, eval e X.env) :: starEach es X.env := by rfl) : PA X (e :: es) (tCons te t) := by
  intro pos pins s σ H Q I h
  rw [hs]
  show wpAny _ _ (spliced ((false, eval e X.env) :: backTo pos (starEach es X.env))) _ _ s
  refine Calls.spliced_cons (thn (ha pins s σ H _ I h) fun u s1 ⟨x, H1, I1, r1, q1⟩ => ?_)
  exact thn (hr pos pins s1 σ H1 _ I1 q1) fun us s2 ⟨xs, H2, I2, r2, q2⟩ => ⟨x :: xs, H2, I2, .cons r1 r2, q2⟩
def tTup (t : TA) : TE := fun σ H Q => t σ H fun xs H1 => xs.length ≤ sizeLine ∧ ∀ p, H1 p = none → Q (.ref p) (upd H1 p (.tup xs))
def tLst (t : TA) : TE := fun σ H Q => t σ H fun xs H1 => xs.length ≤ sizeLine ∧ ∀ p, H1 p = none → Q (.ref p) (upd H1 p (.lst xs))
theorem pe_tup {x1} (h : PA X es t) : PE X (.Tuple es x1 pos) (tTup t) := by
  intro pins s σ H Q I hq
  refine wpAny_Tuple_spliced (thn (h pos pins s σ H _ I hq) fun us s1 ⟨xs, H1, I1, r, z, q⟩ => ⟨by rw [← r.length]; exact z, ?_⟩)
  have hf : H1 s1.heap.objs.size = none := I1.hok.fresh (Nat.le_refl _)
  refine ⟨.ref s1.heap.objs.size, upd H1 s1.heap.objs.size (.tup xs), I1.laid (t' := s1.toks) (fun b u e => Heap.get?_push_of_some _ e) (Nat.le_refl _) ?_, rfl, q _ hf⟩
  exact ⟨z, us, r, ⟨_, Heap.get?_push_size _ rfl, rfl, _, rfl⟩⟩
theorem pe_lst (h : PA X es t) : PE X (.List es pos) (tLst t) := by
  intro pins s σ H Q I hq
  refine wpAny_List_spliced (thn (h pos pins s σ H _ I hq) fun us s1 ⟨xs, H1, I1, r, z, q⟩ => ⟨by rw [← r.length]; exact z, ?_⟩)
  have hf : H1 s1.heap.objs.size = none := I1.hok.fresh (Nat.le_refl _)
  refine ⟨.ref s1.heap.objs.size, upd H1 s1.heap.objs.size (.lst xs), I1.laid (t' := s1.toks) (fun b u e => Heap.get?_push_of_some _ e) (Nat.le_refl _) ?_, rfl, q _ hf⟩
  exact ⟨z, us, 0, r, Heap.get?_push_size _ rfl⟩
end
abbrev Sp := List V → Hp → VK → XK → Prop
abbrev CXT := List Env → Hp → Shared → XK → Value → Shared → Prop
structure Env0 (P : Program) (w : World) (K : PySem.W.Frag) (mg : Str → Option Value) (base : Heap) (A : Around) (outer : List Env) (s : Shared) (H : Hp) : Prop where
  frames : A.frames = some outer
  mod : Mod K mg base
  bs : ∀ b o, base.get? b = some o → s.heap.get? b = some o ∧ H b = none
  bsz : base.objs.size ≤ s.heap.objs.size
  funs : s.heap.FunFrames base outer
  frf : ∀ b ∈ frs outer, H b = none
  hok : HOk P w H s.heap
  bare : AllBare s.gens
def CE (outer : List Env) (P : Program) (w : World) (H : Hp) (s : Shared) (Q : VK) (u : Value) (s' : Shared) : Prop :=
  ∃ v H', s'.os = s.os ∧ AllBare s'.gens ∧ Un (frs outer) [] H H' s.heap s'.heap ∧ HOk P w H' s'.heap ∧ RelV v u ∧ Q v H'
def CR (CX : CXT) (outer : List Env) (P : Program) (w : World) (H : Hp) (s : Shared) (Q : VK) (E : XK) (r : Result) (s' : Shared) : Prop :=
  match r with
  | .ok (.ret u) => CE outer P w H s Q u s'
  | .ok _ => False
  | .error e => CX outer H s E e s'
structure FnOk (P : Program) (w : World) (K : PySem.W.Frag) (mg : Str → Option Value) (base : Heap) (CX : CXT) (k : Nat) (f : Addr) (fd : FuncData) (ps : List Str) (sp : Sp) : Prop where
  len : ∀ vs H Q E, sp vs H Q E → vs.length = ps.length
  run : ∀ (A : Around) (outer : List Env) (s : Shared) (H : Hp) (args : Args) (us : List Value) (vs : List V) (Q : VK) (E : XK), Room k A → Env0 P w K mg base A outer s H → BindsTo s fd args (ps.zip us) → Vals vs us → sp vs H Q E →
    codeAny (model P w) A (.call (.ref f) args) (CR CX outer P w H s Q E) s
theorem Env0.make {P : Program} {w : World} {K : PySem.W.Frag} {mg : Str → Option Value} {base : Heap} {A : Around} {outer : List Env} {s : Shared} {H : Hp} (e : Env0 P w K mg base A outer s H) (C : Addr) (us : List Value) (kw : List (Str × Value)) :
    Env0 P w K mg base (A.under (.builtin "type.__call__" ⟨.ref C :: us, kw⟩)) outer s H := ⟨by first | exact e.frames | (simpa [Around.under, Code.envs, Code.isFrame, pushEnvs] using e.frames), e.mod, e.bs, e.bsz, e.funs, e.frf, e.hok, e.bare⟩
section
variable {X : Cx} {pins : List (Addr × Obj)} {σ : St} {H : Hp} {s s' : Shared}
theorem Inv.env0 (I : Inv X pins σ H s) : Env0 X.prog X.w X.K X.mg X.base X.A X.stack s H :=
  ⟨I.ok.frames, I.ok.mod, I.bs, Nat.le_trans I.ok.bsz I.sz, I.stack, I.stkFree, I.hok, I.bare⟩
theorem Inv.after {Q : VK} {u : Value} (I : Inv X pins σ H s) (h : CE X.stack X.prog X.w H s Q u s') : EP X pins σ Q u s' := by
  obtain ⟨v, H', os, bare, un, hok, r, q⟩ := h
  obtain ⟨hh, g, d, t, os'⟩ := s'
  obtain rfl : os' = s.os := os
  exact ⟨v, H', I.call (h' := hh) (g' := g) (d' := d) (t' := t) (ch := []) un hok bare (fun b z => absurd z (by simp)), r, q⟩
end
def tCall (sp : Sp) (dvs : List V) (E : XK) (t : TA) : TE := fun σ H Q => t σ H fun vs H1 => sp (vs ++ dvs) H1 Q E
def tMeth (C : Addr) (m : Str) (sp : Sp) (dvs : List V) (E : XK) (ta : TE) (t : TA) : TE := fun σ H Q => ta σ H fun x H1 => ∃ a dx fs, x = .ref a ∧ H1 a = some (.ins C dx fs) ∧ fs.lookup m = none ∧
  t σ H1 fun vs H2 => sp (x :: (vs ++ dvs)) H2 Q E
def tMake (C : Addr) (sp : Sp) (dvs : List V) (E : XK) (t : TA) : TE := fun σ H Q => t σ H fun vs H1 => ∀ x dx, H1 x = none → H1 dx = none → dx ≠ x →
  sp (.ref x :: (vs ++ dvs)) (upd (upd H1 dx (.own x)) x (.ins C dx [])) (fun v H2 => v = .non ∧ Q (.ref x) H2) E
def Binds (K : PySem.W.Frag) (fd : FuncData) (ps : List Str) (ds : List Value) : Prop :=
  ∀ (s : Shared) (us : List Value), K.In s.heap → (us ++ ds).length = ps.length → BindsTo s fd ⟨us, []⟩ (ps.zip (us ++ ds))
theorem Binds.all {K : PySem.W.Frag} {fd : FuncData} {ps : List Str} (h : ∀ us : List Value, us.length = ps.length → bindArgs fd ⟨us, []⟩ = pure (ps.zip us)) : Binds K fd ps [] := fun s us _ hl => by
  rw [List.append_nil] at hl ⊢
  exact .of_eq (h us hl)
def Passes (CX : CXT) (X : Cx) (E : XK) : Prop := ∀ (pins : List (Addr × Obj)) (σ : St) (H : Hp) (s : Shared) (e : Value) (s' : Shared), Inv X pins σ H s → CX X.stack H s E e s' → X.xe e s'
section
variable {X : Cx} {CX : CXT} {k : Nat} {f C : Addr} {fd : FuncData} {ps : List Str} {sp : Sp} {dvs : List V} {ds : List Value} {E : XK} {x m : Str} {p pos apos : Pos} {e o : Expr} {es : List Expr} {ta : TE} {t : TA}
theorem run_fn {pins : List (Addr × Obj)} {σ : St} {H : Hp} {s : Shared} {Q : VK} {us : List Value} {vs : List V} (F : FnOk X.prog X.w X.K X.mg X.base CX k f fd ps sp) (hr : Room k X.A) (hb : Binds X.K fd ps ds) (hd : Vals dvs ds) (hx : Passes CX X E)
    (I : Inv X pins σ H s) (r : Vals vs us) (h : sp (vs ++ dvs) H Q E) : wpAny (model X.prog X.w) X.A (call (.ref f) us) (EP X pins σ Q) X.xe s := by
  have r2 : Vals (vs ++ dvs) (us ++ ds) := r.append hd
  have hl : (us ++ ds).length = ps.length := by rw [← r2.length]; exact F.len _ _ _ _ h
  refine wpAny_call (codeAny_mono (F.run X.A X.stack s H ⟨us, []⟩ (us ++ ds) (vs ++ dvs) Q E hr I.env0 (hb s us I.kIn hl) r2 h) fun r s' hq => ?_)
  cases r with
  | error e => exact hx pins σ H s e s' I hq
  | ok fl =>
    cases fl with
    | ret u => exact I.after hq
    | next => exact False.elim hq
    | brk => exact False.elim hq
    | cont => exact False.elim hq
theorem pe_call (F : FnOk X.prog X.w X.K X.mg X.base CX k f fd ps sp) (hr : Room k X.A) (hg : Gl X x) (hm : X.mg x = some (.ref f)) (hk : PySem.W.keepIn X.K (.ref f) = true) (hb : Binds X.K fd ps ds) (hd : Vals dvs ds) (hx : Passes CX X E)
    (ha : PA X (e :: es) t) (hdb : (x == ("__debug__" : Str)) = false := by decide) (he : starEach (e :: es) X.env = (false, eval e X.env) :: starEach es X.env := by rfl) (hpl : (backTo pos (starEach es X.env)).any (·.1) = false := by rfl) :
    PE X (.Call (.Name x p) (e :: es) [] pos) (tCall sp dvs E t) := by
  intro pins s σ H Q I h
  refine wpAny_Call_Name_kw (ld_glob I hg hm ?_ hdb)
  refine PySem.W.callWith_K (h₀ := X.base) I.ok.mod.kin hk (thn (ha pos pins s σ H _ I h) fun us s1 ⟨vs, H1, I1, r, q⟩ => ⟨I1.kIn, ?_⟩) he hpl
  exact run_fn F hr hb hd hx I1 r q
theorem pe_meth {pl : Sem Bool} (he : PE X o ta) (c : Cls X.K C) (hm : Meth X.K C m f) (F : FnOk X.prog X.w X.K X.mg X.base CX k f fd ps sp) (hr : Room k X.A) (hb : Binds X.K fd ps ds) (hd : Vals dvs ds) (hx : Passes CX X E) (ha : PA X (e :: es) t)
    (hst : starEach (e :: es) X.env = (false, eval e X.env) :: starEach es X.env := by rfl) (hpl : (backTo pos (starEach es X.env)).any (·.1) = false := by rfl)
    (ht : eval (.Call (.Attribute o m apos) (e :: es) [] pos) X.env = (do
      let ov ← eval o X.env
      standAt apos.atName
      let (f, first) ← holding [ov] (getMethod ov m pl)
      callWith pos f first (backTo pos (starEach (e :: es) X.env)) (backToKw pos (keywordEach [] X.env))) := by rfl) :
    PE X (.Call (.Attribute o m apos) (e :: es) [] pos) (tMeth C m sp dvs E ta t) := by
  intro pins s σ H Q I h
  refine PySem.W.methodCall_KW (pl := pl) (thn (he pins s σ H _ I h) fun u s1 ⟨x, H1, I1, rx, a, dx, fs, ex, ea, l, q⟩ => ?_) ht
  subst ex
  obtain rfl : u = Value.ref a := rx
  refine getmeth_ok I1 ea c hm l ?_
  refine PySem.W.callWith_K (first := [.ref a]) (h₀ := X.base) I.ok.mod.kin hm.kp (thn (ha pos pins s1 σ H1 _ I1 q) fun us s2 ⟨vs, H2, I2, r, q2⟩ => ⟨I2.kIn, ?_⟩) hst hpl
  exact run_fn (us := .ref a :: us) (vs := .ref a :: vs) F hr hb hd hx I2 (.cons rfl r) q2
theorem pe_meth0 {pl : Sem Bool} (he : PE X o ta) (c : Cls X.K C) (hm : Meth X.K C m f) (F : FnOk X.prog X.w X.K X.mg X.base CX k f fd ps sp) (hr : Room k X.A) (hb : Binds X.K fd ps ds) (hd : Vals dvs ds) (hx : Passes CX X E)
    (ht : eval (.Call (.Attribute o m apos) [] [] pos) X.env = (do
      let ov ← eval o X.env
      standAt apos.atName
      let (f, first) ← holding [ov] (getMethod ov m pl)
      callWith pos f first (backTo pos (starEach [] X.env)) (backToKw pos (keywordEach [] X.env))) := by rfl) :
    PE X (.Call (.Attribute o m apos) [] [] pos) (tMeth C m sp dvs E ta tNil) := by
  intro pins s σ H Q I h
  refine PySem.W.methodCall_KW (pl := pl) (thn (he pins s σ H _ I h) fun u s1 ⟨x, H1, I1, rx, a, dx, fs, ex, ea, l, q⟩ => ?_) ht
  subst ex
  obtain rfl : u = Value.ref a := rx
  refine getmeth_ok I1 ea c hm l ?_
  exact PySem.W.callWith_K0 (first := [.ref a]) I1.kIn hm.kp (run_fn (us := [.ref a]) (vs := [.ref a]) F hr hb hd hx I1 (.cons rfl .nil) q)
structure Mk (K : PySem.W.Frag) (C f : Addr) : Prop where
  makes : PySem.W.makesIn K C = true
  init : PySem.W.findIn K (.ref C) "__init__" = some (some (.ref f))
  fn : PySem.W.isFn K (.ref f) = true
  kp : PySem.W.keepIn K (.ref C) = true
theorem run_make {pins : List (Addr × Obj)} {σ : St} {H : Hp} {s : Shared} {Q : VK} {us : List Value} {vs : List V} (M : Mk X.K C f) (F : FnOk X.prog X.w X.K X.mg X.base CX k f fd ps sp) (hr : Room (k + 1) X.A) (hb : Binds X.K fd ps ds) (hd : Vals dvs ds)
    (hx : Passes CX X E) (I : Inv X pins σ H s) (r : Vals vs us)
    (h : ∀ x dx, H x = none → H dx = none → dx ≠ x → sp (.ref x :: (vs ++ dvs)) (upd (upd H dx (.own x)) x (.ins C dx [])) (fun v H2 => v = .non ∧ Q (.ref x) H2) E) :
    wpAny (model X.prog X.w) X.A (call (.ref C) us) (EP X pins σ Q) X.xe s := by
  have hq := h (s.heap.objs.size + 1) s.heap.objs.size (I.hok.fresh (Nat.le_succ _)) (I.hok.fresh (Nat.le_refl _)) (Nat.ne_of_lt (Nat.lt_succ_self _))
  have I2 := Inv.made (C := C) I
  have r2 : Vals (V.ref (s.heap.objs.size + 1) :: (vs ++ dvs)) (Value.ref (s.heap.objs.size + 1) :: (us ++ ds)) := .cons rfl (r.append hd)
  have hl : (Value.ref (s.heap.objs.size + 1) :: us ++ ds).length = ps.length := by
    have e := r2.length
    rw [F.len _ _ _ _ hq] at e
    exact e.symm
  refine wpAny_call (make_map (f := f) I.kIn M.makes M.init (beq_iff_eq.mp M.fn) (codeAny_mono (F.run _ X.stack _ _ ⟨Value.ref (s.heap.objs.size + 1) :: us, []⟩ (Value.ref (s.heap.objs.size + 1) :: (us ++ ds)) _ _ E (hr.make C us [])
    (I2.env0.make C us []) (hb _ (Value.ref (s.heap.objs.size + 1) :: us) I2.kIn hl) r2 hq) fun r s' hq' => ?_))
  cases r with
  | error e => exact hx pins σ _ _ e s' I2 hq'
  | ok fl =>
    cases fl with
    | ret u =>
      obtain ⟨v, H', I3, rv, ev, q3⟩ := I2.after hq'
      subst ev
      exact ⟨rv, ⟨V.ref (s.heap.objs.size + 1), H', I3, rfl, q3⟩⟩
    | next => exact False.elim hq'
    | brk => exact False.elim hq'
    | cont => exact False.elim hq'
theorem pe_make0 (M : Mk X.K C f) (F : FnOk X.prog X.w X.K X.mg X.base CX k f fd ps sp) (hr : Room (k + 1) X.A) (hg : Gl X x) (hm : X.mg x = some (.ref C)) (hb : Binds X.K fd ps ds) (hd : Vals dvs ds) (hx : Passes CX X E)
    (hdb : (x == ("__debug__" : Str)) = false := by decide) : PE X (.Call (.Name x p) [] [] pos) (tMake C sp dvs E tNil) := by
  intro pins s σ H Q I h
  refine wpAny_Call_Name_kw (ld_glob I hg hm ?_ hdb)
  exact PySem.W.callWith_K0 I.kIn M.kp (run_make (us := []) M F hr hb hd hx I .nil h)
end
def PK (X : Cx) (kws : List Keyword) (t : TA) : Prop :=
  ∀ (pos : Pos) (pins : List (Addr × Obj)) (s : Shared) (σ : St) (H : Hp) (Q : List V → Hp → Prop), Inv X pins σ H s → t σ H Q → wpAny (model X.prog X.w) X.A (evalAll ((backToKw pos (keywordEach kws X.env)).map (·.2))) (AP X pins σ Q) X.xe s
section
variable {X : Cx} {CX : CXT} {k : Nat} {f C : Addr} {fd : FuncData} {ps ks : List Str} {sp : Sp} {E : XK} {x m : Str} {p pos apos kpos : Pos} {e o : Expr} {es : List Expr} {kws : List Keyword} {te ta : TE} {t tk : TA} {nm : Option Str}
theorem pk_nil : PK X [] tNil := fun _ _ _ _ H Q I h => wpAny_evalAll_nil ⟨[], H, I, .nil, h⟩
theorem pk_cons (ha : PE X e te) (hr : PK X kws t) : PK X (⟨nm, e, kpos⟩ :: kws) (tCons te t) := by
  intro pos pins s σ H Q I h
  show wpAny _ _ (evalAll ((do let v ← eval e X.env; standAt pos; pure v) :: (backToKw pos (keywordEach kws X.env)).map (·.2))) _ _ s
  refine wpAny_evalAll_cons (wpAny_bind (thn (ha pins s σ H _ I h) fun u s1 ⟨x, H1, I1, r1, q1⟩ => wpAny_bind (wpAny_standAt (wpAny_pure ?_))))
  exact thn (hr pos pins s1 σ H1 _ I1 q1) fun us s2 ⟨xs, H2, I2, r2, q2⟩ => ⟨x :: xs, H2, I2, .cons r1 r2, q2⟩
structure KBinds (K : PySem.W.Frag) (fd : FuncData) (ps ks : List Str) (g : List Value → List Value → List Value) (gV : List V → List V → List V) : Prop where
  to : ∀ (s : Shared) (us ws : List Value), K.In s.heap → (g us ws).length = ps.length → BindsTo s fd ⟨us, ks.zip ws⟩ (ps.zip (g us ws))
  rel : ∀ {vs : List V} {us : List Value} {zs : List V} {ws : List Value}, Vals vs us → Vals zs ws → Vals (gV vs zs) (g us ws)
def tCallK (sp : Sp) (gV : List V → List V → List V) (E : XK) (t tk : TA) : TE := fun σ H Q => t σ H fun vs H1 => tk σ H1 fun zs H2 => sp (gV vs zs) H2 Q E
variable {g : List Value → List Value → List Value} {gV : List V → List V → List V}
end
structure FnScope (N P : List Str) (sc : Scope) : Prop where
  kind : sc.kind = .function
  co : sc.isCoroutine = false
  gen : sc.isGenerator = false
  nd : N.Nodup
  pre : N.take P.length = P
  par : ∀ x ∈ P, sc.names.lookup x = some .local ∨ sc.names.lookup x = some .cell
  nofree : ∀ y ∈ sc.names, y.2 ≠ .free
theorem bindL_out {kindOf : Str → Option NameKind} {x : Str} : ∀ {binds : List (Str × Value)} {m : Str → Option Value}, (∀ v, (x, v) ∉ binds) → bindL kindOf binds m x = m x
  | [], _, _ => rfl
  | (n, v) :: r, m, h => by
    unfold bindL
    rw [bindL_out fun w hw => h w (List.mem_cons_of_mem _ hw)]
    split
    · have : x ≠ n := by rintro rfl; exact h v List.mem_cons_self
      simp [this]
    · rfl
theorem bindC_out {kindOf : Str → Option NameKind} {x : Str} : ∀ {binds : List (Str × Value)} {m : Str → Option Value}, (∀ v, (x, v) ∉ binds) → bindC kindOf binds m x = m x
  | [], _, _ => rfl
  | (n, v) :: r, m, h => by
    unfold bindC
    rw [bindC_out fun w hw => h w (List.mem_cons_of_mem _ hw)]
    split
    · rfl
    · have : x ≠ n := by rintro rfl; exact h v List.mem_cons_self
      simp [this]
theorem bindL_get {kindOf : Str → Option NameKind} {x : Str} {v : Value} : ∀ {P : List Str} {vs : List Value} {i : Nat} {m : Str → Option Value}, P.Nodup → P[i]? = some x → vs[i]? = some v → kindOf x = some .local →
    bindL kindOf (P.zip vs) m x = some v
  | [], _, _, _, _, h, _, _ => by simp at h
  | _ :: _, [], _, _, _, _, h, _ => by simp at h
  | p :: P, w :: vs, 0, m, nd, h1, h2, hk => by
    simp at h1 h2; subst h1; subst h2
    show bindL kindOf ((p, w) :: P.zip vs) m p = _
    unfold bindL
    rw [bindL_out fun v hv => (List.nodup_cons.mp nd).1 (List.of_mem_zip hv).1, if_pos hk]
    simp
  | p :: P, w :: vs, i + 1, m, nd, h1, h2, hk => by
    show bindL kindOf ((p, w) :: P.zip vs) m x = _
    unfold bindL
    exact bindL_get (i := i) (List.nodup_cons.mp nd).2 (by simpa using h1) (by simpa using h2) hk
theorem bindC_get {kindOf : Str → Option NameKind} {x : Str} {v : Value} : ∀ {P : List Str} {vs : List Value} {i : Nat} {m : Str → Option Value}, P.Nodup → P[i]? = some x → vs[i]? = some v → kindOf x ≠ some .local →
    bindC kindOf (P.zip vs) m x = some v
  | [], _, _, _, _, h, _, _ => by simp at h
  | _ :: _, [], _, _, _, _, h, _ => by simp at h
  | p :: P, w :: vs, 0, m, nd, h1, h2, hk => by
    simp at h1 h2; subst h1; subst h2
    show bindC kindOf ((p, w) :: P.zip vs) m p = _
    unfold bindC
    rw [bindC_out fun v hv => (List.nodup_cons.mp nd).1 (List.of_mem_zip hv).1, if_neg hk]
    simp
  | p :: P, w :: vs, i + 1, m, nd, h1, h2, hk => by
    show bindC kindOf ((p, w) :: P.zip vs) m x = _
    unfold bindC
    exact bindC_get (i := i) (List.nodup_cons.mp nd).2 (by simpa using h1) (by simpa using h2) hk
def start (N : List Str) (vs : List V) : St := vs.map some ++ List.replicate (N.length - vs.length) none
def cxOf (CX : CXT) (P : Program) (w : World) (K : PySem.W.Frag) (mg : Str → Option Value) (base : Heap) (N : List Str) (qual : Str) (scope : Scope) (f : Addr) (cd : Value) (A : Around) (outer : List Env) (s : Shared) (H : Hp) (E : XK) : Cx where
  prog := P
  w := w
  K := K
  mg := mg
  base := base
  A := A.deeper (envOfC qual scope s.heap.objs.size f cd)
  N := N
  s₀ := s
  H₀ := H
  env := envOfC qual scope s.heap.objs.size f cd
  outer := outer
  stack := envOfC qual scope s.heap.objs.size f cd :: outer
  ex := []
  calm := true
  fn := fun _ => true
  pn := []
  xe := fun e s' => wpAny (model P w) (A.deeper (envOfC qual scope s.heap.objs.size f cd)) (leaving (envOfC qual scope s.heap.objs.size f cd) e) (fun _ s'' => CX outer H s E e s'') (fun e' s'' => CX outer H s E e' s'') s'
theorem cell_has {sc : Scope} {n : Nat} {x : Str} (h : sc.names.lookup x = some .cell) : ∃ c, (cellsFrom n sc.names []).lookup x = some c := by
  have q := PySem.W.cellsFrom_some sc.names n [] (.inl h)
  exact Option.isSome_iff_exists.mp q
theorem inv_start {CX : CXT} {P : Program} {w : World} {K : PySem.W.Frag} {mg : Str → Option Value} {base : Heap} {N ps : List Str} {qual : Str} {scope : Scope} {f : Addr} {cd : Value} {A : Around} {outer : List Env} {s s1 : Shared} {H : Hp} {E : XK} {us : List Value} {vs : List V}
    (S : FnScope N ps scope) (hd : A.handled = none) (e0 : Env0 P w K mg base A outer s H) (hl : vs.length = ps.length) (r : Vals vs us)
    (x : InCallC s s.heap.objs.size (bindL (envOfC qual scope s.heap.objs.size f cd).kindOf (ps.zip us) fun _ => none) (cellsFrom (s.heap.objs.size + 1) scope.names []) (bindC (envOfC qual scope s.heap.objs.size f cd).kindOf (ps.zip us) fun _ => none) s1) :
    Inv (cxOf CX P w K mg base N qual scope f cd A outer s H E) [] (start N vs) H s1 := by
  have hpl : ps.length ≤ N.length := by have := congrArg List.length S.pre; rw [List.length_take] at this; omega
  obtain ⟨h1, tk, rfl, hk⟩ := x.done
  have noA : ∀ b : Addr, b ∉ (cxOf CX P w K mg base N qual scope f cd A outer s H E).ex := fun b z => absurd (show b ∈ ([] : List Addr) from z) (by simp)
  refine ⟨⟨e0.mod, S.kind, rfl, rfl, Nat.le_refl _, fun y z c h1 h2 => ?_, fun y hy => ?_, fun y c _ h => ?_, fun _ => hd, Around.frames_deeper e0.frames, .inr ⟨rfl, rfl⟩, fun b z => absurd z (noA b), e0.bs, e0.bsz, fun b _ _ => noA b, fun b z => absurd z (noA b), e0.funs, e0.frf⟩,
    rfl, e0.bare, Un.kept hk, ⟨_, x.toInCall.ns, fun i y v h1 h2 h3 => ?_⟩, fun y c h => ⟨_, x.cell y c h⟩, e0.hok.fresh (Nat.le_refl _), fun y c h => ?_, fun p hp => absurd (show p ∈ ([] : List (Addr × Obj)) from hp) (by simp), e0.hok.kept hk, ?_⟩
  · exact name_of_addr x.apart (PySem.mem_of_lookup h1) (PySem.mem_of_lookup h2)
  · have hy : scope.names.lookup y = some .cell ∨ scope.names.lookup y = some .free := hy
    rcases hy with hy | hy
    · exact cell_has hy
    · exact absurd rfl (S.nofree _ (PySem.mem_of_lookup hy))
  · exact Nat.le_of_lt (x.above y c (PySem.mem_of_lookup h))
  · have hi : i < vs.length := by
      unfold start at h2
      by_cases hi : i < vs.length
      · exact hi
      · rw [List.getElem?_append_right (by simpa using hi)] at h2
        rw [List.getElem?_replicate] at h2
        split at h2 <;> cases h2
    have ha : vs[i]? = some v := by
      unfold start at h2
      rw [List.getElem?_append_left (by simpa using hi), List.getElem?_map] at h2
      cases e : vs[i]? with
      | none => rw [e] at h2; cases h2
      | some a => rw [e] at h2; cases h2; rfl
    obtain ⟨u, hu, rv⟩ := r.get ha
    have hp : ps[i]? = some y := by
      rw [← S.pre, List.getElem?_take_of_lt (by omega)]; exact h1
    have ndP : ps.Nodup := by rw [← S.pre]; exact S.nd.sublist (List.take_sublist _ _)
    refine ⟨u, rv, ?_⟩
    rcases S.par y (List.mem_of_getElem? hp) with k | k
    · exact .inl ⟨k, bindL_get ndP hp hu k⟩
    · obtain ⟨c, e⟩ := cell_has (n := s.heap.objs.size + 1) k
      refine .inr ⟨.inl k, c, e, ?_⟩
      have q := x.cell y c e
      rw [bindC_get ndP hp hu (by show scope.names.lookup y ≠ _; rw [k]; decide)] at q
      exact q
  · exact e0.hok.fresh (Nat.le_of_lt (x.above y c (PySem.mem_of_lookup h)))
  · unfold start
    show _ = N.length
    rw [List.length_append, List.length_map, List.length_replicate]
    omega
theorem fn_of {CX : CXT} {P : Program} {w : World} {K : PySem.W.Frag} {mg : Str → Option Value} {base : Heap} {k : Nat} {f : Addr} {name qual : Str} {params : Arguments} {body : List Stmt} {scope : Scope} {dV kV doc pm cdv ct oc : Value} {an od : Option Addr}
    {osl : Array (Option Value)} {N ps : List Str} {sp : Sp} (lk : K.lookup f = some ⟨oc, od, .func (PySem.W.fnOf name qual params body scope dV kV doc pm an cdv ct), osl⟩) (hcd : PySem.W.codeIn K cdv qual = true) (S : FnScope N ps scope)
    (len : ∀ vs H Q E, sp vs H Q E → vs.length = ps.length)
    (hbody : ∀ (A : Around) (outer : List Env) (s : Shared) (H : Hp) (vs : List V) (Q : VK) (E : XK), Room k (A.deeper (envOfC qual scope s.heap.objs.size f cdv)) → sp vs H Q E →
      ∃ t, PSs (cxOf CX P w K mg base N qual scope f cdv A outer s H E) body t ∧ t { nx := fun _ H' => Q .non H', rt := Q } (start N vs) H) :
    FnOk P w K mg base CX (k + 1) f (PySem.W.fnOf name qual params body scope dV kV doc pm an cdv ct) ps sp := by
  refine ⟨len, fun A outer s H args us vs Q E hr e0 hb r hsp => ?_⟩
  have hl := len _ _ _ _ hsp
  have KX : K.In s.heap := e0.mod.kin.keeps fun b o e => (e0.bs b o e).1
  have lim : s.heap.NoLimit := e0.mod.nolimit.keeps fun b o e => (e0.bs b o e).1
  have hkind : ∀ y ∈ ps.zip us, scope.names.lookup y.1 = some .local ∨ (scope.names.lookup y.1 = some .cell ∧ ((cellsFrom (s.heap.objs.size + 1) scope.names []).lookup y.1).isSome = true) := fun ⟨n, v⟩ hy => by
    rcases S.par n (List.of_mem_zip hy).1 with q | q
    · exact .inl q
    · exact .inr ⟨q, PySem.W.cellsFrom_some _ _ _ (.inl q)⟩
  refine codeAny_call_function hr.depth (KX _ _ lk) rfl S.co S.gen rfl (PySem.W.codeRec_of KX hcd) (hb _ _ _ _ ?_)
  refine wpAny_newFunctionEnv_cells S.kind hkind fun env he s1 x => ?_
  subst he
  refine ⟨lim.keeps x.toInCall.keep, codeAny_func ?_⟩
  obtain ⟨t, ht, hq⟩ := hbody A outer s H vs Q E (hr.deeper _) hsp
  have I : Inv (cxOf CX P w K mg base N qual scope f cdv A outer s H E) [] (start N vs) H s1 := inv_start S hr.hd e0 hl r x
  refine wpAny_mono (ht [] s1 (start N vs) H _ I hq) (fun fl s' hs => ?_) fun e s' hs => hs
  have fin : ∀ {σ' : St} {H' : Hp} {v : V} {u : Value}, Inv (cxOf CX P w K mg base N qual scope f cdv A outer s H E) [] σ' H' s' → RelV v u → Q v H' → CE outer P w H s Q u s' :=
    fun {σ' H' v u} J rv q => ⟨v, H', J.os, J.bare, J.base, J.hok, rv, q⟩
  cases fl with
  | ret u =>
    obtain ⟨v, σ', H', J, rv, q⟩ := hs
    exact fin J rv q
  | next =>
    obtain ⟨σ', H', J, q⟩ := hs
    exact fin (v := V.non) (u := Value.none) J rfl q
  | brk =>
    obtain ⟨_, _, _, q⟩ := hs
    exact False.elim q
  | cont =>
    obtain ⟨_, _, _, q⟩ := hs
    exact False.elim q
end L2
namespace L2
open PySem PySem.Spec PyProof.Rows
section
variable {X : Cx} {x : Str} {p pos : Pos} {e : Expr} {es : List Expr} {t : TA} {id T : String} {r : List V → Hp → VK → Prop}
def tCB (r : List V → Hp → VK → Prop) (t : TA) : TE := fun σ H Q => t σ H fun vs H1 => r vs H1 Q
theorem pe_callB (hc : CallR X (.builtin id) r) (hg : Gl X x) (hm : X.mg x = none) (hv : bootBuiltins x = some (.builtin id)) (ha : PA X (e :: es) t) (hn : x ≠ "__name__" := by decide) (hdb : (x == ("__debug__" : Str)) = false := by decide)
    (he : starEach (e :: es) X.env = (false, eval e X.env) :: starEach es X.env := by rfl) (hpl : (backTo pos (starEach es X.env)).any (·.1) = false := by rfl) : PE X (.Call (.Name x p) (e :: es) [] pos) (tCB r t) := by
  intro pins s σ H Q I h
  refine wpAny_Call_Name_kw (ld_blt I hg hm hv ?_ hn hdb)
  exact PyProof.Rows.callWith_builtin1 (thn (ha pos pins s σ H _ I h) fun us s1 ⟨vs, H1, I1, r1, q1⟩ => hc pins s1 σ H1 vs us Q I1 r1 q1) he hpl
theorem pe_callTy (hc : CallR X (.type T) r) (hg : Gl X x) (hm : X.mg x = none) (hv : bootBuiltins x = some (.type T)) (ha : PA X (e :: es) t) (hn : x ≠ "__name__" := by decide) (hdb : (x == ("__debug__" : Str)) = false := by decide)
    (he : starEach (e :: es) X.env = (false, eval e X.env) :: starEach es X.env := by rfl) (hpl : (backTo pos (starEach es X.env)).any (·.1) = false := by rfl) : PE X (.Call (.Name x p) (e :: es) [] pos) (tCB r t) := by
  intro pins s σ H Q I h
  refine wpAny_Call_Name_kw (ld_blt I hg hm hv ?_ hn hdb)
  exact PyProof.Rows.callWith_type1 (thn (ha pos pins s σ H _ I h) fun us s1 ⟨vs, H1, I1, r1, q1⟩ => hc pins s1 σ H1 vs us Q I1 r1 q1) he hpl
end
end L2
namespace HT
open PySem PyProof.Rows
def lexLt : List Int → List Int → Bool
  | [], [] => false
  | [], _ :: _ => true
  | _ :: _, [] => false
  | x :: xs, y :: ys => if x = y then lexLt xs ys else decide (x < y)
section
open PySem.SeqAt
open PySem.AutoSeq1 (wpAny_loadPart')
open PySem.MeetsSeq PySem.MeetsSeq2 PySem.MeetsSeq3
end
section
variable {prog : Program} {w : World} {A : Around} {E : Value → Shared → Prop} {s : Shared}
def sIx (n d : Nat) : Option Int → Nat
  | none => d
  | some v => if v < 0 then (v + (n : Int)).toNat else min v.toNat n
end
end HT
namespace L2
open PySem PySem.Spec PyProof.Rows
abbrev TO := St → Hp → (Option Int → Hp → Prop) → Prop
def PO (X : Cx) (e : Option Expr) (t : TO) : Prop :=
  ∀ (pins : List (Addr × Obj)) (s : Shared) (σ : St) (H : Hp) (Q : Option Int → Hp → Prop), Inv X pins σ H s → t σ H Q →
    wpAny (model X.prog X.w) X.A (evalPart e X.env) (fun u s' => ∃ o H', Inv X pins σ H' s' ∧ IsPart u o ∧ Q o H') X.xe s
def tNoPart : TO := fun _ H Q => Q none H
def tPart (t : TE) : TO := fun σ H Q => t σ H fun x H1 => ∃ i, x = .int i ∧ Q (some i) H1
theorem intsAre_of {ns : List Int} : ∀ {us : List Value}, Vals (ns.map V.int) us → IntsAre us ns := by
  induction ns with
  | nil => intro us r; rw [List.map_nil] at r; cases r; exact .nil
  | cons n ns ih =>
    intro us r
    rw [List.map_cons] at r
    cases r with
    | cons r1 r2 =>
      obtain ⟨t, e⟩ := r1
      subst e
      exact .cons n t (ih r2)
section
variable {X : Cx} {e : Expr} {te : TE} {lo hi : Option Expr} {tl th : TO} {pos p2 : Pos}
def SlR (X : Cx) (r : V → Option Int → Option Int → Hp → VK → Prop) : Prop :=
  ∀ (pins : List (Addr × Obj)) (s : Shared) (σ : St) (H : Hp) (x : V) (v vl vu : Value) (lo hi : Option Int) (sl : Addr) (Q : VK), Inv X pins σ H s → RelV x v → s.heap.IsSliceOf sl vl vu .none → IsPart vl lo → IsPart vu hi → r x lo hi H Q →
    ∃ T id, typeLookup (.type T) "__getitem__" = pure (some (.builtin id)) ∧ s.TypeIs v T ∧ wpAny (model X.prog X.w) X.A (getItem v (.ref sl)) (EP X pins σ Q) X.xe s
def tSl (r : V → Option Int → Option Int → Hp → VK → Prop) (te : TE) (tl th : TO) : TE := fun σ H Q => te σ H fun x H1 => tl σ H1 fun l H2 => th σ H2 fun u H3 => r x l u H3 Q
def cutV (xs : List V) (lo hi : Option Int) : List V := (xs.drop (HT.sIx xs.length 0 lo)).take (HT.sIx xs.length xs.length hi - HT.sIx xs.length 0 lo)
def rSlT (K : PySem.W.Frag) : V → Option Int → Option Int → Hp → VK → Prop := fun x lo hi H Q => ∃ a xs, x = .ref a ∧ SqT K H a xs ∧
  ¬ (HT.sIx xs.length 0 lo = 0 ∧ HT.sIx xs.length xs.length hi = xs.length) ∧ ∀ p, H p = none → Q (.ref p) (upd H p (.tup (cutV xs lo hi)))
def rLtT (K : PySem.W.Frag) : R2 := fun x y H Q => ∃ a b ns ms, x = .ref a ∧ y = .ref b ∧ SqT K H a (ns.map V.int) ∧ SqT K H b (ms.map V.int) ∧ Q (.bl (HT.lexLt ns ms)) H
def rCatT (K : PySem.W.Frag) : R2 := fun x y H Q => ∃ a b xs ys, x = .ref a ∧ y = .ref b ∧ SqT K H a xs ∧ SqT K H b ys ∧ xs ≠ [] ∧ xs.length + ys.length ≤ sizeLine ∧
  (ys = [] → Q (.ref a) H) ∧ (ys ≠ [] → ∀ p, H p = none → Q (.ref p) (upd H p (.tup (xs ++ ys))))
end
end L2
namespace L2
open PySem PySem.Spec PyProof.Rows
def ixN (n : Nat) (i : Int) : Option Nat := if 0 ≤ i then (if i < n then some i.toNat else none) else if -(n : Int) ≤ i then some (i + n).toNat else none
def atI {α : Type} (xs : List α) (i : Int) : Option α := (ixN xs.length i).bind fun j => xs[j]?
theorem ixN_seq {n : Nat} {i : Int} {j : Nat} (h : ixN n i = some j) : seqIndex? i n = some j ∧ j < n ∧ -(n : Int) ≤ i ∧ i < n := by
  unfold ixN at h
  by_cases h0 : 0 ≤ i
  · rw [if_pos h0] at h
    by_cases h1 : i < n
    · rw [if_pos h1] at h
      have e : i.toNat = j := Option.some.inj h
      exact ⟨by rw [seqIndex_of h0 h1, e], by omega, by omega, h1⟩
    · rw [if_neg h1] at h; cases h
  · rw [if_neg h0] at h
    by_cases h1 : -(n : Int) ≤ i
    · rw [if_pos h1] at h
      have e : (i + n).toNat = j := Option.some.inj h
      exact ⟨by rw [seqIndex_neg (by omega) h1, e], by omega, h1, by omega⟩
    · rw [if_neg h1] at h; cases h
theorem atI_get {α : Type} {xs : List α} {i : Int} {v : α} (h : atI xs i = some v) : ∃ j, seqIndex? i xs.length = some j ∧ xs[j]? = some v ∧ j < xs.length ∧ -(xs.length : Int) ≤ i ∧ i < xs.length := by
  unfold atI at h
  cases e : ixN xs.length i with
  | none => rw [e] at h; cases h
  | some j =>
    rw [e] at h
    obtain ⟨h1, h2, h3, h4⟩ := ixN_seq e
    exact ⟨j, h1, h, h2, h3, h4⟩
theorem atI_nat {α : Type} {xs : List α} {j : Nat} {v : α} (h : xs[j]? = some v) : atI xs (j : Int) = some v := by
  have hj : j < xs.length := (List.getElem?_eq_some_iff.mp h).1
  have e : ixN xs.length (j : Int) = some j := by
    unfold ixN
    rw [if_pos (by omega), if_pos (by omega)]; simp
  unfold atI; rw [e]; exact h
def PlainIx (b : Expr) : Prop := ∀ o i, subscripted b false o i = operate [o, i] (getItem o i)
def IxR (X : Cx) (r : R2) : Prop :=
  ∀ (value slice : Expr) (pins : List (Addr × Obj)) (s : Shared) (σ : St) (H : Hp) (x y : V) (v u : Value) (Q : VK), Inv X pins σ H s → RelV x v → RelV y u → r x y H Q →
    subscripted slice false v u = operate [v, u] (getItem v u) → wpAny (model X.prog X.w) X.A (subscriptTail value slice v u) (EP X pins σ Q) X.xe s
def MtR (X : Cx) (id : String) (r : V → List V → Hp → VK → Prop) : Prop :=
  ∀ (pins : List (Addr × Obj)) (s : Shared) (σ : St) (H : Hp) (x : V) (xs : List V) (v : Value) (us : List Value) (Q : VK), Inv X pins σ H s → RelV x v → Vals xs us → r x xs H Q →
    wpAny (model X.prog X.w) X.A (call (.builtin id) (v :: us)) (EP X pins σ Q) X.xe s
section
variable {X : Cx} {a b : Expr} {ta tb : TE} {pos : Pos}
theorem pe_ix {r : R2} (hr : IxR X r) (ha : PE X a ta) (hb : PE X b tb) (hs : PlainIx b) : PE X (.Subscript a b pos) (tOp r ta tb) := by
  intro pins s σ H Q I h
  exact Subscript_ (binT ha hb I h fun v u s2 x y H2 I2 rx ry q => hr a b pins s2 σ H2 x y v u Q I2 rx ry q (hs _ _))
def rIxL (K : PySem.W.Frag) : R2 := fun x y H Q => ∃ p xs i v, x = .ref p ∧ y = .int i ∧ SqL K H p xs ∧ atI xs i = some v ∧ Q v H
def rIxT (K : PySem.W.Frag) : R2 := fun x y H Q => ∃ p xs i v, x = .ref p ∧ y = .int i ∧ SqT K H p xs ∧ atI xs i = some v ∧ Q v H
def rIxS : R2 := fun x y H Q => ∃ z i c, x = .str z ∧ y = .int i ∧ z.length ≤ sizeLine ∧ atI z.cps.toList i = some c ∧ Q (.str ⟨#[c]⟩) H
theorem ix_list : IxR X (rIxL X.K) := by
  intro value slice pins s σ H x y v u Q I rx ry h hs
  obtain ⟨p, xs, i, z, rfl, rfl, hq, he, q⟩ := h
  cases rx
  obtain ⟨t, rfl⟩ := ry
  obtain ⟨its, r, pl, hz⟩ := I.list hq
  obtain ⟨j, h1, h2, h3, h4, h5⟩ := atI_get he
  obtain ⟨w, ew, rw'⟩ := r.get h2
  have hl := r.length
  have hn := line63
  have fin : EP X pins σ Q w s := ⟨z, H, I, rw', q⟩
  by_cases h0 : 0 ≤ i
  · have hj : i.toNat = j := by
      rw [seqIndex_of h0 h5] at h1
      exact Option.some.inj h1
    exact item_listR pl.isList h0 (by omega) (by rw [hj]; simpa using ew) fin hs
  · have hj : (i + (its.toArray.size : Int)).toNat = j := by
      rw [seqIndex_neg (by omega) h4] at h1
      rw [List.size_toArray, ← hl]
      exact Option.some.inj h1
    exact subscriptTail_builtinR (x := w) pl.isList.typeIs slot_list_getitem.lookup
      (wpAny_getItem_list_neg (Q := fun r s' => r = w ∧ EP X pins σ Q r s') pl.isList (by omega) (by rw [List.size_toArray] <;> omega) (by omega) (by rw [hj]; simpa using ew) ⟨rfl, fin⟩) hs
theorem ix_tup : IxR X (rIxT X.K) := by
  intro value slice pins s σ H x y v u Q I rx ry h hs
  obtain ⟨p, xs, i, z, rfl, rfl, hq, he, q⟩ := h
  cases rx
  obtain ⟨t, rfl⟩ := ry
  obtain ⟨its, r, pl, hz⟩ := I.tuple hq
  obtain ⟨j, h1, h2, h3, h4, h5⟩ := atI_get he
  obtain ⟨w, ew, rw'⟩ := r.get h2
  have hl := r.length
  have hn := line63
  have fin : EP X pins σ Q w s := ⟨z, H, I, rw', q⟩
  exact subscriptTail_builtinR (x := w) pl.typeIs slot_tuple_getitem.lookup
    (getItem_tuple (j := j) (Q := fun r s' => r = w ∧ EP X pins σ Q r s') pl (by omega) (by omega) (by rw [List.size_toArray, ← hl]; exact h1) (by simpa using ew) ⟨rfl, fin⟩) hs
theorem ix_str : IxR X rIxS := by
  intro value slice pins s σ H x y v u Q I rx ry h hs
  obtain ⟨z, i, c, rfl, rfl, hz, he, q⟩ := h
  obtain ⟨t, rfl⟩ := rx
  obtain ⟨t', rfl⟩ := ry
  obtain ⟨j, h1, h2, h3, h4, h5⟩ := atI_get he
  have hl : z.cps.toList.length = z.length := by simp [Str.length]
  rw [hl] at h1 h4 h5
  have hn := line63
  exact tail_any (typeIs_str s z t) slot_str_getitem.lookup (getItem_str (c := c) (by
    have e1 : decide (i < -(2 ^ 63 : Int)) = false := decide_eq_false (by omega)
    have e2 : decide (i ≥ 2 ^ 63) = false := decide_eq_false (by omega)
    rw [e1, e2, Bool.or_false]) (by rw [h1]; simpa using h2) ⟨.str ⟨#[c]⟩, H, I.tok _, ⟨_, rfl⟩, q⟩) hs
def rIx (K : PySem.W.Frag) : R2 := fun x y H Q => rIxL K x y H Q ∨ rIxT K x y H Q ∨ rIxS x y H Q
def rSetL : V → V → V → Hp → (Hp → Prop) → Prop := fun o i v H Q => ∃ p xs k j, o = .ref p ∧ i = .int k ∧ H p = some (.lst xs) ∧ ixN xs.length k = some j ∧ Q (upd H p (.lst (xs.set j v)))
def rSlL (K : PySem.W.Frag) : V → Option Int → Option Int → Hp → VK → Prop := fun x lo hi H Q => ∃ a xs, x = .ref a ∧ SqL K H a xs ∧ ∀ p, H p = none → Q (.ref p) (upd H p (.lst (cutV xs lo hi)))
def flatV : V → Bool
  | .non => true
  | .bl _ => true
  | .int _ => true
  | .str _ => true
  | _ => false
def eqV : V → V → Bool
  | .non, .non => true
  | .bl a, .bl b => a == b
  | .bl a, .int b => (if a then 1 else 0) == b
  | .int a, .bl b => a == (if b then 1 else 0)
  | .int a, .int b => a == b
  | .str a, .str b => a == b
  | _, _ => false
def eqU (x : V) (u : Value) : Bool := match u with
  | .none => eqV .non x
  | .bool b => eqV (.bl b) x
  | .int i _ => eqV (.int i) x
  | .str z _ => eqV (.str z) x
  | _ => false
def inV (x : V) (xs : List V) : Bool := xs.any fun y => eqV y x
def rIn (K : PySem.W.Frag) (neg : Bool) : R2 := fun x y H Q => ∃ p xs, y = .ref p ∧ (SqL K H p xs ∨ SqT K H p xs) ∧ flatV x = true ∧ xs.all flatV = true ∧ Q (.bl (if neg then !inV x xs else inV x xs)) H
theorem call_len_seq : CallR X (.builtin "len") (fun xs H Q => ∃ p ys, xs = [.ref p] ∧ (SqL X.K H p ys ∨ SqT X.K H p ys) ∧ Q (.int ys.length) H) := by
  intro pins s σ H xs us Q I r h
  obtain ⟨p, ys, rfl, hq, q⟩ := h
  obtain ⟨u, rfl, rx⟩ := vals1 r
  cases rx
  have hn := line63
  rcases hq with hq | hq
  · obtain ⟨its, r', pl, hz⟩ := I.list hq
    have hlen := r'.length
    exact Calls.call_len_list pl.isList (by simp only [List.size_toArray] <;> omega) ⟨.int ys.length, H, I.tok _, ⟨s.toks + 1, by rw [List.size_toArray, hlen]⟩, q⟩
  · obtain ⟨its, r', pl, hz⟩ := I.tuple hq
    have hlen := r'.length
    exact len_tuple pl (by simp only [List.size_toArray] <;> omega) ⟨.int ys.length, H, I.tok _, ⟨s.toks + 1, by rw [List.size_toArray, hlen]⟩, q⟩
theorem call_list_of : CallR X (.type "list") (fun xs H Q => ∃ p ys, xs = [.ref p] ∧ (SqL X.K H p ys ∨ SqT X.K H p ys) ∧ ∀ l, H l = none → Q (.ref l) (upd H l (.lst ys))) := by
  intro pins s σ H xs us Q I r h
  obtain ⟨p, ys, rfl, hq, q⟩ := h
  obtain ⟨u, rfl, rx⟩ := vals1 r
  cases rx
  have fin : ∀ (its : List Value), Vals ys its → ys.length ≤ sizeLine → ∀ (h' : Heap) (c' : Nat), (∀ b o', s.heap.get? b = some o' → h'.get? b = some o') →
      h'.get? s.heap.objs.size = some { cls := .type "list", dict := none, data := .seq its.toArray c', slots := #[] } → EP X pins σ Q (.ref s.heap.objs.size) { s with heap := h' } := fun its r' hz h' c' kp e =>
    ⟨.ref s.heap.objs.size, _, I.laid (t' := s.toks) kp (Nat.le_refl _) (show ObjOk X.prog X.w _ h' _ (.lst ys) from ⟨hz, its, c', r', e⟩), rfl, q _ (I.hok.fresh (Nat.le_refl _))⟩
  rcases hq with hq | hq
  · obtain ⟨its, r', pl, hz⟩ := I.list hq
    have hlen := r'.length
    obtain ⟨o, ho, hc, n, hd⟩ := pl.isList
    exact call_list_seq p (.inl rfl) ho hc hd (fun h' c' kp e => fin its r' hz h' c' kp e) (by simp only [List.size_toArray] <;> omega)
  · obtain ⟨its, r', pl, hz⟩ := I.tuple hq
    have hlen := r'.length
    obtain ⟨o, ho, hc, n, hd⟩ := pl
    exact call_list_seq p (.inr rfl) ho hc hd (fun h' c' kp e => fin its r' hz h' c' kp e) (by simp only [List.size_toArray] <;> omega)
theorem call_tuple_of : CallR X (.type "tuple") (fun xs H Q => ∃ p ys, xs = [.ref p] ∧ ((SqL X.K H p ys ∧ ∀ l, H l = none → Q (.ref l) (upd H l (.tup ys))) ∨ (SqT X.K H p ys ∧ Q (.ref p) H))) := by
  intro pins s σ H xs us Q I r h
  obtain ⟨p, ys, rfl, h⟩ := h
  obtain ⟨u, rfl, rx⟩ := vals1 r
  cases rx
  rcases h with ⟨hq, q⟩ | ⟨hq, q⟩
  · obtain ⟨its, r', pl, hz⟩ := I.list hq
    have hlen := r'.length
    refine call_tuple_list pl.isList (fun h' kp => ?_) (by simp only [List.size_toArray] <;> omega)
    have I1 : Inv X pins σ H { s with heap := h' } := I.kept (t' := s.toks) kp
    have I2 : Inv X pins σ (upd H h'.objs.size (.tup ys)) { s with heap := h'.push { cls := .type "tuple", data := .seq its.toArray } } :=
      I1.laid (t' := s.toks) (fun b o e => Heap.get?_push_of_some _ e) (Nat.le_refl _) (show ObjOk X.prog X.w _ _ _ (.tup ys) from ⟨hz, its, r', IsTup.new _ _⟩)
    exact ⟨.ref h'.objs.size, _, I2, rfl, q _ (I1.hok.fresh (Nat.le_refl _))⟩
  · obtain ⟨its, r', pl, hz⟩ := I.tuple hq
    exact call_tuple_same pl ⟨.ref p, H, I, rfl, q⟩
def tyV (K : PySem.W.Frag) (T : String) (x : V) (H : Hp) : Prop := match x with
  | .str _ => T = "str"
  | .int _ => T = "int"
  | .ref p => (T = "list" ∧ ∃ xs, SqL K H p xs) ∨ (T = "tuple" ∧ ∃ o, K.lookup p = some o ∧ o.cls = .type "tuple" ∧ o.dict = none) ∨
      (T = "dict" ∧ ((∃ kvs, H p = some (.dK kvs)) ∨ ∃ kvs, H p = some (.dT kvs))) ∨ (T = "set" ∧ ∃ S n, H p = some (.set S n))
  | _ => False
theorem tyV_is {pins : List (Addr × Obj)} {σ : St} {H : Hp} {s : Shared} {T : String} {x : V} {v : Value} (I : Inv X pins σ H s) (r : RelV x v) (ty : tyV X.K T x H) :
    s.TypeIs v T ∧ ∀ a, v = .ref a → ∃ ob, s.heap.get? a = some ob ∧ ob.dict = none := by
  cases x with
  | str z =>
    obtain ⟨t, rfl⟩ := r
    cases (show T = "str" from ty)
    exact ⟨typeIs_str s z t, fun _ e => nomatch e⟩
  | int i =>
    obtain ⟨t, rfl⟩ := r
    cases (show T = "int" from ty)
    exact ⟨typeIs_int s i t, fun _ e => nomatch e⟩
  | ref p =>
    cases r
    rcases ty with ⟨rfl, xs, hq⟩ | ⟨rfl, o, hk, hc, hd⟩ | ⟨rfl, hk⟩ | ⟨rfl, S, n, hk⟩
    · obtain ⟨its, _, pl, _⟩ := I.list hq
      refine ⟨pl.isList.typeIs, fun a e => ?_⟩
      cases e
      obtain ⟨o, n, e, c, hd, _⟩ := pl
      exact ⟨o, e, hd⟩
    · refine ⟨⟨o, I.kIn p o hk, hc⟩, fun a e => ?_⟩
      cases e
      exact ⟨o, I.kIn _ o hk, hd⟩
    · have z : ∃ o, s.heap.get? p = some o ∧ o.ExactDict := by
        rcases hk with ⟨kvs, hk⟩ | ⟨kvs, hk⟩
        · obtain ⟨_, _, _, _, o, _, _, e, ex, _⟩ := I.hok p _ hk
          exact ⟨o, e, ex⟩
        · obtain ⟨_, _, _, _, o, _, _, e, ex, _⟩ := I.hok p _ hk
          exact ⟨o, e, ex⟩
      obtain ⟨o, e, ex⟩ := z
      refine ⟨⟨o, e, ex.1⟩, fun a e2 => ?_⟩
      cases e2
      exact ⟨o, e, ex.2.1⟩
    · obtain ⟨o, _, _, _, e, ex, _⟩ := I.hok p _ hk
      refine ⟨⟨o, e, ex.1⟩, fun a e2 => ?_⟩
      cases e2
      exact ⟨o, e, ex.2.1⟩
  | _ => exact False.elim ty
def tBM0 (K : PySem.W.Frag) (T : String) (r : V → List V → Hp → VK → Prop) (to : TE) : TE := fun σ H Q => to σ H fun x H1 => tyV K T x H1 ∧ r x [] H1 Q
def tBM (K : PySem.W.Frag) (T : String) (r : V → List V → Hp → VK → Prop) (to : TE) (t : TA) : TE := fun σ H Q => to σ H fun x H1 => tyV K T x H1 ∧ t σ H1 fun xs H2 => r x xs H2 Q
variable {o e : Expr} {es : List Expr} {to : TE} {t : TA} {name : Str} {apos cpos : Pos} {T id : String} {r : V → List V → Hp → VK → Prop}
theorem pe_bm0 (pa : PlainAttrs T) (slot : Slot T name id) (hty : typeOf (.builtin id) = pure (.type "method_descriptor")) (hm : MtR X id r) (ho : PE X o to)
    (hbase : attributeBase o name X.env (eval o X.env) = eval o X.env := by rfl) (hline : (apos.endLine == cpos.line) = true := by rfl) : PE X (.Call (.Attribute o name apos) [] [] cpos) (tBM0 X.K T r to) := by
  intro pins s σ H Q I h
  refine wpAny_Call_method0_late hbase hline (thn (ho pins s σ H _ I h) fun v s1 ⟨x, H1, I1, r1, ty, q1⟩ => ?_)
  obtain ⟨h1, h2⟩ := tyV_is I1 r1 ty
  exact ⟨T, id, pa, slot, hty, h1, h2, Calls.callWith_builtin rfl (PySem.evalArgs_none (hm pins s1 σ H1 x [] v [] Q I1 r1 .nil q1))⟩
theorem pe_bm (pa : PlainAttrs T) (slot : Slot T name id) (hty : typeOf (.builtin id) = pure (.type "method_descriptor")) (hm : MtR X id r) (ho : PE X o to) (ha : PA X (e :: es) t)
    (hbase : attributeBase o name X.env (eval o X.env) = eval o X.env := by rfl)
    (hfew : ((backTo cpos (starEach (e :: es) X.env)).all (fun x => !x.1) && (backToKw cpos (keywordEach [] X.env)).all (fun x => x.1.isSome)
      && decide ((e :: es).length + ([] : List Keyword).length + (if ([] : List Keyword).isEmpty then 0 else 1) < 30)) = true := by rfl)
    (hline : (apos.endLine == cpos.line) = true := by rfl) (hs : starEach (e :: es) X.env = (false, eval e X.env) :: starEach es X.env := by rfl) (hplain : (backTo cpos (starEach es X.env)).any (·.1) = false := by rfl) :
    PE X (.Call (.Attribute o name apos) (e :: es) [] cpos) (tBM X.K T r to t) := by
  intro pins s σ H Q I h
  refine wpAny_Call_method_late hbase hfew hline rfl (thn (ho pins s σ H _ I h) fun v s1 ⟨x, H1, I1, r1, ty, q1⟩ => ?_)
  obtain ⟨h1, h2⟩ := tyV_is I1 r1 ty
  refine ⟨T, id, pa, slot, hty, h1, h2, ?_⟩
  have hA := ha cpos pins s1 σ H1 _ I1 q1
  rw [hs] at hA ⊢
  refine Calls.callWith_builtin (by show (false || (backTo cpos (starEach es X.env)).any (·.1)) = false; rw [hplain] <;> rfl) (Calls.evalArgs_plain ?_)
  exact thn hA fun us s2 ⟨vs, H2, I2, r2, q2⟩ => hm pins s2 σ H2 x vs v us Q I2 r1 r2 q2
/- xs.append(e), list.index on a module's tuple .. are MtR facts of 06m -/
end
end L2
namespace L2
open PySem PySem.Spec PyProof.Rows
def MtM (X : Cx) (id : String) (r : V → List V → Hp → VK → Prop) : Prop :=
  ∀ (pins : List (Addr × Obj)) (s : Shared) (σ : St) (H : Hp) (x : V) (xs : List V) (v : Value) (us : List Value) (Q : VK), Inv X pins σ H s → RelV x v → Vals xs us → r x xs H Q →
    wpAny (model X.prog X.w) X.A (call (.builtin id) (v :: us)) (EP X pins σ Q) X.xe s
theorem Vals.one : ∀ {x : V} {us : List Value}, Vals [x] us → ∃ u, us = [u] ∧ RelV x u
  | _, _, .cons r .nil => ⟨_, rfl, r⟩
theorem Vals.zero : ∀ {us : List Value}, Vals [] us → us = []
  | _, .nil => rfl
theorem Vals.rep {xs : List V} {us : List Value} (h : Vals xs us) : ∀ k : Nat, Vals (List.replicate k xs).flatten (List.replicate k us).flatten
  | 0 => .nil
  | k + 1 => by
    rw [List.replicate_succ, List.replicate_succ, List.flatten_cons, List.flatten_cons]
    exact Vals.append h (Vals.rep h k)
theorem foldl_rep (its : List Value) : ∀ (k : Nat) (acc : List Value),
    List.foldl (fun x1 x2 => x1 ++ x2) acc.toArray (List.replicate k its.toArray) = (acc ++ (List.replicate k its).flatten).toArray
  | 0, acc => by simp
  | k + 1, acc => by
    have e : acc.toArray ++ its.toArray = (acc ++ its).toArray := by simp
    have e2 : (acc ++ its) ++ (List.replicate k its).flatten = acc ++ (List.replicate (k + 1) its).flatten := by
      rw [List.replicate_succ, List.flatten_cons, List.append_assoc]
    rw [← e2, ← foldl_rep its k (acc ++ its), ← e, List.replicate_succ, List.foldl_cons]
section
variable {X : Cx} {pins : List (Addr × Obj)} {σ : St} {H : Hp} {s : Shared} {l b : Addr} {xs ys zs : List V}
theorem Inv.lset {its its' : List Value} {n : Nat} {f : Array Value → Array Value} {t' : Nat} (I : Inv X pins σ H s) (hH : H l = some (.lst xs))
    (e : s.heap.get? l = some { cls := .type "list", data := .seq its.toArray n }) (hf : f its.toArray = its'.toArray) (hv : Vals ys its') (hz : ys.length ≤ sizeLine) :
    Inv X pins σ (upd H l (.lst ys)) { s with heap := s.heap.update l (Obj.mapSeq f), toks := t' } := by
  have q := PySem.IsL.update e f
  rw [hf] at q
  refine I.write (x := l) (e := l) (by rw [hH]; exact trivial) (.inl rfl) (fun b' u hb hu => (Heap.get?_update_other s.heap (Obj.mapSeq f) (Ne.symm hb)).trans hu) ⟨_, q⟩ ?_
  exact ⟨hz, its', _, hv, q⟩
theorem Inv.lnew {its : List Value} {t' : Nat} (I : Inv X pins σ H s) (hv : Vals ys its) (hz : ys.length ≤ sizeLine) :
    Inv X pins σ (upd H s.heap.objs.size (.lst ys)) { s with heap := s.heap.push { cls := .type "list", data := .seq its.toArray }, toks := t' } :=
  I.laid (fun _ _ q => Heap.get?_push_of_some _ q) (Nat.le_refl _) ⟨hz, its, 0, hv, Heap.get?_push_size _ rfl⟩
theorem Inv.fresh (I : Inv X pins σ H s) : H s.heap.objs.size = none := I.hok.fresh (Nat.le_refl _)
theorem Inv.lstM (I : Inv X pins σ H s) (hH : H l = some (.lst xs)) : xs.length ≤ sizeLine ∧ ∃ (its : List Value) (n : Nat), Vals xs its ∧ xs.length = its.length ∧ s.heap.get? l = some { cls := .type "list", data := .seq its.toArray n } := by
  obtain ⟨z, its, n, r, e⟩ := I.hok l _ hH
  exact ⟨z, its, n, r, r.length, e⟩
theorem notLongL {n : Nat} (h : n ≤ sizeLine) : Builtin.List.listTooLong n = false := by
  unfold Builtin.List.listTooLong
  exact decide_eq_false (by omega)
end
section
variable {X : Cx}
def rAppend : V → List V → Hp → VK → Prop := fun x vs H Q => ∃ l xs y, x = .ref l ∧ vs = [y] ∧ H l = some (.lst xs) ∧ xs.length < sizeLine ∧ Q .non (upd H l (.lst (xs ++ [y])))
theorem mt_append : MtM X "list.append" rAppend := by
  intro pins s σ H x vs v us Q I rx rv h
  obtain ⟨l, xs, y, rfl, rfl, hH, hz, q⟩ := h
  cases rx
  obtain ⟨u, rfl, ru⟩ := rv.one
  obtain ⟨z, its, n, r, hl, e⟩ := I.lstM hH
  refine call_meets F.slot_list_append ⟨_, e, rfl⟩ F.entry_list_append (F.args_list_append_2 _ _) (PySem.list_append l its.toArray n u (by rw [List.size_toArray]; omega)) ⟨e, ?_⟩
  refine ⟨.non, _, I.lset (its' := its ++ [u]) hH e (by simp) (r.append (.cons ru .nil)) ?_, rfl, q⟩
  rw [List.length_append, List.length_singleton]
  omega
def rExtend : V → List V → Hp → VK → Prop := fun x vs H Q => ∃ l b xs zs, x = .ref l ∧ vs = [.ref b] ∧ H l = some (.lst xs) ∧ H b = some (.lst zs) ∧ xs.length + zs.length ≤ sizeLine ∧ Q .non (upd H l (.lst (xs ++ zs)))
def rPop : V → List V → Hp → VK → Prop := fun x vs H Q => ∃ l xs y, x = .ref l ∧ vs = [] ∧ H l = some (.lst xs) ∧ xs[xs.length - 1]? = some y ∧ Q y (upd H l (.lst xs.dropLast))
def rPopAt : V → List V → Hp → VK → Prop := fun x vs H Q => ∃ l xs i k y, x = .ref l ∧ vs = [.int i] ∧ H l = some (.lst xs) ∧ -(2 ^ 63) ≤ i ∧ i < 2 ^ 63 ∧ seqIndex? i xs.length = some k ∧ xs[k]? = some y ∧ Q y (upd H l (.lst (xs.eraseIdx k)))
def rReverse : V → List V → Hp → VK → Prop := fun x vs H Q => ∃ l xs, x = .ref l ∧ vs = [] ∧ H l = some (.lst xs) ∧ Q .non (upd H l (.lst xs.reverse))
def rClear : V → List V → Hp → VK → Prop := fun x vs H Q => ∃ l xs, x = .ref l ∧ vs = [] ∧ H l = some (.lst xs) ∧ Q .non (upd H l (.lst []))
theorem mt_clear : MtM X "list.clear" rClear := by
  intro pins s σ H x vs v us Q I rx rv h
  obtain ⟨l, xs, rfl, rfl, hH, q⟩ := h
  cases rx
  have hus := rv.zero
  subst hus
  obtain ⟨z, its, n, r, hl, e⟩ := I.lstM hH
  refine call_meets F.slot_list_clear ⟨_, e, rfl⟩ F.entry_list_clear (F.args_list_clear_1 _) (AutoSeq1.list_clear_list_0 l its.toArray n (by rw [List.size_toArray]; omega)) ⟨e, ?_⟩
  exact ⟨.non, _, I.lset (its' := []) (ys := []) hH e rfl .nil (Nat.zero_le _), rfl, q⟩
def rCat : R2 := fun x y H Q => ∃ l b xs zs, x = .ref l ∧ y = .ref b ∧ H l = some (.lst xs) ∧ H b = some (.lst zs) ∧ xs.length + zs.length ≤ sizeLine ∧ ∀ p, H p = none → Q (.ref p) (upd H p (.lst (xs ++ zs)))
def rRep : R2 := fun x y H Q => ∃ l k xs, x = .ref l ∧ y = .int k ∧ H l = some (.lst xs) ∧ -(2 ^ 63) ≤ k ∧ k < 2 ^ 63 ∧ xs.length * k.toNat ≤ sizeLine ∧
  ∀ p, H p = none → Q (.ref p) (upd H p (.lst (List.replicate k.toNat xs).flatten))
theorem len_rep {α : Type} (xs : List α) (k : Nat) : (List.replicate k xs).flatten.length = k * xs.length := by
  induction k with
  | zero => simp
  | succ k ih => rw [List.replicate_succ, List.flatten_cons, List.length_append, ih, Nat.succ_mul, Nat.add_comm]
theorem op_rep : OpR X (binaryOp .Mult) rRep := by
  intro pins s σ H x y v u Q I rx ry h
  obtain ⟨l, k, xs, rfl, rfl, hH, h1, h2, hz, q⟩ := h
  cases rx
  obtain ⟨t, rfl⟩ := ry
  obtain ⟨z, its, n, r, hl, e⟩ := I.lstM hH
  have hlen : its.toArray.size * k.toNat ≤ sizeLine := by rw [List.size_toArray, ← hl]; exact hz
  have hcap : ¬ its.toArray.size * k.toNat > (2 ^ 63 - 1) / 8 := by
    have : (sizeLine : Nat) ≤ (2 ^ 63 - 1) / 8 := by decide
    omega
  have hfit : ¬ (!Builtin.List.listFitsIndex k) = true := by
    rw [fitsIndex_both h1 h2]
    exact Bool.false_ne_true
  have hlong : ¬ Builtin.List.listTooLong (its.toArray.size * k.toNat) = true := by
    rw [notLongL hlen]
    exact Bool.false_ne_true
  have hnew : List.foldl (fun x1 x2 => x1 ++ x2) #[] (List.replicate (if its.toArray.isEmpty = true then 0 else k.toNat) its.toArray) = (List.replicate k.toNat its).flatten.toArray := by
    have f0 : ∀ m : Nat, List.foldl (fun x1 x2 => x1 ++ x2) #[] (List.replicate m its.toArray) = (List.replicate m its).flatten.toArray := fun m => by
      have := foldl_rep its m []
      rw [List.nil_append] at this
      exact this
    rw [f0]
    cases its with
    | nil => simp
    | cons a r' => rw [if_neg (by simp)]
  refine wpAny_binaryOp_repeat_ref (T := "list") (U := "int") (by decide) ⟨_, e, rfl⟩ (fun s' => typeIs_int s' k t) noFill_list_mul F.fills_int_mul F.slot_int_rmul repeat_list F.slot_int_index.lookup
    (call_meets F.slot_int_rmul (typeIs_int s k t) F.entry_int_rmul (F.args_int_rmul_2 _ _) (int___rmul___int_list k t l its.toArray n)
      ⟨e, rfl, ⟨_, e, rfl⟩, call_meets F.slot_list_mul ⟨_, e, rfl⟩ F.entry_list_mul (F.args_list_mul_2 _ _) (AutoListH.list___mul___list_int_3 l its.toArray n k t hfit hcap hlong) ⟨e, ?_⟩⟩)
  rw [hnew]
  exact ⟨.ref _, _, I.lnew (t' := s.toks) (r.rep k.toNat) (by rw [len_rep, Nat.mul_comm]; exact hz), rfl, q _ I.fresh⟩
end
section
variable {prog : Program} {w : World} {A : Around} {E : Value → Shared → Prop} {s : Shared}
end
section
variable {X : Cx}
end
end L2
namespace Att
open PySem PySem.W PySem.Calls PyProof.Rows
theorem ints_of_wellAll {P : Params} {h : Heap} : ∀ (ns : List Int) (vs : List Value), WellAll P h vs (ns.map WData.int) → IntsAre vs ns := by
  intro ns
  induction ns with
  | nil =>
    intro vs w
    rw [List.map_nil] at w
    cases w
    exact .nil
  | cons n ns ih =>
    intro vs w
    rw [List.map_cons] at w
    cases w with
    | cons a b =>
      cases a
      exact .cons _ _ (ih _ b)
theorem script_of {l : OpenLaw} {n : Nat} (hn : l.most = some n) {P : Params} {h : Heap} {args : List WData} {vals : List Value}
    (hpre : l.row.toRowW.claim.pre args = true) (hwl : WellAll P h vals args) :
    ∃ a vs ns, vals = [Value.ref a] ∧ args = [WData.list (ns.map WData.int)] ∧ h.get? a = some { cls := .type "list", data := .seq vs.toArray } ∧ IntsAre vs ns ∧ ns.length ≤ n := by
  have hsh : WShape.hasAll [] args [.list .int] = true := (pre_splitW hpre).1
  have hc : l.pre.holds [] { args := args } = true := (pre_splitW hpre).2
  obtain ⟨d, r, rfl, h1, h2⟩ := hasAllW_cons hsh
  obtain rfl := hasAllW_nil h2
  obtain ⟨xs, rfl, h3⟩ := hasW_list h1
  obtain ⟨ns, rfl⟩ := items_int h3
  have hlen : ns.length ≤ n := by
    unfold OpenLaw.pre at hc
    have h4 : (WTm.not (.lt (.lit (.int (n : Int))) (.len (.arg 0)))).holds [] { args := [.list (ns.map .int)] } = true := by
      have h4 := (holds_andW hc).1
      rw [hn] at h4
      exact h4
    have h5 := condW_of h4 (w_not (w_lt w_lit (w_len_list (w_arg rfl))))
    rw [List.length_map] at h5
    refine Nat.le_of_not_lt fun q => ?_
    have q' : (n : Int) < ((ns.length : Nat) : Int) := by omega
    first
      | (rw [decide_eq_true q'] at h5; exact absurd h5 (by decide))
      | (simp at h5; omega)
  cases hwl with
  | cons w1 w2 =>
    cases w2
    cases w1 with
    | list ho hall => exact ⟨_, _, ns, rfl, rfl, ho, ints_of_wellAll ns _ hall, hlen⟩
theorem post_true (l : OpenLaw) (args : List WData) : l.row.toRowW.claim.post args (.bool true) args = true :=
  postW_of (r := l.row.toRowW) (X := (true == true))
    (show WShape.has [] (.bool true) .bool = true by first | rfl | decide | simp [WShape.has, WShape.arms, WShape.armsAll])
    (show (WTm.eq .res (.lit (.bool true))).value [] { args := args, res := some (.bool true), after := args } = some (.bool (true == true)) from w_eq_bool (w_res rfl) w_lit) rfl
section
variable {prog : Program} {w : World} {A : Around} {E : Value → Shared → Prop} {s : Shared} {K : Frag}
def noObjs (h : Heap) : Heap := { h with objs := #[] }
def ledger (h : Heap) (L d : Addr) : List (Addr × Obj) := (List.range h.objs.size).filterMap fun a => if a = L ∨ a = d then none else (h.get? a).map fun o => (a, o)
end
end Att
namespace L2
open PySem PySem.Spec PyProof.Rows
theorem vals_ints : ∀ {vs : List Value} {ns : List Int}, IntsAre vs ns → Vals (ns.map V.int) vs
  | _, _, .nil => .nil
  | _, _, .cons n t h => .cons ⟨t, rfl⟩ (vals_ints h)
def Only (H : Hp) : Prop := ∀ b, H b = none ∨ ∃ o xs, H b = some (.frz o (.lst xs))
theorem law_call {P : Program} {w : World} {K : PySem.W.Frag} {mg mb : Str → Option Value} {CX : CXT} {k : Nat} {fa a : Addr} {fd : FuncData} {x : Str} {sp : Sp} {s₁ : Shared} {vs : List Value} {ns : List Int}
    (KX : K.In s₁.heap) (hns : s₁.heap.Ns mainGlobals mg) (hb : s₁.heap.Ns builtinsNs mb) (hbb : ∀ x : Str, x ≠ "__name__" → mb x = bootBuiltins x) (hlim : s₁.heap.NoLimit) (hg : s₁.gens = #[])
    (ha : s₁.heap.get? a = some { cls := .type "list", data := .seq vs.toArray }) (hi : IntsAre vs ns) (hl : ns.length ≤ sizeLine) (hr : Room k callerA)
    (F : ∀ base : Heap, K.In base → base.Ns mainGlobals mg → FnOk P w K mg base CX k fa fd [x] sp) (hbind : ∀ (s : Shared) (u : Value), BindsTo s fd ⟨[u], []⟩ [(x, u)])
    (hsp : ∀ H : Hp, Only H → SqL K H a (ns.map V.int) → sp [.ref a] H (fun v _ => v = .bl true) fun _ _ _ => False)
    (hCX : ∀ H e s', CX [] H s₁ (fun _ _ _ => False) e s' → False) :
    codeAny (model P w) callerA (.call (.ref fa) ⟨[.ref a], []⟩) (fun r s' => r = .ok (.ret (.bool true)) ∧ OldK s₁.heap s'.heap ∧ s'.os = s₁.os ∧ AllBare s'.gens) s₁ := by
  have rv := vals_ints hi
  have lenV := hi.length
  have core : ∀ H : Hp, Only H → SqL K H a (ns.map V.int) → HOk P w H s₁.heap → (∀ b, H b ≠ none → b = a) → (H a ≠ none → K.lookup a = none) →
      codeAny (model P w) callerA (.call (.ref fa) ⟨[.ref a], []⟩) (fun r s' => r = .ok (.ret (.bool true)) ∧ OldK s₁.heap s'.heap ∧ s'.os = s₁.os ∧ AllBare s'.gens) s₁ := by
    intro H hO hS hok hA hK
    have base_of : ∀ {b : Addr} {o : Obj}, s₁.heap.get? b = some o → H b = none → (hidT s₁.heap H).get? b = some o := fun e n => hidT_get e n
    have noA : ∀ {b : Addr} {o : Obj} {es : Array DictEntry} {ep : Nat}, s₁.heap.get? b = some o → o.data = .dict es ep → H b = none := fun {b o es ep} e d => by
      cases q : H b with
      | none => rfl
      | some u =>
        have e' : b = a := hA b (by rw [q]; simp)
        subst e'
        rw [ha] at e; cases e
        have d' : Data.seq vs.toArray _ = Data.dict es ep := d
        cases d'
    have nsK : ∀ {b : Addr} {m : Str → Option Value}, s₁.heap.Ns b m → (hidT s₁.heap H).Ns b m := fun {b m} ⟨o, es, ep, e, d, r⟩ => ⟨o, es, ep, base_of e (noA e d), d, r⟩
    have hKb : K.In (hidT s₁.heap H) := fun b o e => base_of (KX b o e) (by
      cases q : H b with
      | none => rfl
      | some u =>
        have e' : b = a := hA b (by rw [q]; simp)
        subst e'
        rw [hK (by rw [q]; simp)] at e; cases e)
    have hM : Mod K mg (hidT s₁.heap H) := ⟨hKb, nsK hns, ⟨mb, nsK hb, hbb⟩, let ⟨mc, h1, h2⟩ := hlim; ⟨mc, nsK h1, h2⟩⟩
    have e0 : Env0 P w K mg (hidT s₁.heap H) callerA [] s₁ H := ⟨rfl, hM, fun b o e => of_hidT e, Nat.le_of_eq (hidT_size _ _), trivial, fun b hb => absurd (show b ∈ ([] : List Addr) from hb) (by simp), hok, .of_eq hg⟩
    refine codeAny_mono ((F _ hKb (nsK hns)).run callerA [] s₁ H ⟨[.ref a], []⟩ [.ref a] [.ref a] _ _ hr e0 (hbind s₁ (.ref a)) (.cons rfl .nil) (hsp H hO hS)) fun r s' h => ?_
    cases r with
    | error e => exact (hCX H e s' h).elim
    | ok fl =>
      cases fl with
      | next => exact False.elim h
      | brk => exact False.elim h
      | cont => exact False.elim h
      | ret u =>
        obtain ⟨v, H', os, bare, un, hok', r', q⟩ := h
        have q' : v = .bl true := q
        subst q'
        obtain rfl : u = Value.bool true := r'
        refine ⟨rfl, OldK.of_keep fun b o e => ?_, os, bare⟩
        cases q : H b with
        | none => exact un.keep b o e q (by intro z; exact absurd (show b ∈ ([] : List Addr) from z) (by simp)) (by simp)
        | some u =>
          rcases hO b with z | ⟨ob, xs, z⟩
          · rw [q] at z; cases z
          · have z2 := un.frzs b ob _ z
            obtain ⟨e1, _⟩ := hok b _ z
            obtain ⟨e2, _⟩ := hok' b _ z2
            rw [e] at e1; cases e1
            exact e2
  cases hk : K.lookup a with
  | some o =>
    have e := KX a o hk
    rw [ha] at e
    cases e
    refine core (fun _ => none) (fun _ => .inl rfl) (.inr ⟨_, vs.toArray, _, hk, rfl, rfl, rfl, by rw [List.size_toArray, lenV]; exact hl, by simpa using rv⟩) (fun b u z => by have z' : (none : Option HO) = some u := z; cases z') (fun b z => absurd rfl z) fun z => absurd rfl z
  | none =>
    refine core (fun b => if b = a then some (.frz { cls := .type "list", data := .seq vs.toArray } (.lst (ns.map V.int))) else none) (fun b => ?_) (.inl (.inr ⟨{ cls := .type "list", data := .seq vs.toArray }, if_pos rfl⟩)) (fun b u z => ?_) (fun b z => ?_) fun _ => hk
    · by_cases hb : b = a
      · exact .inr ⟨_, _, if_pos hb⟩
      · exact .inl (if_neg hb)
    · by_cases hb : b = a
      · have z' := (if_pos hb).symm.trans z
        cases z'
        subst hb
        exact ⟨ha, by rw [List.length_map]; exact hl, vs, _, rv, ha⟩
      · have z' := (if_neg hb).symm.trans z
        cases z'
    · by_cases hb : b = a
      · exact hb
      · exact absurd (if_neg hb) z
end L2
namespace L2
open PySem PySem.Spec PyProof.Rows
abbrev KOf {K : PySem.W.Frag} {h : Heap} (_ : K.In h) : PySem.W.Frag := K
end L2
/- THE LAST THEOREM (shape; LID, My.* are yours):
   My.Adr: a structure of the addresses that your layer names (classes, functions); My.Txt K t: a structure (Prop) of the equations over K;
   My.txt_mk : {K} {implicit addresses ..} (e1 : nsIn K mainGlobals "law" = some (some (.ref f))) (e2 : K.lookup f = some ⟨oc, od, .func (fnOf "law" "law" params body scope dV kV doc pm an cdv ct), sl⟩) (e3 : codeIn K cdv "law" = true) .. : ∃ t, My.Txt K t
set_option maxRecDepth 100000 in
set_option maxHeartbeats 0 in
theorem PySem.Challenge.cw_LID_holds : PySem.Challenge.rw_LID.Holds := by
  w_on; o_law; k_head; (case hw => w_witness2)
  k_fill
  refine L2.walk_of (l := PySem.Challenge.rw_LID) (n := 63) (k := 40) (x := "script") (CX := fun w => ..) (sp := fun _ => My.sp_law) rfl (by decide) rfl ⟨rfl, by decide, by decide⟩ (fun w h Y => PySem.W.kIn_of Y) ?F ?S ?C
  case F =>
    intro w mg fa h KX G hmg
    have T : ∃ t, My.Txt (L2.KOf KX) t := by
      dsimp only [L2.KOf]                          -- K must stand as «<heap const> w.params» for k_is
      refine' My.txt_mk ?e1 ?e2 ?e3 ..
      (case e1 => PySem.W.k_is)                    -- in the order: a name -> its address -> its object -> its parts
      (case e2 => PySem.W.k_is)
      ..
    obtain ⟨t, T⟩ := T
    have e0 := hmg.symm.trans (PySem.W.mg_of KX G T.law)
    cases e0                                       -- fa is the law's own address
    exact ⟨_, fun s u => .of_eq rfl, fun base kb nb => My.law_fn T kb nb⟩     -- if «.of_eq rfl» comes too early: refine' ⟨_, ?b, fun base kb nb => My.law_fn T kb nb⟩; exact fun s u => .of_eq rfl
  case S => exact fun w H a ns hl hO hS => ..
  case C => exact ..
(the tactic k_is has no namespace: write k_is) -/
namespace L2
open PySem PySem.Spec PyProof.Rows
def inClass (s : Stmt) (j : Nat) : Stmt := match s with
  | .ClassDef _ _ _ body _ _ _ _ _ _ _ => body.getD j (.Pass ⟨0, 0, 0, 0⟩)
  | _ => .Pass ⟨0, 0, 0, 0⟩
def defArgs (s : Stmt) : Arguments := match s with
  | .FunctionDef _ a _ _ _ _ _ _ _ _ => a
  | _ => { posonlyargs := [], args := [], vararg := none, kwonlyargs := [], kw_defaults := [], kwarg := none, defaults := [] }
def defBody (s : Stmt) : List Stmt := match s with
  | .FunctionDef _ _ b _ _ _ _ _ _ _ => b
  | _ => []
def defScope (s : Stmt) : Scope := match s with
  | .FunctionDef _ _ _ _ _ _ sc _ _ _ => sc
  | _ => { kind := .function, names := [], isGenerator := false, isCoroutine := false }
abbrev CX0 : CXT := fun _ _ _ _ _ _ => False
abbrev E0 : XK := fun _ _ _ => False
theorem pass0 {X : Cx} : Passes CX0 X E0 := fun _ _ _ _ _ _ _ h => h.elim
structure Fun (K : PySem.W.Frag) (x qual : Str) (st : Stmt) (f : Addr) (fd : FuncData) : Prop where
  ex : ∃ (oc : Value) (od : Option Addr) (kV doc pm : Value) (an : Option Addr) (cdv ct : Value) (osl : Array (Option Value)),
    fd = PySem.W.fnOf x qual (defArgs st) (defBody st) (defScope st) .none kV doc pm an cdv ct ∧ K.lookup f = some ⟨oc, od, .func fd, osl⟩ ∧ PySem.W.codeIn K cdv qual = true
  kp : PySem.W.keepIn K (.ref f) = true
section
variable {P : Program} {w : World} {K : PySem.W.Frag} {mg : Str → Option Value} {base : Heap}
theorem Fun.ok {x qual : Str} {st : Stmt} {f : Addr} {fd : FuncData} {N ps : List Str} {k : Nat} {sp : Sp} (F : Fun K x qual st f fd) (S : FnScope N ps (defScope st)) (len : ∀ vs H Q E, sp vs H Q E → vs.length = ps.length)
    (hbody : ∀ (cdv : Value) (A : Around) (outer : List Env) (s : Shared) (H : Hp) (vs : List V) (Q : VK) (E : XK), Room k (A.deeper (envOfC qual (defScope st) s.heap.objs.size f cdv)) → sp vs H Q E →
      ∃ t, PSs (cxOf CX0 P w K mg base N qual (defScope st) f cdv A outer s H E).nox (defBody st) t ∧ t { nx := fun _ H' => Q .non H', rt := Q } (start N vs) H) : FnOk P w K mg base CX0 (k + 1) f fd ps sp := by
  obtain ⟨oc, od, kV, doc, pm, an, cdv, ct, osl, rfl, lk, hcd⟩ := F.ex
  refine fn_of lk hcd S len fun A outer s H vs Q E hr hsp => ?_
  obtain ⟨t, h, q⟩ := hbody cdv A outer s H vs Q E hr hsp
  exact ⟨t, h.nox, q⟩
theorem Fun.binds {x qual : Str} {st : Stmt} {f : Addr} {fd : FuncData} {ps : List Str} (F : Fun K x qual st f fd)
    (h : ∀ (kV doc pm : Value) (an : Option Addr) (cdv ct : Value) (us : List Value), us.length = ps.length → bindArgs (PySem.W.fnOf x qual (defArgs st) (defBody st) (defScope st) .none kV doc pm an cdv ct) ⟨us, []⟩ = pure (ps.zip us)) : Binds K fd ps [] := by
  obtain ⟨oc, od, kV, doc, pm, an, cdv, ct, osl, rfl, lk, hcd⟩ := F.ex
  exact .all (h kV doc pm an cdv ct)
theorem fun_mk {x qual : Str} {st : Stmt} {f : Addr} {oc : Value} {od an : Option Addr} {osl : Array (Option Value)} {kV doc pm cdv ct : Value} (l : K.lookup f = some ⟨oc, od, .func (PySem.W.fnOf x qual (defArgs st) (defBody st) (defScope st) .none kV doc pm an cdv ct), osl⟩)
    (c : PySem.W.codeIn K cdv qual = true) (k : PySem.W.keepIn K (.ref f) = true) : Fun K x qual st f (PySem.W.fnOf x qual (defArgs st) (defBody st) (defScope st) .none kV doc pm an cdv ct) := ⟨⟨oc, od, kV, doc, pm, an, cdv, ct, osl, rfl, l, c⟩, k⟩
end
theorem hu_of {A : Around} {k : Nat} (hr : Room k A) : A.units + 1 < cLine := Nat.lt_of_le_of_lt (Nat.add_le_add_left (by decide : 1 ≤ 64) _) hr.units
section
variable {X : Cx}
theorem pv (i : Nat) {x : Str} {pos : Pos} (hN : X.N[i]? = some x := by rfl) (hv : Vis X.env.scope x := by first | exact Or.inl rfl | exact Or.inr (Or.inl rfl) | exact Or.inr (Or.inr rfl)) (hd : (x == ("__debug__" : Str)) = false := by decide)
    (hcd : (x == ("__classdict__" : Str)) = false := by decide) : PE X (.Name x pos) (tVar i) := pe_var hN hv hd hcd
end
theorem iteF {A B : Prop} (h : B) : if false = true then A else B := by
  rw [if_neg Bool.false_ne_true]
  exact h
theorem iteT {A B : Prop} (h : A) : if true = true then A else B := by
  rw [if_pos rfl]
  exact h
def Same (H H' : Hp) : Prop := ∀ b o, H b = some o → H' b = some o
theorem Same.refl (H : Hp) : Same H H := fun _ _ h => h
theorem Same.trans {H H1 H2 : Hp} (a : Same H H1) (b : Same H1 H2) : Same H H2 := fun c o h => b c o (a c o h)
theorem Same.free {H H' : Hp} (e : Same H H') {l : Addr} (h : H' l = Option.none) : H l = Option.none := by
  cases q : H l with
  | none => rfl
  | some o =>
    rw [e l o q] at h
    cases h
theorem Same.seq {K : PySem.W.Frag} {H H' : Hp} {a : Addr} {xs : List V} (e : Same H H') (h : SqL K H a xs) : SqL K H' a xs := by
  rcases h with (h | ⟨o, h⟩) | h
  · exact .inl (.inl (e _ _ h))
  · exact .inl (.inr ⟨o, e _ _ h⟩)
  · exact .inr h
end L2
namespace TH
open PySem PySem.W PySem.Calls PyProof.Rows
def treeOf : List Obj → Nat → BT → BT
  | [], _, t => t
  | o :: l, n, t => treeOf l (n + 1) (t.ins n o)
def ofS (s : Shared) : SharedT := ⟨treeOf s.heap.objs.toList 0 .nil, s.heap.objs.size, s.heap.life, s.gens, s.drawn, s.toks, s.os⟩
section
variable {tb : String → Option Builtin} {p : Program} {w : World} {n₀ : Nat} {ann : Option Value} {env : Env} {q : Pos}
theorem app {n N : Nat} {s s' r : Shared} {l : List Stmt} {c c' : Code} {pos p' : Pos} (h : segRun tb p w n₀ ann 1 n s (piecesOf l env c pos [topFrame q]) = some (.next, s', c', p'))
    (k : topRun tb p w n₀ ann N s' (restOf [] env c' p' [topFrame q]) = some r) : topRun tb p w n₀ ann (n + N) s (restOf l env c pos [topFrame q]) = some r := by
  obtain ⟨a, ha, hN⟩ := seg_top (res := id) (K' := fun f => match f with | .next => (execs [] env).wrap doneF (leaveH env) id id | f => doneF f) (H' := leaveH env) (B := [topFrame q]) rfl n s (piecesOf l env c pos [topFrame q])
    ⟨(execs l env).wrap (fun f => match f with | .next => (execs [] env).wrap doneF (leaveH env) id id | f => doneF f) (leaveH env) id id, c, pos, [topFrame q]⟩ _ _ _ _ ⟨rfl, rfl, .inl ⟨rfl, rfl, _, rfl, rfl⟩⟩ h
  obtain rfl : a = .next := ha
  have := hN N r k
  rw [show l = l ++ [] by simp]
  unfold restOf
  rw [execs_app_wrap]
  exact this
end
def lookT {β : Type} (p : Program) (w : World) (n₀ : Nat) (ann : Option Value) (b : List Stmt) (env : Env) (c : Code) (pos q : Pos) (k : Nat) (s : SharedT) (look : Shared → β) : Option β :=
  match segRunT treeTable p w n₀ ann 1 k s (piecesOf b env c pos [topFrame q]) with
  | some (.next, s', c', p') => (topRun treeTable p w n₀ ann 5 s'.abs (restOf [] env c' p' [topFrame q])).map look
  | _ => none
theorem look_of {β : Type} {p : Program} {w : World} {n₀ : Nat} {ann : Option Value} {b : List Stmt} {env : Env} {c : Code} {pos q : Pos} {k : Nat} {s : SharedT} {look : Shared → β} {v : β}
    (h : lookT p w n₀ ann b env c pos q k s look = some v) : ∃ r, topRun treeTable p w n₀ ann (k + 5) s.abs (restOf b env c pos [topFrame q]) = some r ∧ look r = v := by
  unfold lookT at h
  split at h
  · next s' c' p' e =>
    obtain ⟨r, hr, hv⟩ := Option.map_eq_some_iff.mp h
    exact ⟨r, app (segRun_of e) hr, hv⟩
  · cases h
def looks {α : Type} (p q : Program) (loose : List Str) (Xt : Shared → Bool) (Yf : Shared → α) (g0 : Bool) (H₀ : Heap) (s : Shared) :=
  ((staticsOk (importedModules p.main.body) H₀ s.heap && namesBound p s.heap && gensDone s && laidKept H₀ s.heap), openSeen q loose (importedModules p.main.body) Xt g0 s, Yf s)
theorem left {p q : Program} {loose : List Str} {Xt : Shared → Bool} {α : Type} {Yf : Shared → α} {Ya : World → α} {N : Nat} {g0 : Bool} {m₀ : Nat} {ann : Option Value} {k0 k : Nat} {env : Env} {pos q0 : Pos} {Sa : World → OsState → Shared}
    (e : opening p = plainProg p.main.scope.names) (hN : Nat.ble 600 N = true) (f : ∀ s, fenceModules? p s = some s)
    (size : ∀ w : World, ((boot_heap w.params).isNs mainGlobals, (boot_heap w.params).objs.size, (boot_heap w.params).nsMap mainGlobals "__annotations__") = (true, m₀, ann))
    (pre : ∀ (w : World) (os : OsState), topGo treeTable p w m₀ ann k0 ⟨boot_heap w.params, Array.mk [], boot_drawn, boot_toks, os⟩ (topStub p) =
      some (Sa w os, ⟨denote treeTable (.body (behindTheImports p) env), .body (behindTheImports p) env, pos, [topFrame q0]⟩))
    (tree : ∀ w os, (ofS (Sa w os)).abs = Sa w os)
    (block : blockStart (behindTheImports p) env = .pure ())
    (run : ∀ w os, lookT p w m₀ ann (behindTheImports p) env (.body (behindTheImports p) env) pos q0 k (ofS (Sa w os)) (looks p q loose Xt Yf g0 (boot_heap w.params)) = some (true, openGood q loose, Ya w))
    (le : Nat.ble (k0 + (1 + (k + 5))) N = true) : LeftO p q loose Xt Yf Ya N g0 := fun w => by
  obtain ⟨⟨h, gs, d, kk, os⟩, e1, e'⟩ := Option.map_eq_some_iff.mp (boot_open (N := N) e hN f w)
  obtain ⟨rfl, rfl, rfl, rfl⟩ : h = boot_heap w.params ∧ gs = Array.mk [] ∧ d = boot_drawn ∧ kk = boot_toks := by simpa using e'
  obtain ⟨z1, z2, z3⟩ : _ ∧ _ ∧ _ := by simpa only [Prod.mk.injEq] using size w
  obtain ⟨r, hr, hv⟩ := look_of (run w os)
  rw [tree w os] at hr
  have hb : segRun treeTable p w m₀ ann 1 1 (Sa w os) (blockOf (behindTheImports p) env (.body (behindTheImports p) env) pos [topFrame q0]) = some (.next, Sa w os, .body (behindTheImports p) env, pos) := by
    unfold blockOf
    rw [block]; rfl
  have r1 := go_top (pre w os) (piece_block hb hr)
  have r2 := topRun_mono (N - (k0 + (1 + (k + 5)))) _ _ _ _ r1
  rw [show (k0 + (1 + (k + 5))) + (N - (k0 + (1 + (k + 5)))) = N by have := Nat.le_of_ble_eq_true le; omega] at r2
  obtain ⟨l1, l2, l3⟩ : _ ∧ _ ∧ _ := by simpa only [looks, Prod.mk.injEq] using hv
  have t : topFrom treeTable p w N ⟨boot_heap w.params, Array.mk [], boot_drawn, boot_toks, os⟩ = some r := by
    unfold topFrom
    dsimp only
    rw [z1, z2, z3, r2]
    show (match staticsOk (importedModules p.main.body) (boot_heap w.params) r.heap && namesBound p r.heap && gensDone r && laidKept (boot_heap w.params) r.heap with | true => _ | false => _) = _
    rw [l1]
  unfold openEnds
  rw [e1]
  show (topFrom treeTable p w N _).map _ = _
  rw [t]
  exact congrArg some (Prod.ext l2 l3)
end TH
namespace FW
structure Low (a b : Int) : Prop where
  pos : 0 < b
  cop : Int.gcd a b = 1
abbrev g (a b : Int) : Int := ((Int.gcd a b : Nat) : Int)
def low (t b : Int) : Int × Int := (t / g t b, b / g t b)
def plusM (a b c d : Int) : Int × Int :=
  let s := g b d
  let top := a * (d / s) + c * (b / s)
  (top / g top s, b / g top s * (d / s))
def timesM (a b c d : Int) : Int × Int := (a / g a d * (c / g c b), b / g c b * (d / g a d))
structure IsQ (p : Int × Int) (W S : Int) : Prop where
  lo : Low p.1 p.2
  eq : p.1 * S = W * p.2
end FW
namespace L2
open PySem PySem.Spec PyProof.Rows
structure FnAt (K : PySem.W.Frag) (mg : Str → Option Value) (x : Str) (st : Stmt) (ps : List Str) (f : Addr) (fd : FuncData) : Prop where
  F : Fun K x x st f fd
  b : Binds K fd ps []
  m : mg x = some (.ref f)
theorem Same.upd {H : Hp} {p : Addr} {o : HO} (h : H p = Option.none) : Same H (upd H p o) := fun b u e => by
  rw [upd_ne (ne_of_none e h)]
  exact e
theorem Same.updR {H H' : Hp} {p : Addr} {o : HO} (e : Same H H') (h : H' p = Option.none) : Same H (L2.upd H' p o) := e.trans (.upd h)
theorem Same.tup {K : PySem.W.Frag} {H H' : Hp} {a : Addr} {xs : List V} (e : Same H H') (h : SqT K H a xs) : SqT K H' a xs := by
  rcases h with (h | ⟨o, h⟩) | h
  · exact .inl (.inl (e _ _ h))
  · exact .inl (.inr ⟨o, e _ _ h⟩)
  · exact .inr h
theorem iteBB {c : Bool} {A B : Prop} (h1 : c = true → A) (h2 : c = false → B) : if c = true then A else B := by
  cases c with
  | true => exact iteT (h1 rfl)
  | false => exact iteF (h2 rfl)
theorem two_le : (2 : Nat) ≤ sizeLine := by decide
def Sm (x : Int) : Prop := x.natAbs < 2 ^ 2000
theorem log2_lt {n k : Nat} (h : n < 2 ^ k) (hk : 0 < k) : n.log2 < k := by
  rcases Nat.eq_zero_or_pos n with h0 | hp
  · subst h0
    simpa using hk
  · exact (Nat.log2_lt (by omega)).mpr h
theorem Sm.log {x : Int} (h : Sm x) : x.natAbs.log2 < 9000 := Nat.lt_of_lt_of_le (log2_lt h (by decide)) (by decide)
end L2
namespace Att
open PySem PySem.W PySem.Calls PyProof.Rows
theorem weight_mem : ∀ {ns : List Int} {n : Int}, n ∈ ns → WData.weight (.int n) ≤ WData.weightAll (ns.map WData.int)
  | m :: r, n, h => by
    show WData.weight (.int n) ≤ WData.weight (.int m) + 1 + WData.weightAll (r.map WData.int)
    rcases List.mem_cons.mp h with e | e
    · subst e
      omega
    · have := weight_mem (ns := r) e
      omega
theorem bits_of_lay {ns : List Int} (h : WData.layableAll [WData.list (ns.map WData.int)] = true) : ∀ n ∈ ns, Builtin.Int.intBits n ≤ 2 ^ 20 := by
  intro n hn
  have h1 : (WData.list (ns.map WData.int)).layable = true := (layW_cons h).1
  have h2 : WData.weight (WData.list (ns.map WData.int)) ≤ 2 ^ 20 := of_decide_eq_true (Bool.and_eq_true_iff.mp h1).2
  have h3 : WData.weightAll (ns.map WData.int) ≤ 2 ^ 20 := by simpa only [WData.weight] using h2
  have h4 := weight_mem hn
  have h5 : WData.weight (.int n) ≤ 2 ^ 20 := Nat.le_trans h4 h3
  simpa only [WData.weight, Builtin.Int.intBits] using h5
theorem attach_callB {l : OpenLaw} {n : Nat} {q : Program} {loose : List Str} {XP : (Str → Option Value) → Heap → Prop} {YP : World → Heap → Prop} {d : DefRec}
    (hn : l.most = some n) (hdf : d.params.defaults = [])
    (call : ∀ (w : World) (s₀ s₁ : Shared) (mg mb : Str → Option Value) (fa : Addr) (a : Addr) (vs : List Value) (ns : List Int),
      Ground q loose [] XP w s₀ mg mb s₁.heap → YP w s₁.heap → mg d.name = some (.ref fa) →
      s₁.heap.get? a = some { cls := .type "list", data := .seq vs.toArray } → IntsAre vs ns → ns.length ≤ n → (∀ x ∈ ns, Builtin.Int.intBits x ≤ 2 ^ 20) → s₁.gens = #[] →
      codeAny (model l.prog w) callerA (.call (.ref fa) ⟨[.ref a], []⟩) (fun r s' => r = .ok (.ret (.bool true)) ∧ OldK s₁.heap s'.heap ∧ s'.os = s₁.os ∧ AllBare s'.gens) s₁) :
    WalkO q loose XP YP l.row.toRowW d [] (fun f vs => PySem.call f vs) := by
  intro w s₀ s₁ mg mb G Y fa o pm cd doc dV kV ho hd hcd hD hmg hg args vals as hpre hlay hrd hwl hlo
  obtain rfl : dV = .none := Dflts.none hD hdf
  obtain rfl : kV = .none := Dflts.noKw hD
  obtain ⟨a, vs, ns, rfl, rfl, hobj, hints, hlen⟩ := script_of hn hpre hwl
  refine enter_call (codeAny_mono (call w s₀ s₁ mg mb fa a vs ns G Y hmg hobj hints hlen (bits_of_lay hlay) hg) fun r s' hq => ?_)
  obtain ⟨rfl, h2, h3, h4⟩ := hq
  exact ⟨.inl ⟨.bool true, .bool true, [], rfl, fun _ => rfl, .bool true, post_true l _, fun _ => ⟨List.Pairwise.nil, fun _ hm => (nomatch hm)⟩⟩, h2, h3, h4⟩
end Att
namespace L2
open PySem PySem.Spec PyProof.Rows
theorem walk_ofB {l : PySem.W.OpenLaw} {n k : Nat} {q : Program} {loose : List Str} {XP : (Str → Option Value) → Heap → Prop} {YP : World → Heap → Prop} {d : DefRec} {K : Params → PySem.W.Frag} {CX : World → CXT} {sp : World → Sp} {x : Str}
    (hn : l.most = some n) (hn2 : n ≤ sizeLine) (hdf : d.params.defaults = []) (hr : Room k callerA)
    (hY : ∀ (w : World) (h : Heap), YP w h → (K w.params).In h)
    (F : ∀ (w : World) (mg : Str → Option Value) (fa : Addr) (h : Heap), (K w.params).In h → h.Ns mainGlobals mg → mg d.name = some (.ref fa) →
      ∃ fd : FuncData, (∀ (s : Shared) (u : Value), BindsTo s fd ⟨[u], []⟩ [(x, u)]) ∧
        ∀ base : Heap, (K w.params).In base → base.Ns mainGlobals mg → FnOk l.prog w (K w.params) mg base (CX w) k fa fd [x] (sp w))
    (hsp : ∀ (w : World) (H : Hp) (a : Addr) (ns : List Int), ns.length ≤ n → (∀ x ∈ ns, Builtin.Int.intBits x ≤ 2 ^ 20) → Only H → SqL (K w.params) H a (ns.map V.int) → sp w [.ref a] H (fun v _ => v = .bl true) fun _ _ _ => False)
    (hCX : ∀ (w : World) (H : Hp) (s : Shared) (e : Value) (s' : Shared), CX w [] H s (fun _ _ _ => False) e s' → False) :
    PySem.W.WalkO q loose XP YP l.row.toRowW d [] (fun f vs => PySem.call f vs) := by
  refine Att.attach_callB hn hdf fun w s₀ s₁ mg mb fa a vs ns G Y hmg hobj hints hlen hbits hg => ?_
  have KX := hY w _ Y
  obtain ⟨fd, hb, hF⟩ := F w mg fa _ KX G.T.g hmg
  exact law_call KX G.T.g G.T.b G.T.builtins G.T.nolimit hg hobj hints (Nat.le_trans hlen hn2) hr hF hb (fun H hO hS => hsp w H a ns hlen hbits hO hS) fun H e s' => hCX w H s₁ e s'
theorem fnAt_mk {K : PySem.W.Frag} {mg : Str → Option Value} {h : Heap} {x : Str} {st : Stmt} {ps : List Str} {f : Addr} {oc : Value} {od an : Option Addr} {osl : Array (Option Value)} {kV doc pm cdv ct : Value} (X : K.In h) (G : h.Ns mainGlobals mg)
    (a : PySem.W.nsIn K mainGlobals x = some (some (.ref f)))
    (l : K.lookup f = some ⟨oc, od, .func (PySem.W.fnOf x x (defArgs st) (defBody st) (defScope st) .none kV doc pm an cdv ct), osl⟩)
    (c : PySem.W.codeIn K cdv x = true) (k : PySem.W.keepIn K (.ref f) = true)
    (b : ∀ (kV doc pm : Value) (an : Option Addr) (cdv ct : Value) (us : List Value), us.length = ps.length → bindArgs (PySem.W.fnOf x x (defArgs st) (defBody st) (defScope st) .none kV doc pm an cdv ct) ⟨us, []⟩ = pure (ps.zip us)) :
    FnAt K mg x st ps f (PySem.W.fnOf x x (defArgs st) (defBody st) (defScope st) .none kV doc pm an cdv ct) :=
  ⟨fun_mk l c k, (fun_mk l c k).binds b, PySem.W.mg_of X G a⟩
end L2
namespace L2
open PySem PySem.Spec PyProof.Rows
section
variable {X : Cx}
theorem op_mulB : OpR X (binaryOp .Mult) (rI IntMulOk fun i j => .int (i * j)) := opI fun _ _ _ _ _ _ _ hc q => mul_int q hc
def CDivP (_ j : Int) : Prop := 0 < j ∧ j.natAbs.log2 < 9000
theorem op_fdivP : OpR X (binaryOp .FloorDiv) (rI CDivP fun i j => .int (i / j)) := opI fun i j _ _ _ _ _ hc q => by
  have h0 : (0 : Int) < j := hc.1
  refine floordiv_int (by omega) ?_ (.inl (PyProof.noPylong_of_log2 hc.2))
  rw [Int.fdiv_eq_ediv_of_nonneg _ (Int.le_of_lt h0)]
  exact q
def CDivB (_ j : Int) : Prop := j ≠ 0 ∧ j.natAbs.log2 < 9000
def rIsi (K : PySem.W.Frag) : List V → Hp → VK → Prop := fun xs H Q => ∃ x n t b, xs = [x, .ty n] ∧ TyOf K H x t ∧ PySem.W.kitOne K t (.type n) = some b ∧ Q (.bl b) H
theorem call_isi : CallR X (.builtin "isinstance") (rIsi X.K) := by
  intro pins s σ H xs us Q I r h
  obtain ⟨x, n, t, b, rfl, ty, e, q⟩ := h
  obtain ⟨u, w', rfl, r1, r2⟩ := vals2 r
  cases (show w' = Value.type n from r2)
  exact isinst_ok I r1 ty e fun tk => ⟨.bl b, H, I.tok tk, rfl, q⟩
def rIsiC (K : PySem.W.Frag) : List V → Hp → VK → Prop := fun xs H Q => ∃ x C t b, xs = [x, .ref C] ∧ TyOf K H x t ∧ PySem.W.kitOne K t (.ref C) = some b ∧ Q (.bl b) H
def rEqT (K : PySem.W.Frag) : R2 := fun x y H Q => ∃ (a b : Addr) (ns ms : List Int), x = .ref a ∧ y = .ref b ∧ SqT K H a (ns.map V.int) ∧ SqT K H b (ms.map V.int) ∧ Q (.bl (decide (ns = ms))) H
end
def cCx (X : Cx) (scope : Scope) (cl : List (Str × Addr)) (C : Addr) (Nc : List Str) (s : Shared) (H : Hp) (fp : List Addr) : Cx where
  prog := X.prog
  w := X.w
  K := X.K
  mg := X.mg
  base := X.base
  A := X.A
  N := Nc
  s₀ := s
  H₀ := H
  env := compEnvC scope cl C X.env
  outer := X.stack
  stack := X.stack
  ex := fp
  fn := fun _ => false
  calm := X.calm
  pn := []
  xe := fun _ _ => False
def PTs (X : Cx) (ifs : List Expr) (t : TT) : Prop :=
  ∀ (pins : List (Addr × Obj)) (s : Shared) (σ : St) (H : Hp) (Q : Bool → Hp → Prop), Inv X pins σ H s → t σ H Q →
    wpAny (model X.prog X.w) X.A (forIn ifs true fun c r => if r = true then do let ok ← isTrue c X.env (eval c X.env); pure (ForInStep.yield ok) else pure (ForInStep.yield r)) (TP X pins σ Q) X.xe s
def tTrue : TT := fun _ H Q => Q true H
theorem pts_nil {X : Cx} : PTs X [] tTrue := fun _ _ _ H _ I h => wpAny_tests_nil ⟨H, I, h⟩
theorem pts_one {X : Cx} {c : Expr} {t : TT} (h : PT X c t) : PTs X [c] t := fun pins s σ H Q I q => wpAny_tests_one (h pins s σ H Q I q)
theorem comp_loop0 {prog : Program} {w : World} {A : Around} {R : Result → Shared → Prop} {s : Shared} {elt target iter : Expr} {ifs : List Expr} {scope : Scope} {pos : Pos} {it acc : Value} {env : Env} (I : Nat → Shared → Prop)
    (turn : ∀ n s, I n s → wpAny (model prog w) A (pyNext it) (fun r s₁ => match r with
      | none => R (.ok .next) s₁
      | some v => wpAny (model prog w) A (letOwnedTupleGo target it v) (fun _ s₂ => wpAny (model prog w) A (assign target env v) (fun _ s₃ =>
          wpAny (model prog w) A (forIn ifs true fun c r => if r = true then do let ok ← isTrue c env (eval c env); pure (ForInStep.yield ok) else pure (ForInStep.yield r)) (fun ok s₄ =>
            if ok = true then wpAny (model prog w) A (eval elt env) (fun x s₅ =>
              wpAny (model prog w) A (call (.builtin "list.append") [acc, x]) (fun _ s₆ => ∃ m, m < n ∧ I m s₆) (fun _ _ => False) s₅) (fun _ _ => False) s₄
            else ∃ m, m < n ∧ I m s₄) (fun _ _ => False) s₃) (fun _ _ => False) s₂) (fun _ _ => False) s₁) (fun _ _ => False) s)
    (n : Nat) (h : I n s) :
    codeAny (model prog w) A (.compLoop (.ListComp elt [⟨target, iter, ifs, 0⟩] scope pos) 0 it acc env) R s := by
  refine codeAny_loop rfl I (fun n s hI => ?_) n h
  show wpAny _ A ((compTurn (.ListComp elt [⟨target, iter, ifs, 0⟩] scope pos) 0 it acc env).onRaise (fun x => do noteFrame x env; theTreesLotGoes x)) _ _ s
  refine wpAny_noted ?_
  rw [compTurn_list]
  refine wpAny_bind (wpAny_standAt (wpAny_bind (wpAny_mono (turn n s hI) (fun r s₁ h₁ => ?_) fun _ _ h' => h'.elim)))
  cases r with
  | none => exact wpAny_pure h₁
  | some v =>
    refine wpAny_bind (wpAny_mono h₁ (fun _ s₂ h₂ => wpAny_bind (wpAny_mono h₂ (fun _ s₃ h₃ => wpAny_bind (wpAny_mono h₃ (fun ok s₄ h₄ => ?_) fun _ _ h' => h'.elim)) fun _ _ h' => h'.elim)) fun _ _ h' => h'.elim)
    cases ok with
    | false => exact wpAny_pure ⟨rfl, h₄⟩
    | true =>
      exact wpAny_bind (wpAny_bind (wpAny_mono h₄ (fun x s₅ h₅ => wpAny_bind (wpAny_mono h₅ (fun _ s₆ h₆ => wpAny_pure (wpAny_pure ⟨rfl, h₆⟩)) fun _ _ h' => h'.elim)) fun _ _ h' => h'.elim))
def CompW (J : It) (g : TG) (tt : TT) (te : TE) (σ0 : St) (Q : VK) (D : Addr) (H1 : Hp) : Prop :=
  ∃ W : Nat → Nat → St → List V → Hp → Prop, (∃ m, W 0 m σ0 [] H1) ∧ ∀ i m σ2 ys H2, W i m σ2 ys H2 → H2 D = some (.lst ys) ∧ ys.length < sizeLine ∧
    ((J.stop i H2 ∧ Q (.ref D) H2) ∨ (J.go i H2 ∧ ∀ x H3, J.yld i H2 x H3 → g x σ2 H3 fun σ4 H4 => tt σ4 H4 fun b H5 =>
      if b = true then te σ4 H5 fun v H6 => H6 D = some (.lst ys) ∧ ∃ m', m' < m ∧ W (i + 1) m' σ4 (ys ++ [v]) (upd H6 D (.lst (ys ++ [v])))
      else ∃ m', m' < m ∧ W (i + 1) m' σ4 ys H5))
def tComp (wi : TI) (g : TG) (tt : TT) (te : TE) (σc : St → St) : TE := fun σ H Q => wi σ H fun J H1 => ∀ D, H1 D = none → CompW J g tt te (σc σ) Q D (upd H1 D (.lst []))
structure Caps (X : Cx) (scope : Scope) (cl : List (Str × Addr)) (Nc : List Str) (σc : St → St) : Prop where
  clos : closureFor scope X.env = pure cl
  kind : scope.kind = .function
  nocell : ∀ y ∈ scope.names, y.2 ≠ .cell
  names : ∀ y ∈ scope.names, y.2 = .local → scope.names.lookup y.1 = some .local
  cells : ∀ x c, cl.lookup x = some c → X.env.cells.lookup x = some c
  has : ∀ x, ((relabel scope X.env).names.lookup x = some .cell ∨ (relabel scope X.env).names.lookup x = some .free) → ∃ c, cl.lookup x = some c
  len : ∀ σ, (σc σ).length = Nc.length
  cap : ∀ σ (i : Nat) x v, Nc[i]? = some x → (σc σ)[i]? = some (some v) → Vis (relabel scope X.env) x →
    ((relabel scope X.env).names.lookup x = some .cell ∨ (relabel scope X.env).names.lookup x = some .free) ∧
    (X.env.kindOf x = some .cell ∨ X.env.kindOf x = some .free) ∧ ∃ j : Nat, X.N[j]? = some x ∧ σ[j]? = some (some v) ∧ Vis X.env.scope x
section
variable {X : Cx} {tg iter elt : Expr} {ifs : List Expr} {scope : Scope} {cl : List (Str × Addr)} {Nc : List Str} {σc : St → St} {pos : Pos} {wi : TI} {g : TG} {tt : TT} {te : TE}
theorem cCx_ok {pins : List (Addr × Obj)} {σ : St} {H : Hp} {s : Shared} {fp : List Addr} {C : Addr} (I : Inv X pins σ H s) (c : Caps X scope cl Nc σc) (hC : s.heap.objs.size ≤ C) (hf : ∀ b ∈ fp, FpOk X pins H b) (hlt : ∀ b ∈ fp, b < s.heap.objs.size) :
    (cCx X scope cl C Nc s H fp).Ok where
  mod := I.ok.mod
  kind := c.kind
  glob := I.ok.glob
  blt := I.ok.blt
  above := hC
  inj := fun x y a h1 h2 => I.ok.inj x y a (c.cells x a h1) (c.cells y a h2)
  has := c.has
  cab := fun _ _ h _ => absurd (show false = true from h) Bool.false_ne_true
  hd := I.ok.hd
  frames := I.ok.frames
  stk := .inl rfl
  exf := fun b hb => ⟨fun z => absurd (Nat.lt_of_lt_of_le (hlt b hb) hC) (by
      have z' : b = C := z
      rw [z']
      exact Nat.lt_irrefl _), fun x a h z => (hf b hb).2.2.2.2.1 x a (c.cells x a h) z⟩
  bs := I.bs
  bsz := Nat.le_trans I.ok.bsz I.sz
  noex := fun b o e hb => by
    rcases (hf b hb).2.2.2.1 with z | z
    · exact I.ok.noex b o e z
    · exact absurd (Nat.lt_of_lt_of_le (Heap.lt_size e) (Nat.le_trans I.ok.bsz z)) (Nat.lt_irrefl _)
  exfs := fun b hb z => by
    rcases List.mem_cons.mp (I.stkSub b z) with q | q
    · exact (hf b hb).2.1 q
    · exact (hf b hb).2.2.1 q
  funs := I.stack
  frf := I.stkFree
theorem cCx_inv {pins : List (Addr × Obj)} {σ : St} {H : Hp} {s : Shared} {fp : List Addr} {C : Addr} {h' : Heap} {t' : Nat} {m : Str → Option Value} (I : Inv X pins σ H s) (c : Caps X scope cl Nc σc) (hC : s.heap.objs.size ≤ C)
    (hf : ∀ b ∈ fp, FpOk X pins H b) (hlt : ∀ b ∈ fp, b < s.heap.objs.size) (hk : ∀ b o, s.heap.get? b = some o → h'.get? b = some o) (hn : h'.Ns C m) :
    Inv (cCx X scope cl C Nc s H fp) [] (σc σ) H { s with heap := h', toks := t' } := by
  refine ⟨cCx_ok I c hC hf hlt, rfl, I.bare, Un.kept hk, ⟨m, hn, fun i x v e1 e2 e3 => ?_⟩, fun x a h => ?_, I.hok.fresh hC, fun x a h => I.freeC x a (c.cells x a h), fun p hp => absurd (show p ∈ ([] : List (Addr × Obj)) from hp) (by simp), I.hok.kept hk, c.len σ⟩
  · obtain ⟨k1, k2, j, n1, n2, n3⟩ := c.cap σ i x v e1 e2 e3
    obtain ⟨m0, _, hl⟩ := I.loc
    obtain ⟨u, ru, lk⟩ := hl j x v n1 n2 n3
    refine ⟨u, ru, .inr ⟨k1, ?_⟩⟩
    rcases lk with ⟨z, _⟩ | ⟨_, a, ha, hcell⟩
    · rcases k2 with k2 | k2 <;> rw [k2] at z <;> cases z
    · obtain ⟨a', ha'⟩ := c.has x k1
      have e := c.cells x a' ha'
      rw [ha] at e
      cases e
      obtain ⟨o, ho, hd⟩ := hcell
      exact ⟨a, ha', ⟨o, hk _ _ ho, hd⟩⟩
  · obtain ⟨v, o, ho, hd⟩ := I.cell x a (c.cells x a h)
    exact ⟨v, o, hk _ _ ho, hd⟩
theorem comp_block {pins : List (Addr × Obj)} {σ : St} {H : Hp} {s : Shared} {Q : VK} {J : It} {fp : List Addr} {it : Addr} {tn : Nat → Heap → Prop} {RR : Value → Addr → Result → Shared → Prop} {E : Value → Shared → Prop}
    (hc : X.calm = true) (c : Caps X scope cl Nc σc)
    (hg : ∀ C s H fp, PG (cCx X scope cl C Nc s H fp) tg g) (ht : ∀ C s H fp, PTs (cCx X scope cl C Nc s H fp) ifs tt) (he : ∀ C s H fp, PE (cCx X scope cl C Nc s H fp) elt te)
    (I : Inv X pins σ H s) (T : Turn X.prog X.w X.K tg J fp it tn) (st : tn 0 s.heap) (hf : ∀ b ∈ fp, FpOk X pins H b)
    (h : ∀ D, H D = none → CompW J g tt te (σc σ) Q D (upd H D (.lst [])))
    (hRR : ∀ D C H' s' m, Inv X pins σ H' s' → H' C = none → s.heap.objs.size ≤ C → s'.heap.Ns C m → Q (.ref D) H' → RR (.ref D) C (.ok .next) s') :
    wpAny (model X.prog X.w) X.A (newList []) (fun acc s₃ => wpAny (model X.prog X.w) X.A (newFunctionEnv scope X.env.globals cl [] X.env.qual none .none (some X.env)) (fun cenv s₄ =>
      codeAny (model X.prog X.w) X.A (.compStart (.ListComp elt [⟨tg, iter, ifs, 0⟩] scope pos) 0 (.ref it) acc { cenv with scope := relabel scope X.env }) (RR acc cenv.locals) s₄) E s₃) E s := by
  have fit : ∀ b ∈ fp, b < s.heap.objs.size := fun b hb => by
    obtain ⟨o, e, _⟩ := T.obj _ _ st b hb
    exact Heap.lt_size e
  obtain ⟨W, ⟨m0, w0⟩, turn⟩ := h s.heap.objs.size (I.hok.fresh (Nat.le_refl _))
  refine wpAny_newObj_type (wpAny_newFunctionEnv c.nocell (by intro y hy; simp at hy) (fun h₁ hns₁ hsb₁ => ?_) c.kind)
  dsimp only at hns₁ hsb₁ ⊢
  have I1 : Inv X pins σ (upd H s.heap.objs.size (.lst [])) { s with heap := s.heap.push { cls := .type "list", dict := none, data := .seq ([] : List Value).toArray } } :=
    I.laid (t' := s.toks) (fun b u e => Heap.get?_push_of_some _ e) (Nat.le_refl _) ⟨Nat.zero_le _, [], 0, .nil, Heap.get?_push_size _ rfl⟩
  generalize hH2 : s.heap.push { cls := .type "list", dict := none, data := .seq ([] : List Value).toArray } = G at hns₁ hsb₁ I1 ⊢
  have hG : G.objs.size = s.heap.objs.size + 1 := by rw [← hH2, Heap.size_push]
  have old : ∀ b o, G.get? b = some o → h₁.get? b = some o := fun b o e => hsb₁.extBut b o (Nat.ne_of_lt (Heap.lt_size e)) (Heap.get?_push_of_some _ e)
  have hf1 : ∀ b ∈ fp, FpOk X pins (upd H s.heap.objs.size (.lst [])) b := fun b hb =>
    ⟨by rw [upd_ne (Nat.ne_of_lt (fit b hb))]; exact (hf b hb).1, (hf b hb).2⟩
  have hlt1 : ∀ b ∈ fp, b < G.objs.size := fun b hb => Nat.lt_of_lt_of_le (fit b hb) (by rw [hG]; exact Nat.le_succ _)
  have I2 := cCx_inv (C := G.objs.size) (t' := s.toks + ([] : List (Str × Value)).length) I1 c (Nat.le_refl _) hf1 hlt1 old hns₁
  have st1 : tn 0 h₁ := T.keep _ _ _ st fun b hb o e => old b o (by rw [← hH2]; exact Heap.get?_push_of_some _ e)
  have fpB : ∀ {H' : Hp}, (∀ b ∈ fp, H' b = none) → ∀ b ∈ fp, FpOk (cCx X scope cl G.objs.size Nc { s with heap := G } (upd H s.heap.objs.size (.lst [])) fp) [] H' b := fun {H'} hn b hb => by
    have ok := cCx_ok (C := G.objs.size) I1 c (Nat.le_refl _) hf1 hlt1
    obtain ⟨e1, e2⟩ := ok.exf b hb
    exact ⟨hn b hb, e1, ok.exfs b hb, .inl hb, e2, fun p hp => absurd (show p ∈ ([] : List (Addr × Obj)) from hp) (by simp)⟩
  have loop : ∀ s₃ : Shared, s₃ = { s with heap := h₁, toks := s.toks + ([] : List (Str × Value)).length } →
      codeAny (model X.prog X.w) X.A (.compLoop (.ListComp elt [⟨tg, iter, ifs, 0⟩] scope pos) 0 (.ref it) (.ref s.heap.objs.size) (compEnvC scope cl G.objs.size X.env))
        (RR (.ref s.heap.objs.size) G.objs.size) s₃ := by
    rintro s₃ rfl
    refine comp_loop0 (fun n s' => ∃ i σ' ys H', Inv (cCx X scope cl G.objs.size Nc { s with heap := G } (upd H s.heap.objs.size (.lst [])) fp) [] σ' H' s' ∧ tn i s'.heap ∧ (∀ b ∈ fp, H' b = none) ∧ W i n σ' ys H') ?_ m0
      ⟨0, σc σ, [], _, I2, st1, fun b hb => (hf1 b hb).1, w0⟩
    rintro n s5 ⟨i, σ5, ys, H5, I5, st5, fr5, w5⟩
    obtain ⟨hD, hsz, alt⟩ := turn i n σ5 ys H5 w5
    rcases alt with ⟨stop, q⟩ | ⟨go, step⟩
    · refine thn (T.done (cCx X scope cl G.objs.size Nc { s with heap := G } (upd H s.heap.objs.size (.lst [])) fp) rfl rfl rfl hc i [] s5 σ5 H5 _ I5 (fpB fr5) st5 stop) fun r s6 ⟨hr, I6⟩ => ?_
      subst hr
      obtain ⟨m6, n6, _⟩ := I6.loc
      have I7 : Inv X pins σ H5 s6 := I1.call' I6.os I6.base I6.hok I6.bare fun b hb => ⟨(hf1 b hb).2.2.2.1, (hf1 b hb).2.1, (hf1 b hb).2.2.2.2.1, (hf1 b hb).2.2.2.2.2⟩
      exact hRR _ _ H5 s6 m6 I7 I6.free (by rw [hG]; exact Nat.le_succ _) n6 q
    · refine thn (T.item (cCx X scope cl G.objs.size Nc { s with heap := G } (upd H s.heap.objs.size (.lst [])) fp) rfl rfl rfl hc i [] s5 σ5 H5 _ I5 (fpB fr5) st5 go) fun r s6 ⟨u, hr, h6⟩ => ?_
      subst hr
      refine thn h6 fun _ s7 ⟨x, H7, I7, r7, y7, st7, fr7⟩ => ?_
      have I7' := I7.pinned (fpB fr7) (T.obj _ _ st7)
      refine thn (hg _ _ _ _ _ s7 σ5 H7 x u _ I7' r7 (step x H7 y7)) fun _ s8 ⟨σ8, H8, I8, q8⟩ => ?_
      refine thn (ht _ _ _ _ _ s8 σ8 H8 _ I8 q8) fun ok s9 ⟨H9, I9, q9⟩ => ?_
      have again : ∀ {σ' : St} {H' : Hp} {s' : Shared} {ys' : List V} {m' : Nat}, Inv (cCx X scope cl G.objs.size Nc { s with heap := G } (upd H s.heap.objs.size (.lst [])) fp) ([] ++ pinsAt fp s7.heap) σ' H' s' → m' < n → W (i + 1) m' σ' ys' H' →
          ∃ m, m < n ∧ ∃ i σ' ys H', Inv (cCx X scope cl G.objs.size Nc { s with heap := G } (upd H s.heap.objs.size (.lst [])) fp) [] σ' H' s' ∧ tn i s'.heap ∧ (∀ b ∈ fp, H' b = none) ∧ W i m σ' ys H' := fun {σ' H' s' ys' m'} J7 hm hw => by
        refine ⟨m', hm, i + 1, σ', ys', H', J7.unpinned, T.keep _ _ _ st7 fun b hb o e => (J7.pin (b, o) (List.mem_append_right _ (List.mem_append_right _ (mem_pinsAt hb e)))).1, fun b hb => ?_, hw⟩
        obtain ⟨o, e, d⟩ := T.obj _ _ st7 b hb
        exact (J7.pin (b, o) (List.mem_append_right _ (List.mem_append_right _ (mem_pinsAt hb e)))).2.1
      cases ok with
      | false =>
        rw [if_neg Bool.false_ne_true] at q9 ⊢
        obtain ⟨m', hm, hw⟩ := q9
        exact again I9 hm hw
      | true =>
        rw [if_pos rfl] at q9 ⊢
        refine thn (he _ _ _ _ _ s9 σ8 H9 _ I9 q9) fun v s10 ⟨y, H10, I10, r10, hD10, m', hm, hw⟩ => ?_
        refine thn (mt_append _ s10 σ8 H10 (.ref s.heap.objs.size) [y] (.ref s.heap.objs.size) [v] (fun _ H' => H' = upd H10 s.heap.objs.size (.lst (ys ++ [y]))) I10 rfl (.cons r10 .nil) ⟨_, ys, y, rfl, rfl, hD10, hsz, rfl⟩) fun _ s11 ⟨z, H11, I11, _, e11⟩ => ?_
        subst e11
        exact again I11 hm hw
  exact codeAny_compStart_list (loop _ rfl) (T.self _ 0 _ _ _ st1 (loop _ rfl))
theorem pe_comp (hc : X.calm = true) (c : Caps X scope cl Nc σc) (hi : PI X tg iter wi)
    (hg : ∀ C s H fp, PG (cCx X scope cl C Nc s H fp) tg g) (ht : ∀ C s H fp, PTs (cCx X scope cl C Nc s H fp) ifs tt) (he : ∀ C s H fp, PE (cCx X scope cl C Nc s H fp) elt te)
    (hs : ∀ x, foldedSetIterable iter X.env x = pure x := by intro _; rfl) : PE X (.ListComp elt [⟨tg, iter, ifs, 0⟩] scope pos) (tComp wi g tt te σc) := by
  intro pins s σ H Q I h
  rw [eval_ListComp]
  refine wpAny_comprehension_free (use := none) rfl hs c.clos c.kind c.names (thn (hi pins s σ H _ I h) fun v s1 h1 => thn h1 fun itv s2 h2 => ?_)
  obtain ⟨it, fp, tn, J, H2, rfl, I2, T, st2, f2, W⟩ := h2
  refine comp_block (Q := Q) hc c hg ht he I2 T st2 f2 W ?_
  intro D C H' s' m I' hC hCs hn q
  refine ⟨m, hn, fun h' sb => ⟨.ref D, H', ?_, rfl, q⟩⟩
  have nl : C ≠ X.env.locals := Nat.ne_of_gt (Nat.lt_of_lt_of_le I2.lt hCs)
  refine I'.turned (t' := s'.toks) (it := C) (fun b o hb e => sb.extBut b o hb e) hC nl (.inr (Nat.le_trans I2.sz hCs)) (fun x a e z => ?_) (fun p hp z => ?_)
  · obtain ⟨v, q⟩ := I2.cell x a e
    exact absurd (Nat.lt_of_lt_of_le q.lt hCs) (by rw [z]; exact Nat.lt_irrefl _)
  · exact absurd (Nat.lt_of_lt_of_le (Heap.lt_size (I2.pin p hp).1) hCs) (by rw [z]; exact Nat.lt_irrefl _)
end
end L2
namespace L2
open PySem PySem.Spec PyProof.Rows
def Itz (K : PySem.W.Frag) (a b : Addr) : It :=
  ⟨fun i H => ∃ xs ys x y, SqL K H a xs ∧ SqL K H b ys ∧ xs[i]? = some x ∧ ys[i]? = some y,
   fun i H v H' => ∃ p, v = .ref p ∧ H p = none ∧ ∀ xs ys x y, SqL K H a xs → SqL K H b ys → xs[i]? = some x → ys[i]? = some y → H' = upd H p (.tup [x, y]),
   fun i H => ∃ xs ys, SqL K H a xs ∧ SqL K H b ys ∧ (xs.length ≤ i ∨ ys.length ≤ i)⟩
section
variable {X : Cx} {pins : List (Addr × Obj)} {σ : St} {H : Hp} {s : Shared} {h' : Heap}
end
section
variable {X : Cx} {elts : List Expr} {kk : Nat} {tpos : Pos}
def iZip (K : PySem.W.Frag) (ta : TA) : TI := fun σ H R => ta σ H fun vs H1 => ∃ a b, vs = [.ref a, .ref b] ∧ (∃ xs, SqL K H1 a xs) ∧ (∃ ys, SqL K H1 b ys) ∧ R (Itz K a b) H1
end
end L2
namespace L2
open PySem PySem.Spec PyProof.Rows
theorem ObjOk.there {P : Program} {w : World} {H : Hp} {h : Heap} {a : Addr} {o : HO} (x : ObjOk P w H h a o) : ∃ ob, h.get? a = some ob := by
  cases o with
  | lst xs => obtain ⟨_, _, _, _, e⟩ := x; exact ⟨_, e⟩
  | tup xs => obtain ⟨_, _, _, _, e, _⟩ := x; exact ⟨_, e⟩
  | dK kvs => obtain ⟨_, _, _, _, o, _, _, e, _⟩ := x; exact ⟨_, e⟩
  | dT kvs => obtain ⟨_, _, _, _, o, _, _, e, _⟩ := x; exact ⟨_, e⟩
  | set S n => obtain ⟨o, _, _, _, e, _⟩ := x; exact ⟨_, e⟩
  | ins C dx fs => obtain ⟨_, _, _, e, _⟩ := x; exact ⟨_, e⟩
  | own y => exact x
  | xd fs => obtain ⟨_, ⟨_, _, _, e, _⟩, _⟩ := x; exact ⟨_, e⟩
  | rng lo hi => obtain ⟨_, _, _, e⟩ := x; exact ⟨_, e⟩
  | frz ob u => obtain ⟨e, _⟩ := x; exact ⟨_, e⟩
  | tbl ps => exact ⟨_, (show h.get? a = some _ from x)⟩
  | met f y => exact ⟨_, (show h.get? a = some _ from x)⟩
  | ext φ => obtain ⟨_, e, _⟩ := x; exact e
theorem HOk.there {P : Program} {w : World} {H : Hp} {h : Heap} {a : Addr} {o : HO} (x : HOk P w H h) (e : H a = some o) : ∃ ob, h.get? a = some ob := (x a o e).there
theorem HOk.untracked {P : Program} {w : World} {H : Hp} {h : Heap} {a : Addr} (x : HOk P w H h) (e : h.get? a = none) : H a = none := by
  cases q : H a with
  | none => rfl
  | some u =>
    obtain ⟨ob, z⟩ := x.there q
    rw [e] at z
    cases z
structure ExcCls (K : PySem.W.Frag) (mg : Str → Option Value) (x : Str) (C : Addr) : Prop where
  m : mg x = some (.ref C)
  ex : PySem.W.excIn K C [.type "ValueError", .type "Exception", .type "BaseException", .type "object"] "ValueError.__new__" = true
def CXe (P : Program) (w : World) : CXT := fun outer H s E e s' => ∃ (ea : Addr) (cls a0 : Value) (H' : Hp) (B : Heap),
  e = .ref ea ∧ s'.os = s.os ∧ AllBare s'.gens ∧ Un (frs outer) [] H H' s.heap s'.heap ∧ HOk P w H' s'.heap ∧ Heap.FlyingW B outer ea cls a0 s'.heap ∧
  (∀ b o, s'.heap.get? b = some o → b ∉ frs outer → (H' b ≠ none ∨ s.heap.get? b ≠ none) → B.get? b = some o) ∧ H' ea = none ∧ s.heap.get? ea = none ∧ E cls none H'
def Throws (X : Cx) (C : Addr) (R : Hp → Prop) : Prop :=
  ∀ (pins : List (Addr × Obj)) (σ : St) (H : Hp) (s : Shared) (h' : Heap) (ea : Addr) (vs : List Value), Inv X pins σ H s → Heap.MadeExcOf s.heap h' ea (.ref C) vs → R H → X.xe (.ref ea) { s with heap := h' }
theorem exc_obj {K : PySem.W.Frag} {h : Heap} {C : Addr} {bmB : List Value} {newId : String} (X : K.In h) (q : PySem.W.excIn K C bmB newId = true) :
    ∃ bm N nm q bs hdct sn sub ab col dd k0 k1 k2 k3 k5 mN, h.get? C = some (excClassObj nm q C N bs bm hdct sn sub ab col dd k0 k1 k2 k3 k5 newId) ∧ h.Ns N mN ∧ mN "__init__" = none ∧ OwnTail h bmB bm := by
  unfold PySem.W.excIn at q
  split at q
  · rename_i dd cd sl ho
    split at q
    · rename_i C' bm k0 k1 k2 k3 n k5 hm hs
      simp only [Bool.and_eq_true, beq_iff_eq, Bool.not_eq_true'] at q
      obtain ⟨⟨⟨⟨⟨rfl, rfl⟩, hdel⟩, ht⟩, hok⟩, hni⟩ := q
      obtain ⟨nm, bs, mro, ns, qn, hd, sn, sub, ab, col, del⟩ := cd
      dsimp only at hm hdel hok hni
      subst hm hdel
      have hsl : sl = #[k0, k1, k2, k3, some (.builtin n), k5] := by
        obtain ⟨l⟩ := sl
        simp only at hs
        rw [hs]
      subst hsl
      exact ⟨bm, ns, nm, qn, bs, hd, sn, sub, ab, col, dd, k0, k1, k2, k3, k5, _, X _ _ ho, .of_isNs (PySem.W.isNs_of_in X hok), PySem.W.nsMap_none_of_in X hok hni, PySem.W.tail_of_in X ht⟩
    · cases q
  · cases q
section
variable {X : Cx}
def tRaise (te : TE) (R : Hp → Prop) : TS := fun _ σ H => te σ H fun v H1 => ([v] : List V).length = 1 ∧ R H1
theorem ps_raise {x : Str} {C : Addr} {R : Hp → Prop} {e : Expr} {te : TE} {np cpos pos : Pos} (c : ExcCls X.K X.mg x C) (hg : Gl X x) (hcalm : X.calm = true) (he : PE X e te) (ht : Throws X C R)
    (hs : starEach [e] X.env = [(false, eval e X.env)] := by rfl) (hdb : (x == ("__debug__" : Str)) = false := by decide) :
    PS X (.Raise (some (.Call (.Name x np) [e] [] cpos)) none pos) (tRaise te R) := by
  intro pins s σ H D I h
  obtain ⟨bm, N, nm, q, bs, hdct, sn, sub, ab, col, dd, k0, k1, k2, k3, k5, mN, hC, hN, hni, T⟩ := exc_obj I.ok.mod.kin c.ex
  refine wpAny_Raise_call_subT (C := C) (nm := nm) (q := q) (N := N) (bs := bs) (bm := bm) (hdct := hdct) (sn := sn) (sub := sub) (ab := ab) (col := col) (dd := dd) (k0 := k0) (k1 := k1) (k2 := k2) (k3 := k3) (k5 := k5)
    PySem.F.excBase_ValueError (mN := mN) (T.hasType PySem.F.excBase_ValueError.hasBase) (I.ok.hd hcalm) (by rw [hs]; rfl) hni (ld_glob I hg c.m ⟨rfl, ?_⟩ hdb)
  have hA : PA X [e] (tCons te tNil) := pa_cons he pa_nil hs
  have h1 := hA cpos pins s σ H (fun vs H1 => vs.length = 1 ∧ R H1) I h
  rw [hs] at h1 ⊢
  refine Calls.evalArgs_plain (wpAny_mono h1 (fun vs s2 h2 => ?_) fun _ _ y => y)
  obtain ⟨ws, H1, I1, rv, hl, q1⟩ := h2
  refine ⟨rfl, ?_, I1.bk _ _ hC, hN.keeps I1.bk, T.keeps I1.bk, fun h' ea hm => ht pins σ H1 s2 h' ea vs I1 hm q1⟩
  show vs.length ≤ sizeLine
  rw [← rv.length, hl]
  decide
end
theorem throws_of {P : Program} {w : World} {K : PySem.W.Frag} {mg : Str → Option Value} {base : Heap} {N : List Str} {qual : Str} {scope : Scope} {f : Addr} {cdv : Value} {A : Around} {outer : List Env} {s : Shared} {H : Hp} {E : XK} {C : Addr} :
    Throws (cxOf (CXe P w) P w K mg base N qual scope f cdv A outer s H E) C (fun H1 => E (.ref C) none H1) := by
  intro pins σ H1 s2 h' ea vs I hm he
  have fr : (A.deeper (envOfC qual scope s.heap.objs.size f cdv)).frames = some (envOfC qual scope s.heap.objs.size f cdv :: outer) := I.ok.frames
  have hin : ∀ env ∈ (envOfC qual scope s.heap.objs.size f cdv :: outer), ∀ b, env.frame = some b → b ∈ frs (envOfC qual scope s.heap.objs.size f cdv :: outer) := fun env he b hb => List.mem_filterMap.mpr ⟨env, he, hb⟩
  have hfs : ∀ b, b ∈ frs (envOfC qual scope s.heap.objs.size f cdv :: outer) → b = s.heap.objs.size ∨ b ∈ frs outer := fun b hb => by
    obtain ⟨env, he, hf⟩ := List.mem_filterMap.mp hb
    rcases List.mem_cons.mp he with rfl | he
    · exact .inl (Option.some.inj hf).symm
    · exact .inr (List.mem_filterMap.mpr ⟨env, he, hf⟩)
  have inB : ∀ b o, s2.heap.get? b = some o → b ∉ frs outer → b ≠ s.heap.objs.size → (PySem.W.hideAll s2.heap (frs (envOfC qual scope s.heap.objs.size f cdv :: outer))).get? b = some o := fun b o e n1 n2 =>
    PySem.W.hideAll_get _ e fun z => (hfs b z).elim n2 n1
  have old : ∀ b o, s.heap.get? b = some o → b ≠ s.heap.objs.size := fun b o e => Nat.ne_of_lt (Heap.lt_size e)
  show wpAny _ _ (leaving _ _) _ _ _
  refine wpAny_leaves_madeW fr rfl (base := PySem.W.hideAll s2.heap (frs (envOfC qual scope s.heap.objs.size f cdv :: outer))) (fun b o q => PySem.W.of_hideAll _ q) (PySem.W.funFrames_hide I.stack hin) hm fun h'' t fl _ _ sm => ?_
  have k2 : ∀ b o, s2.heap.get? b = some o → b ∉ frs outer → b ≠ s.heap.objs.size → h''.get? b = some o := fun b o e n1 n2 => fl.1 b o (inB b o e n1 n2)
  have ksl : ∀ b o, s2.heap.get? b = some o → b ∈ frs outer → ∃ sl, h''.get? b = some { o with slots := sl } := fun b o e hb => by
    obtain ⟨_, o', ho', hd⟩ := I.funs.mem hb
    rw [e] at ho'
    cases ho'
    exact sm b o (hm.keeps b o e) hd
  have trk : ∀ b u, H1 b = some u → b ∉ frs outer ∧ b ≠ s.heap.objs.size := fun b u e => by
    refine ⟨fun z => ?_, fun z => ?_⟩
    · have := I.stkFree b (List.mem_filterMap.mpr (by
        obtain ⟨env, he, hf⟩ := List.mem_filterMap.mp z
        exact ⟨env, List.mem_cons_of_mem _ he, hf⟩))
      rw [this] at e
      cases e
    · have z' : H1 s.heap.objs.size = none := I.free
      rw [z, z'] at e
      cases e
  have nx : ∀ b, b ∉ ([] : List Addr) := fun b => by simp
  refine ⟨ea, .ref C, .ref t, H1, PySem.W.hideAll s2.heap (frs (envOfC qual scope s.heap.objs.size f cdv :: outer)), rfl, I.os, I.bare, ⟨fun b o e n hb _ => ?_, fun b o e n hb _ => ?_, fun b o e n hx => I.base.free b o e n hx, fun b o e hx => ?_, I.base.tups, I.base.frzs, I.base.tbls⟩, fun b u e => ?_, fl, fun b o e nb hh => ?_, I.hok.untracked hm.new, ?_, he⟩
  · exact k2 b o (I.base.keep b o e n hb (nx b)) hb (old b o e)
  · obtain ⟨sl, e1⟩ := I.base.slot b o e n hb (nx b)
    obtain ⟨sl', e2⟩ := ksl b _ e1 hb
    exact ⟨sl', e2⟩
  · obtain ⟨o', e1⟩ := I.base.there b o e hx
    by_cases hb : b ∈ frs outer
    · obtain ⟨sl, e2⟩ := ksl b o' e1 hb
      exact ⟨_, e2⟩
    · exact ⟨o', k2 b o' e1 hb (old b o e)⟩
  · refine (I.hok b u e).stay (fun c v hc q => ?_) (fun _ q => q) fun _ _ q => q
    rcases hc with z | z
    · subst z
      exact k2 c v q (trk c u e).1 (trk c u e).2
    · exact k2 c v q (trk c _ z).1 (trk c _ z).2
  · have e2 : (∃ o2, s2.heap.get? b = some o2) ∧ b ≠ s.heap.objs.size := by
      rcases hh with z | z
      · cases q : H1 b with
        | none => exact absurd q z
        | some u => exact ⟨I.hok.there q, (trk b u q).2⟩
      · cases q : s.heap.get? b with
        | none => exact absurd q z
        | some o1 => exact ⟨I.base.there b o1 q (nx b), old b o1 q⟩
    obtain ⟨⟨o2, e2⟩, nL⟩ := e2
    have e3 := k2 b o2 e2 nb nL
    rw [e] at e3
    cases e3
    exact inB b _ e2 nb nL
  · cases q : s.heap.get? ea with
    | none => rfl
    | some o =>
      obtain ⟨o', e1⟩ := I.base.there ea o q (nx ea)
      rw [hm.new] at e1
      cases e1
end L2
namespace L2
open PySem PySem.Spec PyProof.Rows
abbrev Cx.marked (X : Cx) (ea : Addr) : Cx := { X with A := X.A.mark (some (.ref ea)), calm := false, xe := fun _ _ => False }
section
variable {X : Cx} {pins : List (Addr × Obj)} {σ : St} {H : Hp} {s : Shared} {ea : Addr}
theorem Inv.marked (I : Inv X pins σ H s) (ea : Addr) : Inv (X.marked ea) pins σ H s :=
  ⟨⟨I.ok.mod, I.ok.kind, I.ok.glob, I.ok.blt, I.ok.above, I.ok.inj, I.ok.has, I.ok.cab, fun h => absurd (show false = true from h) Bool.false_ne_true, I.ok.frames, I.ok.stk, I.ok.exf, I.ok.bs, I.ok.bsz, I.ok.noex, I.ok.exfs, I.ok.funs, I.ok.frf⟩,
    I.os, I.bare, I.base, I.loc, I.cell, I.free, I.freeC, I.pin, I.hok, I.len⟩
theorem Inv.unmarked (I : Inv (X.marked ea) pins σ H s) (hd : X.calm = true → X.A.handled = none) : Inv X pins σ H s :=
  ⟨⟨I.ok.mod, I.ok.kind, I.ok.glob, I.ok.blt, I.ok.above, I.ok.inj, I.ok.has, I.ok.cab, hd, I.ok.frames, I.ok.stk, I.ok.exf, I.ok.bs, I.ok.bsz, I.ok.noex, I.ok.exfs, I.ok.funs, I.ok.frf⟩,
    I.os, I.bare, I.base, I.loc, I.cell, I.free, I.freeC, I.pin, I.hok, I.len⟩
theorem Inv.adopt {o : HO} {p : Addr} (I : Inv X pins σ H s) (hn : H p = none) (h0 : X.s₀.heap.get? p = none) (hL : p ≠ X.env.locals) (hc : ∀ x c, X.env.cells.lookup x = some c → c ≠ p) (hp : ∀ q ∈ X.pn ++ pins, q.1 ≠ p)
    (new : ObjOk X.prog X.w (upd H p o) s.heap p o) : Inv X pins σ (upd H p o) s := by
  refine ⟨I.ok, I.os, I.bare, ⟨I.base.keep, I.base.slot, fun b u e n hx => ?_, I.base.there, fun b xs e => ?_, fun b u xs e => ?_, fun b ps e => ?_⟩, I.loc, I.cell, ?_, fun x c e => ?_, fun q hq => ?_, fun b u e => ?_, I.len⟩
  · rw [upd_ne (fun z => by rw [z, h0] at e; cases e)]
    exact I.base.free b u e n hx
  · have z := I.base.tups b xs e
    rw [upd_ne (ne_of_none z hn)]
    exact z
  · have z := I.base.frzs b u xs e
    rw [upd_ne (ne_of_none z hn)]
    exact z
  · obtain ⟨more, z⟩ := I.base.tbls b ps e
    exact ⟨more, by rw [upd_ne (ne_of_none z hn)]; exact z⟩
  · rw [upd_ne hL.symm]
    exact I.free
  · rw [upd_ne (hc x c e)]
    exact I.freeC x c e
  · obtain ⟨a1, a2, a3⟩ := I.pin q hq
    exact ⟨a1, by rw [upd_ne (hp q hq)]; exact a2, a3⟩
  · by_cases hb : b = p
    · subst hb
      rw [upd_same] at e
      cases e
      exact new
    · rw [upd_ne hb] at e
      exact (I.hok b u e).stay (fun c v _ q => q) (fun c q => by rw [upd_ne (ne_of_none q hn)]; exact q) fun c xs q => by rw [upd_ne (ne_of_none q hn)]; exact q
theorem unbind_ok {M : Model} {A : Around} {E : Value → Shared → Prop} {i : Nat} {x : Str} {pos : Pos} {Q : Unit → Shared → Prop} (I : Inv X pins σ H s) (hN : X.N.Nodup) (hi : X.N[i]? = some x) (hx : X.env.scope.names.lookup x = some .local)
    (h : ∀ s', Inv X pins (σ.set i none) H s' → Q () s') : wpAny M A (do bindName X.env x .none; unbindBehindTheSuite X.env x pos) Q E s := by
  refine wpAny_bind (wpAny_bindName (store_ok I hN hi (Or.inl hx) (v := .non) rfl (fun s1 I1 => ?_) (.inr hx)))
  have hkind : (X.env.scope.kind == .class || (X.env.scope.kind == .module && X.env.locals != X.env.globals)) = false := by rw [I.ok.kind]; rfl
  obtain ⟨m, hn, hl⟩ := I1.loc
  have hlen : i < (σ.set i (some V.non)).length := by
    rw [I1.len]
    exact (List.getElem?_eq_some_iff.mp hi).1
  obtain ⟨u, ru, lk⟩ := hl i x .non hi (by rw [List.length_set] at hlen; simp [hlen]) (Or.inl hx)
  have hm : m x = some u := by
    rcases lk with ⟨_, z⟩ | ⟨z, _⟩
    · exact z
    · have hx' : X.env.kindOf x = some .local := hx
      rcases z with z | z <;> rw [hx'] at z <;> cases z
  unfold unbindBehindTheSuite
  refine wpAny_onRaise (wpAny_unbindName_local hx hn hm hkind fun h' v hn' sb => ?_)
  refine h _ ?_
  have tracked : HOk X.prog X.w H h' := fun b ob e => by
    refine (I1.hok b ob e).stay (fun c w' hc q => (sb.2 c ?_).trans q) (fun _ q => q) fun _ _ q => q
    rintro rfl
    rcases hc with z | hc
    · rw [← z, I1.free] at e; cases e
    · rw [I1.free] at hc; cases hc
  refine ⟨I.ok, I1.os, I1.bare, ⟨fun b o e n hb hx => ?_, fun b o e n hb hx => ?_, I1.base.free, fun b o e hx => ?_, I1.base.tups, I1.base.frzs, I1.base.tbls⟩, ⟨_, hn', fun j y v' e1 e2 e3 => ?_⟩, fun y c e => ?_, I1.free, I1.freeC, fun p hp => ?_, tracked, by rw [List.length_set]; exact I.len⟩
  · exact (sb.2 b (Nat.ne_of_lt (Nat.lt_of_lt_of_le (Heap.lt_size e) I.ok.above))).trans (I1.base.keep b o e n hb hx)
  · obtain ⟨sl, e1⟩ := I1.base.slot b o e n hb hx
    exact ⟨sl, (sb.2 b (Nat.ne_of_lt (Nat.lt_of_lt_of_le (Heap.lt_size e) I.ok.above))).trans e1⟩
  · obtain ⟨o', e1⟩ := I1.base.there b o e hx
    exact ⟨o', (sb.2 b (Nat.ne_of_lt (Nat.lt_of_lt_of_le (Heap.lt_size e) I.ok.above))).trans e1⟩
  · have hj : j ≠ i := fun z => by
      subst z
      rw [List.getElem?_set] at e2
      split at e2
      · split at e2 <;> cases e2
      · rename_i z
        exact absurd rfl z
    rw [List.getElem?_set_ne (Ne.symm hj)] at e2
    obtain ⟨u', r', q⟩ := hl j y v' e1 (by rw [List.getElem?_set_ne (Ne.symm hj)]; exact e2) e3
    refine ⟨u', r', ?_⟩
    rcases q with ⟨k, e⟩ | ⟨k, c, e, z⟩
    · refine .inl ⟨k, ?_⟩
      have : y ≠ x := fun e => hj (nodup_ix hN e1 (e ▸ hi))
      simp [this, e]
    · exact .inr ⟨k, c, e, z.sameBut sb (I1.cne y c e)⟩
  · obtain ⟨w', z⟩ := I1.cell y c e
    exact ⟨w', z.sameBut sb (I1.cne y c e)⟩
  · obtain ⟨e, n, ne, nf, d⟩ := I1.pin p hp
    exact ⟨(sb.2 p.1 ne).trans e, n, ne, nf, d⟩
theorem cxe_back {H1 H2 : Hp} {s1 s' : Shared} {cls a0 : Value} {B h5 : Heap} (I1 : Inv X pins σ H1 s1) (os : s'.os = s1.os) (bare : AllBare s'.gens) (un : Un (frs X.stack) [] H1 H2 s1.heap s'.heap) (hok : HOk X.prog X.w H2 s'.heap)
    (fl : Heap.FlyingW B X.stack ea cls a0 h5) (cov : ∀ b o, s'.heap.get? b = some o → b ∉ frs X.stack → (H2 b ≠ none ∨ s1.heap.get? b ≠ none) → B.get? b = some o) (sm : s'.heap.UpToSlots h5) : Inv X pins σ H2 { s' with heap := h5 } := by
  have nx : ∀ b, b ∉ ([] : List Addr) := fun b => by simp
  have k5 : ∀ b o, s'.heap.get? b = some o → b ∉ frs X.stack → (H2 b ≠ none ∨ s1.heap.get? b ≠ none) → h5.get? b = some o := fun b o e n1 n2 => fl.1 b o (cov b o e n1 n2)
  have slt : ∀ b o, s1.heap.get? b = some o → b ∈ frs X.stack → ∃ sl, h5.get? b = some { o with slots := sl } := fun b o e hb => by
    obtain ⟨_, o', ho', hd⟩ := I1.stack.mem hb
    rw [e] at ho'
    cases ho'
    obtain ⟨sl, e1⟩ := un.slot b o e (I1.stkFree b hb) hb (nx b)
    obtain ⟨sl', e2⟩ := sm b _ e1 hd
    exact ⟨sl', e2⟩
  have fr2 : ∀ b u, H2 b = some u → b ∉ frs X.stack := fun b u e hb => by
    obtain ⟨_, o', ho', hd⟩ := I1.stack.mem hb
    rw [un.free b o' ho' (I1.stkFree b hb) (nx b)] at e
    cases e
  refine I1.call' (s' := { s' with heap := h5 }) (ch := []) os ⟨fun b o e n hb _ => ?_, fun b o e n hb _ => slt b o e hb, un.free, fun b o e hx => ?_, un.tups, un.frzs, un.tbls⟩ (fun b u e => ?_) bare fun b hb => absurd hb (nx b)
  · exact k5 b o (un.keep b o e n hb (nx b)) hb (.inr (by rw [e]; simp))
  · by_cases hb : b ∈ frs X.stack
    · obtain ⟨sl, z⟩ := slt b o e hb
      exact ⟨_, z⟩
    · obtain ⟨o', e1⟩ := un.there b o e hx
      exact ⟨o', k5 b o' e1 hb (.inr (by rw [e]; simp))⟩
  · refine (hok b u e).stay (fun c v hc q => ?_) (fun _ q => q) fun _ _ q => q
    rcases hc with z | z
    · subst z
      exact k5 c v q (fr2 c u e) (.inl (by rw [e]; simp))
    · exact k5 c v q (fr2 c _ z) (.inl (by rw [z]; simp))
def ExcAt (p : Addr) (cls : Value) (h : Heap) : Prop := ∃ o, h.get? p = some o ∧ o.cls = cls
end
end L2
namespace L2
open PySem PySem.Spec PySem.W PySem.Calls PyProof.Rows
structure ExcKit (K : Frag) (C : Addr) : Prop where
  ga : findIn K (.ref C) "__getattribute__" = some (some (.builtin "BaseException.__getattribute__"))
  gx : findIn K (.ref C) "__getattr__" = some none
  cl : findIn K (.ref C) "__class__" = some (some (.builtin "object.__class__"))
  mo : mroIn K C (.type "object") = some true
  mb : mroIn K C (.type "BaseException") = some true
section
variable {prog : Program} {w : World} {A : Around} {E : Value → Shared → Prop} {h : Heap} {g : Array GenState} {d : Drawn} {t : Nat} {os : OsState} {a C : Addr} {o : Obj} {K : Frag}
theorem exc_ty {M : Model} (hx : h.get? a = some o) (hc : o.cls = .ref C) : Looks M h (typeOf (.ref a)) (.ref C) := hc ▸ (Looks.ld hx).andThen .now
open Builtin Builtin.ObjectAttr Builtin.Getset_descriptor in
theorem exc_get {R : Result → Shared → Prop} {tp : Value} (X : K.In h) (k : ExcKit K C) (hx : h.get? a = some o) (hc : o.cls = .ref C) (hq : R (.ok (.ret (.ref C))) ⟨h, g, d, t, os⟩) :
    codeAny (model prog w) A (.call (.builtin "getset_descriptor.__get__") ⟨[.builtin "object.__class__", .ref a, tp], []⟩) R ⟨h, g, d, t, os⟩ := by
  have L0 := exc_ty (M := model prog w) hx hc
  have L1 := looks_mroIn (M := model prog w) X k.mo
  refine codeAny_call_builtin KF.slot_gs.plain KF.entry_gs (KF.slot_gs.check _ _ _ _ _ _ _ _ KF.type_class (KF.args_gs _ _ _) ?_)
  unfold Builtin.«getset_descriptor.__get__» descrGet
  rw [dga_obj]
  refine wpAny_bind (wpAny_pure ?_)
  unfold descrGetter descrCheckInstance descrNameAndClass isInstance
  simp only [KF.owner_class]
  repeat lk
  refine ⟨Code.quiet_builtin _ (by decide +kernel), codeAny_builtin KF.entry_class ?_⟩
  unfold Builtin.«object.__class__» shownTypeOf
  repeat lk
  exact hq
theorem exc_entry {tk : Tok} {Q : Fin → Shared → Prop} (X : K.In h) (k : ExcKit K C) (hx : h.get? a = some o) (hc : o.cls = .ref C) (hq : Q (.done (.ret (.ref C))) ⟨h, g, d, t, os⟩) :
    wpAny (model prog w) A (Builtin.«object.__getattribute__» ⟨[.ref a, .str "__class__" tk], []⟩) Q E ⟨h, g, d, t, os⟩ := by
  have hT5 : (⟨h, g, d, t, os⟩ : Shared).TypeIs (.builtin "object.__class__") "getset_descriptor" := F.typeOf_object_class
  have f5 := F.typeOf_object_class
  have f6 := F.slot_gs_get.lookup
  have f7 := F.slot_gs_set.lookup
  have L0 := exc_ty (M := model prog w) hx hc
  have L3 := looks_findIn (M := model prog w) X k.cl
  repeat (any_goals (first | assumption | with_reducible refine L3.at ?_ | (with_reducible refine wpAny_loadPart_at hx ?_; rw [hc]) | wp_step))
  refine exc_get X k hx hc ?_
  repeat (any_goals (first | assumption | wp_step))
theorem exc_check {M : Model} {nameV : Value} {Q : Unit → Shared → Prop} (X : K.In h) (k : ExcKit K C) (hx : h.get? a = some o) (hc : o.cls = .ref C) (hq : Q () ⟨h, g, d, t, os⟩) :
    wpAny M A (checkBuiltinCall "BaseException.__getattribute__" ⟨[.ref a, nameV], []⟩) Q E ⟨h, g, d, t, os⟩ := by
  have hk : builtinKind "BaseException.__getattribute__" = some .slot := by decide +kernel
  have hsplit : splitId "BaseException.__getattribute__" = some ("BaseException", "__getattribute__") := by decide +kernel
  have L0 := exc_ty (M := M) hx hc
  have L1 := looks_mroIn (M := M) X k.mb
  have ha := F.args_bexc_ga (.ref a) nameV
  simp only [checkBuiltinCall, hk, hsplit]
  refine wpAny_bind ?_
  unfold isInstance
  repeat (first | with_reducible refine L0.at ?_ | with_reducible refine L1.at ?_ | wp_step)
  exact hq
theorem exc_call {tk : Tok} {R : Result → Shared → Prop} (X : K.In h) (k : ExcKit K C) (hx : h.get? a = some o) (hc : o.cls = .ref C) (hq : R (.ok (.ret (.ref C))) ⟨h, g, d, t, os⟩) :
    codeAny (model prog w) A (.call (.builtin "BaseException.__getattribute__") ⟨[.ref a, .str "__class__" tk], []⟩) R ⟨h, g, d, t, os⟩ :=
  codeAny_call_builtin F.attrBase_ValueError.ga.plain F.entry_bexc_ga (exc_check X k hx hc (exc_entry X k hx hc hq))
theorem exc_by {tk : Tok} {fill expr : Bool} {Q : Value → Shared → Prop} (X : K.In h) (k : ExcKit K C) (hx : h.get? a = some o) (hc : o.cls = .ref C) (hq : Q (.ref C) ⟨h, g, d, t, os⟩) :
    wpAny (model prog w) A (getAttrBy (.ref a) (.str "__class__" tk) fill expr) Q E ⟨h, g, d, t, os⟩ := by
  have f3 := F.attrBase_ValueError.ga.bind (.ref a)
  have hx0 : (expr && onTheHeap (Value.builtin "BaseException.__getattribute__")) = false := by cases expr <;> rfl
  have hx2 : (Value.builtin "BaseException.__getattribute__" == Value.builtin "object.__getattribute__") = false := by decide +kernel
  have hx1 : (onTheHeap (Value.ref C) && Value.builtin "BaseException.__getattribute__" == Value.builtin "object.__getattribute__") = false := by rw [hx2]; rfl
  have L0 := exc_ty (M := model prog w) hx hc
  have L1 := looks_findIn (M := model prog w) X k.ga
  have L2 := looks_findIn (M := model prog w) X k.gx
  repeat (any_goals (first | assumption | with_reducible refine L1.at ?_ | with_reducible refine L2.at ?_ | (with_reducible refine wpAny_loadPart_at hx ?_; rw [hc]) | wp_step))
  refine exc_call X k hx hc ?_
  repeat (any_goals (first | assumption | wp_step))
theorem exc_attr {Q : Option Value → Shared → Prop} (X : K.In h) (k : ExcKit K C) (hx : h.get? a = some o) (hc : o.cls = .ref C) (hq : Q (some (.ref C)) ⟨h, g, d, t + 1, os⟩) :
    wpAny (model prog w) A (getAttr? (.ref a) "__class__") Q E ⟨h, g, d, t, os⟩ := by
  unfold getAttr? getAttrBy?
  repeat (any_goals (first | assumption | with_reducible apply exc_by X k hx hc | wp_step))
theorem kitx_exc (k : ExcKit K C) : KitX K (.ref a) (.ref C) (ExcAt a (.ref C)) where
  ty := fun _ _ _ ⟨_, e, c⟩ => exc_ty e c
  it := fun _ _ X _ => by
    obtain ⟨cdD, hcD, _⟩ := Option.bind_eq_some_iff.mp k.mo
    unfold clsIn at hcD
    split at hcD
    · rename_i c' d' cd' sl' ho
      intro A' Q' E' s' k q
      unfold isType loadHead
      exact wpAny_bind (wpAny_loadPart (k _ _ (X _ _ ho)) (wpAny_pure q))
    · cases hcD
  ne := fun h tp dd its n sl X htp => by
    obtain ⟨cdD, hcD, _⟩ := Option.bind_eq_some_iff.mp k.mo
    refine Bool.eq_false_iff.mpr fun q => ?_
    have e : C = tp := Value.ref.inj (beq_iff_eq.mp q)
    subst e
    unfold clsIn at hcD
    split at hcD
    · rename_i c' d' cd' sl' ho
      have z := (X _ _ ho).symm.trans htp
      cases z
    · cases hcD
  ca := fun {_ _ _ _ _ s} X ⟨o, e, c⟩ q => by
    obtain ⟨h, g, d, t, os⟩ := s
    exact exc_attr X k e c q
end
section
variable {X : Cx}
def rIsiX (K : Frag) : List V → Hp → VK → Prop := fun xs H Q => ∃ p c cv C b, xs = [.ref p, c] ∧ RelV c cv ∧ H p = some (.ext (ExcAt p (.ref C))) ∧ ExcKit K C ∧ kitOne K (.ref C) cv = some b ∧ Q (.bl b) H
theorem relV_fun {c : V} {u v : Value} (h : (∃ n, c = .ty n) ∨ ∃ a, c = .ref a) (r : RelV c u) (q : RelV c v) : u = v := by
  rcases h with ⟨n, rfl⟩ | ⟨n, rfl⟩
  · exact (show u = Value.type n from r).trans (show v = Value.type n from q).symm
  · exact (show u = Value.ref n from r).trans (show v = Value.ref n from q).symm
theorem call_isiX : CallR X (.builtin "isinstance") (fun xs H Q => ∃ p c cv C b, xs = [.ref p, c] ∧ ((∃ n, c = .ty n) ∨ ∃ a, c = .ref a) ∧ RelV c cv ∧ H p = some (.ext (ExcAt p (.ref C))) ∧ ExcKit X.K C ∧ kitOne X.K (.ref C) cv = some b ∧ Q (.bl b) H) := by
  intro pins s σ H xs us Q I r h
  obtain ⟨p, c, cv, C, b, rfl, hk, rc, hp, k, e, q⟩ := h
  obtain ⟨u, w', rfl, r1, r2⟩ := vals2 r
  cases (show u = Value.ref p from r1)
  cases relV_fun hk rc r2
  obtain ⟨φ, _, _⟩ := (show ObjOk X.prog X.w H s.heap p (.ext (ExcAt p (.ref C))) from I.hok p _ hp)
  exact kia_one (kitx_exc k) I.kIn φ e (fun z => nomatch z) fun tk => ⟨.bl b, H, I.tok tk, rfl, q⟩
end
end L2
namespace L2
open PySem PySem.Spec PyProof.Rows
def tTry (K : PySem.W.Frag) (Ch : Value) (i : Nat) (sp : Sp) (t : TA) (ts : TS) : TS := fun D σ H => t σ H fun vs H1 => sp vs H1 (fun _ H2 => D.nx σ H2)
  (fun cls _ H2 => (∃ C, cls = .ref C) ∧ PySem.W.exmOne K cls Ch = some true ∧ ∀ ea, H2 ea = none → ts { nx := fun σ' H' => D.nx (σ'.set i none) H', rt := fun _ _ => False } (σ.set i (some (.ref ea))) (upd H2 ea (.ext (ExcAt ea cls))))
section
variable {X : Cx} {k : Nat} {f : Addr} {fd : FuncData} {ps : List Str} {sp : Sp} {x c n : Str} {p cpos epos np hpos pos : Pos} {e : Expr} {es : List Expr} {t : TA} {b₀ : Stmt} {suite : List Stmt} {ts : TS} {i : Nat} {Ch : Value}
theorem ps_try (F : FnOk X.prog X.w X.K X.mg X.base (CXe X.prog X.w) k f fd ps sp) (hr : Room k X.A) (hg : Gl X x) (hm : X.mg x = some (.ref f)) (hk : PySem.W.keepIn X.K (.ref f) = true) (hb : Binds X.K fd ps [])
    (ha : PA X (e :: es) t) (hgc : Gl X c) (hmc : X.mg c = some Ch) (hN : X.N.Nodup) (hi : X.N[i]? = some n) (hn : X.env.scope.names.lookup n = some .local) (hsu : ∀ ea, PSs (X.marked ea) (b₀ :: suite) ts)
    (hcalm : X.calm = true) (hne : ∀ e s, X.xe e s → False) (hex : X.ex = []) (hst : X.stack = X.env :: X.outer) (hfr : X.env.frame = some X.env.locals)
    (hdb : (x == ("__debug__" : Str)) = false := by decide) (hdc : (c == ("__debug__" : Str)) = false := by decide) (he : starEach (e :: es) X.env = (false, eval e X.env) :: starEach es X.env := by rfl) (hpl : (backTo cpos (starEach es X.env)).any (·.1) = false := by rfl)
    (hs : swapsWith (.Call (.Name x p) (e :: es) [] cpos) none epos.line X.env = pure false := by rfl) :
    PS X (.Try [.Expr (.Call (.Name x p) (e :: es) [] cpos) epos] [.ExceptHandler (some (.Name c np)) (some n) (b₀ :: suite) hpos] [] [] pos) (tTry X.K Ch i sp t ts) := by
  intro pins s σ H D I h
  have frm : X.A.frames = some (X.env :: X.outer) := by rw [I.ok.frames, hst]
  refine wpAny_Try_except (wpAny_execs_cons (wpAny_Expr_any ?_ I.quiet hs))
  refine wpAny_Call_Name_kw (ld_glob I hg hm ?_ hdb)
  refine PySem.W.callWith_K (h₀ := X.base) I.ok.mod.kin hk (wpAny_mono (ha cpos pins s σ H _ I h) (fun us s1 hq => ?_) fun _ _ z => (hne _ _ z).elim) he hpl
  obtain ⟨vs, H1, I1, r, q⟩ := hq
  refine ⟨I1.kIn, ?_⟩
  have hl : (us ++ []).length = ps.length := by rw [List.append_nil, ← r.length]; exact F.len _ _ _ _ q
  have hbd := hb s1 us I1.kIn hl
  rw [List.append_nil] at hbd
  refine wpAny_call (codeAny_mono (F.run X.A X.stack s1 H1 ⟨us, []⟩ us vs _ _ hr I1.env0 hbd r q) fun res s' hq => ?_)
  cases res with
  | ok fl =>
    cases fl with
    | ret u =>
      obtain ⟨v, H2, I2, _, q2⟩ := I1.after hq
      exact wpAny_execs_nil (wpAny_execs_nil ⟨σ, H2, I2, q2⟩)
    | next => exact False.elim hq
    | brk => exact False.elim hq
    | cont => exact False.elim hq
  | error ev =>
    obtain ⟨ea, cls, a0, H2, B, rfl, hos, bare, un, hok, fl, cov, hea, sea, ⟨C, rfl⟩, hx, hsuite⟩ := hq
    rw [hst] at fl
    refine wpAny_looks_onW frm hfr fl fun h4 held4 sm4 => ?_
    refine wpAny_landsW held4 fun h5 fl5 sm5 => ?_
    have fl5' : Heap.FlyingW B X.stack ea (.ref C) a0 h5 := by rw [hst]; exact fl5
    have I5 : Inv X pins σ H2 { s' with heap := h5 } := cxe_back I1 hos bare un hok fl5' cov (sm4.trans sm5)
    refine wpAny_handleBy_cons (codeAny_handlers_test (ld_glob (I5.marked ea) hgc hmc ?_ hdc)) (by intro q; cases q)
    obtain ⟨ob, hob, hobc⟩ := fl5.there
    have LT : PySem.W.Looks (model X.prog X.w) h5 (typeOf (.ref ea)) (.ref C) := hobc ▸ (PySem.W.Looks.ld hob).andThen .now
    refine (PySem.W.exm_one I5.kIn LT hx).here ?_
    refine codeAny_handlers_suite_as ?_
    refine lands_againW fl5 fun h6 fl6 sm6 => ?_
    have fl6' : Heap.FlyingW B X.stack ea (.ref C) a0 h6 := by rw [hst]; exact fl6
    have I6 : Inv X pins σ H2 { s' with heap := h6 } := cxe_back I1 hos bare un hok fl6' cov ((sm4.trans sm5).trans sm6)
    obtain ⟨ob6, hob6, hobc6⟩ := fl6.there
    have ne1 : ∀ b o, s1.heap.get? b = some o → b ≠ ea := fun b o e z => by rw [z, sea] at e; cases e
    have I7 : Inv X pins σ (upd H2 ea (.ext (ExcAt ea (.ref C)))) { s' with heap := h6 } := by
      refine I6.adopt hea ?_ ?_ (fun y cc e => ?_) (fun p hp => ?_) ⟨⟨ob6, hob6, hobc6⟩, ⟨ob6, hob6⟩, fun h1 h2 ⟨o, e, ec⟩ kp => ⟨o, kp o e, ec⟩⟩
      · cases q : X.s₀.heap.get? ea with
        | none => rfl
        | some o =>
          obtain ⟨o', z⟩ := I1.base.there ea o q (by rw [hex]; simp)
          rw [sea] at z
          cases z
      · obtain ⟨m, ⟨o, _, _, z, _⟩, _⟩ := I1.loc
        exact (ne1 _ _ z).symm
      · obtain ⟨v, o, z, _⟩ := I1.cell y cc e
        exact ne1 _ _ z
      · exact ne1 _ _ (I1.pin p hp).1
    refine store_ok I7 hN hi (Or.inl hn) (v := .ref ea) rfl (fun s8 I8 => ?_) (.inr hn)
    refine wpAny_mono (hsu ea pins s8 _ _ _ (I8.marked ea) (hsuite ea hea)) (fun fw s9 h9 => ?_) fun _ _ z => z.elim
    cases fw with
    | next =>
      obtain ⟨σ9, H9, I9, q9⟩ := h9
      exact unbind_ok (I9.unmarked I.ok.hd) hN hi hn fun s10 I10 => ⟨_, H9, I10, q9⟩
    | ret v => obtain ⟨_, _, _, _, _, z⟩ := h9; exact z.elim
    | brk => obtain ⟨_, _, _, z⟩ := h9; exact z.elim
    | cont => obtain ⟨_, _, _, z⟩ := h9; exact z.elim
end
theorem Fun.okE {P : Program} {w : World} {K : PySem.W.Frag} {mg : Str → Option Value} {base : Heap} {x qual : Str} {st : Stmt} {f : Addr} {fd : FuncData} {N ps : List Str} {k : Nat} {sp : Sp} (F : Fun K x qual st f fd) (S : FnScope N ps (defScope st)) (len : ∀ vs H Q E, sp vs H Q E → vs.length = ps.length)
    (hbody : ∀ (cdv : Value) (A : Around) (outer : List Env) (s : Shared) (H : Hp) (vs : List V) (Q : VK) (E : XK), Room k (A.deeper (envOfC qual (defScope st) s.heap.objs.size f cdv)) → sp vs H Q E →
      ∃ t, PSs (cxOf (CXe P w) P w K mg base N qual (defScope st) f cdv A outer s H E) (defBody st) t ∧ t { nx := fun _ H' => Q .non H', rt := Q } (start N vs) H) : FnOk P w K mg base (CXe P w) (k + 1) f fd ps sp := by
  obtain ⟨oc, od, kV, doc, pm, an, cdv, ct, osl, rfl, lk, hcd⟩ := F.ex
  exact fn_of lk hcd S len fun A outer s H vs Q E hr hsp => hbody cdv A outer s H vs Q E hr hsp
end L2
namespace L2
open PySem PySem.Spec PyProof.Rows
section
variable {X : Cx}
end
end L2
namespace L2
open PySem PySem.Spec PyProof.Rows
theorem pass_up {P : Program} {w : World} {K : PySem.W.Frag} {mg : Str → Option Value} {base : Heap} {N : List Str} {qual : Str} {scope : Scope} {f : Addr} {cdv : Value} {A : Around} {outer : List Env} {s : Shared} {H : Hp} {E : XK} :
    Passes (CXe P w) (cxOf (CXe P w) P w K mg base N qual scope f cdv A outer s H E) E := by
  intro pins σ H1 s1 e s' I hcx
  obtain ⟨ea, cls, a0, H2, B, rfl, hos, bare, un, hok, fl, cov, hea, sea, he⟩ := hcx
  have fr : (A.deeper (envOfC qual scope s.heap.objs.size f cdv)).frames = some (envOfC qual scope s.heap.objs.size f cdv :: outer) := I.ok.frames
  have hfs : ∀ b, b ∈ frs (envOfC qual scope s.heap.objs.size f cdv :: outer) → b = s.heap.objs.size ∨ b ∈ frs outer := fun b hb => by
    obtain ⟨env, he, hf⟩ := List.mem_filterMap.mp hb
    rcases List.mem_cons.mp he with rfl | he
    · exact .inl (Option.some.inj hf).symm
    · exact .inr (List.mem_filterMap.mpr ⟨env, he, hf⟩)
  have hof : ∀ b, b ∈ frs outer → b ∈ frs (envOfC qual scope s.heap.objs.size f cdv :: outer) := fun b hb => by
    obtain ⟨env, he, hf⟩ := List.mem_filterMap.mp hb
    exact List.mem_filterMap.mpr ⟨env, List.mem_cons_of_mem _ he, hf⟩
  have old : ∀ b o, s.heap.get? b = some o → b ≠ s.heap.objs.size := fun b o e => Nat.ne_of_lt (Heap.lt_size e)
  have nx : ∀ b, b ∉ ([] : List Addr) := fun b => by simp
  have u1 : Un (frs outer) [] H H1 s.heap s1.heap := I.base
  have u2 : Un (frs (envOfC qual scope s.heap.objs.size f cdv :: outer)) [] H1 H2 s1.heap s'.heap := un
  show wpAny _ _ (leaving _ _) _ _ _
  refine wpAny_leaves_onW fr rfl fl fun h'' fl2 sm => ?_
  have k2 : ∀ b o, s'.heap.get? b = some o → b ∉ frs (envOfC qual scope s.heap.objs.size f cdv :: outer) → (H2 b ≠ none ∨ s1.heap.get? b ≠ none) → h''.get? b = some o := fun b o e n1 n2 => fl2.1 b o (cov b o e n1 n2)
  have slt : ∀ b o, s1.heap.get? b = some o → b ∈ frs (envOfC qual scope s.heap.objs.size f cdv :: outer) → ∃ sl, h''.get? b = some { o with slots := sl } := fun b o e hb => by
    obtain ⟨_, o', ho', hd⟩ := I.stack.mem hb
    rw [e] at ho'
    cases ho'
    obtain ⟨sl, e1⟩ := u2.slot b o e (I.stkFree b hb) hb (nx b)
    obtain ⟨sl', e2⟩ := sm b _ e1 hd
    exact ⟨sl', e2⟩
  have fr2 : ∀ b u, H2 b = some u → b ∉ frs (envOfC qual scope s.heap.objs.size f cdv :: outer) := fun b u e hb => by
    obtain ⟨_, o', ho', hd⟩ := I.stack.mem hb
    rw [u2.free b o' ho' (I.stkFree b hb) (nx b)] at e
    cases e
  have nof : ∀ b o, s.heap.get? b = some o → b ∉ frs outer → b ∉ frs (envOfC qual scope s.heap.objs.size f cdv :: outer) := fun b o e n z => (hfs b z).elim (old b o e) n
  have thr : ∀ b o, s.heap.get? b = some o → ∃ o', h''.get? b = some o' := fun b o e => by
    obtain ⟨o1, e1⟩ := u1.there b o e (nx b)
    by_cases hb : b ∈ frs (envOfC qual scope s.heap.objs.size f cdv :: outer)
    · obtain ⟨sl, z⟩ := slt b o1 e1 hb
      exact ⟨_, z⟩
    · obtain ⟨o2, e2⟩ := u2.there b o1 e1 (nx b)
      exact ⟨o2, k2 b o2 e2 hb (.inr (by rw [e1]; simp))⟩
  refine ⟨ea, cls, a0, H2, B, rfl, hos.trans I.os, bare, ⟨fun b o e n hb _ => ?_, fun b o e n hb _ => ?_, fun b o e n _ => ?_, fun b o e _ => thr b o e, fun b xs e => u2.tups b xs (u1.tups b xs e), fun b o u e => u2.frzs b o u (u1.frzs b o u e), fun b ps e => ?_⟩, fun b u e => ?_, fl2, fun b o e nb hh => ?_, hea, ?_, he⟩
  · have e1 := u1.keep b o e n hb (nx b)
    have n1 := u1.free b o e n (nx b)
    have hb2 := nof b o e hb
    exact k2 b o (u2.keep b o e1 n1 hb2 (nx b)) hb2 (.inr (by rw [e1]; simp))
  · obtain ⟨sl, e1⟩ := u1.slot b o e n hb (nx b)
    obtain ⟨sl2, e2⟩ := slt b _ e1 (hof b hb)
    exact ⟨sl2, e2⟩
  · obtain ⟨o1, e1⟩ := u1.there b o e (nx b)
    exact u2.free b o1 e1 (u1.free b o e n (nx b)) (nx b)
  · obtain ⟨m1, e1⟩ := u1.tbls b ps e
    obtain ⟨m2, e2⟩ := u2.tbls b _ e1
    exact ⟨m1 ++ m2, by rw [e2]; first | rw [Array.append_assoc] | simp⟩
  · refine (hok b u e).stay (fun c v hc q => ?_) (fun _ q => q) fun _ _ q => q
    rcases hc with z | z
    · subst z
      exact k2 c v q (fr2 c u e) (.inl (by rw [e]; simp))
    · exact k2 c v q (fr2 c _ z) (.inl (by rw [z]; simp))
  · have st : b ∉ frs (envOfC qual scope s.heap.objs.size f cdv :: outer) ∧ (H2 b ≠ none ∨ s1.heap.get? b ≠ none) ∧ ∃ o2, s'.heap.get? b = some o2 := by
      rcases hh with z | z
      · cases q : H2 b with
        | none => exact absurd q z
        | some u => exact ⟨fr2 b u q, .inl (by simp), hok.there q⟩
      · cases q : s.heap.get? b with
        | none => exact absurd q z
        | some o1 =>
          obtain ⟨o3, e3⟩ := u1.there b o1 q (nx b)
          exact ⟨nof b o1 q nb, .inr (by rw [e3]; simp), u2.there b o3 e3 (nx b)⟩
    obtain ⟨n1, n2, o2, e2⟩ := st
    have e3 := k2 b o2 e2 n1 n2
    rw [e] at e3
    cases e3
    exact cov b _ e2 n1 n2
  · cases q : s.heap.get? ea with
    | none => rfl
    | some o =>
      obtain ⟨o', e1⟩ := u1.there ea o q (nx ea)
      rw [sea] at e1
      cases e1
end L2
namespace L2
open PySem PySem.Spec PyProof.Rows
def tMakeK (C : Addr) (sp : Sp) (gV : List V → List V → List V) (E : XK) (tk : TA) : TE := fun σ H Q => tk σ H fun zs H1 => ∀ x dx, H1 x = none → H1 dx = none → dx ≠ x →
  sp (gV [.ref x] zs) (upd (upd H1 dx (.own x)) x (.ins C dx [])) (fun v H2 => v = .non ∧ Q (.ref x) H2) E
section
variable {X : Cx} {CX : CXT} {k : Nat} {f C : Addr} {fd : FuncData} {ps ks : List Str} {sp : Sp} {E : XK} {x : Str} {p pos : Pos} {kws : List Keyword} {tk : TA} {g : List Value → List Value → List Value} {gV : List V → List V → List V}
theorem pe_makeK0 (M : Mk X.K C f) (F : FnOk X.prog X.w X.K X.mg X.base CX k f fd ps sp) (hr : Room (k + 1) X.A) (hg : Gl X x) (hm : X.mg x = some (.ref C)) (hb : KBinds X.K fd ps ks g gV) (hx : Passes CX X E)
    (hkw : PK X kws tk) (hall : (backToKw pos (keywordEach kws X.env)).all (·.1.isSome) = true := by rfl) (hks : (backToKw pos (keywordEach kws X.env)).filterMap (·.1) = ks := by rfl)
    (hdb : (x == ("__debug__" : Str)) = false := by decide) (hpl : ((backTo pos (starEach [] X.env)).any (·.1) || (backToKw pos (keywordEach kws X.env)).any (·.1.isNone)) = false := by rfl) :
    PE X (.Call (.Name x p) [] kws pos) (tMakeK C sp gV E tk) := by
  intro pins s σ H Q I h
  refine wpAny_Call_Name_kw (ld_glob I hg hm ?_ hdb)
  refine PySem.W.callWith_KW0 (h₀ := X.base) I.ok.mod.kin M.kp hall (thn (hkw pos pins s σ H _ I h) fun ws s1 ⟨zs, H1, I1, rz, q⟩ => ⟨I1.kIn, ?_⟩) hpl
  rw [hks]
  have hq := q (s1.heap.objs.size + 1) s1.heap.objs.size (I1.hok.fresh (Nat.le_succ _)) (I1.hok.fresh (Nat.le_refl _)) (Nat.ne_of_lt (Nat.lt_succ_self _))
  have I2 := Inv.made (C := C) I1
  have r2 : Vals (gV [V.ref (s1.heap.objs.size + 1)] zs) (g [Value.ref (s1.heap.objs.size + 1)] ws) := hb.rel (.cons rfl .nil) rz
  have hl : (g [Value.ref (s1.heap.objs.size + 1)] ws).length = ps.length := by
    rw [← r2.length]
    exact F.len _ _ _ _ hq
  refine wpAny_call (make_map (f := f) (vs := []) (kw := ks.zip ws) I1.kIn M.makes M.init (beq_iff_eq.mp M.fn) (codeAny_mono (F.run _ X.stack _ _ ⟨[Value.ref (s1.heap.objs.size + 1)], ks.zip ws⟩ (g [Value.ref (s1.heap.objs.size + 1)] ws) _ _ E (hr.make C [] (ks.zip ws))
    (I2.env0.make C [] (ks.zip ws)) (hb.to _ [Value.ref (s1.heap.objs.size + 1)] ws I2.kIn hl) r2 hq) fun r s' hq' => ?_))
  cases r with
  | error e => exact hx pins σ _ _ e s' I2 hq'
  | ok fl =>
    cases fl with
    | ret u =>
      obtain ⟨v, H', I3, rv, ev, q3⟩ := I2.after hq'
      subst ev
      exact ⟨rv, ⟨V.ref (s1.heap.objs.size + 1), H', I3, rfl, q3⟩⟩
    | next => exact False.elim hq'
    | brk => exact False.elim hq'
    | cont => exact False.elim hq'
end
end L2
namespace L2
open PySem PySem.Spec PyProof.Rows
inductive Dt where
  | non | int (i : Int) | str (x : Str) | tup (ds : List Dt)
mutual
def Dt.beq : Dt → Dt → Bool
  | .non, .non => true
  | .int i, .int j => i == j
  | .str x, .str y => x == y
  | .tup a, .tup b => Dt.beqs a b
  | _, _ => false
def Dt.beqs : List Dt → List Dt → Bool
  | [], [] => true
  | x :: xs, y :: ys => Dt.beq x y && Dt.beqs xs ys
  | _, _ => false
end
mutual
def Dt.hgt : Dt → Nat
  | .tup ds => Dt.hgts ds + 1
  | _ => 0
def Dt.hgts : List Dt → Nat
  | [] => 0
  | d :: r => max (Dt.hgt d) (Dt.hgts r)
end
mutual
def DatAt (K : PySem.W.Frag) (H : Hp) : V → Dt → Prop
  | v, .non => v = .non
  | v, .int i => v = .int i
  | v, .str x => v = .str x
  | v, .tup ds => ∃ r vs, v = .ref r ∧ SqT K H r vs ∧ DatsAt K H vs ds
def DatsAt (K : PySem.W.Frag) (H : Hp) : List V → List Dt → Prop
  | [], [] => True
  | v :: vs, d :: ds => DatAt K H v d ∧ DatsAt K H vs ds
  | _, _ => False
end
mutual
theorem Dt.beq_iff : ∀ (x y : Dt), Dt.beq x y = true ↔ x = y
  | .non, y => by cases y <;> simp [Dt.beq]
  | .int i, y => by cases y <;> simp [Dt.beq]
  | .str i, y => by cases y <;> simp [Dt.beq]
  | .tup a, y => by
    cases y with
    | tup b =>
      have := Dt.beqs_iff a b
      simp [Dt.beq, this]
    | _ => simp [Dt.beq]
theorem Dt.beqs_iff : ∀ (x y : List Dt), Dt.beqs x y = true ↔ x = y
  | [], y => by cases y <;> simp [Dt.beqs]
  | a :: r, y => by
    cases y with
    | nil => simp [Dt.beqs]
    | cons b t =>
      have h1 := Dt.beq_iff a b
      have h2 := Dt.beqs_iff r t
      simp [Dt.beqs, h1, h2]
end
theorem Dt.beq_self (x : Dt) : Dt.beq x x = true := (Dt.beq_iff x x).mpr rfl
theorem Dt.beqs_self (x : List Dt) : Dt.beqs x x = true := (Dt.beqs_iff x x).mpr rfl
theorem Dt.beq_ne {x y : Dt} (h : x ≠ y) : Dt.beq x y = false := by
  cases e : Dt.beq x y with
  | false => rfl
  | true => exact absurd ((Dt.beq_iff x y).mp e) h
theorem Dt.beqs_ne {x y : List Dt} (h : x ≠ y) : Dt.beqs x y = false := by
  cases e : Dt.beqs x y with
  | false => rfl
  | true => exact absurd ((Dt.beqs_iff x y).mp e) h
theorem Dt.hgt_mem : ∀ {ds : List Dt} {d : Dt}, d ∈ ds → d.hgt ≤ Dt.hgts ds
  | e :: r, d, h => by
    have e1 : Dt.hgts (e :: r) = max (Dt.hgt e) (Dt.hgts r) := by simp [Dt.hgts]
    rw [e1]
    rcases List.mem_cons.mp h with z | z
    · rw [z]; omega
    · have := Dt.hgt_mem z
      omega
section
variable {K : PySem.W.Frag} {H H' : Hp}
theorem DatAt.non : DatAt K H .non .non := by simp [DatAt]
theorem DatAt.int (i : Int) : DatAt K H (.int i) (.int i) := by simp [DatAt]
theorem DatAt.str (i : Str) : DatAt K H (.str i) (.str i) := by simp [DatAt]
theorem DatAt.tup {r : Addr} {vs : List V} {ds : List Dt} (h : SqT K H r vs) (k : DatsAt K H vs ds) : DatAt K H (.ref r) (.tup ds) := by
  simp only [DatAt]
  exact ⟨r, vs, rfl, h, k⟩
theorem DatsAt.nil : DatsAt K H [] [] := by simp [DatsAt]
theorem DatsAt.cons {v : V} {d : Dt} {vs : List V} {ds : List Dt} (h : DatAt K H v d) (k : DatsAt K H vs ds) : DatsAt K H (v :: vs) (d :: ds) := by
  simp only [DatsAt]
  exact ⟨h, k⟩
theorem DatAt.un {v : V} {ds : List Dt} (h : DatAt K H v (.tup ds)) : ∃ r vs, v = .ref r ∧ SqT K H r vs ∧ DatsAt K H vs ds := by
  simp only [DatAt] at h
  exact h
theorem DatsAt.un {vs : List V} {d : Dt} {ds : List Dt} (h : DatsAt K H vs (d :: ds)) : ∃ v r, vs = v :: r ∧ DatAt K H v d ∧ DatsAt K H r ds := by
  cases vs with
  | nil => simp [DatsAt] at h
  | cons v r =>
    simp only [DatsAt] at h
    exact ⟨v, r, rfl, h.1, h.2⟩
theorem DatsAt.un0 {vs : List V} (h : DatsAt K H vs []) : vs = [] := by
  cases vs with
  | nil => rfl
  | cons v r => simp [DatsAt] at h
mutual
theorem DatAt.same (e : Same H H') : ∀ {v : V} {d : Dt}, DatAt K H v d → DatAt K H' v d
  | v, .non, h => by simpa [DatAt] using h
  | v, .int i, h => by simpa [DatAt] using h
  | v, .str i, h => by simpa [DatAt] using h
  | v, .tup ds, h => by
    obtain ⟨r, vs, rfl, h1, h2⟩ := h.un
    exact .tup (e.tup h1) (DatsAt.same e h2)
theorem DatsAt.same (e : Same H H') : ∀ {vs : List V} {ds : List Dt}, DatsAt K H vs ds → DatsAt K H' vs ds
  | vs, [], h => by
    rw [h.un0]
    exact .nil
  | vs, d :: ds, h => by
    obtain ⟨v, r, rfl, h1, h2⟩ := h.un
    exact .cons (DatAt.same e h1) (DatsAt.same e h2)
end
theorem DatsAt.length : ∀ {vs : List V} {ds : List Dt}, DatsAt K H vs ds → vs.length = ds.length
  | vs, [], h => by rw [h.un0]; rfl
  | vs, d :: ds, h => by
    obtain ⟨v, r, rfl, _, h2⟩ := h.un
    simp [DatsAt.length h2]
theorem DatsAt.get : ∀ {vs : List V} {ds : List Dt} {i : Nat} {d : Dt}, DatsAt K H vs ds → ds[i]? = some d → ∃ v, vs[i]? = some v ∧ DatAt K H v d
  | vs, [], i, d, h, e => by simp at e
  | vs, c :: ds, i, d, h, e => by
    obtain ⟨v, r, rfl, h1, h2⟩ := h.un
    cases i with
    | zero =>
      have e' : c = d := by simpa using e
      subst e'
      exact ⟨v, rfl, h1⟩
    | succ i =>
      obtain ⟨u, e1, e2⟩ := DatsAt.get (i := i) (d := d) h2 (by simpa using e)
      exact ⟨u, by simpa using e1, e2⟩
theorem DatsAt.get' {vs : List V} {ds : List Dt} {i : Nat} {v : V} (h : DatsAt K H vs ds) (e : vs[i]? = some v) : ∃ d, ds[i]? = some d ∧ DatAt K H v d := by
  have hl := h.length
  have hi : i < ds.length := by
    have := (List.getElem?_eq_some_iff.mp e).1
    omega
  obtain ⟨u, e1, e2⟩ := h.get (List.getElem?_eq_getElem hi)
  rw [e] at e1
  cases e1
  exact ⟨_, List.getElem?_eq_getElem hi, e2⟩
theorem DatsAt.append : ∀ {vs ws : List V} {ds es : List Dt}, DatsAt K H vs ds → DatsAt K H ws es → DatsAt K H (vs ++ ws) (ds ++ es)
  | vs, ws, [], es, h, k => by
    rw [h.un0]
    exact k
  | vs, ws, d :: ds, es, h, k => by
    obtain ⟨v, r, rfl, h1, h2⟩ := h.un
    exact .cons h1 (DatsAt.append h2 k)
end
theorem Dt.all_beqs : ∀ (a b : List Dt), ((List.range (min a.length b.length)).all (fun j => Dt.beq (a.getD j .non) (b.getD j .non)) && a.length == b.length) = Dt.beqs a b
  | [], [] => by simp [Dt.beqs]
  | [], _ :: _ => by simp [Dt.beqs]
  | _ :: _, [] => by simp [Dt.beqs]
  | x :: a, y :: b => by
    have ih := Dt.all_beqs a b
    have e : min (x :: a).length (y :: b).length = min a.length b.length + 1 := by simp
    rw [e, List.range_succ_eq_map]
    simp only [List.all_cons, List.all_map, Dt.beqs, List.length_cons]
    rw [← ih, Bool.and_assoc]
    congr 1
    congr 1
    rw [Bool.eq_iff_iff]
    simp
section
variable {X : Cx} {pins : List (Addr × Obj)} {σ : St} {H : Hp} {s : Shared}
mutual
theorem DatAt.inj (I : Inv X pins σ H s) : ∀ {v : V} {d e : Dt}, DatAt X.K H v d → DatAt X.K H v e → d = e
  | v, .non, e, h, k => by
    have h' : v = .non := by simpa [DatAt] using h
    subst h'
    cases e <;> simp [DatAt] at k ⊢
  | v, .int i, e, h, k => by
    have h' : v = .int i := by simpa [DatAt] using h
    subst h'
    cases e <;> simp [DatAt] at k ⊢
    exact k
  | v, .str i, e, h, k => by
    have h' : v = .str i := by simpa [DatAt] using h
    subst h'
    cases e <;> simp [DatAt] at k ⊢
    exact k
  | v, .tup ds, e, h, k => by
    obtain ⟨r, vs, rfl, h1, h2⟩ := h.un
    cases e with
    | tup es =>
      obtain ⟨r', ws, e', k1, k2⟩ := k.un
      cases e'
      have := I.tuple_inj h1 k1
      subst this
      rw [DatsAt.inj I h2 k2]
    | _ => simp [DatAt] at k
theorem DatsAt.inj (I : Inv X pins σ H s) : ∀ {vs : List V} {ds es : List Dt}, DatsAt X.K H vs ds → DatsAt X.K H vs es → ds = es
  | vs, [], es, h, k => by
    have := h.un0
    subst this
    cases es with
    | nil => rfl
    | cons _ _ => simp [DatsAt] at k
  | vs, d :: ds, es, h, k => by
    obtain ⟨v, r, rfl, h1, h2⟩ := h.un
    cases es with
    | nil => simp [DatsAt] at k
    | cons e es =>
      simp only [DatsAt] at k
      rw [DatAt.inj I h1 k.1, DatsAt.inj I h2 k.2]
end
theorem getD_of {α : Type} {xs : List α} {i : Nat} {x d : α} (h : xs[i]? = some x) : xs.getD i d = x := by
  rw [List.getD_eq_getElem?_getD, h]
  rfl
theorem items_eq {A : Around} {vs ws : List V} {ds es : List Dt} {its its2 : List Value} (h : DatsAt X.K H vs ds) (k : DatsAt X.K H ws es) (r1 : Vals vs its) (r2 : Vals ws its2)
    (ih : ∀ (d e : Dt) (x y : V) (u v : Value), d ∈ ds → DatAt X.K H x d → DatAt X.K H y e → RelV x u → RelV y v → SeqAt.EqAt A s u v (Dt.beq d e)) (j : Nat) (h1 : j < its.toArray.size) (h2 : j < its2.toArray.size) :
    SeqAt.EqAt A s its.toArray[j] its2.toArray[j] (Dt.beq (ds.getD j .non) (es.getD j .non)) := by
  have l1 := r1.length
  have l2 := r2.length
  have m1 := h.length
  have m2 := k.length
  rw [List.size_toArray] at h1 h2
  have g1 : ds[j]? = some ds[j] := List.getElem?_eq_getElem (by omega)
  have g2 : es[j]? = some es[j] := List.getElem?_eq_getElem (by omega)
  obtain ⟨x, ex, hx⟩ := h.get g1
  obtain ⟨y, ey, hy⟩ := k.get g2
  obtain ⟨u, eu, ru⟩ := r1.get ex
  obtain ⟨v, ev, rv⟩ := r2.get ey
  have f1 : its.toArray[j] = u := by
    have := (List.getElem?_eq_some_iff.mp eu).2
    simpa using this
  have f2 : its2.toArray[j] = v := by
    have := (List.getElem?_eq_some_iff.mp ev).2
    simpa using this
  rw [f1, f2, getD_of g1, getD_of g2]
  exact ih _ _ x y u v (List.getElem_mem _) hx hy ru rv
theorem tuple_all {vs ws : List V} {ds es : List Dt} {its its2 : List Value} (h : DatsAt X.K H vs ds) (k : DatsAt X.K H ws es) (r1 : Vals vs its) (r2 : Vals ws its2) :
    ((List.range (min its.toArray.size its2.toArray.size)).all (fun j => Dt.beq (ds.getD j .non) (es.getD j .non)) && its.toArray.size == its2.toArray.size) = Dt.beqs ds es := by
  have l1 := r1.length
  have l2 := r2.length
  have m1 := h.length
  have m2 := k.length
  rw [← Dt.all_beqs, List.size_toArray, List.size_toArray, ← l1, ← l2, m1, m2]
theorem eqAt_dat (I : Inv X pins σ H s) : ∀ (n : Nat) (A : Around) (d e : Dt) (x y : V) (u v : Value), d.hgt ≤ n → A.units + n < cLine → DatAt X.K H x d → DatAt X.K H y e → RelV x u → RelV y v → SeqAt.EqAt A s u v (Dt.beq d e) := by
  intro n
  induction n with
  | zero => 
    intro A d e x y u v hd hu hx hy ru rv
    have hu' : A.units < cLine := by omega
    cases d with
    | non =>
      have hx' : x = .non := by simpa [DatAt] using hx
      subst hx'
      cases (show u = Value.none from ru)
      cases e with
      | non =>
        have hy' : y = .non := by simpa [DatAt] using hy
        subst hy'
        cases (show v = Value.none from rv)
        exact SeqAt.EqAt.same _
      | int j =>
        have hy' : y = .int j := by simpa [DatAt] using hy
        subst hy'
        obtain ⟨t, rfl⟩ := (show ∃ t, v = Value.int j t from rv)
        exact SeqAt.EqAt.none_int _ _
      | str j =>
        have hy' : y = .str j := by simpa [DatAt] using hy
        subst hy'
        obtain ⟨t, rfl⟩ := (show ∃ t, v = Value.str j t from rv)
        exact SeqAt.EqAt.none_str _ _
      | tup es =>
        obtain ⟨r, ws, rfl, k1, k2⟩ := hy.un
        cases (show v = Value.ref r from rv)
        obtain ⟨its, _, p, _⟩ := I.tuple k1
        exact SeqAt.EqAt.none_tuple p hu'
    | int i =>
      have hx' : x = .int i := by simpa [DatAt] using hx
      subst hx'
      obtain ⟨t, rfl⟩ := (show ∃ t, u = Value.int i t from ru)
      cases e with
      | non =>
        have hy' : y = .non := by simpa [DatAt] using hy
        subst hy'
        cases (show v = Value.none from rv)
        exact SeqAt.EqAt.int_none _ _
      | int j =>
        have hy' : y = .int j := by simpa [DatAt] using hy
        subst hy'
        obtain ⟨t, rfl⟩ := (show ∃ t, v = Value.int j t from rv)
        exact SeqAt.EqAt.int_int _ _ _ _
      | str j =>
        have hy' : y = .str j := by simpa [DatAt] using hy
        subst hy'
        obtain ⟨t, rfl⟩ := (show ∃ t, v = Value.str j t from rv)
        exact SeqAt.EqAt.int_str _ _ _ _
      | tup es =>
        obtain ⟨r, ws, rfl, k1, k2⟩ := hy.un
        cases (show v = Value.ref r from rv)
        obtain ⟨its, _, p, _⟩ := I.tuple k1
        exact SeqAt.EqAt.int_tuple _ _ p hu'
    | str i =>
      have hx' : x = .str i := by simpa [DatAt] using hx
      subst hx'
      obtain ⟨t, rfl⟩ := (show ∃ t, u = Value.str i t from ru)
      cases e with
      | non =>
        have hy' : y = .non := by simpa [DatAt] using hy
        subst hy'
        cases (show v = Value.none from rv)
        exact SeqAt.EqAt.str_none _ _
      | int j =>
        have hy' : y = .int j := by simpa [DatAt] using hy
        subst hy'
        obtain ⟨t, rfl⟩ := (show ∃ t, v = Value.int j t from rv)
        exact SeqAt.EqAt.str_int _ _ _ _
      | str j =>
        have hy' : y = .str j := by simpa [DatAt] using hy
        subst hy'
        obtain ⟨t, rfl⟩ := (show ∃ t, v = Value.str j t from rv)
        exact SeqAt.EqAt.str_str _ _ _ _
      | tup es =>
        obtain ⟨r, ws, rfl, k1, k2⟩ := hy.un
        cases (show v = Value.ref r from rv)
        obtain ⟨its, _, p, _⟩ := I.tuple k1
        exact SeqAt.EqAt.str_tuple _ _ p hu'
    | tup ds => simp [Dt.hgt] at hd
  | succ n ih =>
    intro A d e x y u v hd hu hx hy ru rv
    have hu' : A.units < cLine := by omega
    by_cases hflat : d.hgt ≤ n
    · exact ih A d e x y u v hflat (by omega) hx hy ru rv
    · cases d with
      | tup ds =>
        have hds : Dt.hgts ds ≤ n := by simpa [Dt.hgt] using hd
        obtain ⟨a, vs, rfl, h1, h2⟩ := hx.un
        cases (show u = Value.ref a from ru)
        obtain ⟨its, r1, p1, _⟩ := I.tuple h1
        cases e with
        | non =>
          have hy' : y = .non := by simpa [DatAt] using hy
          subst hy'
          cases (show v = Value.none from rv)
          exact SeqAt.EqAt.tuple_none p1 hu'
        | int j =>
          have hy' : y = .int j := by simpa [DatAt] using hy
          subst hy'
          obtain ⟨t, rfl⟩ := (show ∃ t, v = Value.int j t from rv)
          exact SeqAt.EqAt.tuple_int _ _ p1 hu'
        | str j =>
          have hy' : y = .str j := by simpa [DatAt] using hy
          subst hy'
          obtain ⟨t, rfl⟩ := (show ∃ t, v = Value.str j t from rv)
          exact SeqAt.EqAt.tuple_str _ _ p1 hu'
        | tup es =>
          obtain ⟨b, ws, rfl, k1, k2⟩ := hy.un
          cases (show v = Value.ref b from rv)
          obtain ⟨its2, r2, p2, _⟩ := I.tuple k1
          by_cases hab : a = b
          · subst hab
            have e1 : Dt.tup ds = Dt.tup es := DatAt.inj I hx hy
            rw [e1, Dt.beq_self]
            exact SeqAt.EqAt.same _
          · have e2 : Dt.beq (.tup ds) (.tup es) = Dt.beqs ds es := by simp [Dt.beq]
            rw [e2, ← tuple_all h2 k2 r1 r2]
            refine SeqAt.EqAt.of_refs hab (SeqAt.RcAt.tuples p1 p2 hu' fun j j1 j2 => items_eq h2 k2 r1 r2 (fun d e x y u v hm q1 q2 q3 q4 => ?_) j j1 j2)
            exact ih A.in1 d e x y u v (Nat.le_trans (Dt.hgt_mem hm) hds) (by show A.units + 1 + n < cLine; omega) q1 q2 q3 q4
      | _ => exact absurd (Nat.zero_le n) (by simpa [Dt.hgt] using hflat)
def rEqD (K : PySem.W.Frag) : R2 := fun x y H Q => ∃ d e, DatAt K H x d ∧ DatAt K H y e ∧ d.hgt ≤ 30 ∧ Q (.bl (Dt.beq d e)) H
def rNeD (K : PySem.W.Frag) : R2 := fun x y H Q => ∃ d e, DatAt K H x d ∧ DatAt K H y e ∧ d.hgt ≤ 30 ∧ Q (.bl (!Dt.beq d e)) H
theorem list_all {vs ws : List V} {ds es : List Dt} {its its2 : List Value} (h : DatsAt X.K H vs ds) (k : DatsAt X.K H ws es) (r1 : Vals vs its) (r2 : Vals ws its2) (hsz : its.toArray.size = its2.toArray.size) :
    (List.range its.toArray.size).all (fun j => Dt.beq (ds.getD j .non) (es.getD j .non)) = Dt.beqs ds es := by
  have e := tuple_all h k r1 r2
  rw [hsz, Nat.min_self, beq_self_eq_true, Bool.and_true] at e
  rw [hsz]
  exact e
theorem list_len {vs ws : List V} {ds es : List Dt} {its its2 : List Value} (h : DatsAt X.K H vs ds) (k : DatsAt X.K H ws es) (r1 : Vals vs its) (r2 : Vals ws its2) (hsz : its.toArray.size ≠ its2.toArray.size) : Dt.beqs ds es = false := by
  refine Dt.beqs_ne fun z => hsz ?_
  have l1 := r1.length
  have l2 := r2.length
  have m1 := h.length
  have m2 := k.length
  rw [z] at m1
  rw [List.size_toArray, List.size_toArray]
  omega
def rEqL (K : PySem.W.Frag) : R2 := fun x y H Q => ∃ a b vs ws ds es, x = .ref a ∧ y = .ref b ∧ SqL K H a vs ∧ SqL K H b ws ∧ DatsAt K H vs ds ∧ DatsAt K H ws es ∧ Dt.hgts ds ≤ 30 ∧ Q (.bl (Dt.beqs ds es)) H
def rNeL (K : PySem.W.Frag) : R2 := fun x y H Q => ∃ a b vs ws ds es, x = .ref a ∧ y = .ref b ∧ SqL K H a vs ∧ SqL K H b ws ∧ DatsAt K H vs ds ∧ DatsAt K H ws es ∧ Dt.hgts ds ≤ 30 ∧ Q (.bl (!Dt.beqs ds es)) H
theorem op_eqL (hu : X.A.units + 64 < cLine) : OpR X (compareOp .Eq) (rEqL X.K) := by
  intro pins s σ H x y u v Q I ru rv h
  obtain ⟨a, b, vs, ws, ds, es, rfl, rfl, ha, hb, h2, k2, hd, q⟩ := h
  have hu' : X.A.units < cLine := by omega
  cases (show u = Value.ref a from ru)
  cases (show v = Value.ref b from rv)
  obtain ⟨its, r1, p1, _⟩ := I.list ha
  obtain ⟨its2, r2, p2, _⟩ := I.list hb
  by_cases hsz : its.toArray.size = its2.toArray.size
  · have r := SeqAt.RcAt.lists p1.isList p2.isList hsz hu' fun j j1 j2 => items_eq h2 k2 r1 r2 (fun d e x y u v hm q1 q2 q3 q4 =>
      eqAt_dat I 30 X.A.in1 d e x y u v (Nat.le_trans (Dt.hgt_mem hm) hd) (by show X.A.units + 1 + 30 < cLine; omega) q1 q2 q3 q4) j j1 j2
    rw [list_all h2 k2 r1 r2 hsz] at r
    exact r _ _ _ _ (fin_bl I q rfl)
  · have r := SeqAt.RcAt.lists_lengths p1.isList p2.isList (by simpa using hsz) hu'
    rw [list_len h2 k2 r1 r2 hsz] at q
    exact r _ _ _ _ (fin_bl I q rfl)
theorem op_neL (hu : X.A.units + 64 < cLine) : OpR X (compareOp .NotEq) (rNeL X.K) := by
  intro pins s σ H x y u v Q I ru rv h
  obtain ⟨a, b, vs, ws, ds, es, rfl, rfl, ha, hb, h2, k2, hd, q⟩ := h
  have hu' : X.A.units < cLine := by omega
  cases (show u = Value.ref a from ru)
  cases (show v = Value.ref b from rv)
  obtain ⟨its, r1, p1, _⟩ := I.list ha
  obtain ⟨its2, r2, p2, _⟩ := I.list hb
  by_cases hsz : its.toArray.size = its2.toArray.size
  · have r := SeqAt.RcNeAt.lists p1.isList p2.isList hsz hu' fun j j1 j2 => items_eq h2 k2 r1 r2 (fun d e x y u v hm q1 q2 q3 q4 =>
      eqAt_dat I 30 X.A.in1 d e x y u v (Nat.le_trans (Dt.hgt_mem hm) hd) (by show X.A.units + 1 + 30 < cLine; omega) q1 q2 q3 q4) j j1 j2
    rw [list_all h2 k2 r1 r2 hsz] at r
    exact r _ _ _ _ (fin_bl I q rfl)
  · have r := SeqAt.RcNeAt.lists_lengths p1.isList p2.isList (by simpa using hsz) hu'
    rw [list_len h2 k2 r1 r2 hsz] at q
    exact r _ _ _ _ (fin_bl I q rfl)
theorem call_isiT : CallR X (.builtin "isinstance") (fun xs H Q => ∃ a vs n b, xs = [.ref a, .ty n] ∧ SqT X.K H a vs ∧ PySem.W.kitOne X.K (.type "tuple") (.type n) = some b ∧ Q (.bl b) H) := by
  intro pins s σ H xs us Q I r h
  obtain ⟨a, vs, n, b, rfl, ht, e, q⟩ := h
  obtain ⟨u, w', rfl, r1, r2⟩ := vals2 r
  cases (show u = Value.ref a from r1)
  cases (show w' = Value.type n from r2)
  obtain ⟨its, _, ⟨o, h1, h2, _⟩, _⟩ := I.tuple ht
  exact PySem.W.kia_one PySem.W.kitx_tuple I.kIn ⟨o, h1, h2⟩ e (fun z => nomatch z) fun tk => ⟨.bl b, H, I.tok tk, rfl, q⟩
end
end L2
namespace L2
open PySem PySem.Spec PySem.W PyProof.Rows
def Tr {α : Type} (N : Nat) (P : α → Prop) : KasT α → Prop
  | .ret a => P a
  | .ask i j k => i < N ∧ j < N ∧ ∀ b, Tr N P (k b)
theorem Tr.bind {α β : Type} {N : Nat} {P : α → Prop} {R : β → Prop} {f : α → KasT β} : ∀ {t : KasT α}, Tr N P t → (∀ a, P a → Tr N R (f a)) → Tr N R (t.bind f)
  | .ret a, h, k => k a h
  | .ask _ _ _, h, k => ⟨h.1, h.2.1, fun b => Tr.bind (h.2.2 b) k⟩
theorem Tr.wp {α : Type} {N : Nat} {P : α → Prop} {cmp : Nat → Nat → (Bool → Shared → Prop) → Shared → Prop} {s : Shared} {Q : α → Shared → Prop} (lt : Nat → Nat → Bool)
    (hc : ∀ i j (C : Bool → Shared → Prop), i < N → j < N → C (lt i j) s → cmp i j C s) (hq : ∀ a, P a → Q a s) : ∀ {t : KasT α}, Tr N P t → t.kasWp cmp Q s
  | .ret a, h => hq a h
  | .ask i j _, h => hc i j _ h.1 h.2.1 (Tr.wp lt hc hq (h.2.2 _))
def Pl (N : Nat) (p : Array Nat) : Prop := p.Perm (List.range N).toArray
theorem Pl.below {N : Nat} {p : Array Nat} (hN : 0 < N) (h : Pl N p) (k : Nat) : p.getD k 0 < N := by
  by_cases hk : k < p.size
  · have e : p.getD k 0 = p[k] := by simp [Array.getD, hk]
    have m : p[k] ∈ (List.range N).toArray := h.mem_iff.mp (Array.getElem_mem hk)
    rw [e]
    simpa using m
  · have e : p.getD k 0 = 0 := by simp [Array.getD, hk]
    rw [e]
    exact hN
theorem Pl.rev {N : Nat} {p : Array Nat} (h : Pl N p) (i j : Nat) : Pl N (kas_rev p i j) := (mirror_perm p i j _).trans h
theorem Pl.bub {N : Nat} {p : Array Nat} (h : Pl N p) (i j : Nat) : Pl N (bubble p i j) := (bubble_perm p i j).trans h
section
variable {N : Nat} (hN : 0 < N)
include hN
theorem tr_asc {p : Array Nat} (h : Pl N p) : ∀ f n, Tr N (fun _ => True) (kas_asc p f n)
  | 0, _ => trivial
  | f + 1, n => ⟨h.below hN _, h.below hN _, fun b => by
    cases b with
    | true => exact trivial
    | false => exact tr_asc h f (n + 1)⟩
theorem tr_desc : ∀ f (p : Array Nat) n q, Pl N p → Tr N (fun r => Pl N r.1) (kas_desc f p n q)
  | 0, _, _, _, h => h
  | f + 1, p, n, q, h => ⟨h.below hN _, h.below hN _, fun b => by
    cases b with
    | true =>
      show Tr N _ (if q > 0 then _ else _)
      split
      · exact tr_desc f _ _ _ (h.rev _ _)
      · exact tr_desc f _ _ _ h
    | false =>
      refine ⟨h.below hN _, h.below hN _, fun b => ?_⟩
      cases b with
      | true => exact h
      | false => exact tr_desc f _ _ _ h⟩
theorem tr_tail {p : Array Nat} (h : Pl N p) (n m : Nat) : Tr N (fun r => Pl N r.2) (kas_tail3 n m p) := (tr_asc hN (h.rev _ _) _ _).bind fun _ _ => h.rev _ _
theorem tr_part {p : Array Nat} (h : Pl N p) (n m : Nat) : Tr N (fun r => Pl N r.2) (kas_descPart n m p) := (tr_desc hN _ _ _ _ h).bind fun r hr => by
  split
  · exact tr_tail hN (hr.rev _ _) _ _
  · exact tr_tail hN hr _ _
theorem tr_count {p : Array Nat} (h : Pl N p) (m : Nat) : Tr N (fun r => Pl N r.2) (kas_count m p) := (tr_asc hN h _ _).bind fun n _ => by
  split
  · exact h
  · split
    · refine ⟨h.below hN _, h.below hN _, fun b => ?_⟩
      cases b with
      | true => exact h
      | false => exact tr_part hN (h.rev _ _) _ _
    · exact tr_part hN h _ _
theorem tr_place {p : Array Nat} (h : Pl N p) (k : Nat) : ∀ f l r, Tr N (fun _ => True) (kas_place p k f l r)
  | 0, _, _ => trivial
  | f + 1, l, r => by
    show Tr N _ (if l ≥ r then _ else _)
    split
    · exact trivial
    · refine ⟨h.below hN _, h.below hN _, fun b => ?_⟩
      cases b with
      | true => exact tr_place h k f _ _
      | false => exact tr_place h k f _ _
theorem tr_bin : ∀ f (p : Array Nat) k, Pl N p → Tr N (Pl N) (kas_bin f p k)
  | 0, _, _, h => h
  | f + 1, p, k, h => (tr_place hN h k _ _ _).bind fun _ _ => tr_bin f _ _ (h.bub _ _)
theorem tr_sort : Tr N (Pl N) (kas_sort N) := (tr_count hN (show Pl N _ from Array.Perm.refl _) N).bind fun r hr => by
  split
  · exact tr_bin hN _ _ _ hr
  · exact hr
end
section
variable {prog : Program} {w : World} {A : Around} {E : Value → Shared → Prop} {s : Shared}
theorem lsort {a : Addr} {us : List Value} {n : Nat} {R : PySem.Fin → Shared → Prop} (stands : s.heap.get? a = some (seqObj "list" us.toArray n)) (few : us.length < 64) (lt : Nat → Nat → Bool) (κ : SortKind)
    (kind : ∀ z : Shared, (∀ b o, b ≠ a → s.heap.get? b = some o → z.heap.get? b = some o) → 2 ≤ us.length → ∀ Q : SortKind → Shared → Prop, Q κ z → wpAny (model prog w) A (keyKind' us.toArray) Q (fun _ _ => False) z)
    (ask : ∀ z : Shared, (∀ b o, b ≠ a → s.heap.get? b = some o → z.heap.get? b = some o) → ∀ i j (C : Bool → Shared → Prop), i < us.length → j < us.length → C (lt i j) z → kas_ask prog w A κ us i j C z)
    (done : ∀ (p : Array Nat) (g : Heap) (c : Nat), Pl us.length p → (∀ b o, b ≠ a → s.heap.get? b = some o → g.get? b = some o) → g.get? a = some (seqObj "list" (p.toList.map fun i => us.getD i Value.none).toArray c) →
      R (.done (.ret .none)) { s with heap := g }) : wpAny (model prog w) A (Builtin.«list.sort» ⟨[.ref a], []⟩) R E s := by
  have lta : a < s.heap.objs.size := Heap.lt_size stands
  obtain ⟨c1, st1⟩ : ∃ c1, (s.heap.update a (Obj.mapSeq fun _ => (#[] : Array Value))).get? a = some (seqObj "list" #[] c1) := ⟨_, get?_update_seq stands fun _ => #[]⟩
  generalize hg : ((s.heap.update a (Obj.mapSeq fun _ => (#[] : Array Value))).push (seqObj "tuple" us.toArray 0)).push (seqObj "list" #[] 0) = g1
  have stays : ∀ b o, b ≠ a → s.heap.get? b = some o → g1.get? b = some o := fun b o hb e => by
    rw [← hg]
    exact Heap.get?_push_of_some _ (Heap.get?_push_of_some _ ((Heap.SameBut.update s.heap a _).2 b hb |>.trans e))
  have st2 : g1.get? a = some (seqObj "list" #[] c1) := by
    rw [← hg]
    exact Heap.get?_push_of_some _ (Heap.get?_push_of_some _ st1)
  have ends : ∀ (p : Array Nat), Pl us.length p → ∀ Q : Unit → Shared → Prop, (∀ g c, (∀ b o, b ≠ a → s.heap.get? b = some o → g.get? b = some o) → g.get? a = some (seqObj "list" (p.toList.map fun i => us.getD i Value.none).toArray c) → Q () { s with heap := g }) →
      wpAny (model prog w) A (Builtin.List.listUpdate (.ref a) fun _ => (p.toList.map fun i => us.getD i Value.none).toArray) Q E { s with heap := g1 } := fun p hp Q hQ => by
    refine listUpdate_at (s := { s with heap := g1 }) st2 rfl (hQ _ _ (fun b o hb e => ((Heap.SameBut.update g1 a _).2 b hb).trans (stays b o hb e)) (get?_update_seq st2 fun _ => _)) (Nat.zero_le _) ?_
    have hs : p.size = us.length := by simpa using hp.size_eq
    rw [List.size_toArray, List.length_map, Array.length_toList, hs, sizeLine_eq]
    omega
  rw [list_sort_plain]
  refine wpAny_bind (listItems_at stands rfl ?_)
  refine wpAny_bind (listUpdate_at stands rfl ?_ (by rw [List.size_toArray, sizeLine_eq]; omega) (Nat.zero_le _))
  refine wpAny_bind (seqEpoch_at st1 rfl (wpAny_bind (wpAny_newTuple (wpAny_bind (wpAny_newList ?_ (Nat.zero_le _))) (by show us.length ≤ _; rw [sizeLine_eq]; omega))))
  refine wpAny_holding ?_
  show wpAny (model prog w) A _ R E { s with heap := ((s.heap.update a (Obj.mapSeq fun _ => (#[] : Array Value))).push (seqObj "tuple" us.toArray 0)).push (seqObj "list" #[] 0) }
  rw [hg]
  dsimp only
  by_cases h2 : us.toArray.size < 2
  · rw [if_pos h2, if_pos h2]
    refine wpAny_bind (wpAny_pure ?_)
    rw [StateT.run_pure]
    refine wpAny_bind (wpAny_pure ?_)
    dsimp only
    refine wpAny_bind (seqEpoch_at st2 rfl ?_)
    have e1 : (arrOf (SortSt.mk' general' (us.toArray.zip us.toArray) #[] 7 none)).map (·.2) = ((List.range us.length).toArray.toList.map fun i => us.getD i Value.none).toArray := by
      show (us.toArray.zip us.toArray).map (·.2) = _
      apply Array.toList_inj.mp
      refine List.ext_getElem (by simp) fun i k1 k2 => ?_
      have k3 : i < us.length := by simpa using k1
      simp [List.getD_eq_getElem?_getD, k3]
    rw [e1]
    refine wpAny_bind (ends _ (Array.Perm.refl _) _ fun g c k1 k2 => ?_)
    simp only [bne_self_eq_false, Bool.false_eq_true, if_false]
    exact wpAny_pure (done _ g c (Array.Perm.refl _) k1 k2)
  · rw [if_neg h2, if_neg h2]
    have h2' : 2 ≤ us.length := by rw [List.size_toArray] at h2; omega
    refine wpAny_bind (wpAny_mono (kind { s with heap := g1 } stays h2' (fun k z => k = κ ∧ z = { s with heap := g1 }) ⟨rfl, rfl⟩) (fun k z hk => ?_) fun _ _ x => x.elim)
    obtain ⟨rfl, rfl⟩ := hk
    have tree : (kas_sort us.length).kasWp (kas_ask prog w A k us) (fun p z => Pl us.length p ∧ z = { s with heap := g1 }) { s with heap := g1 } :=
      (tr_sort (by omega)).wp lt (ask { s with heap := g1 } stays) fun p hp => ⟨hp, rfl⟩
    refine wpAny_bind (wpAny_mono (kat_run (E := E) (Q := fun st z => ∃ p : Array Nat, arrOf st = p.map (kas_item (us.toArray.zip us.toArray)) ∧ failedOf st = none ∧ Pl us.length p ∧ z = { s with heap := g1 }) rfl h2' few
      (fun p st z _ q1 q2 q3 => ⟨p, q1, q2, q3⟩) tree) ?_ fun _ _ x => x)
    rintro ⟨⟨⟩, st⟩ z ⟨p, q1, q2, q3, rfl⟩
    dsimp only
    refine wpAny_bind (seqEpoch_at st2 rfl ?_)
    rw [kat_snds rfl q1]
    refine wpAny_bind (ends p q3 _ fun g c k1 k2 => ?_)
    rw [q2]
    simp only [bne_self_eq_false, Bool.false_eq_true, if_false]
    exact wpAny_pure (done p g c q3 k1 k2)
end
end L2
namespace L2
open PySem PySem.Spec PySem.W PyProof.Rows
def pairD (f : Str × Int) : Dt := .tup [.str f.1, .int f.2]
def pairLt (f g : Str × Int) : Bool := if f.1 == g.1 then (if f.2 == g.2 then false else decide (f.2 < g.2)) else decide (f.1.cps.toList < g.1.cps.toList)
section
variable {X : Cx} {pins : List (Addr × Obj)} {σ : L2.St} {H : Hp} {s : Shared}
theorem pair_at (I : Inv X pins σ H s) {v : V} {u : Value} {f : Str × Int} (h : DatAt X.K H v (pairD f)) (r : RelV v u) :
    ∃ a t t' o n, u = Value.ref a ∧ s.heap.get? a = some o ∧ o.cls = .type "tuple" ∧ o.data = .seq #[Value.str f.1 t, Value.int f.2 t'] n := by
  obtain ⟨a, ws, rfl, h1, h2⟩ := h.un
  obtain ⟨v1, r1, rfl, q1, h3⟩ := h2.un
  obtain ⟨v2, r2, rfl, q2, h4⟩ := h3.un
  have e3 := h4.un0
  subst e3
  have e1 : v1 = .str f.1 := by simpa [DatAt] using q1
  have e2 : v2 = .int f.2 := by simpa [DatAt] using q2
  subst e1 e2
  obtain ⟨its, rv, ⟨o, e, c, n, d⟩, _⟩ := I.tuple h1
  cases (show u = Value.ref a from r)
  obtain ⟨x, y, rfl, rx, ry⟩ := vals2 rv
  obtain ⟨t, rfl⟩ := (show ∃ t, x = Value.str f.1 t from rx)
  obtain ⟨t', rfl⟩ := (show ∃ t, y = Value.int f.2 t from ry)
  exact ⟨a, t, t', o, n, rfl, e, c, d⟩
theorem pairs_tups (I : Inv X pins σ H s) {z : Heap} (kept : ∀ b o, s.heap.get? b = some o → z.get? b = some o) : ∀ (ps : List (Str × Int)) (vs : List V) (us : List Value), DatsAt X.K H vs (ps.map pairD) → Vals vs us →
    ∃ fs, KatTups z us fs ∧ fs.length = us.length ∧ ∀ f ∈ fs, ∃ x t, f = Value.str x t
  | [], vs, us, h, r => by
    have e := h.un0
    subst e
    cases r
    exact ⟨[], .nil, rfl, fun f hf => nomatch hf⟩
  | p :: ps, vs, us, h, r => by
    obtain ⟨v, w', rfl, h1, h2⟩ := DatsAt.un (d := pairD p) (ds := ps.map pairD) h
    cases r with
    | cons r1 r2 =>
      obtain ⟨a, t, t', o, n, rfl, e1, e2, e3⟩ := pair_at I h1 r1
      obtain ⟨fs, k1, k2, k3⟩ := pairs_tups I kept ps _ _ h2 r2
      refine ⟨Value.str p.1 t :: fs, .cons (kept _ _ e1) e2 e3 rfl k1, by simp [k2], fun f hf => ?_⟩
      rcases List.mem_cons.mp hf with q | q
      · exact ⟨_, _, q⟩
      · exact k3 f q
end
theorem DatsAt.pick {K : PySem.W.Frag} {H : Hp} {vs : List V} {ds : List Dt} {d0 : Dt} (h : DatsAt K H vs ds) : ∀ (l : List Nat), (∀ i ∈ l, i < vs.length) → DatsAt K H (l.map fun i => vs.getD i .non) (l.map fun i => ds.getD i d0)
  | [], _ => .nil
  | i :: l, a => by
    have hi := a i (List.mem_cons_self ..)
    have hl := h.length
    obtain ⟨v, ev, hv⟩ := h.get (i := i) (d := ds[i]) (List.getElem?_eq_getElem (by omega))
    refine .cons ?_ (DatsAt.pick h l fun k hk => a k (List.mem_cons_of_mem _ hk))
    show DatAt K H (vs.getD i .non) (ds.getD i d0)
    rw [getD_of ev, getD_of (List.getElem?_eq_getElem (show i < ds.length by omega))]
    exact hv
end L2
namespace L2
open PySem PySem.Spec PyProof.Rows
theorem comp_list {K : PySem.W.Frag} {a D : Addr} {xs : List V} {g : TG} {tt : TT} {te : TE} {Q : VK} {H : Hp} {σ0 : L2.St} (Pv : Nat → L2.St → List V → Hp → Prop) (p0 : Pv 0 σ0 [] H)
    (hl : ∀ i σ ys H', i ≤ xs.length → Pv i σ ys H' → SqL K H' a xs ∧ H' D = some (.lst ys) ∧ ys.length < sizeLine)
    (hs : ∀ i x σ ys H', xs[i]? = some x → Pv i σ ys H' → ∀ N : L2.St → List V → Hp → Prop, (∀ σ ys H, Pv (i + 1) σ ys H → N σ ys H) →
      g x σ H' fun σ4 H4 => tt σ4 H4 fun b H5 => if b = true then te σ4 H5 fun v H6 => H6 D = some (.lst ys) ∧ N σ4 (ys ++ [v]) (upd H6 D (.lst (ys ++ [v]))) else N σ4 ys H5)
    (hd : ∀ σ ys H', Pv xs.length σ ys H' → Q (.ref D) H') : CompW (Itl K a) g tt te σ0 Q D H := by
  refine ⟨fun i m σ ys H => m = xs.length - i ∧ i ≤ xs.length ∧ Pv i σ ys H, ⟨xs.length, by simp, Nat.zero_le _, p0⟩, ?_⟩
  rintro i m σ ys H2 ⟨rfl, hi, p⟩
  obtain ⟨q1, q2, q3⟩ := hl i σ ys H2 hi p
  refine ⟨q2, q3, ?_⟩
  by_cases hlt : i < xs.length
  · refine .inr ⟨⟨xs, xs[i], q1, by simp [hlt]⟩, fun x H3 y => ?_⟩
    obtain ⟨e, y⟩ := y
    subst e
    exact hs i x σ ys _ (y xs q1) p (fun σ ys H => ∃ m', m' < xs.length - i ∧ m' = xs.length - (i + 1) ∧ i + 1 ≤ xs.length ∧ Pv (i + 1) σ ys H) fun σ ys H z => ⟨_, by omega, rfl, hlt, z⟩
  · have e : i = xs.length := by omega
    subst e
    exact .inl ⟨⟨xs, q1, Nat.le_refl _⟩, hd σ ys H2 p⟩
theorem caps1 {X : Cx} {scope : Scope} {Nc : List Str} {x : Str} {c : Addr} (i j : Nat) (ns : List (Str × NameKind)) (hrel : (relabel scope X.env).names = ns) (hclos : closureFor scope X.env = pure [(x, c)]) (hk : scope.kind = .function)
    (hnc : ∀ y ∈ scope.names, y.2 ≠ .cell) (hnm : ∀ y ∈ scope.names, y.2 = .local → scope.names.lookup y.1 = some .local) (hcell : X.env.cells.lookup x = some c)
    (honly : ∀ y ∈ ns, y.2 = .cell ∨ y.2 = .free → y.1 = x) (hin : ns.lookup x = some .cell) (hkind : X.env.kindOf x = some .cell) (hNc : Nc[i]? = some x) (hj : X.N[j]? = some x) :
    Caps X scope [(x, c)] Nc (fun σ => (List.replicate Nc.length none).set i (σ.getD j none)) where
  clos := hclos
  kind := hk
  nocell := hnc
  names := hnm
  cells := fun y d e => by
    rw [List.lookup_cons] at e
    split at e
    · rename_i q
      have q' : y = x := by simpa using q
      cases e
      rw [q']
      exact hcell
    · cases e
  has := fun y h => by
    rw [hrel] at h
    have e : y = x := by
      rcases h with h | h
      · exact honly _ (PySem.mem_of_lookup h) (.inl rfl)
      · exact honly _ (PySem.mem_of_lookup h) (.inr rfl)
    subst e
    exact ⟨c, by simp [List.lookup_cons]⟩
  len := fun σ => by simp
  cap := fun σ k y v e1 e2 _ => by
    have hki : k = i := by
      by_cases q : k = i
      · exact q
      · rw [List.getElem?_set_ne (Ne.symm q), List.getElem?_replicate] at e2
        split at e2 <;> cases e2
    subst hki
    rw [hNc] at e1
    cases e1
    have hlt : k < Nc.length := (List.getElem?_eq_some_iff.mp hNc).1
    rw [List.getElem?_set_self (by simpa using hlt)] at e2
    refine ⟨.inl (by rw [hrel]; exact hin), .inl hkind, j, hj, ?_, .inr (.inl hkind)⟩
    have e3 : σ.getD j none = some v := Option.some.inj e2
    rw [List.getD_eq_getElem?_getD] at e3
    cases q : σ[j]? with
    | none => rw [q] at e3; cases e3
    | some o =>
      rw [q] at e3
      have e4 : o = some v := e3
      rw [e4]
def LsM (K : PySem.W.Frag) (H : Hp) (a : Addr) (ds : List Dt) : Prop := ∃ vs, H a = some (.lst vs) ∧ DatsAt K H vs ds
theorem LsM.same {K : PySem.W.Frag} {H H' : Hp} {a : Addr} {ds : List Dt} (h : LsM K H a ds) (e : Same H H') : LsM K H' a ds := by
  obtain ⟨vs, h1, h2⟩ := h
  exact ⟨vs, e _ _ h1, h2.same e⟩
section
variable {K : PySem.W.Frag} {H : Hp} {a : Addr} {xs ys : List V}
theorem sqT_upd {r : Addr} {vs : List V} (ha : H a = some (.lst xs)) (h : SqT K H r vs) : SqT K (upd H a (.lst ys)) r vs := by
  rcases h with (h | ⟨o, h⟩) | h
  · exact .inl (.inl (by rw [upd_ne (ne_of h ha (by intro z; cases z))]; exact h))
  · exact .inl (.inr ⟨o, by rw [upd_ne (ne_of h ha (by intro z; cases z))]; exact h⟩)
  · exact .inr h
mutual
theorem DatAt.updL (ha : H a = some (.lst xs)) : ∀ {v : V} {d : Dt}, DatAt K H v d → DatAt K (upd H a (.lst ys)) v d
  | v, .non, h => by simpa [DatAt] using h
  | v, .int i, h => by simpa [DatAt] using h
  | v, .str i, h => by simpa [DatAt] using h
  | v, .tup ds, h => by
    obtain ⟨r, vs, rfl, h1, h2⟩ := h.un
    exact .tup (sqT_upd ha h1) (DatsAt.updL ha h2)
theorem DatsAt.updL (ha : H a = some (.lst xs)) : ∀ {vs : List V} {ds : List Dt}, DatsAt K H vs ds → DatsAt K (upd H a (.lst ys)) vs ds
  | vs, [], h => by
    rw [h.un0]
    exact .nil
  | vs, d :: ds, h => by
    obtain ⟨v, r, rfl, h1, h2⟩ := h.un
    exact .cons (DatAt.updL ha h1) (DatsAt.updL ha h2)
end
end
end L2
namespace L2
open PySem PySem.Spec PyProof.Rows FW
def frD (p : Int × Int) : Dt := .tup [.int p.1, .int p.2]
def prD (p : Dt × Dt) : Dt := .tup [p.1, p.2]
def rowD (r : Dt × Int) : Dt := .tup [r.1, .int r.2]
def parD (S : Int) (r : Dt × Int) : Dt := prD (r.1, frD (low r.2 S))
inductive Oc : Dt → Prop
  | non : Oc .non
  | int (n : Int) : Oc (.int n)
  | recd (fs : List (Str × Int)) : Oc (.tup (fs.map pairD))
def tyD : Dt → String
  | .non => "NoneType"
  | .int _ => "int"
  | .str _ => "str"
  | .tup _ => "tuple"
theorem hgt_pairs : ∀ fs : List (Str × Int), Dt.hgts (fs.map pairD) ≤ 1
  | [] => by simp [Dt.hgts]
  | f :: fs => by
    have := hgt_pairs fs
    simp only [List.map_cons, Dt.hgts, pairD, Dt.hgt]
    omega
theorem Oc.hgt {d : Dt} (h : Oc d) : d.hgt ≤ 2 := by
  cases h with
  | non => simp [Dt.hgt]
  | int n => simp [Dt.hgt]
  | recd fs =>
    have := hgt_pairs fs
    simp only [Dt.hgt]
    omega
section
variable {K : PySem.W.Frag} {H : Hp}
theorem DatsAt.two {vs : List V} {d e : Dt} (h : DatsAt K H vs [d, e]) : ∃ v u, vs = [v, u] ∧ DatAt K H v d ∧ DatAt K H u e := by
  obtain ⟨v, r, rfl, h1, h2⟩ := h.un
  obtain ⟨u, r2, rfl, h3, h4⟩ := h2.un
  have := h4.un0
  subst this
  exact ⟨v, u, rfl, h1, h3⟩
theorem DatAt.int_eq {v : V} {n : Int} (h : DatAt K H v (.int n)) : v = .int n := by simpa [DatAt] using h
theorem DatAt.str_eq {v : V} {n : Str} (h : DatAt K H v (.str n)) : v = .str n := by simpa [DatAt] using h
theorem DatAt.non_eq {v : V} (h : DatAt K H v .non) : v = .non := by simpa [DatAt] using h
end
def sumW (rows : List (Dt × Int)) : Int := (rows.map (·.2)).sum
structure Sc (S : Int) (rows : List (Dt × Int)) : Prop where
  pos : 0 < S
  big : S ≤ 10 ^ 160
  nn : ∀ r ∈ rows, 0 ≤ r.2
  top : sumW rows ≤ 10 ^ 160
structure Rw (rows : List (Dt × Int)) : Prop where
  oc : ∀ r ∈ rows, Oc r.1
  pos : ∀ r ∈ rows, 0 < r.2
theorem take_snoc' {α : Type} {xs : List α} {i : Nat} {x : α} (h : xs[i]? = some x) : xs.take (i + 1) = xs.take i ++ [x] := by
  rw [List.take_add_one, h]
  rfl
theorem map_get {α β : Type} {f : α → β} {xs : List α} {i : Nat} {y : β} (h : (xs.map f)[i]? = some y) : ∃ x, xs[i]? = some x ∧ f x = y := by
  rw [List.getElem?_map] at h
  cases e : xs[i]? with
  | none => rw [e] at h; cases h
  | some x => rw [e] at h; exact ⟨x, rfl, Option.some.inj h⟩
end L2
namespace L2
open PySem PySem.Spec PyProof.Rows
section
variable {X : Cx} {K : PySem.W.Frag}
theorem ix_tupK (hK : X.K = K) : IxR X (rIxT K) := by
  subst hK
  exact ix_tup
end
end L2
namespace L2
open PySem PySem.Spec PyProof.Rows
section
variable {X : Cx}
def ipMul : TIp := fun x y H Q => ∃ i j, x = .int i ∧ y = .int j ∧ IntMulOk i j ∧ Q (.int (i * j)) H
def gLst (K : PySem.W.Frag) (n : Nat) (t : TGs) : TG := fun v σ H Q => ∃ a xs, v = .ref a ∧ SqL K H a xs ∧ xs.length = n ∧ t xs σ H Q
end
theorem comp_range {lo : Int} {n : Nat} {D : Addr} {g : TG} {tt : TT} {te : TE} {Q : VK} {H : Hp} {σ0 : L2.St} (Pv : Nat → L2.St → List V → Hp → Prop) (p0 : Pv 0 σ0 [] H)
    (hl : ∀ i σ ys H', i ≤ n → Pv i σ ys H' → H' D = some (.lst ys) ∧ ys.length < sizeLine)
    (hs : ∀ i σ ys H', i < n → Pv i σ ys H' → ∀ N : L2.St → List V → Hp → Prop, (∀ σ ys H, Pv (i + 1) σ ys H → N σ ys H) →
      g (.int (lo + i)) σ H' fun σ4 H4 => tt σ4 H4 fun b H5 => if b = true then te σ4 H5 fun v H6 => H6 D = some (.lst ys) ∧ N σ4 (ys ++ [v]) (upd H6 D (.lst (ys ++ [v]))) else N σ4 ys H5)
    (hd : ∀ σ ys H', Pv n σ ys H' → Q (.ref D) H') : CompW (Itr lo n) g tt te σ0 Q D H := by
  refine ⟨fun i m σ ys H => m = n - i ∧ i ≤ n ∧ Pv i σ ys H, ⟨n, by simp, Nat.zero_le _, p0⟩, ?_⟩
  rintro i m σ ys H2 ⟨rfl, hi, p⟩
  obtain ⟨q2, q3⟩ := hl i σ ys H2 hi p
  refine ⟨q2, q3, ?_⟩
  by_cases hlt : i < n
  · refine .inr ⟨hlt, fun x H3 y => ?_⟩
    obtain ⟨e, y⟩ := y
    subst e y
    exact hs i σ ys _ hlt p (fun σ ys H => ∃ m', m' < n - i ∧ m' = n - (i + 1) ∧ i + 1 ≤ n ∧ Pv (i + 1) σ ys H) fun σ ys H z => ⟨_, by omega, rfl, hlt, z⟩
  · have e : i = n := by omega
    subst e
    exact .inl ⟨Nat.le_refl _, hd σ ys H2 p⟩
def BtA (a : Addr) (H H' : Hp) : Prop := ∀ b o, b ≠ a → H b = some o → H' b = some o
def NT (H : Hp) (a : Addr) : Prop := ∀ o, H a = some o → (∀ vs, o ≠ .tup vs) ∧ ∀ q vs, o ≠ .frz q (.tup vs)
section
variable {K : PySem.W.Frag} {H H' H2 : Hp} {a b : Addr} {xs : List V}
theorem NT.lst (h : H a = some (.lst xs)) : NT H a := fun o e => by
  rw [h] at e
  cases e
  exact ⟨(fun _ z => nomatch z), (fun _ _ z => nomatch z)⟩
theorem BtA.trans (e : BtA a H H') (f : BtA a H' H2) : BtA a H H2 := fun b o n h => f b o n (e b o n h)
theorem BtA.upd {o : HO} : BtA a H (L2.upd H a o) := fun b _ n h => by rw [upd_ne n]; exact h
theorem BtA.updF {o : HO} (hn : H b = none) : BtA a H (L2.upd H b o) := fun c _ _ h => by rw [upd_ne (ne_of_none h hn)]; exact h
theorem sqT_but {r : Addr} {vs : List V} (nt : NT H a) (e : BtA a H H') (h : SqT K H r vs) : SqT K H' r vs := by
  rcases h with (h | ⟨o, h⟩) | h
  · exact .inl (.inl (e _ _ (fun z => by subst z; exact (nt _ h).1 _ rfl) h))
  · exact .inl (.inr ⟨o, e _ _ (fun z => by subst z; exact (nt _ h).2 _ _ rfl) h⟩)
  · exact .inr h
mutual
theorem DatAt.but (nt : NT H a) (e : BtA a H H') : ∀ {v : V} {d : Dt}, DatAt K H v d → DatAt K H' v d
  | v, .non, h => by simpa [DatAt] using h
  | v, .int i, h => by simpa [DatAt] using h
  | v, .str i, h => by simpa [DatAt] using h
  | v, .tup ds, h => by
    obtain ⟨r, vs, rfl, h1, h2⟩ := h.un
    exact .tup (sqT_but nt e h1) (DatsAt.but nt e h2)
theorem DatsAt.but (nt : NT H a) (e : BtA a H H') : ∀ {vs : List V} {ds : List Dt}, DatsAt K H vs ds → DatsAt K H' vs ds
  | vs, [], h => by
    rw [h.un0]
    exact .nil
  | vs, d :: ds, h => by
    obtain ⟨v, r, rfl, h1, h2⟩ := h.un
    exact .cons (DatAt.but nt e h1) (DatsAt.but nt e h2)
end
theorem LsM.but {ds : List Dt} (h : LsM K H b ds) (nt : NT H a) (e : BtA a H H') (n : b ≠ a) : LsM K H' b ds := by
  obtain ⟨vs, h1, h2⟩ := h
  exact ⟨vs, e _ _ n h1, h2.but nt e⟩
structure LLM (K : PySem.W.Frag) (H : Hp) (a : Addr) (ps : List (Addr × List Dt)) : Prop where
  at_ : H a = some (.lst (ps.map fun p => V.ref p.1))
  it : ∀ p ∈ ps, LsM K H p.1 p.2
  ne : ∀ p ∈ ps, p.1 ≠ a
end
section
variable {X : Cx} {pins : List (Addr × Obj)} {σ : St} {H : Hp} {s : Shared}
def rNeLL (K : PySem.W.Frag) : R2 := fun x y H Q => ∃ a b ps qs, x = .ref a ∧ y = .ref b ∧ LLM K H a ps ∧ LLM K H b qs ∧ ps.map (·.2) = qs.map (·.2) ∧ (∀ p ∈ ps, Dt.hgts p.2 ≤ 30) ∧ Q (.bl false) H
end
end L2
namespace L2
open PySem PySem.Spec PySem.W PyProof.Rows
mutual
def VD (h : Heap) : Dt → Value → Prop
  | .non, v => v = Value.none
  | .int n, v => ∃ t, v = Value.int n t
  | .str x, v => ∃ t, v = Value.str x t
  | .tup ds, v => ∃ a o n, ∃ its : List Value, v = Value.ref a ∧ h.get? a = some o ∧ o.cls = .type "tuple" ∧ o.data = .seq its.toArray n ∧ VDs h ds its
def VDs (h : Heap) : List Dt → List Value → Prop
  | [], vs => vs = []
  | d :: ds, vs => ∃ v r, vs = v :: r ∧ VD h d v ∧ VDs h ds r
end
mutual
def hashD (w : World) : Dt → Int
  | .non => reduceHash 4238894112
  | .int n => hashInt n
  | .str x => hashStr w x
  | .tup ds => reduceHash (Builtin.Tuple.tupleHashOf (hashDs w ds))
def hashDs (w : World) : List Dt → List Int
  | [] => []
  | d :: ds => hashD w d :: hashDs w ds
end
section
variable {X : Cx} {pins : List (Addr × Obj)} {σ : L2.St} {H : Hp} {s : Shared}
mutual
theorem vd_of (I : Inv X pins σ H s) : ∀ {x : V} {d : Dt} {u : Value}, DatAt X.K H x d → RelV x u → VD s.heap d u
  | x, .non, u, h, r => by
    have := h.non_eq
    subst this
    simpa [VD] using (show u = Value.none from r)
  | x, .int n, u, h, r => by
    have := h.int_eq
    subst this
    simpa [VD] using (show ∃ t, u = Value.int n t from r)
  | x, .str n, u, h, r => by
    have := h.str_eq
    subst this
    simpa [VD] using (show ∃ t, u = Value.str n t from r)
  | x, .tup ds, u, h, r => by
    obtain ⟨a, vs, rfl, h1, h2⟩ := h.un
    obtain ⟨its, rv, ⟨o, e, c, n, dd⟩, _⟩ := I.tuple h1
    simp only [VD]
    exact ⟨a, o, n, its, r, e, c, dd, vds_of I h2 rv⟩
theorem vds_of (I : Inv X pins σ H s) : ∀ {xs : List V} {ds : List Dt} {us : List Value}, DatsAt X.K H xs ds → Vals xs us → VDs s.heap ds us
  | xs, [], us, h, r => by
    have := h.un0
    subst this
    cases r
    simp [VDs]
  | xs, d :: ds, us, h, r => by
    obtain ⟨v, w', rfl, h1, h2⟩ := h.un
    cases r with
    | cons r1 r2 =>
      simp only [VDs]
      exact ⟨_, _, rfl, vd_of I h1 r1, vds_of I h2 r2⟩
end
end
section
variable {prog : Program} {w : World} {E : Value → Shared → Prop}
mutual
theorem hash_vd : ∀ (d : Dt) (v : Value) (A : Around) (s : Shared) (Q : Int → Shared → Prop), VD s.heap d v → A.units + d.hgt < cLine → (∀ tk, Q (hashD w d) { s with toks := tk }) → wpAny (model prog w) A (pyHash v) Q E s
  | .non, v, A, s, Q, x, hu, q => by
    have e : v = Value.none := by simpa [VD] using x
    subst e
    refine pyHash_slot (T := "NoneType") rfl F.slot_NoneType_hash F.entry_NoneType_hash (F.args_NoneType_hash_1 _) (beq_builtin_none _) (.inr (by omega)) ?_
    exact wpAny_bind (wpAny_pure (wpAny_bind (wpAny_mkInt (wpAny_pure ⟨_, _, rfl, q _⟩))))
  | .int n, v, A, s, Q, x, _, q => by
    obtain ⟨t, rfl⟩ : ∃ t, v = Value.int n t := by simpa [VD] using x
    exact wpAny_pyHash_int (q _)
  | .str n, v, A, s, Q, x, _, q => by
    obtain ⟨t, rfl⟩ : ∃ t, v = Value.str n t := by simpa [VD] using x
    exact wpAny_pyHash_str (q _)
  | .tup ds, v, A, s, Q, x, hu, q => by
    simp only [VD] at x
    obtain ⟨a, o, n, its, rfl, e, c, dd, hs⟩ := x
    have hh : Dt.hgt (.tup ds) = Dt.hgts ds + 1 := by simp [Dt.hgt]
    rw [hh] at hu
    refine pyHash_slot (T := "tuple") ⟨_, e, c⟩ F.slot_tuple_hash F.entry_tuple_hash (F.args_tuple_hash_1 _) (beq_builtin_none _) (.inr (by omega)) ?_
    show wpAny _ _ (Builtin.Tuple.tupleItemsOf (.ref a) >>= _) _ _ s
    refine wpAny_bind (wpAny_tupleItemsOf e dd (wpAny_bind ?_))
    rw [← Array.forIn_toList]
    refine hash_vds ds its A.in1 s #[] _ hs (by rw [Around.in1_units]; omega) fun tk b hb => ?_
    show wpAny _ _ (retInt (Builtin.Tuple.tupleHashOf b.toList)) _ _ _
    rw [hb]
    exact wpAny_bind (wpAny_mkInt (wpAny_pure ⟨_, _, rfl, q _⟩))
theorem hash_vds : ∀ (ds : List Dt) (vs : List Value) (A : Around) (s : Shared) (b : Array Int) (Q : Array Int → Shared → Prop), VDs s.heap ds vs → A.units + Dt.hgts ds < cLine →
    (∀ tk b', b'.toList = b.toList ++ hashDs w ds → Q b' { s with toks := tk }) →
    wpAny (model prog w) A (forIn vs b fun y r => do let k ← pyHash y; pure PUnit.unit; pure (ForInStep.yield (r.push k))) Q E s
  | [], vs, A, s, b, Q, x, _, q => by
    have e : vs = [] := by simpa [VDs] using x
    subst e
    exact wpAny_pure (q s.toks b (by simp [hashDs]))
  | d :: ds, vs, A, s, b, Q, x, hu, q => by
    simp only [VDs] at x
    obtain ⟨v, r, rfl, x1, x2⟩ := x
    have hh : Dt.hgts (d :: ds) = max d.hgt (Dt.hgts ds) := by simp [Dt.hgts]
    rw [hh] at hu
    rw [List.forIn_cons]
    refine wpAny_bind (wpAny_bind (hash_vd d v A s _ x1 (by omega) fun tk => wpAny_bind (wpAny_pure (wpAny_pure ?_))))
    exact hash_vds ds r A _ _ Q x2 (by omega) fun tk' b' hb => q tk' b' (by simp [hb, hashDs])
end
theorem quiet_vd : ∀ (n : Nat) (d : Dt) (v : Value) (A : Around) (s : Shared) (Q : Bool → Shared → Prop), VD s.heap d v → d.hgt ≤ n → Q true s → wpAny (model prog w) A (eqIsQuiet n v) Q E s := by
  intro n
  induction n with
  | zero =>
    intro d v A s Q x hu q
    have hv : carriedByValue v = true := by
      cases d with
      | non => simp only [VD] at x; subst x; rfl
      | int i => simp only [VD] at x; obtain ⟨t, rfl⟩ := x; rfl
      | str i => simp only [VD] at x; obtain ⟨t, rfl⟩ := x; rfl
      | tup ds => simp [Dt.hgt] at hu
    rw [eqIsQuiet_byValue 0 hv]
    exact wpAny_pure q
  | succ n ih =>
    intro d v A s Q x hu q
    cases d with
    | non => simp only [VD] at x; subst x; rw [eqIsQuiet_byValue _ rfl]; exact wpAny_pure q
    | int i => simp only [VD] at x; obtain ⟨t, rfl⟩ := x; rw [eqIsQuiet_byValue _ rfl]; exact wpAny_pure q
    | str i => simp only [VD] at x; obtain ⟨t, rfl⟩ := x; rw [eqIsQuiet_byValue _ rfl]; exact wpAny_pure q
    | tup ds =>
      simp only [VD] at x
      obtain ⟨a, o, m, its, rfl, e, c, dd, hs⟩ := x
      have hh : Dt.hgt (.tup ds) = Dt.hgts ds + 1 := by simp [Dt.hgt]
      rw [hh] at hu
      have hT : s.TypeIs (.ref a) "tuple" := ⟨o, e, c⟩
      unfold eqIsQuiet
      refine wpAny_bind (wpAny_specialOf hT F.slot_tuple_eq.lookup ?_)
      show wpAny _ _ (isInstance (.ref a) (.type "tuple") >>= _) _ _ s
      refine wpAny_bind (wpAny_isInstance hT isSubtype_tuple_tuple ?_)
      simp only [Bool.not_true, Bool.false_eq_true, if_false]
      refine wpAny_bind (wpAny_seqItems e dd (wpAny_bind ?_))
      show wpAny _ _ (forIn its.toArray _ _) _ _ s
      rw [← Array.forIn_toList]
      refine wpAny_forIn_list _ (fun rest r s' => r.1 = none ∧ s' = s ∧ ∃ es, VDs s.heap es rest ∧ Dt.hgts es ≤ n) _ ?_ ?_ _ _ ⟨rfl, rfl, ds, hs, by omega⟩
      · rintro y rest r s' ⟨hr, rfl, es, h1, h2⟩
        cases es with
        | nil => simp [VDs] at h1
        | cons d es =>
          simp only [VDs] at h1
          obtain ⟨v, r', e1, x1, x2⟩ := h1
          cases e1
          have hh : Dt.hgts (d :: es) = max d.hgt (Dt.hgts es) := by simp [Dt.hgts]
          rw [hh] at h2
          refine wpAny_bind (ih d y A s' _ x1 (by omega) ?_)
          simp only [Bool.not_true, Bool.false_eq_true, if_false]
          exact wpAny_pure ⟨rfl, rfl, es, x2, by omega⟩
      · rintro ⟨r1, r2⟩ s' ⟨hr, rfl, _⟩
        simp only at hr
        subst hr
        exact wpAny_pure q
def entD (w : World) (x : Dt × Value × Value) : DictEntry := ⟨hashD w x.1, x.2.1, x.2.2⟩
theorem ent_at {es : Array DictEntry} {ks : List (Dt × Value × Value)} (he : es.toList = ks.map (entD w)) (j : Nat) : es[j]? = (ks[j]?).map (entD w) := by
  rw [← Array.getElem?_toList, he, List.getElem?_map]
theorem places_mem {es : Array DictEntry} {ks : List (Dt × Value × Value)} (he : es.toList = ks.map (entD w)) {h : Int} {i : Nat} :
    i ∈ placesWithHash es.size (fun i => es[i]?.map (·.hash)) h ↔ ∃ y, ks[i]? = some y ∧ hashD w y.1 = h := by
  unfold placesWithHash
  rw [List.mem_filter, List.mem_range]
  constructor
  · rintro ⟨_, h2⟩
    dsimp only at h2
    rw [ent_at he i] at h2
    cases e : ks[i]? with
    | none => rw [e] at h2; simp at h2
    | some y =>
      rw [e] at h2
      exact ⟨y, rfl, by simpa [entD] using h2⟩
  · rintro ⟨y, e, rfl⟩
    have e2 : es[i]? = some (entD w y) := by rw [ent_at he i, e]; rfl
    refine ⟨(Array.getElem?_eq_some_iff.mp e2).1, ?_⟩
    dsimp only
    rw [e2]
    simp [entD]
theorem places_nodup {n : Nat} {f : Nat → Option Int} {h : Int} : (placesWithHash n f h).Nodup := by
  unfold placesWithHash
  exact List.nodup_range.filter _
theorem nd_at {ks : List (Dt × Value × Value)} (hn : (ks.map (·.1)).Nodup) {i j : Nat} {x y : Dt × Value × Value} (hi : ks[i]? = some x) (hj : ks[j]? = some y) (e : x.1 = y.1) : i = j := by
  have h1 : (ks.map (·.1))[i]? = some x.1 := by rw [List.getElem?_map, hi]; rfl
  have h2 : (ks.map (·.1))[j]? = some x.1 := by rw [List.getElem?_map, hj, e]; rfl
  obtain ⟨l1, g1⟩ := List.getElem?_eq_some_iff.mp h1
  obtain ⟨l2, g2⟩ := List.getElem?_eq_some_iff.mp h2
  exact (List.getElem_inj hn).mp (g1.trans g2.symm)
def Fnd (ks : List (Dt × Value × Value)) (k : Dt) (done : List Nat) (hit : Option Nat) : Prop :=
  (hit = none ∧ ∀ i ∈ done, ∀ p : Value × Value, ks[i]? ≠ some (k, p)) ∨ ∃ (j : Nat) (p : Value × Value), hit = some j ∧ j ∈ done ∧ ks[j]? = some (k, p)
theorem loop_vd {A : Around} {s : Shared} {es : Array DictEntry} {ks : List (Dt × Value × Value)} {k : Dt} (he : es.toList = ks.map (entD w)) (hn : (ks.map (·.1)).Nodup)
    {f : Nat → Option (Option Nat) × Option Nat → Sem (ForInStep (Option (Option Nat) × Option Nat))} {R : Option (Option Nat) × Option Nat → Shared → Prop}
    (hf : ∀ (i : Nat) (y : Dt × Value × Value) (hit : Option Nat) (C : ForInStep (Option (Option Nat) × Option Nat) → Shared → Prop), y ∈ ks → es[i]? = some (entD w y) → hashD w y.1 = hashD w k →
      (Dt.beq y.1 k = true → hit = none ∧ C (.done (some (some i), none)) s ∧ C (.yield (none, some i)) s) → (Dt.beq y.1 k = false → C (.yield (none, hit)) s) → wpAny (model prog w) A (f i (none, hit)) C E s)
    (h1 : ∀ (j : Nat) (p : Value × Value), ks[j]? = some (k, p) → R (some (some j), none) s) (h2 : ∀ hit, Fnd ks k (placesWithHash es.size (fun i => es[i]?.map (·.hash)) (hashD w k)) hit → R (none, hit) s) :
    wpAny (model prog w) A (forIn (placesWithHash es.size (fun i => es[i]?.map (·.hash)) (hashD w k)) ((none, none) : Option (Option Nat) × Option Nat) f) R E s := by
  have nd : (placesWithHash es.size (fun i => es[i]?.map (·.hash)) (hashD w k)).Nodup := places_nodup
  have mem : ∀ i ∈ placesWithHash es.size (fun i => es[i]?.map (·.hash)) (hashD w k), ∃ y, ks[i]? = some y ∧ hashD w y.1 = hashD w k := fun i hi => (places_mem he).mp hi
  generalize placesWithHash es.size (fun i => es[i]?.map (·.hash)) (hashD w k) = pl at nd mem h2
  refine wpAny_forIn_list _ (fun rest b s' => s' = s ∧ ∃ done hit, pl = done ++ rest ∧ b = (none, hit) ∧ Fnd ks k done hit) _ ?_ ?_ _ _ ⟨rfl, [], none, rfl, rfl, .inl ⟨rfl, fun _ h => nomatch h⟩⟩
  · rintro i rest b s' ⟨rfl, done, hit, e, rfl, fd⟩
    obtain ⟨y, ey, hy⟩ := mem i (by rw [e]; exact List.mem_append_right _ (List.mem_cons_self ..))
    have e2 : es[i]? = some (entD w y) := by rw [ent_at he i, ey]; rfl
    have nin : i ∉ done := fun z => by
      rw [e] at nd
      exact (List.nodup_append.mp nd).2.2 i z i (List.mem_cons_self ..) rfl
    refine hf i y hit _ (List.mem_of_getElem? ey) e2 hy (fun hb => ?_) (fun hb => ?_)
    · have ek : y.1 = k := (Dt.beq_iff _ _).mp hb
      have ey' : ks[i]? = some (k, y.2) := by rw [ey, ← ek]
      have hz : hit = none := by
        rcases fd with ⟨z, _⟩ | ⟨j, p, _, hj, ej⟩
        · exact z
        · exact absurd (nd_at hn ej ey ek.symm ▸ hj) nin
      refine ⟨hz, h1 i y.2 ey', rfl, done ++ [i], some i, by rw [e]; simp, rfl, .inr ⟨i, y.2, rfl, by simp, ey'⟩⟩
    · refine ⟨rfl, done ++ [i], hit, by rw [e]; simp, rfl, ?_⟩
      rcases fd with ⟨z, q⟩ | ⟨j, p, z, hj, ej⟩
      · refine .inl ⟨z, fun m hm p em => ?_⟩
        rcases List.mem_append.mp hm with hm | hm
        · exact q m hm p em
        · cases List.mem_singleton.mp hm
          rw [ey] at em
          cases em
          rw [Dt.beq_self] at hb
          cases hb
      · exact .inr ⟨j, p, z, List.mem_append_left _ hj, ej⟩
  · rintro b s' ⟨rfl, done, hit, e, rfl, fd⟩
    rw [List.append_nil] at e
    subst e
    exact h2 hit fd
theorem find_vd {A : Around} {s : Shared} {d : Addr} {o : Obj} {es : Array DictEntry} {ep : Nat} {ks : List (Dt × Value × Value)} {k : Dt} {key : Value} {Q : Option Nat → Shared → Prop}
    (ho : s.heap.get? d = some o) (hd : o.data = .dict es ep) (he : es.toList = ks.map (entD w)) (hn : (ks.map (·.1)).Nodup) (hst : key = Value.none ∨ (∃ n t, key = Value.int n t) ∨ ∃ a, key = Value.ref a)
    (heq : ∀ x ∈ ks, ∀ Q : Bool → Shared → Prop, Q (Dt.beq x.1 k) s → wpAny (model prog w) A (eqBool x.2.1 key) Q E s)
    (hq : ∀ v, (v = key ∨ ∃ x ∈ ks, v = x.2.1) → ∀ Q : Bool → Shared → Prop, Q true s → wpAny (model prog w) A (eqIsQuiet 8 v) Q E s)
    (hid : ∀ x ∈ ks, x.2.1 = key → x.1 = k)
    (hnone : (∀ (j : Nat) (p : Value × Value), ks[j]? ≠ some (k, p)) → Q none s) (hsome : ∀ (j : Nat) (p : Value × Value), ks[j]? = some (k, p) → Q (some j) s) : wpAny (model prog w) A (dictFind d key (hashD w k)) Q E s := by
  have fin : ∀ hit, Fnd ks k (placesWithHash es.size (fun i => es[i]?.map (·.hash)) (hashD w k)) hit → Q hit s := by
    rintro hit (⟨rfl, h⟩ | ⟨j, p, rfl, _, h⟩)
    · exact hnone fun j p e => h j ((places_mem he).mpr ⟨_, e, rfl⟩) p e
    · exact hsome j p h
  have mayTell : ∀ R : Bool → Shared → Prop, R false s → wpAny (model prog w) A (tableMayTell key ((placesWithHash es.size (fun i => es[i]?.map (·.hash)) (hashD w k)).filterMap fun i => es[i]?.map (·.key))) R E s := by
    intro R hR
    have all : ∀ v ∈ ((placesWithHash es.size (fun i => es[i]?.map (·.hash)) (hashD w k)).filterMap fun i => es[i]?.map (·.key)), ∃ x ∈ ks, v = x.2.1 := fun v hv => by
      obtain ⟨i, hi, e⟩ := List.mem_filterMap.mp hv
      obtain ⟨y, ey, _⟩ := (places_mem he).mp hi
      rw [ent_at he i, ey] at e
      exact ⟨y, List.mem_of_getElem? ey, (Option.some.inj e).symm⟩
    unfold tableMayTell
    split
    · exact wpAny_pure hR
    · refine wpAny_bind (hq key (.inl rfl) _ ?_)
      rw [if_neg (by simp)]
      refine wpAny_bind (wpAny_forIn_list _ (fun rest r s' => s' = s ∧ r = (none, ()) ∧ ∀ v ∈ rest, ∃ x ∈ ks, v = x.2.1) _ ?_ ?_ _ _ ⟨rfl, rfl, all⟩)
      · rintro v rest r s' ⟨rfl, rfl, h⟩
        refine wpAny_bind (hq v (.inr (h v (List.mem_cons_self ..))) _ ?_)
        rw [if_neg (by simp)]
        exact wpAny_pure ⟨rfl, rfl, fun u hu => h u (List.mem_cons_of_mem _ hu)⟩
      · rintro r s' ⟨rfl, rfl, _⟩
        exact wpAny_pure hR
  have plain : wpAny (model prog w) A (dictWalkPlain d key (hashD w k) es (placesWithHash es.size (fun i => es[i]?.map (·.hash)) (hashD w k))) Q E s := by
    have mem : ∀ i ∈ placesWithHash es.size (fun i => es[i]?.map (·.hash)) (hashD w k), ∃ y, ks[i]? = some y ∧ hashD w y.1 = hashD w k := fun i hi => (places_mem he).mp hi
    unfold dictWalkPlain
    generalize placesWithHash es.size (fun i => es[i]?.map (·.hash)) (hashD w k) = pl at mem fin
    refine wpAny_bind (wpAny_forIn_list _ (fun rest r s' => s' = s ∧ r = (none, ()) ∧ ∃ done, pl = done ++ rest ∧ ∀ i ∈ done, ∀ p : Value × Value, ks[i]? ≠ some (k, p)) _ ?_ ?_ _ _ ⟨rfl, rfl, [], rfl, fun _ h => nomatch h⟩)
    · rintro i rest r s' ⟨rfl, rfl, done, e, no⟩
      obtain ⟨y, ey, hh⟩ := mem i (by rw [e]; exact List.mem_append_right _ (List.mem_cons_self ..))
      have ei : es[i]? = some (entD w y) := by rw [ent_at he i, ey]; rfl
      rw [ei]
      dsimp only
      rw [if_pos (show ((entD w y).hash == hashD w k) = true from beq_iff_eq.mpr hh)]
      refine wpAny_bind (wpAny_dictEpoch ho hd (wpAny_bind (heq y (List.mem_of_getElem? ey) _ (wpAny_bind (wpAny_dictEpoch ho hd ?_)))))
      rw [if_neg (by simp)]
      cases hb : Dt.beq y.1 k with
      | true =>
        have ek : y.1 = k := (Dt.beq_iff _ _).mp hb
        rw [if_pos rfl]
        exact wpAny_bind (wpAny_rule (wpAny_pure (wpAny_pure (hsome i y.2 (by rw [ey, ← ek])))))
      | false =>
        rw [if_neg (by simp)]
        refine wpAny_bind (wpAny_rule (wpAny_pure ⟨rfl, rfl, done ++ [i], by rw [e]; simp, fun m hm p em => ?_⟩))
        rcases List.mem_append.mp hm with hm | hm
        · exact no m hm p em
        · cases List.mem_singleton.mp hm
          rw [ey] at em
          cases em
          rw [Dt.beq_self] at hb
          cases hb
    · rintro r s' ⟨rfl, rfl, done, e, no⟩
      rw [List.append_nil] at e
      subst e
      exact wpAny_pure (fin none (.inl ⟨rfl, no⟩))
  rcases hst with rfl | ⟨n, t, rfl⟩ | ⟨a, rfl⟩
  · unfold dictFind
    try with_reducible refine wpAny_holding ?_
    refine wpAny_bind (wpAny_dictEntries ho hd ?_)
    dsimp only
    by_cases hall : ((Value.none :: (placesWithHash es.size (fun i => es[i]?.map (·.hash)) (hashD w k)).filterMap fun i => es[i]?.map (·.key)).all carriedByValue) = true
    · rw [if_pos hall]
      exact plain
    · rw [if_neg hall]
      by_cases hone : (((placesWithHash es.size (fun i => es[i]?.map (·.hash)) (hashD w k)).filterMap fun i => es[i]?.map (·.key)) == [Value.none]) = true
      · rw [if_pos hone]
        refine wpAny_bind (wpAny_pure ?_)
        rw [if_neg (by simp)]
        refine wpAny_bind (loop_vd he hn (fun i y hit C hy ei hh ht hf => ?_) (fun j p e => wpAny_pure (hsome j p e)) (fun hit f => wpAny_pure (fin hit f)))
        rw [ei]
        dsimp only
        rw [if_pos (show ((entD w y).hash == hashD w k) = true from beq_iff_eq.mpr hh)]
        refine wpAny_bind (wpAny_dictEpoch ho hd (wpAny_bind (heq y hy _ (wpAny_bind (wpAny_dictEpoch ho hd ?_)))))
        rw [if_neg (by simp)]
        cases hb : Dt.beq y.1 k with
        | true =>
          obtain ⟨rfl, c1, c2⟩ := ht hb
          rw [if_pos rfl, if_neg (by simp)]
          refine wpAny_bind (wpAny_rule ?_)
          split
          · exact wpAny_pure c1
          · exact wpAny_pure c2
        | false =>
          rw [if_neg (by simp)]
          refine wpAny_bind (wpAny_rule ?_)
          rw [if_neg (by simp)]
          exact wpAny_pure (hf hb)
      · rw [if_neg hone]
        refine wpAny_bind (mayTell _ ?_)
        rw [if_neg (by simp)]
        refine wpAny_bind (loop_vd he hn (fun i y hit C hy ei hh ht hf => ?_) (fun j p e => wpAny_pure (hsome j p e)) (fun hit f => wpAny_pure (fin hit f)))
        rw [ei]
        dsimp only
        rw [if_pos (show ((entD w y).hash == hashD w k) = true from beq_iff_eq.mpr hh)]
        refine wpAny_bind (wpAny_dictEpoch ho hd (wpAny_bind (heq y hy _ (wpAny_bind (wpAny_dictEpoch ho hd ?_)))))
        rw [if_neg (by simp)]
        cases hb : Dt.beq y.1 k with
        | true =>
          obtain ⟨rfl, c1, c2⟩ := ht hb
          rw [if_pos rfl, if_neg (by simp)]
          refine wpAny_bind (wpAny_rule ?_)
          split
          · exact wpAny_pure c1
          · exact wpAny_pure c2
        | false =>
          rw [if_neg (by simp)]
          refine wpAny_bind (wpAny_rule ?_)
          rw [if_neg (by simp)]
          exact wpAny_pure (hf hb)
  · unfold dictFind
    try with_reducible refine wpAny_holding ?_
    refine wpAny_bind (wpAny_dictEntries ho hd ?_)
    dsimp only
    by_cases hall : ((Value.int n t :: (placesWithHash es.size (fun i => es[i]?.map (·.hash)) (hashD w k)).filterMap fun i => es[i]?.map (·.key)).all carriedByValue) = true
    · rw [if_pos hall]
      exact plain
    · rw [if_neg hall]
      by_cases hone : (((placesWithHash es.size (fun i => es[i]?.map (·.hash)) (hashD w k)).filterMap fun i => es[i]?.map (·.key)) == [Value.int n t]) = true
      · rw [if_pos hone]
        refine wpAny_bind (wpAny_pure ?_)
        rw [if_neg (by simp)]
        refine wpAny_bind (loop_vd he hn (fun i y hit C hy ei hh ht hf => ?_) (fun j p e => wpAny_pure (hsome j p e)) (fun hit f => wpAny_pure (fin hit f)))
        rw [ei]
        dsimp only
        rw [if_pos (show ((entD w y).hash == hashD w k) = true from beq_iff_eq.mpr hh)]
        refine wpAny_bind (wpAny_dictEpoch ho hd (wpAny_bind (heq y hy _ (wpAny_bind (wpAny_dictEpoch ho hd ?_)))))
        rw [if_neg (by simp)]
        cases hb : Dt.beq y.1 k with
        | true =>
          obtain ⟨rfl, c1, c2⟩ := ht hb
          rw [if_pos rfl, if_neg (by simp)]
          refine wpAny_bind (wpAny_rule ?_)
          split
          · exact wpAny_pure c1
          · exact wpAny_pure c2
        | false =>
          rw [if_neg (by simp)]
          refine wpAny_bind (wpAny_rule ?_)
          rw [if_neg (by simp)]
          exact wpAny_pure (hf hb)
      · rw [if_neg hone]
        refine wpAny_bind (mayTell _ ?_)
        rw [if_neg (by simp)]
        refine wpAny_bind (loop_vd he hn (fun i y hit C hy ei hh ht hf => ?_) (fun j p e => wpAny_pure (hsome j p e)) (fun hit f => wpAny_pure (fin hit f)))
        rw [ei]
        dsimp only
        rw [if_pos (show ((entD w y).hash == hashD w k) = true from beq_iff_eq.mpr hh)]
        refine wpAny_bind (wpAny_dictEpoch ho hd (wpAny_bind (heq y hy _ (wpAny_bind (wpAny_dictEpoch ho hd ?_)))))
        rw [if_neg (by simp)]
        cases hb : Dt.beq y.1 k with
        | true =>
          obtain ⟨rfl, c1, c2⟩ := ht hb
          rw [if_pos rfl, if_neg (by simp)]
          refine wpAny_bind (wpAny_rule ?_)
          split
          · exact wpAny_pure c1
          · exact wpAny_pure c2
        | false =>
          rw [if_neg (by simp)]
          refine wpAny_bind (wpAny_rule ?_)
          rw [if_neg (by simp)]
          exact wpAny_pure (hf hb)
  · unfold dictFind
    try with_reducible refine wpAny_holding ?_
    refine wpAny_bind (wpAny_dictEntries ho hd ?_)
    dsimp only
    have hall : ¬ ((Value.ref a :: (placesWithHash es.size (fun i => es[i]?.map (·.hash)) (hashD w k)).filterMap fun i => es[i]?.map (·.key)).all carriedByValue) = true := by
      rw [List.all_cons]
      exact Bool.false_ne_true
    have hany : ¬ (es.any fun e => e.key == Value.ref a && e.hash != hashD w k) = true := by
      rw [← Array.any_toList, he, List.any_map, List.any_eq_true]
      rintro ⟨x, hx, hc⟩
      have hc' := (Bool.and_eq_true _ _).mp hc
      have h1 : x.2.1 = Value.ref a := by simpa [entD] using hc'.1
      have h2 : hashD w x.1 ≠ hashD w k := by simpa [entD] using hc'.2
      exact h2 (by rw [hid x hx h1])
    rw [if_neg hall, if_neg hany]
    by_cases hone : (((placesWithHash es.size (fun i => es[i]?.map (·.hash)) (hashD w k)).filterMap fun i => es[i]?.map (·.key)) == [Value.ref a]) = true
    · rw [if_pos hone]
      refine wpAny_bind (wpAny_pure ?_)
      rw [if_neg (by simp)]
      refine wpAny_bind (loop_vd he hn (fun i y hit C hy ei hh ht hf => ?_) (fun j p e => wpAny_pure (hsome j p e)) (fun hit f => wpAny_pure (fin hit f)))
      rw [ei]
      dsimp only
      rw [if_pos (show ((entD w y).hash == hashD w k) = true from beq_iff_eq.mpr hh)]
      refine wpAny_bind (wpAny_dictEpoch ho hd (wpAny_bind (heq y hy _ (wpAny_bind (wpAny_dictEpoch ho hd ?_)))))
      rw [if_neg (by simp)]
      cases hb : Dt.beq y.1 k with
      | true =>
        obtain ⟨rfl, c1, c2⟩ := ht hb
        rw [if_pos rfl, if_neg (by simp)]
        refine wpAny_bind (wpAny_rule ?_)
        split
        · exact wpAny_pure c1
        · exact wpAny_pure c2
      | false =>
        rw [if_neg (by simp)]
        refine wpAny_bind (wpAny_rule ?_)
        rw [if_neg (by simp)]
        exact wpAny_pure (hf hb)
    · rw [if_neg hone]
      refine wpAny_bind (mayTell _ ?_)
      rw [if_neg (by simp)]
      refine wpAny_bind (loop_vd he hn (fun i y hit C hy ei hh ht hf => ?_) (fun j p e => wpAny_pure (hsome j p e)) (fun hit f => wpAny_pure (fin hit f)))
      rw [ei]
      dsimp only
      rw [if_pos (show ((entD w y).hash == hashD w k) = true from beq_iff_eq.mpr hh)]
      refine wpAny_bind (wpAny_dictEpoch ho hd (wpAny_bind (heq y hy _ (wpAny_bind (wpAny_dictEpoch ho hd ?_)))))
      rw [if_neg (by simp)]
      cases hb : Dt.beq y.1 k with
      | true =>
        obtain ⟨rfl, c1, c2⟩ := ht hb
        rw [if_pos rfl, if_neg (by simp)]
        refine wpAny_bind (wpAny_rule ?_)
        split
        · exact wpAny_pure c1
        · exact wpAny_pure c2
      | false =>
        rw [if_neg (by simp)]
        refine wpAny_bind (wpAny_rule ?_)
        rw [if_neg (by simp)]
        exact wpAny_pure (hf hb)
end
end L2
namespace L2
open PySem PySem.Spec PySem.W PyProof.Rows
def hasD {β : Type} (ks : List (Dt × β)) (k : Dt) : Bool := ks.any fun x => Dt.beq x.1 k
def putD {α : Type} (ks : List (Dt × α × α)) (k : Dt) (key v : α) : List (Dt × α × α) := if hasD ks k = true then ks.map (fun x => if Dt.beq x.1 k = true then (x.1, x.2.1, v) else x) else ks ++ [(k, key, v)]
theorem hasD_iff {β : Type} {ks : List (Dt × β)} {k : Dt} : hasD ks k = true ↔ k ∈ ks.map (·.1) := by
  unfold hasD
  rw [List.any_eq_true, List.mem_map]
  constructor
  · rintro ⟨x, hx, e⟩
    exact ⟨x, hx, (Dt.beq_iff _ _).mp e⟩
  · rintro ⟨x, hx, e⟩
    exact ⟨x, hx, (Dt.beq_iff _ _).mpr e⟩
theorem hasD_no {β : Type} {ks : List (Dt × β)} {k : Dt} (h : ∀ (j : Nat) (p : β), ks[j]? ≠ some (k, p)) : hasD ks k = false := by
  cases e : hasD ks k with
  | false => rfl
  | true =>
    obtain ⟨x, hx, ex⟩ := List.mem_map.mp (hasD_iff.mp e)
    obtain ⟨j, hj⟩ := List.getElem?_of_mem hx
    exact absurd (hj.trans (by rw [← ex])) (h j x.2)
theorem hasD_yes {β : Type} {ks : List (Dt × β)} {k : Dt} {j : Nat} {p : β} (h : ks[j]? = some (k, p)) : hasD ks k = true := hasD_iff.mpr (List.mem_map.mpr ⟨_, List.mem_of_getElem? h, rfl⟩)
theorem putD_keys {α : Type} (ks : List (Dt × α × α)) (k : Dt) (key v : α) : (putD ks k key v).map (·.1) = if hasD ks k = true then ks.map (·.1) else ks.map (·.1) ++ [k] := by
  unfold putD
  split
  · rw [List.map_map]
    refine List.map_congr_left fun x _ => ?_
    show (if Dt.beq x.1 k = true then (x.1, x.2.1, v) else x).1 = x.1
    split <;> rfl
  · rw [List.map_append]
    rfl
theorem putD_nodup {α : Type} {ks : List (Dt × α × α)} {k : Dt} {key v : α} (h : (ks.map (·.1)).Nodup) : ((putD ks k key v).map (·.1)).Nodup := by
  rw [putD_keys]
  split
  · exact h
  · rename_i hn
    rw [List.nodup_append]
    refine ⟨h, by simp, fun a ha b hb => ?_⟩
    cases List.mem_singleton.mp hb
    exact fun z => hn (hasD_iff.mpr (z ▸ ha))
theorem putD_mem {α : Type} {ks : List (Dt × α × α)} {k : Dt} {key v : α} {x : Dt × α × α} (h : x ∈ putD ks k key v) : (∃ y ∈ ks, y.1 = x.1 ∧ y.2.1 = x.2.1) ∨ (x.1 = k ∧ x.2.1 = key) := by
  unfold putD at h
  split at h
  · obtain ⟨y, hy, rfl⟩ := List.mem_map.mp h
    refine .inl ⟨y, hy, ?_⟩
    split <;> exact ⟨rfl, rfl⟩
  · rcases List.mem_append.mp h with h | h
    · exact .inl ⟨x, h, rfl, rfl⟩
    · cases List.mem_singleton.mp h
      exact .inr ⟨rfl, rfl⟩
section
variable {prog : Program} {w : World} {E : Value → Shared → Prop}
theorem set_vd {A : Around} {s : Shared} {d : Addr} {o : Obj} {es : Array DictEntry} {ep : Nat} {ks : List (Dt × Value × Value)} {k : Dt} {key v : Value} {Q : Unit → Shared → Prop}
    (ho : s.heap.get? d = some o) (hx : o.ExactDict) (hd : o.data = .dict es ep) (he : es.toList = ks.map (entD w)) (hn : (ks.map (·.1)).Nodup) (hst : key = Value.none ∨ (∃ n t, key = Value.int n t) ∨ ∃ a, key = Value.ref a)
    (hk : VD s.heap k key) (hu : A.units + k.hgt < cLine)
    (heq : ∀ tk, ∀ x ∈ ks, ∀ Q : Bool → Shared → Prop, Q (Dt.beq x.1 k) { s with toks := tk } → wpAny (model prog w) A (eqBool x.2.1 key) Q E { s with toks := tk })
    (hq : ∀ tk v, (v = key ∨ ∃ x ∈ ks, v = x.2.1) → ∀ Q : Bool → Shared → Prop, Q true { s with toks := tk } → wpAny (model prog w) A (eqIsQuiet 8 v) Q E { s with toks := tk })
    (hid : ∀ x ∈ ks, x.2.1 = key → x.1 = k) (hz : ks.length ≤ sizeLine)
    (hQ : ∀ h' tk o' es' ep', h'.get? d = some o' → o'.ExactDict → o'.data = .dict es' ep' → es'.toList = (putD ks k key v).map (entD w) → Heap.SameBut d s.heap h' → Q () { s with heap := h', toks := tk }) :
    wpAny (model prog w) A (dictSet d key v) Q E s := by
  have sz : es.size = ks.length := by rw [← Array.length_toList, he, List.length_map]
  unfold dictSet
  try with_reducible refine wpAny_holding ?_
  refine wpAny_bind (hash_vd k key A s _ hk hu fun tk => ?_)
  unfold dictSetHashed
  try with_reducible refine wpAny_holding ?_
  refine wpAny_bind (find_vd (s := { s with toks := tk }) ho hd he hn hst (heq tk) (hq tk) hid (fun no => ?_) (fun j p e => ?_))
  · refine wpAny_bind (wpAny_rule (wpAny_updateDictKeys (s := { s with toks := tk }) ho hd ?_ (hz := by omega)))
    refine hQ _ tk _ _ (ep + 1) (Heap.get?_update_self _ ho (Obj.isFreed_of_dict (Obj.data_mapDictKeys hd _))) (hx.mapDictKeys _) (Obj.data_mapDictKeys hd _) ?_ (Heap.SameBut.update ..)
    unfold putD
    rw [if_neg (by rw [hasD_no no]; exact Bool.false_ne_true), List.map_append, Array.toList_push, he]
    rfl
  · refine wpAny_bind (wpAny_rule (wpAny_bind (wpAny_updateDict (s := { s with toks := tk }) ho hd (wpAny_point ?_))))
    refine hQ _ tk _ _ ep (Heap.get?_update_self _ ho (Obj.isFreed_of_dict (Obj.data_mapDict hd _))) (hx.mapDict _) (Obj.data_mapDict hd _) ?_ (Heap.SameBut.update ..)
    unfold putD
    rw [if_pos (hasD_yes e), List.map_map]
    apply List.ext_getElem?
    intro i
    rw [Array.toList_modify, List.getElem?_modify, he, List.getElem?_map, List.getElem?_map]
    cases ei : ks[i]? with
    | none => simp
    | some y =>
      by_cases hij : j = i
      · subst hij
        rw [e] at ei
        cases ei
        simp [entD, Dt.beq_self]
      · have ne : Dt.beq y.1 k = false := Dt.beq_ne fun z => hij (nd_at hn e ei z.symm)
        simp [hij, ne]
end
end L2
namespace L2
open PySem PySem.Spec PySem.W PyProof.Rows
def DkR (x : Dt × V × V) (y : Dt × Value × Value) : Prop := x.1 = y.1 ∧ RelV x.2.1 y.2.1 ∧ RelV x.2.2 y.2.2
def DkP (w : World) (a : Addr) (kvs : List (Dt × V × V)) (h : Heap) : Prop :=
  (a == sysModules) = false ∧ ∃ o es ep ks, h.get? a = some o ∧ o.ExactDict ∧ o.data = .dict es ep ∧ es.toList = ks.map (entD w) ∧ Paired DkR kvs ks
def DkO (w : World) (a : Addr) (kvs : List (Dt × V × V)) : HO := .ext (DkP w a kvs)
structure DkM (K : PySem.W.Frag) (w : World) (H : Hp) (a : Addr) (kvs : List (Dt × V × V)) : Prop where
  at_ : H a = some (DkO w a kvs)
  dat : ∀ x ∈ kvs, DatAt K H x.2.1 x.1
  oc : ∀ x ∈ kvs, Oc x.1
  nd : (kvs.map (·.1)).Nodup
theorem dk_keys : ∀ {kvs : List (Dt × V × V)} {ks : List (Dt × Value × Value)}, Paired DkR kvs ks → kvs.map (·.1) = ks.map (·.1)
  | _, _, .nil => rfl
  | _, _, .cons r t => by rw [List.map_cons, List.map_cons, r.1, dk_keys t]
theorem dk_mem : ∀ {kvs : List (Dt × V × V)} {ks : List (Dt × Value × Value)}, Paired DkR kvs ks → ∀ y ∈ ks, ∃ x ∈ kvs, DkR x y
  | _, _, .nil, y, h => nomatch h
  | _, _, .cons (a := x) r t, y, h => by
    rcases List.mem_cons.mp h with z | z
    · exact ⟨x, List.mem_cons_self .., z ▸ r⟩
    · obtain ⟨x', h1, h2⟩ := dk_mem t y z
      exact ⟨x', List.mem_cons_of_mem _ h1, h2⟩
theorem dk_map {k : Dt} {x : V} {u : Value} (r : RelV x u) : ∀ {kvs : List (Dt × V × V)} {ks : List (Dt × Value × Value)}, Paired DkR kvs ks →
    Paired DkR (kvs.map fun e => if Dt.beq e.1 k = true then (e.1, e.2.1, x) else e) (ks.map fun e => if Dt.beq e.1 k = true then (e.1, e.2.1, u) else e)
  | _, _, .nil => .nil
  | _, _, .cons (a := y) (b := z) q t => by
    refine .cons ?_ (dk_map r t)
    dsimp only
    rw [← q.1]
    split
    · exact ⟨rfl, q.2.1, r⟩
    · exact q
theorem dk_snoc : ∀ {kvs : List (Dt × V × V)} {ks : List (Dt × Value × Value)} {x : Dt × V × V} {y : Dt × Value × Value}, Paired DkR kvs ks → DkR x y → Paired DkR (kvs ++ [x]) (ks ++ [y])
  | _, _, _, _, .nil, q => .cons q .nil
  | _, _, _, _, .cons r t, q => .cons r (dk_snoc t q)
theorem dk_put {k : Dt} {i v : V} {u r : Value} (ri : RelV i u) (rv : RelV v r) {kvs : List (Dt × V × V)} {ks : List (Dt × Value × Value)} (h : Paired DkR kvs ks) : Paired DkR (putD kvs k i v) (putD ks k u r) := by
  have e : hasD kvs k = hasD ks k := by
    rw [Bool.eq_iff_iff, hasD_iff, hasD_iff, dk_keys h]
  unfold putD
  rw [e]
  split
  · exact dk_map rv h
  · exact dk_snoc h ⟨rfl, ri, rv⟩
section
variable {K : PySem.W.Frag} {H : Hp} {a : Addr} {φ ψ : Heap → Prop}
theorem sqT_updX {r : Addr} {vs : List V} (ha : H a = some (.ext φ)) (h : SqT K H r vs) : SqT K (upd H a (.ext ψ)) r vs := by
  rcases h with (h | ⟨o, h⟩) | h
  · exact .inl (.inl (by rw [upd_ne (ne_of h ha (by intro z; cases z))]; exact h))
  · exact .inl (.inr ⟨o, by rw [upd_ne (ne_of h ha (by intro z; cases z))]; exact h⟩)
  · exact .inr h
mutual
theorem DatAt.updX (ha : H a = some (.ext φ)) : ∀ {v : V} {d : Dt}, DatAt K H v d → DatAt K (upd H a (.ext ψ)) v d
  | v, .non, h => by simpa [DatAt] using h
  | v, .int i, h => by simpa [DatAt] using h
  | v, .str i, h => by simpa [DatAt] using h
  | v, .tup ds, h => by
    obtain ⟨r, vs, rfl, h1, h2⟩ := h.un
    exact .tup (sqT_updX ha h1) (DatsAt.updX ha h2)
theorem DatsAt.updX (ha : H a = some (.ext φ)) : ∀ {vs : List V} {ds : List Dt}, DatsAt K H vs ds → DatsAt K (upd H a (.ext ψ)) vs ds
  | vs, [], h => by
    rw [h.un0]
    exact .nil
  | vs, d :: ds, h => by
    obtain ⟨v, r, rfl, h1, h2⟩ := h.un
    exact .cons (DatAt.updX ha h1) (DatsAt.updX ha h2)
end
end
theorem dkP_stays {w : World} {a : Addr} {kvs : List (Dt × V × V)} {h1 h2 : Heap} (p : DkP w a kvs h1) (k : ∀ o, h1.get? a = some o → h2.get? a = some o) : DkP w a kvs h2 := by
  obtain ⟨q, o, es, ep, ks, e, r⟩ := p
  exact ⟨q, o, es, ep, ks, k _ e, r⟩
theorem dkO_ok {P : Program} {w : World} {H : Hp} {a : Addr} {kvs : List (Dt × V × V)} {h : Heap} (p : DkP w a kvs h) : ObjOk P w H h a (DkO w a kvs) := by
  refine ⟨p, ?_, fun _ _ => dkP_stays⟩
  obtain ⟨_, o, _, _, _, e, _⟩ := p
  exact ⟨o, e⟩
section
variable {X : Cx}
theorem Inv.far {pins : List (Addr × Obj)} {σ : L2.St} {H : Hp} {s : Shared} (I : Inv X pins σ H s) : sysModules < s.heap.objs.size := modules_low I.nolimit
def tDNewD (w : World) : TE := fun _ H Q => ∀ p, H p = none → Q (.ref p) (upd H p (DkO w p []))
theorem pe_dnewD {pos : Pos} : PE X (.Dict [] [] pos) (tDNewD X.w) := by
  intro pins s σ H Q I h
  refine wpAny_Dict_empty ⟨.ref s.heap.objs.size, _, I.laid (t' := s.toks) (o := DkO X.w s.heap.objs.size []) (fun b o q => Heap.get?_push_of_some _ q) (Nat.le_refl _) (dkO_ok ?_), rfl, h _ (I.hok.fresh (Nat.le_refl _))⟩
  exact ⟨beq_eq_false_iff_ne.mpr (Ne.symm (Nat.ne_of_lt I.far)), _, #[], 0, [], Heap.get?_push_size _ rfl, ⟨rfl, rfl, rfl⟩, rfl, rfl, .nil⟩
end
end L2
namespace L2
open PySem PySem.Spec PySem.W PyProof.Rows
section
variable {X : Cx} {pins : List (Addr × Obj)} {σ : L2.St} {H : Hp} {s : Shared} {a : Addr} {kvs : List (Dt × V × V)} {k : Dt} {i : V} {u : Value}
structure Kit (X : Cx) (A : Around) (s : Shared) (ks : List (Dt × Value × Value)) (k : Dt) (u : Value) : Prop where
  st : u = Value.none ∨ (∃ n t, u = Value.int n t) ∨ ∃ a, u = Value.ref a
  vd : VD s.heap k u
  hgt : A.units + k.hgt < cLine
  eq : ∀ tk, ∀ x ∈ ks, ∀ (E : Value → Shared → Prop) (Q : Bool → Shared → Prop), Q (Dt.beq x.1 k) { s with toks := tk } → wpAny (model X.prog X.w) A (eqBool x.2.1 u) Q E { s with toks := tk }
  quiet : ∀ tk v, (v = u ∨ ∃ x ∈ ks, v = x.2.1) → ∀ (E : Value → Shared → Prop) (Q : Bool → Shared → Prop), Q true { s with toks := tk } → wpAny (model X.prog X.w) A (eqIsQuiet 8 v) Q E { s with toks := tk }
  id : ∀ x ∈ ks, x.2.1 = u → x.1 = k
def sDk (K : PySem.W.Frag) (w : World) : TSet := fun o i v H Q => ∃ a kvs k, o = .ref a ∧ DkM K w H a kvs ∧ kvs.length ≤ 1000 ∧ DatAt K H i k ∧ Oc k ∧ Q (upd H a (DkO w a (putD kvs k i v)))
end
end L2
namespace L2
open PySem PySem.Spec PySem.W PyProof.Rows
def EsAt (h : Heap) (d : Addr) (es : Array DictEntry) (ep : Nat) : Prop := ∃ o, h.get? d = some o ∧ o.ExactDict ∧ o.data = .dict es ep
section
variable {prog : Program} {w : World} {A : Around} {E : Value → Shared → Prop} {s : Shared} {d it : Addr} {es : Array DictEntry} {ep i : Nat}
end
end L2
namespace L2
open PySem PySem.Spec PySem.W PyProof.Rows
theorem dk_vals : ∀ {kvs : List (Dt × V × V)} {ks : List (Dt × Value × Value)}, Paired DkR kvs ks → Vals (kvs.map (·.2.1)) (ks.map (·.2.1))
  | _, _, .nil => .nil
  | _, _, .cons r t => .cons r.2.1 (dk_vals t)
theorem dk_dats {K : PySem.W.Frag} {H : Hp} : ∀ {kvs : List (Dt × V × V)}, (∀ x ∈ kvs, DatAt K H x.2.1 x.1) → DatsAt K H (kvs.map (·.2.1)) (kvs.map (·.1))
  | [], _ => .nil
  | x :: kvs, h => .cons (h x (List.mem_cons_self ..)) (dk_dats fun y hy => h y (List.mem_cons_of_mem _ hy))
theorem acc_keys {w : World} {es : Array DictEntry} {ks : List (Dt × Value × Value)} {acc : Array Value} (he : es.toList = ks.map (entD w)) (hs : acc.size = es.size) (h : ∀ (j : Nat) (v : Value), acc[j]? = some v → ∃ e : DictEntry, es[j]? = some e ∧ v = e.key) : acc.toList = ks.map (·.2.1) := by
  have sz : es.size = ks.length := by rw [← Array.length_toList, he, List.length_map]
  refine List.ext_getElem (by simp; omega) fun i k1 k2 => ?_
  have hi : i < acc.size := by simpa using k1
  obtain ⟨e, e1, e2⟩ := h i acc[i] (by simp [hi])
  rw [ent_at he i] at e1
  have hk : i < ks.length := by omega
  rw [List.getElem?_eq_getElem hk] at e1
  have : e = entD w ks[i] := (Option.some.inj e1).symm
  subst this
  rw [Array.getElem_toList, e2, List.getElem_map]
  rfl
end L2
namespace L2
open PySem PySem.Spec PySem.W PyProof.Rows
section
variable {X : Cx} {pins : List (Addr × Obj)} {σ : L2.St} {H : Hp} {s : Shared} {a : Addr} {kvs : List (Dt × V × V)} {k : Dt} {i : V} {u : Value}
theorem get_vd {A : Around} {E : Value → Shared → Prop} {o : Obj} {es : Array DictEntry} {ep : Nat} {ks : List (Dt × Value × Value)} {Q : Option Value → Shared → Prop} (kt : Kit X A s ks k u)
    (ho : s.heap.get? a = some o) (hd : o.data = .dict es ep) (he : es.toList = ks.map (entD X.w)) (hn : (ks.map (·.1)).Nodup)
    (hnone : ∀ tk, (∀ (j : Nat) (p : Value × Value), ks[j]? ≠ some (k, p)) → Q none { s with toks := tk }) (hsome : ∀ tk (j : Nat) (p : Value × Value), ks[j]? = some (k, p) → Q (some p.2) { s with toks := tk }) :
    wpAny (model X.prog X.w) A (dictGet a u) Q E s := by
  unfold dictGet
  try with_reducible refine wpAny_holding ?_
  refine wpAny_bind (hash_vd k u A s _ kt.vd kt.hgt fun tk => wpAny_bind ?_)
  refine find_vd (s := { s with toks := tk }) ho hd he hn kt.st (fun x hx Q q => kt.eq tk x hx _ Q q) (fun v hv Q q => kt.quiet tk v hv _ Q q) kt.id (fun no => wpAny_pure (hnone tk no)) (fun j p e => ?_)
  refine wpAny_bind (wpAny_dictEntries (s := { s with toks := tk }) ho hd ?_)
  rw [ent_at he j, e]
  exact wpAny_pure (hsome tk j p e)
theorem dk_get : ∀ {kvs : List (Dt × V × V)} {ks : List (Dt × Value × Value)}, Paired DkR kvs ks → ∀ {j : Nat} {y : Dt × Value × Value}, ks[j]? = some y → ∃ x, kvs[j]? = some x ∧ DkR x y
  | _, _, .nil, j, y, e => by simp at e
  | _, _, .cons (a := x) r t, 0, y, e => by
    simp at e
    subst e
    exact ⟨x, rfl, r⟩
  | _, _, .cons _ t, j + 1, y, e => by
    obtain ⟨x, h1, h2⟩ := dk_get t (j := j) (by simpa using e)
    exact ⟨x, by simpa using h1, h2⟩
theorem dk_get' : ∀ {kvs : List (Dt × V × V)} {ks : List (Dt × Value × Value)}, Paired DkR kvs ks → ∀ {j : Nat} {x : Dt × V × V}, kvs[j]? = some x → ∃ y, ks[j]? = some y ∧ DkR x y
  | _, _, .nil, j, y, e => by simp at e
  | _, _, .cons (b := y) r t, 0, x, e => by
    simp at e
    subst e
    exact ⟨y, rfl, r⟩
  | _, _, .cons _ t, j + 1, x, e => by
    obtain ⟨y, h1, h2⟩ := dk_get' t (j := j) (by simpa using e)
    exact ⟨y, by simpa using h1, h2⟩
def valD (kvs : List (Dt × V × V)) (k : Dt) (d : V) : V := ((kvs.find? fun x => Dt.beq x.1 k).map (·.2.2)).getD d
def rIxD (K : PySem.W.Frag) (w : World) : R2 := fun x y H Q => ∃ (a : Addr) (kvs : List (Dt × V × V)) (k : Dt) (j : Nat) (e : Dt × V × V), x = .ref a ∧ DkM K w H a kvs ∧ DatAt K H y k ∧ Oc k ∧ kvs[j]? = some e ∧ e.1 = k ∧ Q e.2.2 H
def rGetD (K : PySem.W.Frag) (w : World) : V → List V → Hp → VK → Prop := fun x vs H Q => ∃ (a : Addr) (kvs : List (Dt × V × V)) (y z : V) (k : Dt), x = .ref a ∧ vs = [y, z] ∧ DkM K w H a kvs ∧ DatAt K H y k ∧ Oc k ∧
  (∀ (j : Nat) (e : Dt × V × V), kvs[j]? = some e → e.1 = k → Q e.2.2 H) ∧ (k ∉ kvs.map (·.1) → Q z H)
def tBMD (K : PySem.W.Frag) (w : World) (r : V → List V → Hp → VK → Prop) (to : TE) (t : TA) : TE := fun σ H Q => to σ H fun x H1 => (∃ a kvs, x = .ref a ∧ DkM K w H1 a kvs) ∧ t σ H1 fun vs H2 => r x vs H2 Q
end
end L2
namespace L2
open PySem PySem.Spec PySem.W PyProof.Rows
end L2
namespace L2
open PySem PySem.Spec PyProof.Rows
def ObO (a : Addr) (o : Obj) : HO := .ext fun h => h.get? a = some o
section
variable {P : Program} {w : World} {H H' : Hp} {h h' : Heap} {a : Addr} {o : Obj}
theorem ob_ok (e : h.get? a = some o) : ObjOk P w H h a (ObO a o) := ⟨e, ⟨o, e⟩, fun _ _ e1 k => k _ e1⟩
theorem ob_get (x : HOk P w H h) (e : H a = some (ObO a o)) : h.get? a = some o := (show ObjOk P w H h a (ObO a o) from x a _ e).1
def hid (H : Hp) (cs : List Addr) : Hp := fun b => if b ∈ cs then none else H b
def back (H H' : Hp) (cs : List Addr) : Hp := fun b => if b ∈ cs then H b else H' b
def Obs (H : Hp) (cs : List Addr) : Prop := ∀ c ∈ cs, ∃ o, H c = some (ObO c o)
end
def cxLam (P : Program) (w : World) (K : PySem.W.Frag) (mg : Str → Option Value) (base : Heap) (N ps : List Str) (qual : Str) (scope : Scope) (f : Addr) (cd : Value) (cl : List (Str × Addr)) (A : Around) (outer : List Env) (s : Shared) (H : Hp) : Cx where
  prog := P
  w := w
  K := K
  mg := mg
  base := base
  A := A.deeper (PySem.W.envX qual scope s.heap.objs.size f cd cl)
  N := N
  s₀ := s
  H₀ := H
  env := PySem.W.envX qual scope s.heap.objs.size f cd cl
  outer := outer
  stack := PySem.W.envX qual scope s.heap.objs.size f cd cl :: outer
  ex := []
  calm := true
  fn := fun x => decide (x ∈ ps)
  pn := []
  xe := fun _ _ => False
structure LmScope (N ps : List Str) (scope : Scope) (cl : List (Str × Addr)) : Prop where
  kind : scope.kind = .function
  co : scope.isCoroutine = false
  gen : scope.isGenerator = false
  nd : N.Nodup
  eq : N = ps ++ cl.map (·.1)
  par : ∀ x ∈ ps, scope.names.lookup x = some .local
  nocell : ∀ y ∈ scope.names, y.2 ≠ .cell
  free : ∀ x, scope.names.lookup x = some .free → x ∈ cl.map (·.1)
  isfree : ∀ x ∈ cl.map (·.1), scope.names.lookup x = some .free
  inj : cl.Pairwise fun x y => x.2 ≠ y.2
inductive CapsAt (H : Hp) : List (Str × Addr) → List V → Prop
  | nil : CapsAt H [] []
  | cons {x : Str} {c : Addr} {o : Obj} {u : Value} {v : V} {cl : List (Str × Addr)} {vs : List V} (e : H c = some (ObO c o)) (d : o.data = .cell (some u)) (r : RelV v u) (t : CapsAt H cl vs) : CapsAt H ((x, c) :: cl) (v :: vs)
section
variable {P : Program} {w : World} {K : PySem.W.Frag} {mg : Str → Option Value} {base : Heap}
def LamOk (P : Program) (w : World) (K : PySem.W.Frag) (mg : Str → Option Value) (base : Heap) (k : Nat) (f : Addr) (sp : List V → Hp → VK → Prop) : Prop :=
  ∀ (A : Around) (outer : List Env) (s : Shared) (H : Hp) (us : List Value) (vs : List V) (Q : VK), Room k A → Env0 P w K mg base A outer s H → Vals vs us → sp vs H Q → codeAny (model P w) A (.call (.ref f) ⟨us, []⟩) (CR CX0 outer P w H s Q E0) s
end
section
variable {X : Cx}
def tCallV (f : Addr) (fo : Obj) (sp : List V → Hp → VK → Prop) (i : Nat) (t : TA) : TE := fun σ H Q => σ[i]? = some (some (.ref f)) ∧ t σ H fun vs H1 => H1 f = some (ObO f fo) ∧ sp vs H1 Q
structure OwnC (X : Cx) (cl : List (Str × Addr)) (js : List Nat) : Prop where
  len : js.length = cl.length
  it : ∀ (i : Nat) (p : Str × Addr) (j : Nat), cl[i]? = some p → js[i]? = some j → X.env.cells.lookup p.1 = some p.2 ∧ X.fn p.1 = true ∧ X.env.scope.names.lookup p.1 = some .cell ∧ X.env.kindOf p.1 = some .cell ∧ X.N[j]? = some p.1
def tCallC (sp : Sp) (cl : List (Str × Addr)) (js : List Nat) (t : TA) : TE := fun σ H Q => t σ H fun vs H1 => ∃ cvs : List V, cvs.length = cl.length ∧ (∀ (i j : Nat) (v : V), js[i]? = some j → cvs[i]? = some v → σ[j]? = some (some v)) ∧
  ∀ H2 : Hp, (∀ b, b ∉ cl.map (·.2) → H2 b = H1 b) → (∀ c ∈ cl.map (·.2), H1 c = none) → CapsAt H2 cl cvs → sp vs H2 (fun r H3 => (∀ c ∈ cl.map (·.2), H3 c = H2 c) ∧ Q r (hid H3 (cl.map (·.2)))) E0
abbrev tabAnd (ps : Array Value) (pos : Pos) (c' : Addr) : Array Value := ps ++ #[rawInt pos.line, rawInt pos.col, .ref c']
def tLam (qual : Str) (params : Arguments) (body : Expr) (scope : Scope) (cl : List (Str × Addr)) (pos : Pos) (Pt : Addr) : TE := fun _ H Q => ∃ ps : Array Value, H Pt = some (.tbl ps) ∧ TriplesOk ps.toList ∧ codeAmong pos ps.toList = none ∧
  ∀ (f c' : Addr) (co : Obj) (pm ctv : Value) (H' : Hp), H f = none → H c' = none → f ≠ c' → BtA Pt H H' → H' Pt = some (.tbl (tabAnd ps pos c')) → H' f = some (ObO f (PySem.W.kla_obj "<lambda>" qual params body scope cl pm c' ctv)) → H' c' = some (ObO c' co) → (∃ fs t, co.data = .fields fs ∧ fs[1]? = some (.str qual t)) → Q (.ref f) H'
end
end L2
namespace L2
open PySem PySem.Spec PyProof.Rows
section
variable {κ : Type} [DecidableEq κ]
def valV (kvs : List (κ × V)) (k : κ) : Option V := (kvs.find? fun kv => decide (kv.1 = k)).map (·.2)
def putK (kvs : List (κ × V)) (k : κ) (v : V) : List (κ × V) :=
  if (kvs.any fun kv => decide (kv.1 = k)) = true then kvs.map (fun kv => if kv.1 = k then (kv.1, v) else kv) else kvs ++ [(k, v)]
def dropK (kvs : List (κ × V)) (k : κ) : List (κ × V) := kvs.filter fun kv => decide (kv.1 ≠ k)
theorem valV_pos {p : κ × V} {r : List (κ × V)} {k : κ} (e : p.1 = k) : valV (p :: r) k = some p.2 := by simp [valV, List.find?_cons, e]
theorem valV_neg {p : κ × V} {r : List (κ × V)} {k : κ} (e : ¬ p.1 = k) : valV (p :: r) k = valV r k := by simp [valV, List.find?_cons, e]
theorem valV_any (k : κ) : ∀ kvs : List (κ × V), (kvs.any fun kv => decide (kv.1 = k)) = (valV kvs k).isSome
  | [] => rfl
  | p :: r => by
    rw [List.any_cons]
    by_cases e : p.1 = k
    · simp only [valV_pos e, decide_eq_true e, Bool.true_or, Option.isSome_some]
    · rw [valV_neg e, decide_eq_false e, Bool.false_or]; exact valV_any k r
theorem length_putK (kvs : List (κ × V)) (k : κ) (v : V) : (putK kvs k v).length ≤ kvs.length + 1 := by
  unfold putK
  split
  · rw [List.length_map]; omega
  · rw [List.length_append, List.length_cons, List.length_nil]; omega
theorem RelO.isSome_eq {o : Option V} {u : Option Value} (r : RelO o u) : o.isSome = u.isSome := by
  cases o with
  | none => cases u with
    | none => rfl
    | some _ => exact (show False from r).elim
  | some _ => cases u with
    | none => exact (show False from r).elim
    | some _ => rfl
theorem KV.any {kvs : List (κ × V)} {vs : List (κ × Value)} (r : KV kvs vs) (k : κ) : (kvs.any fun kv => decide (kv.1 = k)) = vs.any fun kv => decide (kv.1 = k) := by
  unfold KV at r
  induction r with
  | nil => rfl
  | cons h t ih => rw [List.any_cons, List.any_cons, ih, h.1]
theorem KV.repl {kvs : List (κ × V)} {vs : List (κ × Value)} (r : KV kvs vs) (k : κ) {y : V} {u : Value} (ry : RelV y u) :
    KV (kvs.map fun kv => if kv.1 = k then (kv.1, y) else kv) (vs.map fun kv => if kv.1 = k then (kv.1, u) else kv) := by
  unfold KV at r ⊢
  induction r with
  | nil => exact .nil
  | @cons p q ps qs h t ih =>
    rw [List.map_cons, List.map_cons]
    refine .cons ?_ ih
    obtain ⟨h1, h2⟩ := h
    by_cases e : p.1 = k
    · rw [if_pos e, if_pos (h1.symm.trans e)]; exact ⟨h1, ry⟩
    · rw [if_neg e, if_neg (fun z => e (h1.trans z))]; exact ⟨h1, h2⟩
theorem KV.put {kvs : List (κ × V)} {vs : List (κ × Value)} (r : KV kvs vs) (k : κ) {y : V} {u : Value} (ry : RelV y u) : KV (putK kvs k y) (stored vs k u) := by
  unfold putK stored
  rw [r.any k]
  by_cases e : (vs.any fun kv => decide (kv.1 = k)) = true
  · rw [if_pos e, if_pos e]; exact r.repl k ry
  · rw [if_neg e, if_neg e]; exact Paired.snoc r ⟨rfl, ry⟩
theorem KV.length {kvs : List (κ × V)} {vs : List (κ × Value)} (r : KV kvs vs) : kvs.length = vs.length := Paired.length r
end
theorem kV_is {P : Program} {w : World} {k : Key} {u : Value} (r : RelV (kV k) u) : (mixKind P w).is k u = true := by
  cases k with
  | inl i => obtain ⟨t, e⟩ := (show ∃ t, u = Value.int i t from r); subst e; exact mixKind_int P w i t
  | inr x => obtain ⟨t, e⟩ := (show ∃ t, u = Value.str x t from r); subst e; exact mixKind_str P w x t
theorem items_are {P : Program} {w : World} : ∀ {ks : List Key} {us : List Value}, Vals (ks.map kV) us → ItemsAre (mixKind P w) ks us
  | [], _, r => by rw [List.map_nil] at r; cases r; exact .nil
  | k :: ks, _, r => by
    rw [List.map_cons] at r
    cases r with
    | cons h t => exact .cons (kV_is h) (items_are t)
abbrev KT (H : Hp) : List (List Key × V) → List (List Key × Addr × Value) → Prop := Paired fun p q => p.1 = q.1 ∧ H q.2.1 = some (.tup (p.1.map kV)) ∧ RelV p.2 q.2.2
theorem KT.val {H : Hp} {kvs : List (List Key × V)} {xs : List (List Key × Addr × Value)} (r : KT H kvs xs) (k : List Key) : RelO (valV kvs k) ((atKey xs k).map (·.2)) := by
  induction r with
  | nil => exact True.intro
  | @cons p q ps qs h t ih =>
    obtain ⟨h1, _, h2⟩ := h
    by_cases e : p.1 = k
    · have e' : q.1 = k := h1.symm.trans e
      have b : atKey (q :: qs) k = some q.2 := by simp [atKey, List.find?_cons, e']
      rw [valV_pos e, b]; exact h2
    · have e' : ¬ q.1 = k := fun z => e (h1.trans z)
      have b : atKey (q :: qs) k = atKey qs k := by simp [atKey, List.find?_cons, e']
      rw [valV_neg e, b]; exact ih
theorem KT.repl {H : Hp} {kvs : List (List Key × V)} {xs : List (List Key × Addr × Value)} (r : KT H kvs xs) (k : List Key) {y : V} {u : Value} (ry : RelV y u) :
    KT H (kvs.map fun kv => if kv.1 = k then (kv.1, y) else kv) (xs.map (putAt k u)) := by
  induction r with
  | nil => exact .nil
  | @cons p q ps qs h t ih =>
    rw [List.map_cons, List.map_cons]
    refine .cons ?_ ih
    obtain ⟨h1, h2, h3⟩ := h
    unfold putAt
    by_cases e : p.1 = k
    · rw [if_pos e, if_pos (h1.symm.trans e)]; exact ⟨h1, h2, ry⟩
    · rw [if_neg e, if_neg (fun z => e (h1.trans z))]; exact ⟨h1, h2, h3⟩
theorem KT.put {H : Hp} {kvs : List (List Key × V)} {xs : List (List Key × Addr × Value)} (r : KT H kvs xs) (k : List Key) {b : Addr} {y : V} {u : Value} (hb : H b = some (.tup (k.map kV))) (ry : RelV y u) :
    KT H (putK kvs k y) (storedH xs k b u) := by
  have e : (kvs.any fun kv => decide (kv.1 = k)) = (atKey xs k).isSome := by
    rw [valV_any, (r.val k).isSome_eq, Option.isSome_map]
  unfold putK storedH
  rw [e]
  by_cases q : (atKey xs k).isSome = true
  · rw [if_pos q, if_pos q]; exact r.repl k ry
  · rw [if_neg q, if_neg q]; exact Paired.snoc r ⟨rfl, hb, ry⟩
theorem KT.keeps {H H' : Hp} {kvs : List (List Key × V)} {xs : List (List Key × Addr × Value)} (r : KT H kvs xs) (ht : ∀ b ys, H b = some (.tup ys) → H' b = some (.tup ys)) : KT H' kvs xs :=
  Paired.mapP r fun _ _ z => ⟨z.1, ht _ _ z.2.1, z.2.2⟩
section
variable {P : Program} {w : World} {H : Hp} {h : Heap} {a : Addr}
theorem rd_of {u : HO} (ok : HOk P w H h) (e : Rd H a u) : ObjOk P w H h a u := e.ok ok
theorem dk_rd {kvs : List (Key × V)} (ok : HOk P w H h) (e : Rd H a (.dK kvs)) : kvs.length ≤ sizeLine ∧ (a == sysModules) = false ∧ ∃ vs, KV kvs vs ∧ h.DictOf (mixKind P w) a vs :=
  show ObjOk P w H h a (.dK kvs) from rd_of ok e
theorem dk_of {kvs : List (Key × V)} (ok : HOk P w H h) (e : H a = some (.dK kvs)) : kvs.length ≤ sizeLine ∧ (a == sysModules) = false ∧ ∃ vs, KV kvs vs ∧ h.DictOf (mixKind P w) a vs := dk_rd ok (.inl e)
theorem key_of {ks : List Key} (ok : HOk P w H h) (e : H a = some (.tup (ks.map kV))) : (tupleKind (mixKind P w)).is h ks a := by
  obtain ⟨_, its, r, o, h1, h2, n, h3⟩ := (show ObjOk P w H h a (.tup (ks.map kV)) from ok a _ e)
  exact ⟨o, its.toArray, n, h1, h2, h3, by simpa using items_are r⟩
theorem dt_rd {kvs : List (List Key × V)} (ok : HOk P w H h) (e : Rd H a (.dT kvs)) : kvs.length ≤ sizeLine ∧ (a == sysModules) = false ∧
    ∃ xs, KT H kvs xs ∧ h.DictOfH (tupleKind (mixKind P w)) a xs := by
  obtain ⟨z, y, xs, r, o, es, ep, h1, h2, h3, h4, h5⟩ := (show ObjOk P w H h a (.dT kvs) from rd_of ok e)
  refine ⟨z, y, xs, r, o, es, ep, h1, h2, h3, h4, fun x hx => ?_, h5⟩
  have all : ∀ {l : List (List Key × V)} {m : List (List Key × Addr × Value)}, KT H l m → ∀ x ∈ m, (tupleKind (mixKind P w)).is h x.1 x.2.1 := by
    intro l m q
    induction q with
    | nil => intro x hx; exact nomatch hx
    | @cons p q ps qs hq t ih =>
      intro x hx
      rcases List.mem_cons.mp hx with e | hx
      · subst e
        exact key_of ok (by rw [← hq.1]; exact hq.2.1)
      · exact ih x hx
  exact all r x hx
theorem dt_of {kvs : List (List Key × V)} (ok : HOk P w H h) (e : H a = some (.dT kvs)) : kvs.length ≤ sizeLine ∧ (a == sysModules) = false ∧
    ∃ xs, KT H kvs xs ∧ h.DictOfH (tupleKind (mixKind P w)) a xs := dt_rd ok (.inl e)
end
def DGet (H : Hp) (a : Addr) (y : V) (r : Option V) : Prop :=
  (∃ kvs k, Rd H a (.dK kvs) ∧ y = kV k ∧ r = valV kvs k) ∨ ∃ kvs k b, Rd H a (.dT kvs) ∧ y = .ref b ∧ H b = some (.tup (k.map kV)) ∧ r = valV kvs k
def DPut (H : Hp) (a : Addr) (y v : V) (H' : Hp) : Prop :=
  (∃ kvs k, H a = some (.dK kvs) ∧ y = kV k ∧ kvs.length < sizeLine ∧ H' = upd H a (.dK (putK kvs k v))) ∨
  ∃ kvs k b, H a = some (.dT kvs) ∧ y = .ref b ∧ H b = some (.tup (k.map kV)) ∧ kvs.length < sizeLine ∧ H' = upd H a (.dT (putK kvs k v))
theorem DPut.k {H : Hp} {a : Addr} {kvs : List (Key × V)} {k : Key} {v : V} (e : H a = some (.dK kvs)) (hl : kvs.length < sizeLine) : DPut H a (kV k) v (upd H a (.dK (putK kvs k v))) := .inl ⟨kvs, k, e, rfl, hl, rfl⟩
section
variable {X : Cx} {pins : List (Addr × Obj)} {σ : St} {H : Hp} {s : Shared} {a : Addr} {y v : V} {u r : Value} {o : Option V} {A : Around} {E : Value → Shared → Prop}
theorem Inv.big (I : Inv X pins σ H s) : sysModules < s.heap.objs.size := by
  have h : mainGlobals < s.heap.objs.size := (I.mod.glob.keeps I.bk).lt
  exact Nat.lt_trans (by decide) h
theorem d_write {h' : Heap} {t' : Nat} {ob : HO} (I : Inv X pins σ H s) (mu : Mut (H a)) (hs : Heap.SameBut a s.heap h') (he : ∃ q, h'.get? a = some q) (new : ObjOk X.prog X.w (upd H a ob) h' a ob) :
    Inv X pins σ (upd H a ob) { s with heap := h', toks := t' } :=
  I.write (x := a) (e := a) mu (.inl rfl) (fun b q hb z => (hs.2 b hb).trans z) he new
theorem dk_new {P : Program} {w : World} {H' : Hp} {h' : Heap} {kvs : List (Key × V)} {vs : List (Key × Value)} (z : kvs.length ≤ sizeLine) (hd : (a == sysModules) = false) (rel : KV kvs vs) (dd : h'.DictOf (mixKind P w) a vs) :
    ObjOk P w H' h' a (.dK kvs) := ⟨z, hd, vs, rel, dd⟩
theorem d_setItem {H' : Hp} {Q : Unit → Shared → Prop} (hu : A.units + 1 < cLine) (I : Inv X pins σ H s) (g : DPut H a y v H') (ry : RelV y u) (rv : RelV v r) (h : ∀ s', Inv X pins σ H' s' → Q () s') :
    wpAny (model X.prog X.w) A (setItem (.ref a) u r) Q E s := by
  rcases g with ⟨kvs, k, e, ey, l, eH⟩ | ⟨kvs, k, b, e, ey, eb, l, eH⟩
  · subst ey eH
    obtain ⟨z, hd, vs, rel, dd⟩ := dk_of I.hok e
    have hz : vs.length ≤ sizeLine := by rw [← rel.length]; exact z
    have hl : (putK kvs k v).length ≤ sizeLine := by have := length_putK kvs k v; omega
    refine wpAny_setItem_pairs (hsz := hz) (kV_is ry) dd fun h' dd' hs => h _ ?_
    have he : ∃ q, h'.get? a = some q := let ⟨q, _, _, hq, _⟩ := dd'; ⟨q, hq⟩
    exact d_write I (by rw [e]; exact True.intro) hs he (dk_new hl hd (rel.put k rv) dd')
  · subst ey eH
    cases (show u = Value.ref b from ry)
    obtain ⟨z, hd, xs, rel, dd⟩ := dt_of I.hok e
    have hz : xs.length ≤ sizeLine := by rw [← Paired.length rel]; exact z
    have hl : (putK kvs k v).length ≤ sizeLine := by have := length_putK kvs k v; omega
    refine wpAny_setItem_heap (hsz := hz) (tupleKind_room_in1 hu) (key_of I.hok eb) dd fun h' dd' hs => h _ ?_
    obtain ⟨q, es, ep, hq, h2, h3, h4, _, h5⟩ := dd'
    refine d_write I (by rw [e]; exact True.intro) hs ⟨q, hq⟩ ⟨hl, hd, _, (rel.put k eb rv).keeps fun c ys ec => ?_, q, es, ep, hq, h2, h3, h4, h5⟩
    rw [upd_ne (ne_of ec e (fun z => nomatch z))]
    exact ec
end
section
variable {X : Cx} {pins : List (Addr × Obj)} {σ : St} {H : Hp} {s : Shared} {a : Addr} {kvs : List (Key × V)} {k : Key} {u : Value} {A : Around} {E : Value → Shared → Prop}
end
def NoSl (i : Expr) : Prop := ∀ ov iv, subscripted i false ov iv = operate [ov, iv] (getItem ov iv)
def tDGet (td ty : TE) : TE := fun σ H Q => td σ H fun x H1 => ty σ H1 fun y H2 => ∃ a v, x = .ref a ∧ DGet H2 a y (some v) ∧ Q v H2
def tDIn (ty td : TE) : TE := fun σ H Q => ty σ H fun y H1 => td σ H1 fun x H2 => ∃ a o, x = .ref a ∧ DGet H2 a y o ∧ Q (.bl o.isSome) H2
def tDNotIn (ty td : TE) : TE := fun σ H Q => ty σ H fun y H1 => td σ H1 fun x H2 => ∃ a o, x = .ref a ∧ DGet H2 a y o ∧ Q (.bl (!o.isSome)) H2
def sDPut (td ty tv : TE) : TS := fun D σ H => tv σ H fun v H1 => td σ H1 fun x H2 => ty σ H2 fun y H3 => ∃ a H4, x = .ref a ∧ DPut H3 a y v H4 ∧ D.nx σ H4
def sDAug (td ty tv : TE) (rd : V → V → Hp → VK → Prop) : TS := fun D σ H => td σ H fun x H1 => ty σ H1 fun y H2 => ∃ a v, x = .ref a ∧ DGet H2 a y (some v) ∧
  tv σ H2 fun y2 H3 => rd v y2 H3 fun z H4 => ∃ H5, DPut H4 a y z H5 ∧ D.nx σ H5
def sDDel (td ty : TE) : TS := fun D σ H => td σ H fun x H1 => ty σ H1 fun y H2 => ∃ a kvs k, x = .ref a ∧ H2 a = some (.dK kvs) ∧ y = kV k ∧ (valV kvs k).isSome = true ∧ D.nx σ (upd H2 a (.dK (dropK kvs k)))
section
variable {X : Cx} {o i e value : Expr} {pos pos' tpos : Pos} {td ty tv : TE}
theorem ps_dput (hu : X.A.units + 1 < cLine) (ho : PE X o td) (hi : PE X i ty) (hv : PE X value tv) (hs : swapsWith value (some (.Subscript o i pos')) pos.line X.env = pure false) :
    PS X (.Assign [.Subscript o i pos'] value pos) (sDPut td ty tv) := by
  intro pins s σ H D I h
  refine wpAny_Assign_Subscript (thn (hv pins s σ H _ I h) fun r s1 ⟨v, H1, I1, rv, q1⟩ => thn (ho pins s1 σ H1 _ I1 q1) fun u s2 ⟨x, H2, I2, rx, q2⟩ => thn (hi pins s2 σ H2 _ I2 q2) fun iv s3 ⟨y, H3, I3, ry, a, H4, ex, g, q3⟩ => ?_) hs
  subst ex
  obtain rfl : u = Value.ref a := rx
  exact d_setItem hu I3 g ry rv fun s4 I4 => ⟨σ, H4, I4, q3⟩
end
theorem dk_empty {P : Program} {w : World} {H : Hp} (h : Heap) (hb : sysModules < h.objs.size) : ObjOk P w H (h.push { cls := .type "dict", data := .dict #[] }) h.objs.size (.dK []) :=
  ⟨Nat.zero_le _, beq_eq_false_iff_ne.mpr (Ne.symm (Nat.ne_of_lt hb)), [], .nil, Heap.DictOf.new h⟩
def tDNewK : TE := fun _ H Q => ∀ p, H p = none → Q (.ref p) (upd H p (.dK []))
def tDNewT : TE := fun _ H Q => ∀ p, H p = none → Q (.ref p) (upd H p (.dT []))
section
variable {X : Cx} {pos : Pos}
theorem pe_dnewK : PE X (.Dict [] [] pos) tDNewK := fun pins s σ H Q I h =>
  wpAny_Dict_empty ⟨.ref s.heap.objs.size, _, I.laid (a := s.heap.objs.size) (o := .dK []) (t' := s.toks) (fun _ _ q => Heap.get?_push_of_some _ q) (Nat.le_refl _) (dk_empty s.heap I.big), rfl, h _ (I.hok.fresh (Nat.le_refl _))⟩
end
def tPairs : List (TE × TE) → St → Hp → (List (V × V) → Hp → Prop) → Prop
  | [], _, H, Q => Q [] H
  | (tk, tv) :: r, σ, H, Q => tk σ H fun x H1 => tv σ H1 fun y H2 => tPairs r σ H2 fun ps H3 => Q ((x, y) :: ps) H3
abbrev VV : List (V × V) → List (Value × Value) → Prop := Paired fun p q => RelV p.1 q.1 ∧ RelV p.2 q.2
def PPs (X : Cx) (pos : Pos) (keys : List (Option Expr)) (values : List Expr) (trs : List (TE × TE)) : Prop :=
  ∀ (pins : List (Addr × Obj)) (s : Shared) (σ : St) (H : Hp) (Q : List (V × V) → Hp → Prop), Inv X pins σ H s → tPairs trs σ H Q →
    wpAny (model X.prog X.w) X.A (evalPairs (pairTrees keys values X.env pos)) (fun vs s' => ∃ ps H', Inv X pins σ H' s' ∧ VV ps vs ∧ Q ps H') X.xe s
def mergeK (kvs more : List (Key × V)) : List (Key × V) := more.foldl (fun acc kv => putK acc kv.1 kv.2) kvs
def tDisp (trs : List (TE × TE)) : TE := fun σ H Q => ∀ p, H p = none → tPairs trs σ (upd H p (.dK [])) fun ps H2 => H2 p = some (.dK []) ∧ ∃ kvs : List (Key × V), ps = kvs.map (fun kv => (kV kv.1, kv.2)) ∧ kvs.length ≤ 15 ∧ Q (.ref p) (upd H2 p (.dK (mergeK [] kvs)))
structure M1 (X : Cx) (o : Expr) (m : Str) (apos : Pos) (e : Expr) (cpos : Pos) : Prop where
  base : attributeBase o m X.env (eval o X.env) = eval o X.env
  few : ((backTo cpos (starEach [e] X.env)).all (fun x => !x.1) && (backToKw cpos (keywordEach [] X.env)).all (fun x => x.1.isSome)
    && decide (([e] : List Expr).length + ([] : List Keyword).length + (if ([] : List Keyword).isEmpty then 0 else 1) < 30)) = true
  line : (apos.endLine == cpos.line) = true
  trees : backTo cpos (starEach [e] X.env) = [(false, eval e X.env)]
structure M2 (X : Cx) (o : Expr) (m : Str) (apos : Pos) (e f : Expr) (cpos : Pos) : Prop where
  base : attributeBase o m X.env (eval o X.env) = eval o X.env
  few : ((backTo cpos (starEach [e, f] X.env)).all (fun x => !x.1) && (backToKw cpos (keywordEach [] X.env)).all (fun x => x.1.isSome)
    && decide (([e, f] : List Expr).length + ([] : List Keyword).length + (if ([] : List Keyword).isEmpty then 0 else 1) < 30)) = true
  line : (apos.endLine == cpos.line) = true
  trees : backTo cpos (starEach [e, f] X.env) = [(false, eval e X.env), (false, eval f X.env)]
def IsD (H : Hp) (a : Addr) : Prop := (∃ kvs, Rd H a (.dK kvs)) ∨ ∃ kvs, Rd H a (.dT kvs)
section
variable {X : Cx} {pins : List (Addr × Obj)} {σ : St} {H : Hp} {s : Shared} {a : Addr} {y d : V} {u r : Value} {o : Option V} {A : Around} {E : Value → Shared → Prop}
end
def tDGet1 (td ty : TE) : TE := fun σ H Q => td σ H fun x H1 => ∃ a, x = .ref a ∧ IsD H1 a ∧ ty σ H1 fun y H2 => ∃ o, DGet H2 a y o ∧ Q (o.getD .non) H2
def tDGet2 (td ty tx : TE) : TE := fun σ H Q => td σ H fun x H1 => ∃ a, x = .ref a ∧ IsD H1 a ∧ ty σ H1 fun y H2 => tx σ H2 fun z H3 => ∃ o, DGet H3 a y o ∧ Q (o.getD z) H3
def tDPop1 (td ty : TE) : TE := fun σ H Q => td σ H fun x H1 => ∃ a, x = .ref a ∧ IsD H1 a ∧ ty σ H1 fun y H2 => ∃ kvs k v, H2 a = some (.dK kvs) ∧ y = kV k ∧ valV kvs k = some v ∧ Q v (upd H2 a (.dK (dropK kvs k)))
def tDPop2 (td ty tx : TE) : TE := fun σ H Q => td σ H fun x H1 => ∃ a, x = .ref a ∧ IsD H1 a ∧ ty σ H1 fun y H2 => tx σ H2 fun z H3 => ∃ kvs k, H3 a = some (.dK kvs) ∧ y = kV k ∧
  (∀ v, valV kvs k = some v → Q v (upd H3 a (.dK (dropK kvs k)))) ∧ (valV kvs k = none → Q z H3)
section
variable {X : Cx} {o e f : Expr} {apos cpos : Pos} {td ty tx : TE}
end
section
variable {X : Cx} {pins : List (Addr × Obj)} {σ : St} {H : Hp} {s : Shared} {a : Addr} {kvs : List (Key × V)} {A : Around} {E : Value → Shared → Prop}
end
section
variable {X : Cx} {pins : List (Addr × Obj)} {σ : St} {H : Hp} {s : Shared} {a : Addr} {y : V} {u : Value} {A : Around} {E : Value → Shared → Prop}
end
end L2
namespace L2
open PySem PySem.Spec PyProof.Rows
abbrev yA (h : Heap) (l : Addr) : Heap := h.push { cls := .type "tuple_iterator", data := .fields #[.ref l, .int 0 0] }
abbrev yB (h : Heap) (l m : Addr) : Heap := (yA h l).push { cls := .type "list_iterator", data := .fields #[.ref m, .int 0 0] }
abbrev yC (h : Heap) (l m : Addr) : Heap := (yB h l m).push { cls := .type "tuple", data := .seq #[.ref h.objs.size, .ref (yA h l).objs.size] }
abbrev yD (h : Heap) (l m : Addr) : Heap := (yC h l m).push { cls := .type "tuple", data := .seq #[.none, .none] }
abbrev yE (h : Heap) (l m : Addr) : Heap := (yD h l m).push { cls := .type "zip", data := .fields #[.none, .bool false, .bool false, .ref (yB h l m).objs.size, .ref (yC h l m).objs.size] }
def ItzM (K : PySem.W.Frag) (a b : Addr) : It :=
  ⟨fun i H => ∃ xs ys x y, SqT K H a xs ∧ SqL K H b ys ∧ xs[i]? = some x ∧ ys[i]? = some y,
   fun i H v H' => ∃ p, v = .ref p ∧ H p = none ∧ ∀ xs ys x y, SqT K H a xs → SqL K H b ys → xs[i]? = some x → ys[i]? = some y → H' = upd H p (.tup [x, y]),
   fun i H => ∃ xs ys, SqT K H a xs ∧ SqL K H b ys ∧ (xs.length ≤ i ∨ ys.length ≤ i)⟩
section
variable {X : Cx} {elts : List Expr} {kk : Nat} {tpos : Pos}
def iZipM (K : PySem.W.Frag) (ta : TA) : TI := fun σ H R => ta σ H fun vs H1 => ∃ a b, vs = [.ref a, .ref b] ∧ (∃ xs, SqT K H1 a xs) ∧ (∃ ys, SqL K H1 b ys) ∧ R (ItzM K a b) H1
end
section
variable {X : Cx}
end
theorem FnOk.no {P : Program} {w : World} {K : PySem.W.Frag} {mg : Str → Option Value} {base : Heap} {CX : CXT} {k : Nat} {f : Addr} {fd : FuncData} {ps : List Str} : FnOk P w K mg base CX k f fd ps (fun _ _ _ _ => False) :=
  ⟨fun _ _ _ _ h => h.elim, fun _ _ _ _ _ _ _ _ _ _ _ _ _ h => h.elim⟩
section
variable {X : Cx}
def rNeDi (K : PySem.W.Frag) : R2 := fun x y H Q => ∃ (a b : Addr) (kvs lvs : List (Key × V)), x = .ref a ∧ y = .ref b ∧ H a = some (.dK kvs) ∧ H b = some (.dK lvs) ∧ kvs.length = lvs.length ∧
  (∀ kv ∈ kvs, ∃ v d, valV lvs kv.1 = some v ∧ DatAt K H kv.2 d ∧ DatAt K H v d ∧ d.hgt ≤ 30) ∧ Q (.bl false) H
end
end L2
namespace L2
open PySem PySem.Spec PySem.W PyProof.Rows
end L2
namespace L2
open PySem PySem.Spec PySem.W PyProof.Rows
section
variable {X : Cx} {K : Frag}
theorem ix_listK (hK : X.K = K) : IxR X (rIxL K) := by
  subst hK
  exact ix_list
theorem call_len_seqK (hK : X.K = K) : CallR X (.builtin "len") (fun xs H Q => ∃ p ys, xs = [.ref p] ∧ (SqL K H p ys ∨ SqT K H p ys) ∧ Q (.int ys.length) H) := by
  subst hK
  exact call_len_seq
end
def Cold (H H' : Hp) : Prop := ∀ b o, o ≠ .lst [] → H b = some o → H' b = some o
section
variable {K : Frag} {H H' H2 : Hp}
theorem Cold.tup {r : Addr} {vs : List V} (e : Cold H H') (h : SqT K H r vs) : SqT K H' r vs := by
  rcases h with (h | ⟨o, h⟩) | h
  · exact .inl (.inl (e _ _ (fun z => nomatch z) h))
  · exact .inl (.inr ⟨o, e _ _ (fun z => nomatch z) h⟩)
  · exact .inr h
mutual
theorem DatAt.cold (e : Cold H H') : ∀ {v : V} {d : Dt}, DatAt K H v d → DatAt K H' v d
  | v, .non, h => by simpa [DatAt] using h
  | v, .int i, h => by simpa [DatAt] using h
  | v, .str i, h => by simpa [DatAt] using h
  | v, .tup ds, h => by
    obtain ⟨r, vs, rfl, h1, h2⟩ := h.un
    exact .tup (e.tup h1) (DatsAt.cold e h2)
theorem DatsAt.cold (e : Cold H H') : ∀ {vs : List V} {ds : List Dt}, DatsAt K H vs ds → DatsAt K H' vs ds
  | vs, [], h => by
    rw [h.un0]
    exact .nil
  | vs, d :: ds, h => by
    obtain ⟨v, r, rfl, h1, h2⟩ := h.un
    exact .cons (DatAt.cold e h1) (DatsAt.cold e h2)
end
end
end L2
namespace L2
open PySem PySem.Spec PyProof PyProof.Rows
section
variable {X : Cx}
end
theorem caps3 {X : Cx} {scope : Scope} {Nc : List Str} {x y u : Str} {c d e0 : Addr} (i j i2 j2 i3 j3 : Nat) (ns : List (Str × NameKind)) (hrel : (relabel scope X.env).names = ns) (hclos : closureFor scope X.env = pure [(x, c), (y, d), (u, e0)]) (hk : scope.kind = .function)
    (hnc : ∀ z ∈ scope.names, z.2 ≠ .cell) (hnm : ∀ z ∈ scope.names, z.2 = .local → scope.names.lookup z.1 = some .local) (hcx : X.env.cells.lookup x = some c) (hcy : X.env.cells.lookup y = some d) (hcu : X.env.cells.lookup u = some e0)
    (honly : ∀ z ∈ ns, z.2 = .cell ∨ z.2 = .free → z.1 = x ∨ z.1 = y ∨ z.1 = u) (hinx : ns.lookup x = some .cell) (hiny : ns.lookup y = some .cell) (hinu : ns.lookup u = some .cell) (hkx : X.env.kindOf x = some .cell) (hky : X.env.kindOf y = some .cell) (hku : X.env.kindOf u = some .cell)
    (hNx : Nc[i]? = some x) (hNy : Nc[i2]? = some y) (hNu : Nc[i3]? = some u) (hjx : X.N[j]? = some x) (hjy : X.N[j2]? = some y) (hju : X.N[j3]? = some u) :
    Caps X scope [(x, c), (y, d), (u, e0)] Nc (fun σ => (((List.replicate Nc.length none).set i (σ.getD j none)).set i2 (σ.getD j2 none)).set i3 (σ.getD j3 none)) where
  clos := hclos
  kind := hk
  nocell := hnc
  names := hnm
  cells := fun z e' e => by
    rw [List.lookup_cons] at e
    split at e
    · rename_i q
      have q' : z = x := by simpa using q
      cases e
      rw [q']
      exact hcx
    · rw [List.lookup_cons] at e
      split at e
      · rename_i q
        have q' : z = y := by simpa using q
        cases e
        rw [q']
        exact hcy
      · rw [List.lookup_cons] at e
        split at e
        · rename_i q
          have q' : z = u := by simpa using q
          cases e
          rw [q']
          exact hcu
        · cases e
  has := fun z h => by
    rw [hrel] at h
    have e : z = x ∨ z = y ∨ z = u := by
      rcases h with h | h
      · exact honly _ (PySem.mem_of_lookup h) (.inl rfl)
      · exact honly _ (PySem.mem_of_lookup h) (.inr rfl)
    rw [List.lookup_cons]
    split
    · exact ⟨c, rfl⟩
    · rename_i q
      have q' : z ≠ x := by simpa using q
      rw [List.lookup_cons]
      split
      · exact ⟨d, rfl⟩
      · rename_i q2
        have q3 : z ≠ y := by simpa using q2
        rcases e with e | e | e
        · exact absurd e q'
        · exact absurd e q3
        · subst e
          exact ⟨e0, by simp [List.lookup_cons]⟩
  len := fun σ => by simp
  cap := fun σ k z v e1 e2 _ => by
    have get : ∀ {q : Nat}, σ.getD q none = some v → σ[q]? = some (some v) := fun {q} e3 => by
      rw [List.getD_eq_getElem?_getD] at e3
      cases h : σ[q]? with
      | none => rw [h] at e3; cases e3
      | some o =>
        rw [h] at e3
        have e4 : o = some v := e3
        rw [e4]
    by_cases q3 : k = i3
    · subst q3
      rw [hNu] at e1
      cases e1
      have hlt : k < Nc.length := (List.getElem?_eq_some_iff.mp hNu).1
      rw [List.getElem?_set_self (by simpa using hlt)] at e2
      exact ⟨.inl (by rw [hrel]; exact hinu), .inl hku, j3, hju, get (Option.some.inj e2), .inr (.inl hku)⟩
    · rw [List.getElem?_set_ne (Ne.symm q3)] at e2
      by_cases q2 : k = i2
      · subst q2
        rw [hNy] at e1
        cases e1
        have hlt : k < Nc.length := (List.getElem?_eq_some_iff.mp hNy).1
        rw [List.getElem?_set_self (by simpa using hlt)] at e2
        exact ⟨.inl (by rw [hrel]; exact hiny), .inl hky, j2, hjy, get (Option.some.inj e2), .inr (.inl hky)⟩
      · rw [List.getElem?_set_ne (Ne.symm q2)] at e2
        by_cases q : k = i
        · subst q
          rw [hNx] at e1
          cases e1
          have hlt : k < Nc.length := (List.getElem?_eq_some_iff.mp hNx).1
          rw [List.getElem?_set_self (by simpa using hlt)] at e2
          exact ⟨.inl (by rw [hrel]; exact hinx), .inl hkx, j, hjx, get (Option.some.inj e2), .inr (.inl hkx)⟩
        · rw [List.getElem?_set_ne (Ne.symm q), List.getElem?_replicate] at e2
          split at e2 <;> cases e2
end L2
namespace L2
open PySem PySem.Spec PyProof.Rows PySem.W
abbrev viewO (d : Addr) : Obj := { cls := .type "dict_items", data := .fields #[.ref d] }
section
variable {X : Cx}
def rItems : V → List V → Hp → VK → Prop := fun x vs H Q => ∃ d kvs, x = .ref d ∧ vs = [] ∧ H d = some (.dK kvs) ∧ ∀ v, H v = none → Q (.ref v) (upd H v (ObO v (viewO d)))
theorem mt_items : MtR X "dict.items" rItems := by
  intro pins s σ H x vs v us Q I rx rv h
  obtain ⟨d, kvs, rfl, rfl, hd, q⟩ := h
  cases rx
  have hus := rv.zero
  subst hus
  obtain ⟨hz, hs, ws, kv, hD⟩ := (show ObjOk X.prog X.w H s.heap d (.dK kvs) from I.hok d _ hd)
  refine call_meetsIn PySem.F.slot_dict_items hD.typeIs PySem.F.entry_dict_items (PySem.F.args_dict_items_1 _) (meets_dict_items (mixKind X.prog X.w) d hs) ⟨⟨_, hD⟩, ?_⟩
  exact ⟨.ref s.heap.objs.size, _, I.laid (t' := s.toks) (o := ObO s.heap.objs.size (viewO d)) (fun b o e => Heap.get?_push_of_some _ e) (Nat.le_refl _) (ob_ok (Heap.get?_push_size _ rfl)), rfl, q _ (I.hok.fresh (Nat.le_refl _))⟩
end
section
variable {prog : Program} {w : World} {A : Around} {s : Shared} {E : Value → Shared → Prop}
theorem sort_tail {us : List Value} {R : Value → Shared → Prop} (few : us.length < 64) (lt : Nat → Nat → Bool) (κ : SortKind)
    (kind : ∀ z : Shared, (∀ b o, s.heap.get? b = some o → z.heap.get? b = some o) → 2 ≤ us.length → ∀ Q : SortKind → Shared → Prop, Q κ z → wpAny (model prog w) A.in1.in1 (keyKind' us.toArray) Q (fun _ _ => False) z)
    (ask : ∀ z : Shared, (∀ b o, s.heap.get? b = some o → z.heap.get? b = some o) → ∀ i j (C : Bool → Shared → Prop), i < us.length → j < us.length → C (lt i j) z → kas_ask prog w A.in1.in1 κ us i j C z)
    (done : ∀ (D : Addr) (p : Array Nat) (g : Heap) (c : Nat), s.heap.objs.size ≤ D → Pl us.length p → (∀ b o, s.heap.get? b = some o → g.get? b = some o) → g.get? D = some (seqObj "list" (p.toList.map fun i => us.getD i Value.none).toArray c) →
      R (.ref D) { s with heap := g }) :
    wpAny (model prog w) A.in1 (call (.builtin "list.sort") [.ref s.heap.objs.size]) (fun _ s' => R (.ref s.heap.objs.size) s') E { s with heap := s.heap.push (seqObj "list" us.toArray 0) } := by
  have kept : ∀ b o, s.heap.get? b = some o → (s.heap.push (seqObj "list" us.toArray 0)).get? b = some o := fun b o e => Heap.get?_push_of_some _ e
  have stands : (s.heap.push (seqObj "list" us.toArray 0)).get? s.heap.objs.size = some (seqObj "list" us.toArray 0) := Heap.get?_push_size _ rfl
  have off : ∀ b o, s.heap.get? b = some o → b ≠ s.heap.objs.size := fun b o e => Nat.ne_of_lt (Heap.lt_size e)
  refine wpAny_call_entry slot_list_sort (show Shared.TypeIs { s with heap := s.heap.push (seqObj "list" us.toArray 0) } (.ref s.heap.objs.size) "list" from ⟨_, stands, rfl⟩) entry_list_sort ?body (args_list_sort _)
  case body =>
    refine lsort (s := { s with heap := s.heap.push (seqObj "list" us.toArray 0) }) stands few lt κ (fun z hz h2 Q q => kind z (fun b o e => hz b o (off b o e) (kept b o e)) h2 Q q) (fun z hz => ask z fun b o e => hz b o (off b o e) (kept b o e)) fun p g c k1 k2 k3 => ?_
    exact ⟨_, rfl, done _ p g c (Nat.le_refl _) k1 (fun b o e => k2 b o (off b o e) (kept b o e)) k3⟩
end
section
variable {X : Cx}
theorem Inv.lays {pins : List (Addr × Obj)} {σ : St} {H H' : Hp} {s : Shared} {h' : Heap} {t' : Nat} (I : Inv X pins σ H s) (k : ∀ b u, s.heap.get? b = some u → h'.get? b = some u) (old : ∀ b, b < s.heap.objs.size → H' b = H b)
    (new : ∀ b u, s.heap.objs.size ≤ b → H' b = some u → ObjOk X.prog X.w H' h' b u) : Inv X pins σ H' { s with heap := h', toks := t' } := by
  have keep : ∀ {b : Addr} {u : HO}, H b = some u → H' b = some u := fun {b u} e => by rw [old b (I.hok.lt e)]; exact e
  refine I.un ⟨fun b u q _ _ _ => k b u q, fun b u q _ _ _ => ⟨u.slots, k b u q⟩, fun b u q n _ => by rw [old b (Heap.lt_size q)]; exact n, fun b u q _ => ⟨u, k b u q⟩, fun b xs q => keep q, fun b u xs q => keep q, fun b ps q => ⟨#[], by rw [keep q]; simp⟩⟩ fun b u e => ?_
  by_cases hb : b < s.heap.objs.size
  · rw [old b hb] at e
    exact (I.hok b u e).stay (fun c v _ q => k c v q) (fun c q => keep q) fun c xs q => keep q
  · exact new b u (Nat.le_of_not_lt hb) e
theorem paired_r {α β : Type} {F : α → β → Prop} : ∀ {l₁ : List α} {l₂ : List β} {j : Nat} {y : β}, Paired F l₁ l₂ → l₂[j]? = some y → ∃ x, l₁[j]? = some x ∧ F x y
  | _, _, _, _, .nil, e => by simp at e
  | _, _, 0, _, .cons r _, e => by simp at e; subst e; exact ⟨_, rfl, r⟩
  | _, _, j + 1, y, .cons _ t, e => by
    obtain ⟨x, h1, h2⟩ := paired_r t (show _ = some y by simpa using e)
    exact ⟨x, by simpa using h1, h2⟩
def layT (H : Hp) : List Addr → List (Str × Int) → Hp
  | a :: as, p :: ps => upd (layT H as ps) a (.tup [.str p.1, .int p.2])
  | _, _ => H
theorem layT_old {H : Hp} {b : Addr} : ∀ {as : List Addr} {ps : List (Str × Int)}, (∀ a ∈ as, b ≠ a) → layT H as ps b = H b
  | [], _, _ => by unfold layT; rfl
  | _ :: _, [], _ => by unfold layT; rfl
  | a :: as, p :: ps, h => by
    unfold layT
    rw [upd_ne (h a (List.mem_cons_self ..))]
    exact layT_old fun c hc => h c (List.mem_cons_of_mem _ hc)
theorem layT_new {H : Hp} {b : Addr} {u : HO} : ∀ {as : List Addr} {ps : List (Str × Int)}, layT H as ps b = some u → H b = some u ∨ ∃ (j : Nat) (p : Str × Int), as[j]? = some b ∧ ps[j]? = some p ∧ u = .tup [.str p.1, .int p.2]
  | [], _, e => .inl (by unfold layT at e; exact e)
  | _ :: _, [], e => .inl (by unfold layT at e; exact e)
  | a :: as, p :: ps, e => by
    unfold layT at e
    by_cases z : b = a
    · subst z
      rw [upd_same] at e
      cases e
      exact .inr ⟨0, p, rfl, rfl, rfl⟩
    · rw [upd_ne z] at e
      rcases layT_new e with y | ⟨j, q, e1, e2, e3⟩
      · exact .inl y
      · exact .inr ⟨j + 1, q, by simpa using e1, by simpa using e2, e3⟩
theorem layT_dats {K : PySem.W.Frag} {H : Hp} : ∀ {as : List Addr} {ps : List (Str × Int)}, as.length = ps.length → as.Pairwise (· < ·) → DatsAt K (layT H as ps) (as.map V.ref) (ps.map pairD)
  | [], [], _, _ => .nil
  | [], _ :: _, hl, _ => by simp at hl
  | _ :: _, [], hl, _ => by simp at hl
  | a :: as, p :: ps, hl, hr => by
    have hr' := List.pairwise_cons.mp hr
    have ih := layT_dats (K := K) (H := H) (as := as) (ps := ps) (by simpa using hl) hr'.2
    unfold layT
    refine .cons (.tup (SqT.of upd_same) (.cons (.str _) (.cons (.int _) .nil))) ?_
    have mv : ∀ {as2 : List Addr} {ps2 : List (Str × Int)} {H1 : Hp}, (∀ b ∈ as2, b ≠ a) → DatsAt K H1 (as2.map V.ref) (ps2.map pairD) → (∀ b ∈ as2, ∃ t, H1 b = some (.tup t)) → as2.length = ps2.length → DatsAt K (upd H1 a (.tup [.str p.1, .int p.2])) (as2.map V.ref) (ps2.map pairD) := fun {as2} => by
      induction as2 with
      | nil =>
        intro ps2 H1 _ _ _ hl
        cases ps2 with
        | nil => exact .nil
        | cons q r => simp at hl
      | cons b bs ihb =>
        intro ps2 H1 hne hd ht hl
        cases ps2 with
        | nil => simp at hl
        | cons q qs =>
          obtain ⟨v, r, ev, h1, h2⟩ := DatsAt.un (d := pairD q) (ds := qs.map pairD) hd
          cases ev
          obtain ⟨t, et⟩ := ht b (List.mem_cons_self ..)
          refine .cons ?_ (ihb (fun c hc => hne c (List.mem_cons_of_mem _ hc)) h2 (fun c hc => ht c (List.mem_cons_of_mem _ hc)) (by simpa using hl))
          obtain ⟨r, vs, e1, e2, e3⟩ := DatAt.un (ds := [.str q.1, .int q.2]) h1
          cases e1
          obtain ⟨x, y, rfl, e4, e5⟩ := e3.two
          rw [e4.str_eq, e5.int_eq] at e2
          refine .tup (vs := [.str q.1, .int q.2]) ?_ (.cons (.str _) (.cons (.int _) .nil))
          have nb := hne b (List.mem_cons_self ..)
          rcases e2 with (z | ⟨o, z⟩) | z
          · exact .inl (.inl (by rw [upd_ne nb]; exact z))
          · exact .inl (.inr ⟨o, by rw [upd_ne nb]; exact z⟩)
          · exact .inr z
    refine mv (fun b hb => Nat.ne_of_gt (hr'.1 b hb)) ih (fun b hb => ?_) (by simpa using hl)
    obtain ⟨j, hj⟩ := List.mem_iff_getElem?.mp hb
    have : ∀ {as : List Addr} {ps : List (Str × Int)} {j : Nat} {b : Addr}, as.length = ps.length → as.Pairwise (· < ·) → as[j]? = some b → ∃ t, layT H as ps b = some (.tup t) := fun {as} => by
      induction as with
      | nil => intro ps j b _ _ h; simp at h
      | cons a as ih2 =>
        intro ps j b hl hr h
        cases ps with
        | nil => simp at hl
        | cons p ps =>
          have hr' := List.pairwise_cons.mp hr
          unfold layT
          cases j with
          | zero => cases h; exact ⟨_, upd_same⟩
          | succ j =>
            have h' : as[j]? = some b := by simpa using h
            rw [upd_ne (Nat.ne_of_gt (hr'.1 b (List.mem_of_getElem? h')))]
            exact ih2 (by simpa using hl) hr'.2 h'
    exact this (by simpa using hl) hr'.2 hj
def rSortV (K : PySem.W.Frag) : List V → Hp → VK → Prop := fun xs H Q => ∃ v d, ∃ ps : List (Str × Int), xs = [.ref v] ∧ H v = some (ObO v (viewO d)) ∧ H d = some (.dK (ps.map fun p => (Sum.inr p.1, V.int p.2))) ∧ ps.length < 64 ∧
    ∀ (l : Addr) (H' : Hp) (vs : List V) (fs : List (Str × Int)), Same H H' → H l = none → H' l = some (.lst vs) → DatsAt K H' vs (fs.map pairD) → fs.Perm ps → Q (.ref l) H'
theorem call_sortedV (hc : X.calm = true) : CallR X (.builtin "sorted") (rSortV X.K) := by
  intro pins s σ H xs us Q I r h
  obtain ⟨v, d, ps, rfl, hv, hd, few, q⟩ := h
  obtain ⟨u, rfl, ru⟩ := vals1 r
  cases (show u = Value.ref v from ru)
  obtain ⟨hz, hs, ws, kv, hD⟩ := (show ObjOk X.prog X.w H s.heap d (.dK (ps.map fun p => (Sum.inr p.1, V.int p.2))) from I.hok d _ hd)
  obtain ⟨ep, hA⟩ := hD.dictAt
  have lkv : ws.length = ps.length := by
    have := kv.length
    rw [List.length_map] at this
    omega
  have line : ps.length ≤ sizeLine := by rw [sizeLine_eq]; omega
  refine Calls.call_function_entry kind_sorted plain_sorted entry_sorted (args_sorted1 _) ?_
  unfold Builtin.«sorted»
  refine wpAny_bind (m := checkCount "sorted" 1 1 _) (wpAny_pure ?_)
  refine wpAny_bind (kdx_collect (A := X.A.in1) (knd := mixKind X.prog X.w) (kvs := ws) (ep := ep) (I.ok.hd hc) ⟨_, ob_get I.hok hv, rfl, rfl⟩ hA (by rw [lkv]; exact line) fun h' tk as hk hl hG => ?_)
  have las : as.length = ps.length := hl.trans lkv
  have above : ∀ a ∈ as, s.heap.objs.size ≤ a := fun a ha => Nat.le_of_lt (hG.above a ha)
  have tup : ∀ (j : Nat) (a : Addr) (p : Str × Int), as[j]? = some a → ps[j]? = some p → ∃ t1 t2, h'.get? a = some { cls := .type "tuple", data := .seq #[.str p.1 t1, .int p.2 t2] } := fun j a p e1 e2 => by
    obtain ⟨key, k, x, g1, g2, g3⟩ := hG.pairs j a e1
    obtain ⟨q1, e3, e4, e5⟩ := paired_r kv g1
    rw [List.getElem?_map, e2] at e3
    cases e3
    have e4' : Sum.inr p.1 = k := e4
    subst e4'
    obtain ⟨t2, rfl⟩ := (show RelV (V.int p.2) x from e5)
    rcases keyIs_shape (show keyIs (Sum.inr p.1) key = true from g2) with ⟨i, t, z, _⟩ | ⟨y, t, z, rfl⟩
    · cases z
    · cases z
      exact ⟨t, t2, g3⟩
  have I1 : Inv X pins σ (layT H as ps) { s with heap := h', toks := tk } := Inv.lays I hk (fun b hb => layT_old fun a ha z => absurd (above a ha) (by rw [← z]; exact Nat.not_le_of_lt hb)) fun b u hb e => by
    rcases layT_new e with z | ⟨j, p, e1, e2, rfl⟩
    · rw [I.hok.fresh hb] at z
      cases z
    · obtain ⟨t1, t2, et⟩ := tup j b p e1 e2
      exact ⟨two_le, [.str p.1 t1, .int p.2 t2], .cons ⟨t1, rfl⟩ (.cons ⟨t2, rfl⟩ .nil), _, et, rfl, _, rfl⟩
  have S1 : Same H (layT H as ps) := fun b u e => by
    rw [layT_old fun a ha z => absurd (above a ha) (by rw [← z]; exact Nat.not_le_of_lt (I.hok.lt e))]
    exact e
  have hd1 : DatsAt X.K (layT H as ps) (as.map V.ref) (ps.map pairD) := layT_dats las hG.rise
  have rv : Vals (as.map V.ref) (as.map Value.ref) := by
    clear hl hG las above tup I1 S1 hd1
    induction as with
    | nil => exact .nil
    | cons a as ih => exact .cons rfl ih
  have len1 : (as.map Value.ref).length = ps.length := by rw [List.length_map]; exact las
  have len2 : (as.map V.ref).length = ps.length := by rw [List.length_map]; exact las
  generalize as.map Value.ref = its at rv len1
  generalize as.map V.ref = vs at rv hd1 len2
  generalize layT H as ps = H1 at I1 S1 hd1
  refine wpAny_bind (wpAny_newList ?_ (by rw [len1]; exact line))
  refine wpAny_bind (wpAny_holding (wpAny_mono (sort_tail (A := X.A) (s := { s with heap := h', toks := tk }) (R := fun r s' => EP X pins σ Q r s') (lt := fun i j => pairLt (ps.getD i ("", 0)) (ps.getD j ("", 0))) (κ := tuples' ((Value.type "str") != (Value.type "tuple"))) (by omega) (fun z kept h2 Q' hq => ?_) (fun z kept i j C hi hj hC => ?_) fun D p g c hD hp kept at_ => ?_) (fun _ s' x => wpAny_pure ⟨_, rfl, x⟩) fun _ _ e => e))
  · obtain ⟨fs, k1, k2, k3⟩ := pairs_tups I1 kept ps vs its hd1 rv
    refine kat_kind (T := Value.type "str") k1 (by omega) (fun v hv => ?_) (by decide +kernel) hq
    obtain ⟨x, t, rfl⟩ := k3 v hv
    exact .now
  · have gi : ∀ {k : Nat}, k < its.length → ∃ a t t' o n, its.getD k Value.none = Value.ref a ∧ z.heap.get? a = some o ∧ o.data = .seq #[Value.str (ps.getD k ("", 0)).1 t, Value.int (ps.getD k ("", 0)).2 t'] n := fun {k} hk => by
      have e1 : (ps.map pairD)[k]? = some (pairD (ps.getD k ("", 0))) := by
        have hk' : k < ps.length := by omega
        simp [List.getD_eq_getElem?_getD, hk']
      obtain ⟨v, ev, hv⟩ := hd1.get e1
      obtain ⟨u, eu, ru⟩ := rv.get ev
      obtain ⟨a, t, t', o, n, rfl, f1, _, f3⟩ := pair_at I1 hv ru
      exact ⟨a, t, t', o, n, getD_of eu, kept _ _ f1, f3⟩
    obtain ⟨a1, t1, t1', o1, n1, e1, g1, d1⟩ := gi hi
    obtain ⟨a2, t2, t2', o2, n2, e2, g2, d2⟩ := gi hj
    show wpAny _ _ (keyLt' _ (its.getD i Value.none) (its.getD j Value.none)) C _ z
    rw [e1, e2]
    generalize ps.getD i ("", 0) = f at d1 hC
    generalize ps.getD j ("", 0) = g at d2 hC
    refine kat_lt g1 d1 g2 d2 ?_
    show KatLex _ _ _ _ _ C [(Value.str f.1 t1, Value.str g.1 t2), (Value.int f.2 t1', Value.int g.2 t2')] 0 z
    refine kat_cons (SeqAt.EqAt.str_str _ _ _ _ _ _ _ _ (kat_go (fun b1 => kat_yes ?_) fun b1 => kat_no ?_))
    · refine kat_cons (SeqAt.EqAt.int_int _ _ _ _ _ _ _ _ (kat_go (fun b2 => kat_yes (kat_nil ?_)) fun b2 => kat_no ?_))
      · have e3 : pairLt f g = false := by
          unfold pairLt
          rw [if_pos b1, if_pos b2]
        rw [e3] at hC
        exact hC
      · have e3 : pairLt f g = decide (f.2 < g.2) := by
          unfold pairLt
          rw [if_pos b1, if_neg (by rw [b2]; exact Bool.false_ne_true)]
        rw [e3] at hC
        exact kat_one _ _ (lt_int hC)
    · have e3 : pairLt f g = decide (f.1.cps.toList < g.1.cps.toList) := by
        unfold pairLt
        rw [if_neg (by rw [b1]; exact Bool.false_ne_true)]
      rw [e3] at hC
      exact oneLt_str hC
  · have hp' : p.toList.Perm (List.range vs.length) := by
      have := Array.perm_iff_toList_perm.mp hp
      rw [len2, ← len1]
      simpa using this
    have all : ∀ i ∈ p.toList, i < vs.length := fun i hi => List.mem_range.mp (hp'.mem_iff.mp hi)
    have S2 : Same H1 (upd H1 D (.lst (p.toList.map fun i => vs.getD i .non))) := .upd (I1.hok.fresh hD)
    have pk := DatsAt.pick (d0 := pairD ("", 0)) hd1 p.toList all
    have ef : (p.toList.map fun i => (ps.map pairD).getD i (pairD ("", 0))) = (p.toList.map fun i => ps.getD i ("", 0)).map pairD := by
      rw [List.map_map]
      refine List.map_congr_left fun i _ => ?_
      simp [List.getD_eq_getElem?_getD, Option.getD_map]
    rw [ef] at pk
    have hHD : H D = none := by
      cases e : H D with
      | none => rfl
      | some u =>
        have := S1 _ _ e
        rw [I1.hok.fresh hD] at this
        cases this
    refine ⟨.ref D, _, I1.laid (t' := tk) (o := .lst (p.toList.map fun i => vs.getD i .non)) kept hD ?_, rfl, q D _ _ _ (S1.trans S2) hHD upd_same (pk.same S2) ?_⟩
    · refine ⟨?_, _, c, ?_, at_⟩
      · rw [List.length_map, hp'.length_eq, List.length_range, len2]
        exact line
      · generalize p.toList = l at all
        clear hp hp' at_ pk ef S2 hHD
        induction l with
        | nil => exact .nil
        | cons i l ih =>
          have hi := all i (List.mem_cons_self ..)
          obtain ⟨u, eu, ru⟩ := rv.get (i := i) (x := vs[i]) (List.getElem?_eq_getElem hi)
          refine .cons ?_ (ih fun k hk => all k (List.mem_cons_of_mem _ hk))
          show RelV (vs.getD i .non) (its.getD i Value.none)
          rw [getD_of eu, getD_of (List.getElem?_eq_getElem hi)]
          exact ru
    · have e1 : (List.range vs.length).map (fun i => ps.getD i ("", 0)) = ps := by
        rw [len2]
        refine List.ext_getElem (by simp) fun i k1 k2 => ?_
        simp [List.getD_eq_getElem?_getD, k2]
      have := hp'.map fun i => ps.getD i ("", 0)
      rw [e1] at this
      exact this
end
end L2
namespace L2
open PySem PySem.Spec PyProof.Rows
inductive Alk (K : PySem.W.Frag) (H : Hp) : V → V → Prop
  | dat {x y : V} (d : Dt) (hx : DatAt K H x d) (hy : DatAt K H y d) (hg : d.hgt ≤ 30) : Alk K H x y
  | ref (r : Addr) : Alk K H (.ref r) (.ref r)
  | lst (l m : Addr) (ds : List Dt) (hl : LsM K H l ds) (hm : LsM K H m ds) (hg : Dt.hgts ds ≤ 30) : Alk K H (.ref l) (.ref m)
def PqAt (K : PySem.W.Frag) (H : Hp) (x y : V) : Prop := ∃ p q xs ys, x = .ref p ∧ y = .ref q ∧ SqT K H p xs ∧ SqT K H q ys ∧ xs.length = ys.length ∧ ∀ (i : Nat) (a b : V), xs[i]? = some a → ys[i]? = some b → Alk K H a b
section
variable {X : Cx} {pins : List (Addr × Obj)} {σ : St} {H : Hp} {s : Shared}
def rNePq (K : PySem.W.Frag) : R2 := fun x y H Q => ∃ (a b : Addr) (vs ws : List V), x = .ref a ∧ y = .ref b ∧ SqL K H a vs ∧ SqL K H b ws ∧ vs.length = ws.length ∧ (∀ (i : Nat) (v w : V), vs[i]? = some v → ws[i]? = some w → PqAt K H v w) ∧ Q (.bl false) H
end
end L2
namespace L2
open PySem PySem.Spec PyProof PyProof.Rows
inductive EqB (K : PySem.W.Frag) (H : Hp) : V → V → Bool → Prop
  | dat {x y : V} (d e : Dt) (hx : DatAt K H x d) (hy : DatAt K H y e) (hg : d.hgt ≤ 30) : EqB K H x y (Dt.beq d e)
  | lst (l m : Addr) (ds es : List Dt) (hl : LsM K H l ds) (hm : LsM K H m es) (ne : l ≠ m) (hg : Dt.hgts ds ≤ 30) : EqB K H (.ref l) (.ref m) (Dt.beqs ds es)
structure EqT (K : PySem.W.Frag) (H : Hp) (x y : V) (b : Bool) : Prop where
  ex : ∃ (p q : Addr) (xs ys : List V) (e : Nat → Bool), x = .ref p ∧ y = .ref q ∧ p ≠ q ∧ SqT K H p xs ∧ SqT K H q ys ∧ (∀ (j : Nat) (a c : V), xs[j]? = some a → ys[j]? = some c → EqB K H a c (e j)) ∧ b = ((List.range (min xs.length ys.length)).all e && xs.length == ys.length)
section
variable {X : Cx} {pins : List (Addr × Obj)} {σ : St} {H : Hp} {s : Shared}
theorem eqAt_lsB (I : Inv X pins σ H s) {A : Around} {p q : Addr} {ds es : List Dt} (hu : A.units + 40 < cLine) (hp : LsM X.K H p ds) (hq : LsM X.K H q es) (hab : p ≠ q) (hh : Dt.hgts ds ≤ 30) : SeqAt.EqAt A s (.ref p) (.ref q) (Dt.beqs ds es) := by
  obtain ⟨vs, e1, h2⟩ := hp
  obtain ⟨ws, e2, k2⟩ := hq
  obtain ⟨its, r1, p1, _⟩ := I.list (SqL.of e1)
  obtain ⟨its2, r2, p2, _⟩ := I.list (SqL.of e2)
  by_cases hsz : its.toArray.size = its2.toArray.size
  · have r := SeqAt.RcAt.lists (A := A) p1.isList p2.isList hsz (by omega) fun j j1 j2 => items_eq h2 k2 r1 r2 (fun d e x y u v hm q1 q2 q3 q4 =>
      eqAt_dat I 30 A.in1 d e x y u v (Nat.le_trans (Dt.hgt_mem hm) hh) (by show A.units + 1 + 30 < cLine; omega) q1 q2 q3 q4) j j1 j2
    rw [list_all h2 k2 r1 r2 hsz] at r
    exact SeqAt.EqAt.of_refs hab r
  · have r := SeqAt.RcAt.lists_lengths (A := A) p1.isList p2.isList (by simpa using hsz) (by omega)
    rw [list_len h2 k2 r1 r2 hsz]
    exact SeqAt.EqAt.of_refs hab r
theorem eqAt_eqB (I : Inv X pins σ H s) {A : Around} {x y : V} {b : Bool} {u v : Value} (hu : A.units + 45 < cLine) (h : EqB X.K H x y b) (ru : RelV x u) (rv : RelV y v) : SeqAt.EqAt A s u v b := by
  cases h with
  | dat d e hx hy hg => exact eqAt_dat I 30 A d e x y u v hg (by omega) hx hy ru rv
  | lst l m ds es hl hm ne hg =>
    cases (show u = Value.ref l from ru)
    cases (show v = Value.ref m from rv)
    exact eqAt_lsB I (by omega) hl hm ne hg
theorem eqAt_eqT (I : Inv X pins σ H s) {A : Around} {x y : V} {b : Bool} {u v : Value} (hu : A.units + 50 < cLine) (h : EqT X.K H x y b) (ru : RelV x u) (rv : RelV y v) : SeqAt.EqAt A s u v b := by
  obtain ⟨⟨p, q, xs, ys, e, rfl, rfl, hab, h1, h2, h4, rfl⟩⟩ := h
  cases (show u = Value.ref p from ru)
  cases (show v = Value.ref q from rv)
  obtain ⟨its, r1, p1, _⟩ := I.tuple h1
  obtain ⟨its2, r2, p2, _⟩ := I.tuple h2
  have l1 := r1.length
  have l2 := r2.length
  have r := SeqAt.RcAt.tuples (A := A) (e := e) p1 p2 (by omega) fun j j1 j2 => by
    rw [List.size_toArray] at j1 j2
    have g1 : xs[j]? = some xs[j] := List.getElem?_eq_getElem (by omega)
    have g2 : ys[j]? = some ys[j] := List.getElem?_eq_getElem (by omega)
    obtain ⟨u, eu, ru⟩ := r1.get g1
    obtain ⟨v, ev, rv⟩ := r2.get g2
    have f1 : its.toArray[j] = u := by
      have := (List.getElem?_eq_some_iff.mp eu).2
      simpa using this
    have f2 : its2.toArray[j] = v := by
      have := (List.getElem?_eq_some_iff.mp ev).2
      simpa using this
    rw [f1, f2]
    exact eqAt_eqB I (by show A.units + 1 + 45 < cLine; omega) (h4 j _ _ g1 g2) ru rv
  rw [List.size_toArray, List.size_toArray, ← l1, ← l2] at r
  exact SeqAt.EqAt.of_refs hab r
def rInT (K : PySem.W.Frag) : R2 := fun x y H Q => ∃ (p : Addr) (xs : List V) (bs : List Bool), y = .ref p ∧ SqL K H p xs ∧ xs.length = bs.length ∧ (∀ (j : Nat) (v : V) (b : Bool), xs[j]? = some v → bs[j]? = some b → EqT K H v x b) ∧ Q (.bl (bs.any id)) H
theorem op_inT (hu : X.A.units + 64 < cLine) : OpR X (compareOp .In) (rInT X.K) := by
  intro pins s σ H x y v u Q I rx ry h
  obtain ⟨p, xs, bs, rfl, hq, hl, he, q⟩ := h
  cases ry
  obtain ⟨its, r, pl, hz⟩ := I.list hq
  have lr := r.length
  have eqj : ∀ (j : Nat) (w : Value) (b : Bool), its[j]? = some w → bs[j]? = some b → SeqAt.EqAt X.A.in1 s w v b := fun j w b hw hb => by
    have hj := (List.getElem?_eq_some_iff.mp hw).1
    have g1 : xs[j]? = some xs[j] := List.getElem?_eq_getElem (by omega)
    obtain ⟨w', ew, rw_⟩ := r.get g1
    rw [hw] at ew
    cases ew
    exact eqAt_eqT I (by show X.A.units + 1 + 50 < cLine; omega) (he j _ b g1 hb) rw_ rx
  let e : Value → Bool := fun w => @decide (∃ j : Nat, its[j]? = some w ∧ bs[j]? = some true) (Classical.propDecidable _)
  refine SeqAt.in_listAt e pl.isList (fun w hw => ?_) ⟨.bl _, H, I, rfl, ?_⟩
  · have hw : w ∈ its := by simpa using hw
    by_cases hc : ∃ j : Nat, its[j]? = some w ∧ bs[j]? = some true
    · obtain ⟨j, h1, h2⟩ := hc
      rw [show e w = true from @decide_eq_true _ (Classical.propDecidable _) ⟨j, h1, h2⟩]
      exact eqj j w true h1 h2
    · rw [show e w = false from @decide_eq_false _ (Classical.propDecidable _) hc]
      obtain ⟨j, hj⟩ := List.getElem?_of_mem hw
      have jl := (List.getElem?_eq_some_iff.mp hj).1
      have hb : bs[j]? = some bs[j] := List.getElem?_eq_getElem (by omega)
      have : bs[j] = false := by
        cases q : bs[j] with
        | false => rfl
        | true => exact absurd ⟨j, hj, by rw [hb, q]⟩ hc
      rw [this] at hb
      exact eqj j w false hj hb
  · have ea : its.toArray.any e = bs.any id := by
      rw [show its.toArray.any e = its.any e by simp]
      cases q : bs.any id with
      | true =>
        obtain ⟨b, hb, hbt⟩ := List.any_eq_true.mp q
        obtain ⟨j, hj⟩ := List.getElem?_of_mem hb
        have jl := (List.getElem?_eq_some_iff.mp hj).1
        have hw : its[j]? = some its[j] := List.getElem?_eq_getElem (by omega)
        refine List.any_eq_true.mpr ⟨its[j], List.mem_of_getElem? hw, ?_⟩
        exact @decide_eq_true _ (Classical.propDecidable _) ⟨j, hw, by rw [hj]; exact congrArg some hbt⟩
      | false =>
        refine Bool.eq_false_iff.mpr fun z => ?_
        obtain ⟨w, hw, hwt⟩ := List.any_eq_true.mp z
        obtain ⟨j, h1, h2⟩ := @of_decide_eq_true _ (Classical.propDecidable _) hwt
        have this : bs.any id = true := List.any_eq_true.mpr ⟨true, List.mem_of_getElem? h2, rfl⟩
        rw [q] at this
        cases this
    rw [ea]
    exact q
def rIndexT (K : PySem.W.Frag) : V → List V → Hp → VK → Prop := fun x vs H Q => ∃ (l : Addr) (xs : List V) (y : V) (j : Nat), x = .ref l ∧ vs = [y] ∧ H l = some (.lst xs) ∧ j < xs.length ∧ xs.Nodup ∧ (∀ (k : Nat) (v : V), xs[k]? = some v → EqT K H v y (decide (k = j)) ∧ ∃ r, v = .ref r) ∧ Q (.int (j : Int)) H
theorem mt_indexT (hu : X.A.units + 64 < cLine) : MtM X "list.index" (rIndexT X.K) := by
  intro pins s σ H x vs v us Q I rx rv h
  obtain ⟨l, xs, y, j, rfl, rfl, hH, hj, nd, he, q⟩ := h
  cases rx
  obtain ⟨u, rfl, ru⟩ := vals1 rv
  obtain ⟨z, its, n, r, hl, e⟩ := I.lstM hH
  have lr := r.length
  have hji : j < its.toArray.size := by rw [List.size_toArray]; omega
  have at_ : ∀ (k : Nat) (hk : k < its.length), ∃ a : Addr, xs[k]? = some (.ref a) ∧ its[k] = .ref a ∧ SeqAt.EqAt X.A.in1 s its[k] u (decide (k = j)) := fun k hk => by
    have g1 : xs[k]? = some xs[k] := List.getElem?_eq_getElem (by omega)
    obtain ⟨h1, a, ea⟩ := he k _ g1
    obtain ⟨w, ew, rw_⟩ := r.get g1
    have ew' : its[k] = w := (List.getElem?_eq_some_iff.mp ew).2
    refine ⟨a, by rw [g1, ea], ?_, ?_⟩
    · rw [ea] at rw_
      rw [ew']
      exact rw_
    · rw [ew']
      exact eqAt_eqT I (by show X.A.units + 1 + 50 < cLine; omega) h1 rw_ ru
  have inj : ∀ (k m : Nat) (hk : k < its.length) (hm : m < its.length), its[k] = its[m] → k = m := fun k m hk hm z => by
    obtain ⟨a, a1, a2, _⟩ := at_ k hk
    obtain ⟨b, b1, b2, _⟩ := at_ m hm
    rw [a2, b2] at z
    cases z
    have := (List.getElem?_inj (by omega) nd).mp (a1.trans b1.symm)
    exact this
  have hjl : j < its.length := by omega
  have sl : (sizeLine : Int) < 2 ^ 62 := by decide +kernel
  let ef : Value → Bool := fun w => @decide (w = its[j]) (Classical.propDecidable _)
  refine call_meets PySem.F.slot_list_index ⟨_, e, rfl⟩ PySem.F.entry_list_index (PySem.F.args_list_index_2 _ _) (SeqAt.list_indexAt l its.toArray n none #[] u ef j hji (by have := hl; omega) (by simp [ef]) (fun m hm hlt => ?_)) ⟨e, fun w hw => ?_, ?_⟩
  · have hml : m < its.length := by simpa using hm
    refine @decide_eq_false _ (Classical.propDecidable _) fun z => ?_
    have := inj m j hml hjl (by simpa using z)
    omega
  · have hw : w ∈ its := by simpa using hw
    obtain ⟨k, hk⟩ := List.getElem?_of_mem hw
    have hkl := (List.getElem?_eq_some_iff.mp hk).1
    have ew : its[k] = w := (List.getElem?_eq_some_iff.mp hk).2
    obtain ⟨a, a1, a2, a3⟩ := at_ k hkl
    rw [ew] at a3
    have : ef w = decide (k = j) := by
      by_cases hc : k = j
      · subst hc
        rw [decide_eq_true rfl]
        exact @decide_eq_true _ (Classical.propDecidable _) ew.symm
      · rw [decide_eq_false hc]
        exact @decide_eq_false _ (Classical.propDecidable _) fun z => hc (inj k j hkl hjl (by rw [ew]; exact z))
    rw [this]
    exact a3
  · exact ⟨.int (j : Int), H, I.kept (t' := s.toks + 1) (fun b o q => q), ⟨_, rfl⟩, q⟩
end
end L2
namespace L2
open PySem PySem.Spec PySem.W PyProof.Rows
structure Kd (d : Dt) : Prop where
  ns : ∀ x, d ≠ .str x
  hg : d.hgt ≤ 6
def DeP (w : World) (a : Addr) (kvs : List (Dt × V × V)) (ep : Nat) (h : Heap) : Prop :=
  (a == sysModules) = false ∧ ∃ o es ks, h.get? a = some o ∧ o.ExactDict ∧ o.data = .dict es ep ∧ es.toList = ks.map (entD w) ∧ Paired DkR kvs ks
def DeO (w : World) (a : Addr) (kvs : List (Dt × V × V)) (ep : Nat) : HO := .ext (DeP w a kvs ep)
def DgAt (w : World) (H : Hp) (a : Addr) (kvs : List (Dt × V × V)) : Prop := H a = some (DkO w a kvs) ∨ ∃ ep, H a = some (DeO w a kvs ep)
theorem DgAt.p {X : Cx} {pins : List (Addr × Obj)} {σ : L2.St} {H : Hp} {s : Shared} {a : Addr} {kvs : List (Dt × V × V)} (h : DgAt X.w H a kvs) (I : Inv X pins σ H s) : DkP X.w a kvs s.heap := by
  rcases h with h | ⟨ep, h⟩
  · exact (show ObjOk X.prog X.w H s.heap a (DkO X.w a kvs) from I.hok a _ h).1
  · obtain ⟨q, o, es, ks, r⟩ := (show ObjOk X.prog X.w H s.heap a (DeO X.w a kvs ep) from I.hok a _ h).1
    exact ⟨q, o, es, ep, ks, r⟩
theorem DgAt.ext {w : World} {H : Hp} {a : Addr} {kvs : List (Dt × V × V)} (h : DgAt w H a kvs) : ∃ φ, H a = some (.ext φ) := by
  rcases h with h | ⟨ep, h⟩
  · exact ⟨_, h⟩
  · exact ⟨_, h⟩
structure DgM (K : PySem.W.Frag) (w : World) (H : Hp) (a : Addr) (kvs : List (Dt × V × V)) : Prop where
  at_ : DgAt w H a kvs
  dat : ∀ x ∈ kvs, DatAt K H x.2.1 x.1
  kd : ∀ x ∈ kvs, Kd x.1
  nd : (kvs.map (·.1)).Nodup
theorem DgM.same {K : PySem.W.Frag} {w : World} {H H' : Hp} {a : Addr} {kvs : List (Dt × V × V)} (h : DgM K w H a kvs) (e : Same H H') : DgM K w H' a kvs :=
  ⟨h.at_.elim (fun z => .inl (e _ _ z)) (fun ⟨ep, z⟩ => .inr ⟨ep, e _ _ z⟩), fun x hx => (h.dat x hx).same e, h.kd, h.nd⟩
theorem kd_key {K : PySem.W.Frag} {H : Hp} {i : V} {k : Dt} {u : Value} (hk : DatAt K H i k) (o : Kd k) (r : RelV i u) : u = Value.none ∨ (∃ n t, u = Value.int n t) ∨ ∃ a, u = Value.ref a := by
  cases k with
  | non =>
    have := hk.non_eq
    subst this
    exact .inl r
  | int n =>
    have := hk.int_eq
    subst this
    exact .inr (.inl ⟨n, r⟩)
  | str x => exact absurd rfl (o.ns x)
  | tup ds =>
    obtain ⟨a, vs, rfl, _, _⟩ := hk.un
    exact .inr (.inr ⟨a, r⟩)
section
variable {X : Cx} {pins : List (Addr × Obj)} {σ : L2.St} {H : Hp} {s : Shared} {a : Addr} {kvs : List (Dt × V × V)} {k : Dt} {i : V} {u : Value}
theorem kit_ofG {A : Around} {ks : List (Dt × Value × Value)} (hu : A.units + 32 < cLine) (I : Inv X pins σ H s) (M : DgM X.K X.w H a kvs) (p : Paired DkR kvs ks) (hk : DatAt X.K H i k) (o : Kd k) (r : RelV i u) : Kit X A s ks k u := by
  have all : ∀ x ∈ ks, ∃ v, DatAt X.K H v x.1 ∧ RelV v x.2.1 ∧ x.1.hgt ≤ 6 := fun x hx => by
    obtain ⟨y, hy, e, r1, _⟩ := dk_mem p x hx
    rw [← e]
    exact ⟨y.2.1, M.dat y hy, r1, (M.kd y hy).hg⟩
  have ho := o.hg
  refine ⟨kd_key hk o r, vd_of I hk r, by omega, fun tk x hx E Q q => ?_, fun tk v hv E Q q => ?_, fun x hx e => ?_⟩
  · obtain ⟨v, h1, h2, h3⟩ := all x hx
    exact eqAt_dat (I.tok tk) 8 A x.1 k v i x.2.1 u (by omega) (by omega) h1 hk h2 r X.prog X.w E Q q
  · rcases hv with rfl | ⟨x, hx, rfl⟩
    · exact quiet_vd 8 k _ A _ Q (vd_of (I.tok tk) hk r) (by omega) q
    · obtain ⟨v, h1, h2, h3⟩ := all x hx
      exact quiet_vd 8 x.1 _ A _ Q (vd_of (I.tok tk) h1 h2) (by omega) q
  · obtain ⟨v, h1, h2, h3⟩ := all x hx
    rw [e] at h2
    cases h2.inj r
    exact DatAt.inj I h1 hk
theorem d_setG {A : Around} {E : Value → Shared → Prop} {v : V} {r : Value} {Q : Unit → Shared → Prop} (hu : A.units + 40 < cLine) (I : Inv X pins σ H s) (M : DgM X.K X.w H a kvs) (few : kvs.length ≤ 4000) (hk : DatAt X.K H i k) (o : Kd k) (ri : RelV i u) (rv : RelV v r)
    (h : ∀ s', Inv X pins σ (upd H a (DkO X.w a (putD kvs k i v))) s' → Q () s') : wpAny (model X.prog X.w) A (setItem (.ref a) u r) Q E s := by
  obtain ⟨far, ob, es, ep, ks, e1, e2, e3, e4, p⟩ := M.at_.p I
  have hT : s.TypeIs (.ref a) "dict" := ⟨ob, e1, e2.1⟩
  have kt : Kit X A.in1 s ks k u := kit_ofG (by rw [Around.in1_units]; omega) I M p hk o ri
  have len : ks.length ≤ sizeLine := by
    have : kvs.length = ks.length := Paired.length p
    exact Nat.le_trans (show ks.length ≤ 4000 by omega) (by decide)
  unfold setItem
  try with_reducible refine wpAny_holding ?_
  refine wpAny_bind (wpAny_sequenceKey hT (by decide) (wpAny_bind ?_))
  refine wpAny_callSpecial?_slot (name := Str.ofString "__setitem__") hT slot_dict_setitem (wpAny_call_entry slot_dict_setitem hT entry_dict_setitem ?_ (args_dict_setitem _ _ _))
  show wpAny _ _ (Builtin.Dict.notOrdered "__setitem__" ⟨[.ref a, u, r], []⟩ >>= _) _ _ s
  refine wpAny_bind (wpAny_notOrdered_dict hT ?_)
  show wpAny _ _ (dictSet a u r >>= _) _ _ s
  refine wpAny_bind (set_vd e1 e2 e3 e4 (by rw [← dk_keys p]; exact M.nd) kt.st kt.vd kt.hgt (fun tk x hx Q q => kt.eq tk x hx _ Q q) (fun tk v hv Q q => kt.quiet tk v hv _ Q q) kt.id len fun h' tk o' es' ep' f1 f2 f3 f4 hs => ?_)
  refine wpAny_pure ⟨.none, rfl, wpAny_pure (h _ ?_)⟩
  refine I.write (x := a) (e := a) (t' := tk) (by obtain ⟨φ, eφ⟩ := M.at_.ext; rw [eφ]; exact True.intro) (.inl rfl) (fun b q hb z => (hs.2 b hb).trans z) ⟨o', f1⟩ (dkO_ok ⟨far, o', es', ep', _, f1, f2, f3, f4, dk_put ri rv p⟩)
theorem DgM.put {K : PySem.W.Frag} {w : World} {v : V} (M : DgM K w H a kvs) (hk : DatAt K H i k) (o : Kd k) : DgM K w (upd H a (DkO w a (putD kvs k i v))) a (putD kvs k i v) := by
  have old : ∀ x d, DatAt K H x d → DatAt K (upd H a (DkO w a (putD kvs k i v))) x d := fun x d h => let ⟨_, eφ⟩ := M.at_.ext; DatAt.updX eφ h
  refine ⟨.inl upd_same, fun x hx => ?_, fun x hx => ?_, putD_nodup M.nd⟩
  · rcases putD_mem hx with ⟨y, hy, e1, e2⟩ | ⟨e1, e2⟩
    · rw [← e1, ← e2]
      exact old _ _ (M.dat y hy)
    · rw [e1, e2]
      exact old _ _ hk
  · rcases putD_mem hx with ⟨y, hy, e1, e2⟩ | ⟨e1, e2⟩
    · rw [← e1]
      exact M.kd y hy
    · rw [e1]
      exact o
def sDg (K : PySem.W.Frag) (w : World) : TSet := fun o i v H Q => ∃ a kvs k, o = .ref a ∧ DgM K w H a kvs ∧ kvs.length ≤ 4000 ∧ DatAt K H i k ∧ Kd k ∧ Q (upd H a (DkO w a (putD kvs k i v)))
theorem st_dg (hu : X.A.units + 64 < cLine) : PSet X (sDg X.K X.w) := by
  intro pins s σ H o i v ov iv u Q I r1 r2 r3 h
  obtain ⟨a, kvs, k, rfl, M, few, hk, oc, q⟩ := h
  cases (show ov = Value.ref a from r1)
  exact d_setG (by omega) I M few hk oc r2 r3 fun s' I' => ⟨_, I', q⟩
theorem d_getG {A : Around} {E : Value → Shared → Prop} {Q : Option Value → Shared → Prop} (hu : A.units + 40 < cLine) (I : Inv X pins σ H s) (M : DgM X.K X.w H a kvs) (hk : DatAt X.K H i k) (o : Kd k) (ri : RelV i u)
    (q1 : ∀ tk (j : Nat) (x : Dt × V × V) (r : Value), kvs[j]? = some x → x.1 = k → RelV x.2.2 r → Q (some r) { s with toks := tk }) (q0 : ∀ tk, k ∉ kvs.map (·.1) → Q none { s with toks := tk }) : wpAny (model X.prog X.w) A (dictGet a u) Q E s := by
  obtain ⟨far, ob, es, ep, ks, e1, e2, e3, e4, p⟩ := M.at_.p I
  have kt : Kit X A s ks k u := kit_ofG (by omega) I M p hk o ri
  refine get_vd kt e1 e3 e4 (by rw [← dk_keys p]; exact M.nd) (fun tk no => q0 tk ?_) (fun tk j pr e => ?_)
  · rw [dk_keys p]
    intro z
    obtain ⟨y, hy, ey⟩ := List.mem_map.mp z
    obtain ⟨j, hj⟩ := List.getElem?_of_mem hy
    exact no j y.2 (by rw [hj, ← ey])
  · obtain ⟨x, hx, r1, _, r3⟩ := dk_get p e
    exact q1 tk j x pr.2 hx r1 r3
def rIxG (K : PySem.W.Frag) (w : World) : R2 := fun x y H Q => ∃ (a : Addr) (kvs : List (Dt × V × V)) (k : Dt) (j : Nat) (e : Dt × V × V), x = .ref a ∧ DgM K w H a kvs ∧ DatAt K H y k ∧ Kd k ∧ kvs[j]? = some e ∧ e.1 = k ∧ Q e.2.2 H
theorem ix_dg (hu : X.A.units + 64 < cLine) : IxR X (rIxG X.K X.w) := by
  intro value slice pins s σ H x y v u Q I rx ry h hs
  obtain ⟨a, kvs, k, j, e, rfl, M, hk, o, ej, ek, q⟩ := h
  cases (show v = Value.ref a from rx)
  obtain ⟨far, ob, es, ep, ks, e1, e2, e3, e4, p⟩ := M.at_.p I
  have hT : s.TypeIs (.ref a) "dict" := ⟨ob, e1, e2.1⟩
  obtain ⟨y, ey, dr⟩ := dk_get' p ej
  have kt : Kit X X.A.in1 s ks k u := kit_ofG (by rw [Around.in1_units]; omega) I M p hk o ry
  have nd : (ks.map (·.1)).Nodup := by rw [← dk_keys p]; exact M.nd
  refine subscriptTail_builtinR (x := y.2.2) hT slot_dict_getitem.lookup ?_ hs
  unfold getItem
  try with_reducible refine wpAny_holding ?_
  refine wpAny_bind (wpAny_sequenceKey hT (by decide) (wpAny_bind (wpAny_callSpecial?_slot (name := Str.ofString "__getitem__") hT slot_dict_getitem (wpAny_call_entry slot_dict_getitem hT entry_dict_getitem ?_ (args_dict_getitem _ _)))))
  show wpAny _ _ (dictGet a u >>= _) _ _ s
  refine wpAny_bind (get_vd kt e1 e3 e4 nd (fun tk no => absurd ey (by rw [← ek, dr.1] at no; exact no j y.2)) (fun tk j' pr e => ?_))
  have same := nd_at nd e ey (ek.symm.trans dr.1)
  subst same
  rw [e] at ey
  cases ey
  exact wpAny_pure ⟨_, rfl, wpAny_pure ⟨rfl, _, H, I.tok tk, dr.2.2, q⟩⟩
def rInG (K : PySem.W.Frag) (w : World) (f : Bool → Bool) : R2 := fun x y H Q => ∃ (a : Addr) (kvs : List (Dt × V × V)) (k : Dt), y = .ref a ∧ DgM K w H a kvs ∧ DatAt K H x k ∧ Kd k ∧ Q (.bl (f (hasD kvs k))) H
theorem d_hasG {A : Around} {E : Value → Shared → Prop} {Q : Bool → Shared → Prop} (hu : A.units + 44 < cLine) (I : Inv X pins σ H s) (M : DgM X.K X.w H a kvs) (hk : DatAt X.K H i k) (o : Kd k) (ri : RelV i u)
    (q : ∀ tk, Q (hasD kvs k) { s with toks := tk }) : wpAny (model X.prog X.w) A (contains (.ref a) u) Q E s := by
  obtain ⟨far, ob, es, ep, ks, e1, e2, e3, e4, p⟩ := M.at_.p I
  have hT : s.TypeIs (.ref a) "dict" := ⟨ob, e1, e2.1⟩
  unfold contains
  try with_reducible refine wpAny_holding ?_
  refine wpAny_bind (wpAny_specialOf hT slot_dict_contains.lookup ?_)
  show wpAny _ _ (if (some (Value.builtin "dict.__contains__") == some Value.none) = true then _ else _) _ E s
  rw [if_neg (by rw [beq_builtin_none]; exact Bool.false_ne_true)]
  refine wpAny_bind (wpAny_callSpecialUnlessNone?_slot (name := Str.ofString "__contains__") hT slot_dict_contains
    (wpAny_call_entry slot_dict_contains hT entry_dict_contains ?_ (args_dict_contains _ _)))
  show wpAny _ _ (dictGet a u >>= _) _ _ s
  refine wpAny_bind (d_getG (by rw [Around.in1_units]; omega) I M hk o ri (fun tk j x r ej ek rr => ?_) (fun tk no => ?_))
  · have hh : hasD kvs k = true := hasD_iff.mpr (List.mem_map.mpr ⟨x, List.mem_of_getElem? ej, ek⟩)
    have q' := q tk
    rw [hh] at q'
    show wpAny _ _ (ret (.bool true)) _ _ _
    exact wpAny_pure ⟨_, rfl, wpAny_truthy_bool q'⟩
  · have hh : hasD kvs k = false := by
      cases e : hasD kvs k with
      | false => rfl
      | true => exact absurd (hasD_iff.mp e) no
    have q' := q tk
    rw [hh] at q'
    show wpAny _ _ (Builtin.Dict.pendingKey? a u >>= _) _ _ _
    exact wpAny_bind (wpAny_pendingKey_other far (wpAny_pure ⟨_, rfl, wpAny_truthy_bool q'⟩))
theorem op_ninG (hu : X.A.units + 64 < cLine) : OpR X (compareOp .NotIn) (rInG X.K X.w not) := by
  intro pins s σ H x y u v Q I ru rv h
  obtain ⟨a, kvs, k, rfl, M, hk, o, q⟩ := h
  cases (show v = Value.ref a from rv)
  show wpAny _ _ (do return Value.bool (!(← contains (.ref a) u))) _ _ s
  exact wpAny_bind (d_hasG (by omega) I M hk o ru fun tk => wpAny_pure ⟨.bl _, H, I.tok tk, rfl, q⟩)
def Itd (w : World) (a : Addr) (kvs : List (Dt × V × V)) (ep : Nat) : It := ⟨fun i H => H a = some (DeO w a kvs ep) ∧ i < kvs.length, fun i H x H' => H' = H ∧ ∃ e, kvs[i]? = some e ∧ x = e.2.1, fun i H => H a = some (DeO w a kvs ep) ∧ kvs.length ≤ i⟩
def iDg (K : PySem.W.Frag) (w : World) (tl : TE) : TI := fun σ H R => tl σ H fun x H1 => ∃ a kvs, x = .ref a ∧ DgM K w H1 a kvs ∧ ∀ ep, R (Itd w a kvs ep) (upd H1 a (DeO w a kvs ep))
end
theorem DgM.updL {K : PySem.W.Frag} {w : World} {H : Hp} {a p : Addr} {xs ys : List V} {kvs : List (Dt × V × V)} (h : DgM K w H a kvs) (hp : H p = some (.lst xs)) : DgM K w (upd H p (.lst ys)) a kvs := by
  have ne : a ≠ p := by
    obtain ⟨φ, eφ⟩ := h.at_.ext
    intro z
    rw [z, hp] at eφ
    cases eφ
  refine ⟨h.at_.elim (fun z => .inl (by rw [upd_ne ne]; exact z)) (fun ⟨ep, z⟩ => .inr ⟨ep, by rw [upd_ne ne]; exact z⟩), fun x hx => (h.dat x hx).updL hp, h.kd, h.nd⟩
end L2
namespace L2
open PySem PySem.Spec PySem.W PyProof.Rows
def onceI (ns : List Int) : List Int := firstMet (fun i => ns.getD i 0) ns.length
theorem range_getI (ns : List Int) : (List.range ns.length).map (fun i => ns.getD i 0) = ns := by
  refine List.ext_getElem (by simp) fun i h1 h2 => ?_
  simp [List.getElem?_eq_getElem h2]
theorem onceI_mem (ns : List Int) (k : Int) : k ∈ onceI ns ↔ k ∈ ns := by
  have h := firstMet_any (fun i => ns.getD i 0) ns.length k
  rw [range_getI] at h
  have e : ∀ l : List Int, l.any (· == k) = true ↔ k ∈ l := fun l => by
    rw [List.any_eq_true]
    exact ⟨fun ⟨x, hx, z⟩ => (by simpa using z : x = k) ▸ hx, fun z => ⟨k, z, by simp⟩⟩
  rw [← e, ← e]
  unfold onceI
  rw [h]
theorem onceI_nodup (ns : List Int) : (onceI ns).Nodup := by
  unfold onceI firstMet
  have : ∀ (l acc : List Int), acc.Nodup → (l.foldl step_dedup acc).Nodup := fun l => by
    induction l with
    | nil => intro acc h; exact h
    | cons x l ih =>
      intro acc h
      refine ih _ ?_
      unfold step_dedup
      split
      · exact h
      · rename_i hn
        rw [List.nodup_append]
        refine ⟨h, List.pairwise_singleton _ _, fun a ha b hb z => ?_⟩
        cases List.mem_singleton.mp hb
        subst z
        exact hn (List.any_eq_true.mpr ⟨a, ha, by simp⟩)
  exact this _ _ List.nodup_nil
theorem onceI_one {ns : List Int} {x : Int} (hx : x ∈ ns) : (onceI ns).length = 1 ↔ ∀ y ∈ ns, y = x := by
  have hm := (onceI_mem ns x).mpr hx
  have nd := onceI_nodup ns
  have mem := onceI_mem ns
  generalize onceI ns = l at hm nd mem
  constructor
  · intro h y hy
    have hy' := (mem y).mpr hy
    match l, h with
    | [z], _ =>
      rw [List.mem_singleton.mp hm, List.mem_singleton.mp hy']
  · intro h
    match l, hm, nd, mem with
    | [z], _, _, _ => rfl
    | a :: b :: r, _, nd, mem =>
      have ha := h a ((mem a).mp (List.mem_cons_self ..))
      have hb := h b ((mem b).mp (List.mem_cons_of_mem _ (List.mem_cons_self ..)))
      rw [List.nodup_cons] at nd
      exact absurd (by rw [ha, hb]; exact List.mem_cons_self ..) nd.1
def SetP (prog : Program) (w : World) (a : Addr) (n : Nat) (h : Heap) : Prop := ∃ S, h.SetOf (intKind prog w) a S n
def StO (prog : Program) (w : World) (a : Addr) (n : Nat) : HO := .ext (SetP prog w a n)
theorem setP_stays {prog : Program} {w : World} {a : Addr} {n : Nat} {h1 h2 : Heap} (p : SetP prog w a n h1) (k : ∀ o, h1.get? a = some o → h2.get? a = some o) : SetP prog w a n h2 := by
  obtain ⟨S, o, es, ep, t, e, r⟩ := p
  exact ⟨S, o, es, ep, t, k _ e, r⟩
theorem stO_ok {prog : Program} {w : World} {H : Hp} {a : Addr} {n : Nat} {h : Heap} (p : SetP prog w a n h) : ObjOk prog w H h a (StO prog w a n) := by
  refine ⟨p, ?_, fun _ _ => setP_stays⟩
  obtain ⟨_, o, _, _, _, e, _⟩ := p
  exact ⟨o, e⟩
section
variable {X : Cx}
theorem call_setI (hc : X.calm = true) : CallR X (.type "set") (fun xs H Q => ∃ (a : Addr) (ns : List Int), xs = [.ref a] ∧ SqL X.K H a (ns.map V.int) ∧ ns.length ≤ 2000 ∧ ∀ p, H p = none → Q (.ref p) (upd H p (StO X.prog X.w p (onceI ns).length))) := by
  intro pins s σ H xs us Q I r h
  obtain ⟨a, ns, rfl, hl, few, q⟩ := h
  obtain ⟨u, rfl, ru⟩ := vals1 r
  cases (show u = Value.ref a from ru)
  obtain ⟨its, rv, pl, _⟩ := I.list hl
  have hi : IntsAre its ns := intsAre_of rv
  have len := rv.length
  rw [List.length_map] at len
  refine call_set_list (I.ok.hd hc) pl.isList (ns := ns) (by simpa using hi) (by rw [List.size_toArray, ← len]; show ns.length + 1 < 4096; omega) fun h' tk hS kept => ?_
  have e : its.toArray.size = ns.length := by rw [List.size_toArray, ← len]
  rw [e] at hS
  have ok : SetP X.prog X.w s.heap.objs.size (onceI ns).length h' := ⟨_, hS⟩
  exact ⟨.ref _, _, I.laid (t' := tk) (a := s.heap.objs.size) (o := StO X.prog X.w s.heap.objs.size (onceI ns).length) (h' := h') (fun b o e => kept b o (Heap.lt_size e) e) (Nat.le_refl _) (stO_ok ok), rfl, q _ (I.hok.fresh (Nat.le_refl _))⟩
theorem call_lenSet : CallR X (.builtin "len") (fun xs H Q => ∃ (a : Addr) (n : Nat), xs = [.ref a] ∧ H a = some (StO X.prog X.w a n) ∧ Q (.int n) H) := by
  intro pins s σ H xs us Q I r h
  obtain ⟨a, n, rfl, ha, q⟩ := h
  obtain ⟨u, rfl, ru⟩ := vals1 r
  cases (show u = Value.ref a from ru)
  obtain ⟨⟨S, o, es, ep, t, e1, e2, e3, e4, e5, e6, e7, e8⟩, _, _⟩ := (show ObjOk X.prog X.w H s.heap a (StO X.prog X.w a n) from I.hok a _ ha)
  refine call_len_set e1 e2 e3 e7 (by have : es.size < 4096 := e6; omega) ?_
  rw [e8]
  exact ⟨.int n, H, I.tok _, ⟨_, rfl⟩, q⟩
end
end L2
namespace L2
open PySem PySem.Spec PyProof PyProof.Rows
section
variable {prog : Program} {w : World} {A : Around} {E : Value → Shared → Prop} {s : Shared}
theorem tree_kw {id : String} {b : Builtin} {args : List Value} {kw : List (Str × Value)} {Q : Value → Shared → Prop} (hk : builtinKind id = none) (hp : plainId id = true) (hb : entryFor table id = some b) (ha : argsOk id ⟨args, kw⟩)
    (hc : wpAny (model prog w) A.in1 (b ⟨args, kw⟩) (fun fin s' => match fin with
      | .done f => (match (Except.ok f : Result) with | .ok (.ret v) => Q v s' | .ok _ => False | .error e => E e s')
      | .again c' => c'.quiet = true ∧ codeAny (model prog w) A c' (fun r s' => match r with | .ok (.ret v) => Q v s' | .ok _ => False | .error e => E e s') s') E s) :
    wpAny (model prog w) A (call (.builtin id) args kw) Q E s := by
  refine wpAny_call (codeAny_call_builtin hp hb ?_)
  simp only [checkBuiltinCall, hk]
  cases hsig : Manifest.signature? id with
  | none => exact wpAny_pure hc
  | some sig =>
    simp only [argsOk, hsig] at ha
    have h2 : Bind.checkArgs id sig ⟨args, kw⟩ = pure () := ha
    show wpAny _ A.in1 (Bind.checkArgs id sig ⟨args, kw⟩) _ _ s
    rw [h2]
    exact wpAny_pure hc
theorem args_minD (a d : Value) : argsOk "min" ⟨[a], [(Str.ofString "default", d)]⟩ := by unfold argsOk; kernel_rfl
end
section
variable {prog : Program} {w : World} {A : Around} {R : Result → Shared → Prop} {I : Addr} {fp wr : List Addr} {n : Nat} {P : Nat → Value → Prop} {St : Nat → Heap → Prop} {kw : List (Str × Value)}
theorem minD_loop (W : Walks prog w A.in1 I fp wr n P St) (bt : Nat → Nat → Bool) (hcmp : CmpOf prog w A.in1 .Lt P bt) (S : Addr) (hSf : S ∉ fp) :
    ∀ (k j : Nat) (s : Shared) (vb : Value) (c : Nat), n - (j + 1) = k → j + 1 ≤ n → St (j + 1) s.heap → P (argBest bt j) vb →
    s.heap.get? S = some { cls := .type "list", dict := none, data := .seq #[vb, vb] c, slots := #[] } →
    (∀ v h' tk, P (argBest bt (n - 1)) v → (∀ b o, b ∉ wr → b ≠ S → s.heap.get? b = some o → h'.get? b = some o) → R (.ok (.ret v)) { s with heap := h', toks := tk }) →
    codeAny (model prog w) A (.builtin "min.loop" ⟨[.ref I, .none, .ref S], kw⟩) R s := by
  have hSw : S ∉ wr := fun h => hSf (W.sub _ h)
  have hname : (toString "min" ++ toString ".loop" : String) = "min.loop" := by decide
  intro k
  induction k with
  | zero =>
    intro j s vb c hk hj hst hPb hS hR
    have hin : j + 1 = n := by omega
    refine codeAny_builtin F.entry_min_loop ?_
    rw [Around.under_plainId F.plain_min_loop _]
    show wpAny _ A.in1 (seqItems? (.ref S) >>= _) _ _ s
    refine wpAny_bind (wpAny_seqItems hS rfl ?_)
    show wpAny _ A.in1 (tryCatch (pyNext (.ref I)) _ >>= _) _ _ s
    refine wpAny_bind (wpAny_tryCatch (W.done s _ _ (hin ▸ hst) fun h' tk hk' => ?_))
    have hS' := hk' S _ hSw hS
    show wpAny _ A.in1 (updateSeq S (fun _ => #[]) >>= _) _ _ _
    refine wpAny_bind ?_
    refine wpAny_updateSeq hS' rfl (wpAny_bind (wpAny_letGo (wpAny_pure ?_)))
    exact hR vb _ tk (by rw [← hin]; exact hPb) fun b o hbw hbS e => (Heap.get?_update_other _ _ (Ne.symm hbS)).trans (hk' b o hbw e)
  | succ k ih =>
    intro j s vb c hk hj hst hPb hS hR
    have hlt : j + 1 < n := by omega
    refine codeAny_builtin F.entry_min_loop ?_
    rw [Around.under_plainId F.plain_min_loop _]
    show wpAny _ A.in1 (seqItems? (.ref S) >>= _) _ _ s
    refine wpAny_bind (wpAny_seqItems hS rfl ?_)
    show wpAny _ A.in1 (tryCatch (pyNext (.ref I)) _ >>= _) _ _ s
    refine wpAny_bind (wpAny_tryCatch (W.item (j + 1) s _ _ hlt hst fun v h' tk hP hst' hk' => ?_))
    have hS' := hk' S _ hSw hS
    show wpAny _ A.in1 (tryCatch (holding [v, v] (richCompare .Lt v vb >>= _)) _ >>= _) _ _ _
    refine wpAny_bind (wpAny_tryCatch (wpAny_holding (wpAny_bind (hcmp (j + 1) (argBest bt j) v vb _ _ _ hP hPb ?_))))
    refine wpAny_bind (wpAny_holding (wpAny_truthy_bool ?_))
    refine wpAny_bind (wpAny_letGo (wpAny_pure ?_))
    cases hb : bt (j + 1) (argBest bt j) with
    | true =>
      simp only [if_true]
      refine wpAny_bind ?_
      refine wpAny_updateSeq hS' rfl (wpAny_bind (wpAny_letGo ?_))
      rw [hname]
      refine wpAny_pure ⟨plainId_quiet F.plain_min_loop _, ih (j + 1) _ v _ (by omega) hlt (W.frame _ _ _ hst' fun b hbf o e => ?_) (by simp only [argBest, hb, if_true]; exact hP) (Heap.get?_update_self _ hS' rfl) fun v' h'' tk'' hP' hk'' => ?_⟩
      · exact (Heap.get?_update_other _ _ (fun h : S = b => hSf (by rw [h]; exact hbf))).trans e
      · exact hR v' h'' tk'' hP' fun b o hbw hbS e => hk'' b o hbw hbS ((Heap.get?_update_other _ _ (Ne.symm hbS)).trans (hk' b o hbw e))
    | false =>
      simp only [Bool.false_eq_true, if_false]
      refine wpAny_bind (wpAny_letGo ?_)
      rw [hname]
      refine wpAny_pure ⟨plainId_quiet F.plain_min_loop _, ih (j + 1) _ vb c (by omega) hlt hst' (by simp only [argBest, hb, Bool.false_eq_true, if_false]; exact hPb) hS' fun v' h'' tk'' hP' hk'' => ?_⟩
      exact hR v' h'' tk'' hP' fun b o hbw hbS e => hk'' b o hbw hbS (hk' b o hbw e)
theorem minD_first (W : Walks prog w A.in1 I fp wr n P St) (bt : Nat → Nat → Bool) (hcmp : CmpOf prog w A.in1 .Lt P bt) (S : Addr) (hSf : S ∉ fp) (d : Value) {s : Shared} {c : Nat} (hst : St 0 s.heap)
    (hS : s.heap.get? S = some { cls := .type "list", dict := none, data := .seq #[] c, slots := #[] })
    (h0 : n = 0 → ∀ h' tk, (∀ b o, b ∉ wr → b ≠ S → s.heap.get? b = some o → h'.get? b = some o) → R (.ok (.ret d)) { s with heap := h', toks := tk })
    (hR : 0 < n → ∀ v h' tk, P (argBest bt (n - 1)) v → (∀ b o, b ∉ wr → b ≠ S → s.heap.get? b = some o → h'.get? b = some o) → R (.ok (.ret v)) { s with heap := h', toks := tk }) :
    codeAny (model prog w) A (.builtin "min.loop" ⟨[.ref I, .none, .ref S], [(Str.ofString "default", d)]⟩) R s := by
  have hSw : S ∉ wr := fun h => hSf (W.sub _ h)
  have hname : (toString "min" ++ toString ".loop" : String) = "min.loop" := by decide
  refine codeAny_builtin F.entry_min_loop ?_
  rw [Around.under_plainId F.plain_min_loop _]
  show wpAny _ A.in1 (seqItems? (.ref S) >>= _) _ _ s
  refine wpAny_bind (wpAny_seqItems hS rfl ?_)
  show wpAny _ A.in1 (tryCatch (pyNext (.ref I)) _ >>= _) _ _ s
  rcases Nat.eq_zero_or_pos n with hn | hn
  · refine wpAny_bind (wpAny_tryCatch (W.done s _ _ (hn ▸ hst) fun h' tk hk' => ?_))
    refine wpAny_bind (wpAny_rule (wpAny_pure ?_))
    exact h0 hn h' tk fun b o hbw hbS e => hk' b o hbw e
  · refine wpAny_bind (wpAny_tryCatch (W.item 0 s _ _ hn hst fun v h' tk hP hst' hk' => ?_))
    have hS' := hk' S _ hSw hS
    show wpAny _ A.in1 (updateSeq S (fun _ => #[v, v]) >>= _) _ _ _
    refine wpAny_bind ?_
    refine wpAny_updateSeq hS' rfl ?_
    rw [hname]
    refine wpAny_pure ⟨plainId_quiet F.plain_min_loop _, minD_loop W bt hcmp S hSf _ 0 _ v _ rfl hn (W.frame _ _ _ hst' fun b hbf o e => ?_) hP (Heap.get?_update_self _ hS' rfl) fun v' h'' tk'' hP' hk'' => ?_⟩
    · exact (Heap.get?_update_other _ _ (fun h : S = b => hSf (by rw [h]; exact hbf))).trans e
    · exact hR hn v' h'' tk'' hP' fun b o hbw hbS e => hk'' b o hbw hbS ((Heap.get?_update_other _ _ (Ne.symm hbS)).trans (hk' b o hbw e))
end
section
variable {prog : Program} {w : World} {A : Around} {E : Value → Shared → Prop} {s : Shared}
theorem minD_walk {x d : Value} {Q : Value → Shared → Prop}
    (h : wpAny (model prog w) A.in1 (pyIter x) (fun it s₂ => ∃ I fp wr n P St bt, it = .ref I ∧ Walks prog w A.in1 I fp wr n P St ∧ St 0 s₂.heap ∧ (∀ b ∈ fp, b < s₂.heap.objs.size) ∧ CmpOf prog w A.in1 .Lt P bt ∧
      (n = 0 → ∀ h' tk, (∀ b o, b ∉ wr → s₂.heap.get? b = some o → h'.get? b = some o) → Q d { s₂ with heap := h', toks := tk }) ∧
      (0 < n → ∀ v h' tk, P (argBest bt (n - 1)) v → (∀ b o, b ∉ wr → s₂.heap.get? b = some o → h'.get? b = some o) → Q v { s₂ with heap := h', toks := tk })) E s) :
    wpAny (model prog w) A (call (.builtin "min") [x] [(Str.ofString "default", d)]) Q E s := by
  have hname : (toString "min" ++ toString ".loop" : String) = "min.loop" := by decide
  refine tree_kw F.kind_min F.plain_min F.entry_min (args_minD _ _) ?_
  show wpAny _ A.in1 (Builtin.Builtins.bindParams "min" ["key", "default"] 0 ⟨[], [(Str.ofString "default", d)]⟩ >>= _) _ _ s
  refine wpAny_bind (wpAny_of_eq (show Builtin.Builtins.bindParams "min" ["key", "default"] 0 ⟨[], [(Str.ofString "default", d)]⟩ = pure [none, some d] from by kernel_rfl) ?_)
  refine wpAny_bind (wpAny_pure ?_)
  refine wpAny_bind (wpAny_mono h (fun it s₂ h₂ => ?_) fun _ _ e => e)
  obtain ⟨I, fp, wr, n, P, St, bt, rfl, W, hst, hfp, hcmp, hQ0, hQ⟩ := h₂
  refine wpAny_bind (wpAny_newObj_type ?_)
  have hSf : s₂.heap.objs.size ∉ fp := fun hm => Nat.lt_irrefl _ (hfp _ hm)
  rw [hname]
  have kp : ∀ {h' : Heap}, (∀ b o, b ∉ wr → b ≠ s₂.heap.objs.size → (s₂.heap.push { cls := .type "list", dict := none, data := .seq #[] 0, slots := #[] }).get? b = some o → h'.get? b = some o) → ∀ b o, b ∉ wr → s₂.heap.get? b = some o → h'.get? b = some o := fun {h'} k b o hbw e => k b o hbw (Nat.ne_of_lt (Heap.lt_size e)) (Heap.get?_push_of_some _ e)
  refine wpAny_pure ⟨plainId_quiet F.plain_min_loop _, minD_first W bt hcmp s₂.heap.objs.size hSf d (W.frame _ _ _ hst fun b _ o e => Heap.get?_push_of_some _ e) (Heap.get?_push_size _ rfl) (fun hn h' tk hk => ?_) (fun hn v h' tk hP hk => ?_)⟩
  · exact hQ0 hn h' tk fun b o hbw e => hk b o hbw (Nat.ne_of_lt (Heap.lt_size e)) (Heap.get?_push_of_some _ e)
  · exact hQ hn v h' tk hP fun b o hbw e => hk b o hbw (Nat.ne_of_lt (Heap.lt_size e)) (Heap.get?_push_of_some _ e)
end
section
variable {X : Cx}
def tMinD (K : PySem.W.Frag) (ta tk : TA) : TE := fun σ H Q => ta σ H fun vs H1 => tk σ H1 fun ws H2 => ∃ (p : Addr) (ns : List Int) (d : V), vs = [.ref p] ∧ ws = [d] ∧ SqL K H2 p (ns.map V.int) ∧ (ns = [] → Q d H2) ∧ ∀ M, M ∈ ns → (∀ a ∈ ns, M ≤ a) → Q (.int M) H2
theorem pe_minD {x : Str} {p pos kpos : Pos} {e ef : Expr} {ta tk : TA} (hc : X.calm = true) (hg : Gl X x) (hm : X.mg x = none) (hv : bootBuiltins x = some (.builtin "min")) (ha : PA X [e] ta) (hk : PK X [⟨some "default", ef, kpos⟩] tk) (hn : x ≠ "__name__" := by decide) (hdb : (x == ("__debug__" : Str)) = false := by decide)
    (h1 : backTo pos (starEach [e] X.env) = (false, eval e X.env) :: backTo pos (starEach [] X.env) := by rfl) (h2 : (backTo pos (starEach [e] X.env)).any (·.1) = false := by rfl) :
    PE X (.Call (.Name x p) [e] [⟨some "default", ef, kpos⟩] pos) (tMinD X.K ta tk) := by
  intro pins s σ H Q I h
  refine wpAny_Call_Name_kw (ld_blt I hg hm hv ?_ hn hdb)
  refine callWith_kw (thn (ha pos pins s σ H _ I h) fun us s1 ⟨vs, H1, I1, r1, q1⟩ => thn (hk pos pins s1 σ H1 _ I1 q1) fun ws s2 ⟨zs, H2, I2, r2, q2⟩ => ?_) h1 h2
  obtain ⟨a, ns, d, rfl, rfl, hl, q0, q⟩ := q2
  obtain ⟨u1, rfl, z1⟩ := vals1 r1
  obtain ⟨u2, rfl, z2⟩ := vals1 r2
  cases (show u1 = Value.ref a from z1)
  obtain ⟨its, rv, pl, _⟩ := I2.list hl
  have i1 : IntsAre its ns := intsAre_of rv
  obtain ⟨xs, e⟩ := i1.allInts.items
  have hns : ns = xs.toList.map (·.1) := by rw [← i1.numsOf, ← nums_intItems, ← e]
  have hll := pl.isList
  rw [e] at hll
  refine minD_walk (iter_intList hll fun s₂ e st hfp hlI => ?_)
  subst e
  refine ⟨_, _, _, _, _, _, _, rfl, Walks.list (A := X.A.in1) (I2.ok.hd hc) _ a hlI (intItems xs), st, hfp, CmpOf.ints_lt (numAt xs) (fun _ _ => intItems_at), fun h0 h' tk hk => ?_, fun h0 v h' tk hP hk => ?_⟩
  · refine ⟨d, H2, I2.kept (old_kept hk), z2, q0 ?_⟩
    have : xs.size = 0 := by simpa [intItems] using h0
    rw [hns]
    have e0 : xs.toList = [] := List.eq_nil_of_length_eq_zero (by rw [Array.length_toList]; exact this)
    rw [e0]
    rfl
  · have hsz : 0 < xs.size := by simpa [intItems] using h0
    have hP' : (intItems xs)[argBest (fun i j => decide (numAt xs i < numAt xs j)) (xs.size - 1)]? = some v := by simpa [intItems] using hP
    obtain ⟨t, rfl⟩ := intItems_at hP'
    obtain ⟨g1, g2⟩ := argBest_lt (numAt xs) (xs.size - 1)
    refine ⟨.int _, H2, I2.kept (old_kept hk), ⟨t, rfl⟩, q _ ?_ fun b hb => ?_⟩
    · rw [hns, numAt_eq]; exact getD_mem (by rw [List.length_map, Array.length_toList]; omega)
    · rw [hns] at hb
      obtain ⟨j, hj, rfl⟩ := mem_getD hb
      rw [List.length_map, Array.length_toList] at hj
      rw [← numAt_eq]; exact g2 j (by omega)
end
end L2
namespace L2
open PySem PySem.Spec PySem.W PyProof.Rows
def BtZ (Z : List Addr) (H H' : Hp) : Prop := ∀ b o, b ∉ Z → H b = some o → H' b = some o
def NTZ (H : Hp) (Z : List Addr) : Prop := ∀ a ∈ Z, NT H a
section
variable {K : Frag} {H H' H2 : Hp} {Z : List Addr} {a b : Addr}
theorem BtZ.refl : BtZ Z H H := fun _ _ _ h => h
theorem BtZ.of (e : Same H H') : BtZ Z H H' := fun b o _ h => e b o h
theorem BtZ.one (h : a ∈ Z) (e : BtA a H H') : BtZ Z H H' := fun b o n q => e b o (fun z => n (by rw [z]; exact h)) q
theorem BtZ.trans (e : BtZ Z H H') (f : BtZ Z H' H2) : BtZ Z H H2 := fun b o n h => f b o n (e b o n h)
theorem BtZ.upd {o : HO} (h : a ∈ Z) : BtZ Z H (L2.upd H a o) := .one h .upd
theorem BtZ.mono {Z2 : List Addr} (e : BtZ Z H H') (h : ∀ x ∈ Z, x ∈ Z2) : BtZ Z2 H H' := fun b o n q => e b o (fun z => n (h b z)) q
theorem BtZ.same (e : BtZ Z H H') (h : ∀ x ∈ Z, H2 x = none) (s : Same H2 H) : Same H2 H' := fun b o q => e b o (fun z => by rw [h b z] at q; cases q) (s b o q)
theorem BtZ.tup {r : Addr} {vs : List V} (nt : NTZ H Z) (e : BtZ Z H H') (h : SqT K H r vs) : SqT K H' r vs := by
  rcases h with (h | ⟨o, h⟩) | h
  · exact .inl (.inl (e _ _ (fun z => (nt _ z _ h).1 _ rfl) h))
  · exact .inl (.inr ⟨o, e _ _ (fun z => (nt _ z _ h).2 _ _ rfl) h⟩)
  · exact .inr h
mutual
theorem DatAt.butZ (nt : NTZ H Z) (e : BtZ Z H H') : ∀ {v : V} {d : Dt}, DatAt K H v d → DatAt K H' v d
  | v, .non, h => by simpa [DatAt] using h
  | v, .int i, h => by simpa [DatAt] using h
  | v, .str i, h => by simpa [DatAt] using h
  | v, .tup ds, h => by
    obtain ⟨r, vs, rfl, h1, h2⟩ := h.un
    exact .tup (BtZ.tup nt e h1) (DatsAt.butZ nt e h2)
theorem DatsAt.butZ (nt : NTZ H Z) (e : BtZ Z H H') : ∀ {vs : List V} {ds : List Dt}, DatsAt K H vs ds → DatsAt K H' vs ds
  | vs, [], h => by
    rw [h.un0]
    exact .nil
  | vs, d :: ds, h => by
    obtain ⟨v, r, rfl, h1, h2⟩ := h.un
    exact .cons (DatAt.butZ nt e h1) (DatsAt.butZ nt e h2)
end
theorem LsM.butZ {ds : List Dt} (h : LsM K H b ds) (nt : NTZ H Z) (e : BtZ Z H H') (n : b ∉ Z) : LsM K H' b ds := by
  obtain ⟨vs, h1, h2⟩ := h
  exact ⟨vs, e _ _ n h1, h2.butZ nt e⟩
end
end L2
namespace K30
open PySem L2 FW PyProof.Rows
def top (i : Nat) : Stmt := PySem.Challenge.pw_flipwright_k30_parts_kept_once.main.body.getD i (.Pass ⟨0, 0, 0, 0⟩)
abbrev s_NoText_init : Stmt := inClass (top 5) 0
abbrev s_NoName_init : Stmt := inClass (top 6) 0
abbrev s_Graphs_init : Stmt := inClass (top 12) 0
abbrev s_Graphs_keep : Stmt := inClass (top 12) 1
abbrev s_Graphs_leaf : Stmt := inClass (top 12) 2
abbrev s_Graphs_asked : Stmt := inClass (top 12) 3
abbrev s_Graphs_at : Stmt := inClass (top 12) 4
abbrev s_Graphs_size : Stmt := inClass (top 12) 5
abbrev s_Graphs_first_site : Stmt := inClass (top 12) 7
abbrev s_law_cell_at : Stmt := top 14
abbrev s_law_whole : Stmt := top 15
abbrev s_law_mix : Stmt := top 16
abbrev s_law_same : Stmt := top 17
abbrev s_law_word : Stmt := top 18
abbrev s_law_outcome : Stmt := top 19
abbrev s_law_sites : Stmt := top 20
abbrev s_law_children : Stmt := top 21
abbrev s_law_due : Stmt := top 22
abbrev s_law_kept : Stmt := top 23
abbrev s_law_refused : Stmt := top 24
abbrev s_law_done : Stmt := top 25
abbrev s_law_at_last : Stmt := top 26
abbrev s_law : Stmt := top 27
theorem sc_Graphs_init : FnScope ["self", "most"] ["self", "most"] (defScope s_Graphs_init) := ⟨rfl, rfl, rfl, by decide +kernel, rfl, by decide +kernel, by decide +kernel⟩
theorem sc_Graphs_keep : FnScope ["self", "held"] ["self", "held"] (defScope s_Graphs_keep) := ⟨rfl, rfl, rfl, by decide +kernel, rfl, by decide +kernel, by decide +kernel⟩
theorem sc_Graphs_leaf : FnScope ["self", "outcome"] ["self", "outcome"] (defScope s_Graphs_leaf) := ⟨rfl, rfl, rfl, by decide +kernel, rfl, by decide +kernel, by decide +kernel⟩
theorem sc_Graphs_asked : FnScope ["self", "site", "children", "below"] ["self", "site", "children"] (defScope s_Graphs_asked) := ⟨rfl, rfl, rfl, by decide +kernel, rfl, by decide +kernel, by decide +kernel⟩
theorem sc_Graphs_at : FnScope ["self", "part", "held"] ["self", "part"] (defScope s_Graphs_at) := ⟨rfl, rfl, rfl, by decide +kernel, rfl, by decide +kernel, by decide +kernel⟩
theorem sc_Graphs_size : FnScope ["self"] ["self"] (defScope s_Graphs_size) := ⟨rfl, rfl, rfl, by decide +kernel, rfl, by decide +kernel, by decide +kernel⟩
theorem sc_Graphs_first_site : FnScope ["self", "parts"] ["self", "parts"] (defScope s_Graphs_first_site) := ⟨rfl, rfl, rfl, by decide +kernel, rfl, by decide +kernel, by decide +kernel⟩
theorem sc_law_cell_at : FnScope ["_law_script", "_law_k"] ["_law_script", "_law_k"] (defScope s_law_cell_at) := ⟨rfl, rfl, rfl, by decide +kernel, rfl, by decide +kernel, by decide +kernel⟩
theorem sc_law_whole : FnScope ["_law_found"] ["_law_found"] (defScope s_law_whole) := ⟨rfl, rfl, rfl, by decide +kernel, rfl, by decide +kernel, by decide +kernel⟩
theorem sc_law_mix : FnScope ["_law_cell", "_law_k", "_law_figure"] ["_law_cell", "_law_k"] (defScope s_law_mix) := ⟨rfl, rfl, rfl, by decide +kernel, rfl, by decide +kernel, by decide +kernel⟩
theorem sc_law_same : FnScope ["_law_found", "_law_due_here", "_law_k"] ["_law_found", "_law_due_here"] (defScope s_law_same) := ⟨rfl, rfl, rfl, by decide +kernel, rfl, by decide +kernel, by decide +kernel⟩
theorem sc_law_word : FnScope ["_law_figure", "_law_letters", "_law_word_here", "_law_k"] ["_law_figure"] (defScope s_law_word) := ⟨rfl, rfl, rfl, by decide +kernel, rfl, by decide +kernel, by decide +kernel⟩
theorem sc_law_outcome : FnScope ["_law_cell", "_law_fields", "_law_k"] ["_law_cell"] (defScope s_law_outcome) := ⟨rfl, rfl, rfl, by decide +kernel, rfl, by decide +kernel, by decide +kernel⟩
theorem sc_law_sites : FnScope ["_law_script", "_law_found", "_law_k"] ["_law_script"] (defScope s_law_sites) := ⟨rfl, rfl, rfl, by decide +kernel, rfl, by decide +kernel, by decide +kernel⟩
theorem sc_law_children : FnScope ["_law_script", "_law_place", "_law_many", "_law_known", "_law_site", "_law_good", "_law_some"] ["_law_script", "_law_place", "_law_many", "_law_known", "_law_site", "_law_good"] (defScope s_law_children) := ⟨rfl, rfl, rfl, by decide +kernel, rfl, by decide +kernel, by decide +kernel⟩
theorem sc_law_due : FnScope ["_law_known", "_law_deed", "_law_limit", "_law_child"] ["_law_known", "_law_deed", "_law_limit"] (defScope s_law_due) := ⟨rfl, rfl, rfl, by decide +kernel, rfl, by decide +kernel, by decide +kernel⟩
theorem sc_law_kept : FnScope ["_law_graphs", "_law_deed", "_law_children_here", "_law_found"] ["_law_graphs", "_law_deed"] (defScope s_law_kept) := ⟨rfl, rfl, rfl, by decide +kernel, rfl, by decide +kernel, by decide +kernel⟩
theorem sc_law_refused : FnScope ["_law_graphs", "_law_deed", "_law_due_here", "_law_kind", "e", "_law_other"] ["_law_graphs", "_law_deed", "_law_due_here"] (defScope s_law_refused) := ⟨rfl, rfl, rfl, by decide +kernel, rfl, by decide +kernel, by decide +kernel⟩
theorem sc_law_done : FnScope ["_law_graphs", "_law_known", "_law_deed", "_law_limit", "_law_due_here", "_law_found", "_law_first"] ["_law_graphs", "_law_known", "_law_deed", "_law_limit"] (defScope s_law_done) := ⟨rfl, rfl, rfl, by decide +kernel, rfl, by decide +kernel, by decide +kernel⟩
theorem sc_law_at_last : FnScope ["_law_graphs", "_law_known", "_law_other", "_law_k"] ["_law_graphs", "_law_known"] (defScope s_law_at_last) := ⟨rfl, rfl, rfl, by decide +kernel, rfl, by decide +kernel, by decide +kernel⟩
theorem sc_law : FnScope ["_law_script", "_law_sites_here", "_law_limit", "_law_graphs", "_law_known", "_law_place", "_law_cell", "_law_deed", "_law_turn", "_law_many", "_law_children_here"] ["_law_script"] (defScope s_law) := ⟨rfl, rfl, rfl, by decide +kernel, rfl, by decide +kernel, by decide +kernel⟩
structure Txt (K : PySem.W.Frag) (mg : Str → Option Value) (C : Addr) : Prop where
  Graphs_ : mg "Graphs" = some (.ref C)
  cl : Cls K C
  n1 : NoAttr K C "most"
  n2 : NoAttr K C "kept"
  n3 : NoAttr K C "numbers"
  len_ : mg "len" = none
  min_ : mg "min" = none
  set_ : mg "set" = none
  range_ : mg "range" = none
  isinstance_ : mg "isinstance" = none
  int_ : mg "int" = none
  bool_ : mg "bool" = none
  str_ : mg "str" = none
  tuple_ : mg "tuple" = none
  list_ : mg "list" = none
  sorted_ : mg "sorted" = none
abbrev nI (c : Nat) : V := .int (c : Int)
def datQ (K : PySem.W.Frag) (H : Hp) (Q : VK) (d : Dt) : Prop := ∀ v H', Same H H' → DatAt K H' v d → Q v H'
theorem atI0 {xs : List V} {i : Nat} {x : V} (h : xs[i]? = some x) : atI xs (0 + (i : Int)) = some x := by
  rw [Int.zero_add]
  exact atI_nat h
theorem get_ex {α : Type} {l : List α} {i : Nat} (h : i < l.length) : ∃ x, l[i]? = some x := ⟨l[i], List.getElem?_eq_getElem h⟩
theorem small_mul {x y : Int} (h : -(2 ^ 62) ≤ y ∧ y ≤ 2 ^ 62) : IntMulOk x y := .of_right (intBits_le_64 (by omega) (by omega))
theorem log_small {x : Int} (h : -(2 ^ 62) ≤ x ∧ x ≤ 2 ^ 62) : x.natAbs.log2 < 9000 := Sm.log (show x.natAbs < 2 ^ 2000 from Nat.lt_of_lt_of_le (show x.natAbs < 2 ^ 63 by omega) (Nat.pow_le_pow_right (by decide) (by decide)))
theorem kit_ff {K : PySem.W.Frag} {t n : String} (h : PySem.W.kitMeta n = true) (e : (fastBuiltinMro t).map (·.contains (.type n)) = some false) (hne : (Value.type t == Value.type n) = false) : PySem.W.kitOne K (.type t) (.type n) = some false := by
  unfold PySem.W.kitOne
  rw [hne]
  show PySem.W.kitCls K (.type t) (.type n) = some false
  show (if PySem.W.kitMeta n = true then PySem.W.subIn K (.type t) (.type n) else none) = some false
  rw [if_pos h]
  exact e
end K30
namespace K30
open PySem L2 FW PyProof.Rows
section
variable {X : Cx}
theorem call_isiA : CallR X (.builtin "isinstance") (fun xs H Q => ∃ x n t b, xs = [x, .ty n] ∧ ((TyOf X.K H x (.type t) ∧ PySem.W.kitOne X.K (.type t) (.type n) = some b) ∨ (∃ a vs, x = .ref a ∧ SqT X.K H a vs ∧ PySem.W.kitOne X.K (.type "tuple") (.type n) = some b)) ∧ Q (.bl b) H) := by
  intro pins s σ H xs us Q I r h
  obtain ⟨x, n, t, b, e, hk, q⟩ := h
  rcases hk with ⟨ty, k⟩ | ⟨a, vs, rfl, sq, k⟩
  · exact call_isi pins s σ H xs us Q I r ⟨x, n, _, b, e, ty, k, q⟩
  · exact call_isiT pins s σ H xs us Q I r ⟨a, vs, n, b, e, sq, k, q⟩
theorem call_lenB : CallR X (.builtin "len") (fun xs H Q => ∃ p ys, xs = [.ref p] ∧ (SqL X.K H p ys ∨ SqT X.K H p ys) ∧ (ys.length ≤ sizeLine → Q (.int ys.length) H)) := by
  intro pins s σ H xs us Q I r h
  obtain ⟨p, ys, e, hs, q⟩ := h
  have b : ys.length ≤ sizeLine := by
    rcases hs with hs | hs
    · obtain ⟨_, _, _, hz⟩ := I.list hs
      exact hz
    · obtain ⟨_, _, _, hz⟩ := I.tuple hs
      exact hz
  exact call_len_seq pins s σ H xs us Q I r ⟨p, ys, e, hs, q b⟩
def rIxA (K : PySem.W.Frag) : R2 := fun x y H Q => ∃ p xs i v, x = .ref p ∧ y = .int i ∧ (SqL K H p xs ∨ SqT K H p xs) ∧ atI xs i = some v ∧ Q v H
theorem ix_any : IxR X (rIxA X.K) := by
  intro value slice pins s σ H x y v u Q I rx ry h hs
  obtain ⟨p, xs, i, z, e1, e2, hq, he, q⟩ := h
  rcases hq with hq | hq
  · exact ix_list value slice pins s σ H x y v u Q I rx ry ⟨p, xs, i, z, e1, e2, hq, he, q⟩ hs
  · exact ix_tup value slice pins s σ H x y v u Q I rx ry ⟨p, xs, i, z, e1, e2, hq, he, q⟩ hs
end
section
variable {K : PySem.W.Frag}
theorem kit_ib : PySem.W.kitOne K (.type "int") (.type "bool") = some false := kit_ff (by decide +kernel) (by decide +kernel) (by decide +kernel)
theorem kit_it : PySem.W.kitOne K (.type "int") (.type "tuple") = some false := kit_ff (by decide +kernel) (by decide +kernel) (by decide +kernel)
theorem kit_il : PySem.W.kitOne K (.type "int") (.type "list") = some false := kit_ff (by decide +kernel) (by decide +kernel) (by decide +kernel)
theorem kit_tl : PySem.W.kitOne K (.type "tuple") (.type "list") = some false := kit_ff (by decide +kernel) (by decide +kernel) (by decide +kernel)
theorem kit_lt : PySem.W.kitOne K (.type "list") (.type "tuple") = some false := kit_ff (by decide +kernel) (by decide +kernel) (by decide +kernel)
theorem kit_st : PySem.W.kitOne K (.type "str") (.type "tuple") = some false := kit_ff (by decide +kernel) (by decide +kernel) (by decide +kernel)
theorem kit_sl : PySem.W.kitOne K (.type "str") (.type "list") = some false := kit_ff (by decide +kernel) (by decide +kernel) (by decide +kernel)
theorem kit_si : PySem.W.kitOne K (.type "str") (.type "int") = some false := kit_ff (by decide +kernel) (by decide +kernel) (by decide +kernel)
theorem kit_nt : PySem.W.kitOne K (.type "NoneType") (.type "tuple") = some false := kit_ff (by decide +kernel) (by decide +kernel) (by decide +kernel)
theorem kit_nl : PySem.W.kitOne K (.type "NoneType") (.type "list") = some false := kit_ff (by decide +kernel) (by decide +kernel) (by decide +kernel)
end
def sp_cell (K : PySem.W.Frag) : Sp := fun vs H Q _ => ∃ (a : Addr) (ns : List Int) (k : Nat), vs = [.ref a, nI k] ∧ SqL K H a (ns.map V.int) ∧ ∀ c : Int, Q (.int c) H
def sp_mix : Sp := fun vs H Q _ => ∃ c k : Int, vs = [.int c, .int k] ∧ 0 ≤ k ∧ k ≤ 1000 ∧ ∀ m : Int, 0 ≤ m → m < 2147483587 → Q (.int m) H
def sp_whole : Sp := fun vs H Q _ => ∃ i, vs = [.int i] ∧ Q (.bl true) H
section
variable {P : Program} {w : World} {K : PySem.W.Frag} {mg : Str → Option Value} {base : Heap} {C : Addr}
theorem ok_law_cell_at {f : Addr} {fd : FuncData} (A : FnAt K mg "_law_cell_at" s_law_cell_at ["_law_script", "_law_k"] f fd) (T : Txt K mg C) : FnOk P w K mg base CX0 1 f fd ["_law_script", "_law_k"] (sp_cell K) := by
  refine A.F.ok sc_law_cell_at (fun vs H Q E h => ?_) (fun cdv Ar outer s H vs Q E hr h => ?_)
  · obtain ⟨a, ns, k, rfl, _⟩ := h
    rfl
  · obtain ⟨a, ns, k, rfl, ha, q⟩ := h
    refine ⟨_, (pss_cons (ps_if (pt_cmpR op_lt (pv 1) (pe_callB call_len_seq (by rfl) T.len_ Boot.«len» (pa_cons (pv 0) pa_nil)) (nomark _)) (pss_one (ps_ret (pe_ix ix_list (pv 0) (pv 1) (fun _ _ => rfl)))) pss_nil)
      (pss_one (ps_ret pe_int))), ?_⟩
    refine ⟨_, rfl, _, rfl, a, _, rfl, .inl ha, _, _, rfl, rfl, _, rfl, iteBB (fun hc => ?_) (fun _ => q 0)⟩
    have hk : k < ns.length := by
      have := of_decide_eq_true hc
      rw [List.length_map] at this
      omega
    exact ⟨_, rfl, _, rfl, a, _, _, .int ns[k], rfl, rfl, ha, atI_nat (by simp [hk]), q _⟩
theorem ok_law_mix {f : Addr} {fd : FuncData} (A : FnAt K mg "_law_mix" s_law_mix ["_law_cell", "_law_k"] f fd) : FnOk P w K mg base CX0 1 f fd ["_law_cell", "_law_k"] sp_mix := by
  refine A.F.ok sc_law_mix (fun vs H Q E h => ?_) (fun cdv Ar outer s H vs Q E hr h => ?_)
  · obtain ⟨a, b, rfl, _⟩ := h
    rfl
  · obtain ⟨n, k, rfl, k0, k1, q⟩ := h
    refine ⟨_, (pss_cons (ps_set (i := 2) sc_law_mix.nd rfl (Or.inl rfl) (pe_op op_mod (pe_op op_mulB (pe_op op_add (pe_op op_add (pe_op op_add (pe_op op_mod (pv 0) pe_int) (pe_op op_mulB (pe_op op_mulB pe_int (pv 1)) (pv 1))) (pv 1)) pe_int) pe_int) pe_int))
      (pss_one (ps_ret (pe_op op_mod (pe_op op_mulB (pv 2) (pv 2)) pe_int)))), ?_⟩
    refine ⟨_, rfl, _, _, rfl, rfl, (by show (0 : Int) < 2147483647; decide), _, rfl, _, _, rfl, rfl, small_mul (by omega), _, rfl, _, _, rfl, rfl, small_mul (by omega), _, _, rfl, rfl, _, rfl, _, _, rfl, rfl, _, _, rfl, rfl, _, _, rfl, rfl, small_mul (by decide), _, _, rfl, rfl, (by show (0 : Int) < 2147483629; decide), ?_⟩
    dsimp only
    have m0 := Int.emod_nonneg ((n % 2147483647 + 7919 * k * k + k + 1) * 48271) (show (2147483629 : Int) ≠ 0 by decide)
    have m1 := Int.emod_lt_of_pos ((n % 2147483647 + 7919 * k * k + k + 1) * 48271) (show (0 : Int) < 2147483629 by decide)
    generalize (n % 2147483647 + 7919 * k * k + k + 1) * 48271 % 2147483629 = m at m0 m1
    refine ⟨_, rfl, _, rfl, _, _, rfl, rfl, small_mul (by omega), _, _, rfl, rfl, (by show (0 : Int) < 2147483587; decide), ?_⟩
    exact q _ (Int.emod_nonneg _ (by decide)) (Int.emod_lt_of_pos _ (by decide))
theorem ok_law_whole {f : Addr} {fd : FuncData} (A : FnAt K mg "_law_whole" s_law_whole ["_law_found"] f fd) (T : Txt K mg C) : FnOk P w K mg base CX0 1 f fd ["_law_found"] sp_whole := by
  refine A.F.ok sc_law_whole (fun vs H Q E h => ?_) (fun cdv Ar outer s H vs Q E hr h => ?_)
  · obtain ⟨a, rfl, _⟩ := h
    rfl
  · obtain ⟨i, rfl, k⟩ := h
    refine ⟨_, (pss_one (ps_ret (pe_and (pe_callB call_isiA (by rfl) T.isinstance_ Boot.«isinstance» (pa_cons (pv 0) (pa_cons (pe_bltn rfl T.int_ Boot.«int» (v := .ty "int") rfl) pa_nil))) (pe_one (pe_not (pe_callB call_isiA (by rfl) T.isinstance_ Boot.«isinstance» (pa_cons (pv 0) (pa_cons (pe_bltn rfl T.bool_ Boot.«bool» (v := .ty "bool") rfl) pa_nil)))))))), ?_⟩
    refine ⟨_, rfl, _, _, _, _, rfl, .inl ⟨.int i, rfl⟩, _, rfl, iteT ?_⟩
    exact ⟨_, rfl, _, _, _, _, rfl, .inl ⟨.int i, kit_ib⟩, _, rfl, k⟩
end
inductive Al (K : PySem.W.Frag) (H : Hp) : Nat → V → V → Prop
  | non {h : Nat} : Al K H h .non .non
  | int {h : Nat} (i : Int) : Al K H h (.int i) (.int i)
  | str {h : Nat} (i : Str) : Al K H h (.str i) (.str i)
  | tup {h : Nat} (r q : Addr) (vs us : List V) (s1 : SqT K H r vs) (s2 : SqT K H q us) (l : vs.length = us.length) (a : ∀ (i : Nat) (x y : V), vs[i]? = some x → us[i]? = some y → Al K H h x y) : Al K H (h + 1) (.ref r) (.ref q)
  | lst {h : Nat} (r q : Addr) (vs us : List V) (s1 : H r = some (.lst vs)) (s2 : H q = some (.lst us)) (l : vs.length = us.length) (a : ∀ (i : Nat) (x y : V), vs[i]? = some x → us[i]? = some y → Al K H h x y) : Al K H (h + 1) (.ref r) (.ref q)
theorem Al.of {K : PySem.W.Frag} {H : Hp} : ∀ (h : Nat) {d : Dt} {v u : V}, d.hgt ≤ h → DatAt K H v d → DatAt K H u d → Al K H h v u := by
  intro h
  induction h with
  | zero =>
    intro d v u hd h1 h2
    cases d with
    | non => rw [h1.non_eq, h2.non_eq]; exact .non
    | int i => rw [h1.int_eq, h2.int_eq]; exact .int i
    | str i => rw [h1.str_eq, h2.str_eq]; exact .str i
    | tup ds => simp [Dt.hgt] at hd
  | succ h ih =>
    intro d v u hd h1 h2
    cases d with
    | non => rw [h1.non_eq, h2.non_eq]; exact .non
    | int i => rw [h1.int_eq, h2.int_eq]; exact .int i
    | str i => rw [h1.str_eq, h2.str_eq]; exact .str i
    | tup ds =>
      obtain ⟨r, vs, rfl, s1, d1⟩ := h1.un
      obtain ⟨q, us, rfl, s2, d2⟩ := h2.un
      refine .tup r q vs us s1 s2 (by rw [d1.length, d2.length]) fun i x y e1 e2 => ?_
      obtain ⟨dx, ex, hx⟩ := d1.get' e1
      obtain ⟨dy, ey, hy⟩ := d2.get' e2
      rw [ex] at ey
      cases ey
      have hm : ∀ {ds : List Dt} {x : Dt}, x ∈ ds → x.hgt ≤ Dt.hgts ds := by
        intro ds
        induction ds with
        | nil => intro x h; cases h
        | cons y ds ih2 =>
          intro x h
          rw [Dt.hgts]
          rcases List.mem_cons.mp h with z | z
          · rw [z]; omega
          · have := ih2 z; omega
      have := hm (List.mem_of_getElem? ex)
      simp only [Dt.hgt] at hd
      exact ih (by omega) hx hy
def sp_same (K : PySem.W.Frag) (h : Nat) : Sp := fun vs H Q _ => ∃ v u, vs = [v, u] ∧ Al K H h v u ∧ Q (.bl true) H
theorem sizeLine62 : (sizeLine : Int) < 2 ^ 62 := by decide +kernel
section
variable {P : Program} {w : World} {K : PySem.W.Frag} {mg : Str → Option Value} {base : Heap} {C : Addr}
set_option maxHeartbeats 4000000 in
theorem ok_law_same {f fW : Addr} {fd dW : FuncData} (A_law_same : FnAt K mg "_law_same" s_law_same ["_law_found", "_law_due_here"] f fd) (A_law_whole : FnAt K mg "_law_whole" s_law_whole ["_law_found"] fW dW) (T : Txt K mg C) : ∀ h : Nat, FnOk P w K mg base CX0 (h + 2) f fd ["_law_found", "_law_due_here"] (sp_same K h) := fun h => by
  have GG : ∃ sp, FnOk P w K mg base CX0 (h + 1) f fd ["_law_found", "_law_due_here"] sp ∧ (∀ h', h = h' + 1 → sp = sp_same K h') := by
    cases h with
    | zero => exact ⟨_, FnOk.no, fun h' z => nomatch z⟩
    | succ N => exact ⟨_, ok_law_same A_law_same A_law_whole T N, fun h' z => by cases z; rfl⟩
  obtain ⟨sp, G_law_same, esp⟩ := GG
  have G_law_whole : FnOk P w K mg base CX0 1 fW dW _ sp_whole := ok_law_whole A_law_whole T
  refine A_law_same.F.ok (k := h + 1) sc_law_same (fun vs H Q E h => ?_) (fun cdv Ar outer s H vs Q E hr h => ?_)
  · obtain ⟨v, u, rfl, _⟩ := h
    rfl
  · obtain ⟨v, u, rfl, al, k⟩ := h
    refine ⟨_, (pss_cons (ps_if (PW.pt (pw_or (pt_val (pe_callB call_isiA (by rfl) T.isinstance_ Boot.«isinstance» (pa_cons (pv 1) (pa_cons (pe_bltn rfl T.tuple_ Boot.«tuple» (v := .ty "tuple") rfl) pa_nil)))) (pw_or1 (pt_val (pe_callB call_isiA (by rfl) T.isinstance_ Boot.«isinstance» (pa_cons (pv 1) (pa_cons (pe_bltn rfl T.list_ Boot.«list» (v := .ty "list") rfl) pa_nil))))))) (pss_cons (ps_if (PW.pt (pw_or (pt_cmpR op_ne (pe_callB call_isiA (by rfl) T.isinstance_ Boot.«isinstance» (pa_cons (pv 0) (pa_cons (pe_bltn rfl T.tuple_ Boot.«tuple» (v := .ty "tuple") rfl) pa_nil))) (pe_callB call_isiA (by rfl) T.isinstance_ Boot.«isinstance» (pa_cons (pv 1) (pa_cons (pe_bltn rfl T.tuple_ Boot.«tuple» (v := .ty "tuple") rfl) pa_nil))) (nomark _)) (pw_or1 (pt_cmpR op_ne (pe_callB call_isiA (by rfl) T.isinstance_ Boot.«isinstance» (pa_cons (pv 0) (pa_cons (pe_bltn rfl T.list_ Boot.«list» (v := .ty "list") rfl) pa_nil))) (pe_callB call_isiA (by rfl) T.isinstance_ Boot.«isinstance» (pa_cons (pv 1) (pa_cons (pe_bltn rfl T.list_ Boot.«list» (v := .ty "list") rfl) pa_nil))) (nomark _))))) (pss_one (ps_ret pe_bl)) pss_nil)
      (pss_cons (ps_if (pt_cmpR op_ne (pe_callB call_lenB (by rfl) T.len_ Boot.«len» (pa_cons (pv 0) pa_nil)) (pe_callB call_lenB (by rfl) T.len_ Boot.«len» (pa_cons (pv 1) pa_nil)) (nomark _)) (pss_one (ps_ret pe_bl)) pss_nil)
      (pss_cons (ps_for PassesOwn.never rfl (pi_range1 rfl T.range_ (pa_cons (pe_callB call_lenB (by rfl) T.len_ Boot.«len» (pa_cons (pv 1) pa_nil)) pa_nil)) (pg_name (i := 2) sc_law_same.nd rfl (Or.inl rfl)) (pss_one (ps_if (pt_not (pt_val (pe_call G_law_same hr rfl A_law_same.m A_law_same.F.kp A_law_same.b .nil pass0 (pa_cons (pe_ix ix_any (pv 0) (pv 2) (fun _ _ => rfl)) (pa_cons (pe_ix ix_any (pv 1) (pv 2) (fun _ _ => rfl)) pa_nil))))) (pss_one (ps_ret pe_bl)) pss_nil)))
      (pss_one (ps_ret pe_bl))))) pss_nil)
      (pss_cons (ps_if (pt_cmpR op_isN (pv 1) pe_non (nomark _)) (pss_one (ps_ret (pe_cmpR op_isN (pv 0) pe_non (nomark _)))) pss_nil)
      (pss_cons (ps_if (pt_val (pe_callB call_isiA (by rfl) T.isinstance_ Boot.«isinstance» (pa_cons (pv 1) (pa_cons (pe_bltn rfl T.int_ Boot.«int» (v := .ty "int") rfl) pa_nil)))) (pss_one (ps_ret (pe_and (pe_call G_law_whole (hr.mono (by omega)) rfl A_law_whole.m A_law_whole.F.kp A_law_whole.b .nil pass0 (pa_cons (pv 0) pa_nil)) (pe_one (pe_cmpR op_eq (pv 0) (pv 1) (nomark _)))))) pss_nil)
      (pss_one (ps_ret (pe_and (pe_callB call_isiA (by rfl) T.isinstance_ Boot.«isinstance» (pa_cons (pv 0) (pa_cons (pe_bltn rfl T.str_ Boot.«str» (v := .ty "str") rfl) pa_nil))) (pe_one (pe_cmpR op_eq (pv 0) (pv 1) (nomark _))))))))), ?_⟩
    cases al with
    | non =>
      refine ⟨_, rfl, _, _, _, _, rfl, .inl ⟨.non, kit_nt⟩, _, rfl, iteF ?_⟩
      refine ⟨_, rfl, _, _, _, _, rfl, .inl ⟨.non, kit_nl⟩, _, rfl, iteF ?_⟩
      refine ⟨_, rfl, rfl, _, rfl, iteT ?_⟩
      exact ⟨_, rfl, rfl, k⟩
    | int i =>
      refine ⟨_, rfl, _, _, _, _, rfl, .inl ⟨.int i, kit_it⟩, _, rfl, iteF ?_⟩
      refine ⟨_, rfl, _, _, _, _, rfl, .inl ⟨.int i, kit_il⟩, _, rfl, iteF ?_⟩
      refine ⟨_, rfl, rfl, _, rfl, iteBB (fun hc => absurd (of_decide_eq_true hc) (fun z => nomatch z)) (fun _ => ?_)⟩
      refine ⟨_, rfl, _, _, _, _, rfl, .inl ⟨.int i, rfl⟩, _, rfl, iteT ?_⟩
      refine ⟨_, rfl, i, rfl, _, rfl, iteT ?_⟩
      refine ⟨_, rfl, _, rfl, rfl, ?_⟩
      rw [decide_eq_true rfl]
      exact k
    | str i =>
      refine ⟨_, rfl, _, _, _, _, rfl, .inl ⟨.str i, kit_st⟩, _, rfl, iteF ?_⟩
      refine ⟨_, rfl, _, _, _, _, rfl, .inl ⟨.str i, kit_sl⟩, _, rfl, iteF ?_⟩
      refine ⟨_, rfl, rfl, _, rfl, iteBB (fun hc => absurd (of_decide_eq_true hc) (fun z => nomatch z)) (fun _ => ?_)⟩
      refine ⟨_, rfl, _, _, _, _, rfl, .inl ⟨.str i, kit_si⟩, _, rfl, iteF ?_⟩
      refine ⟨_, rfl, _, _, _, _, rfl, .inl ⟨.str i, rfl⟩, _, rfl, iteT ?_⟩
      refine ⟨_, rfl, _, rfl, rfl, ?_⟩
      rw [decide_eq_true rfl]
      exact k
    | tup r q vs us s1 s2 l a =>
      cases esp _ rfl
      refine ⟨_, rfl, _, _, "tuple", _, rfl, .inr ⟨q, _, rfl, s2, rfl⟩, _, rfl, iteT ?_⟩
      refine ⟨_, rfl, _, _, "tuple", _, rfl, .inr ⟨r, _, rfl, s1, rfl⟩, _, rfl, _, _, "tuple", _, rfl, .inr ⟨q, _, rfl, s2, rfl⟩, rfl, _, rfl, iteF ?_⟩
      refine ⟨_, rfl, _, _, "tuple", _, rfl, .inr ⟨r, _, rfl, s1, kit_tl⟩, _, rfl, _, _, "tuple", _, rfl, .inr ⟨q, _, rfl, s2, kit_tl⟩, rfl, _, rfl, iteF ?_⟩
      refine ⟨_, rfl, r, vs, rfl, .inr s1, fun _ => ⟨_, rfl, q, us, rfl, .inr s2, fun _ => ⟨rfl, _, rfl, ?_⟩⟩⟩
      rw [l]
      refine iteBB (fun hc => by simp at hc) (fun _ => ?_)
      refine ⟨_, rfl, q, us, rfl, .inr s2, fun hz => ?_⟩
      have z62 := sizeLine62
      refine ⟨_, rfl, by omega, by omega, for_range (lo := 0) (fun i σ H' => H' = H ∧ ∃ o2, σ = [some (.ref r), some (.ref q), o2]) ⟨rfl, none, rfl⟩ ?_ (fun σ H' z => by rw [z.1]; exact k)⟩
      rintro i σ H' hi ⟨rfl, o2, rfl⟩
      have hi' : i < us.length := by omega
      have hx : vs[i]? = some vs[i] := List.getElem?_eq_getElem (by omega)
      have hy : us[i]? = some us[i] := List.getElem?_eq_getElem hi'
      exact ⟨_, rfl, _, rfl, r, vs, _, _, rfl, rfl, .inr s1, atI0 hx, _, rfl, _, rfl, q, us, _, _, rfl, rfl, .inr s2, atI0 hy, _, _, rfl, a i _ _ hx hy, _, rfl, iteF ⟨rfl, _, rfl⟩⟩
    | lst r q vs us s1 s2 l a =>
      cases esp _ rfl
      refine ⟨_, rfl, _, _, _, _, rfl, .inl ⟨.lst s2, kit_lt⟩, _, rfl, iteF ?_⟩
      refine ⟨_, rfl, _, _, _, _, rfl, .inl ⟨.lst s2, rfl⟩, _, rfl, iteT ?_⟩
      refine ⟨_, rfl, _, _, _, _, rfl, .inl ⟨.lst s1, kit_lt⟩, _, rfl, _, _, _, _, rfl, .inl ⟨.lst s2, kit_lt⟩, rfl, _, rfl, iteF ?_⟩
      refine ⟨_, rfl, _, _, _, _, rfl, .inl ⟨.lst s1, rfl⟩, _, rfl, _, _, _, _, rfl, .inl ⟨.lst s2, rfl⟩, rfl, _, rfl, iteF ?_⟩
      refine ⟨_, rfl, r, vs, rfl, .inl (SqL.of s1), fun _ => ⟨_, rfl, q, us, rfl, .inl (SqL.of s2), fun _ => ⟨rfl, _, rfl, ?_⟩⟩⟩
      rw [l]
      refine iteBB (fun hc => by simp at hc) (fun _ => ?_)
      refine ⟨_, rfl, q, us, rfl, .inl (SqL.of s2), fun hz => ?_⟩
      have z62 := sizeLine62
      refine ⟨_, rfl, by omega, by omega, for_range (lo := 0) (fun i σ H' => H' = H ∧ ∃ o2, σ = [some (.ref r), some (.ref q), o2]) ⟨rfl, none, rfl⟩ ?_ (fun σ H' z => by rw [z.1]; exact k)⟩
      rintro i σ H' hi ⟨rfl, o2, rfl⟩
      have hi' : i < us.length := by omega
      have hx : vs[i]? = some vs[i] := List.getElem?_eq_getElem (by omega)
      have hy : us[i]? = some us[i] := List.getElem?_eq_getElem hi'
      exact ⟨_, rfl, _, rfl, r, vs, _, _, rfl, rfl, .inl (SqL.of s1), atI0 hx, _, rfl, _, rfl, q, us, _, _, rfl, rfl, .inl (SqL.of s2), atI0 hy, _, _, rfl, a i _ _ hx hy, _, rfl, iteF ⟨rfl, _, rfl⟩⟩
end
end K30
namespace K30
open PySem L2 FW PyProof.Rows
abbrev tx (r : List Nat) : Str := ⟨r.toArray⟩
theorem tx_len (r : List Nat) : (tx r).length = r.length := by
  show r.toArray.size = _
  rw [List.size_toArray]
theorem tx_cat (a b : List Nat) : tx a ++ tx b = tx (a ++ b) := by
  show (⟨a.toArray ++ b.toArray⟩ : Str) = ⟨(a ++ b).toArray⟩
  rw [List.append_toArray]
def abc : Str := "abcdefghijklmnopqrstuvwxyz"
theorem abc_at : ∀ i, i < 26 → (abc.cps.toList[i]?).isSome = true := by decide +kernel
theorem abc_len : abc.length ≤ sizeLine := by decide +kernel
theorem abc_ix {i : Int} (h0 : 0 ≤ i) (h1 : i < 26) : ∃ c, atI abc.cps.toList i = some c := by
  obtain ⟨j, rfl⟩ : ∃ j : Nat, i = (j : Int) := ⟨i.toNat, by omega⟩
  have h := abc_at j (by omega)
  cases e : abc.cps.toList[j]? with
  | none => rw [e] at h; cases h
  | some c => exact ⟨c, atI_nat e⟩
def sp_word : Sp := fun vs H Q _ => ∃ n : Int, vs = [.int n] ∧ ∀ w : Str, Q (.str w) H
def sp_outcome (K : PySem.W.Frag) : Sp := fun vs H Q _ => ∃ n : Int, vs = [.int n] ∧ 0 ≤ n ∧ n ≤ 2 ^ 40 ∧ ∀ o, Oc o → datQ K H Q o
abbrev fdK (ps : List (Str × Int)) : List (Key × V) := ps.map fun p => (Sum.inr p.1, V.int p.2)
theorem fdK_put (ps : List (Str × Int)) (x : Str) (n : Int) : ∃ qs : List (Str × Int), putK (fdK ps) (Sum.inr x) (.int n) = fdK qs ∧ qs.length ≤ ps.length + 1 := by
  unfold putK
  split
  · refine ⟨ps.map fun p => if p.1 = x then (p.1, n) else p, ?_, by rw [List.length_map]; omega⟩
    show _ = List.map (fun p : Str × Int => ((Sum.inr p.1 : Key), V.int p.2)) (List.map _ ps)
    rw [List.map_map, List.map_map]
    refine List.map_congr_left fun p _ => ?_
    show (if (Sum.inr p.1 : Key) = Sum.inr x then _ else _) = _
    by_cases e : p.1 = x
    · rw [if_pos (by rw [e])]
      show _ = ((Sum.inr (if p.1 = x then (p.1, n) else p).1 : Key), V.int (if p.1 = x then (p.1, n) else p).2)
      rw [if_pos e]
    · rw [if_neg (fun z => e (Sum.inr.inj z))]
      show _ = ((Sum.inr (if p.1 = x then (p.1, n) else p).1 : Key), V.int (if p.1 = x then (p.1, n) else p).2)
      rw [if_neg e]
  · exact ⟨ps ++ [(x, n)], by show _ = List.map (fun p : Str × Int => ((Sum.inr p.1 : Key), V.int p.2)) (ps ++ [(x, n)]); rw [List.map_append]; rfl, by rw [List.length_append]; exact Nat.le_refl _⟩
theorem restS {C N : L2.St → Hp → Prop} {Q : Prop} (f : (∀ σ H, C σ H → N σ H) → Q) (g : ∀ σ H, C σ H → N σ H) : Q := f g
section
variable {P : Program} {w : World} {K : PySem.W.Frag} {mg : Str → Option Value} {base : Heap} {C : Addr}
set_option maxHeartbeats 2000000 in
theorem ok_law_word {f : Addr} {fd : FuncData} (A : FnAt K mg "_law_word" s_law_word ["_law_figure"] f fd) (T : Txt K mg C) : FnOk P w K mg base CX0 1 f fd ["_law_figure"] sp_word := by
  refine A.F.ok sc_law_word (fun vs H Q E h => ?_) (fun cdv Ar outer s H vs Q E hr h => ?_)
  · obtain ⟨n, rfl, _⟩ := h
    rfl
  · obtain ⟨n, rfl, k⟩ := h
    refine ⟨_, (pss_cons (ps_set (i := 1) sc_law_word.nd rfl (Or.inl rfl) pe_str)
      (pss_cons (ps_set (i := 2) sc_law_word.nd rfl (Or.inl rfl) pe_str)
      (pss_cons (ps_for PassesOwn.never rfl (pi_range1 rfl T.range_ (pa_cons (pe_op op_add pe_int (pe_op op_mod (pv 0) pe_int)) pa_nil)) (pg_name (i := 3) sc_law_word.nd rfl (Or.inl rfl)) (pss_one (ps_set (i := 2) sc_law_word.nd rfl (Or.inl rfl) (pe_op op_add_str (pv 2) (pe_ix ix_str (pv 1) (pe_op op_mod (pe_op op_fdivP (pv 0) (pe_op op_add pe_int (pe_op op_mulB (pv 3) (pv 3)))) pe_int) (fun _ _ => rfl))))))
      (pss_one (ps_ret (pv 2)))))), ?_⟩
    have w0 := Int.emod_nonneg n (show (8 : Int) ≠ 0 by decide)
    have w1 := Int.emod_lt_of_pos n (show (0 : Int) < 8 by decide)
    refine ⟨_, rfl, _, _, rfl, rfl, (by show (0 : Int) < 8; decide), _, _, rfl, rfl, 1 + n % 8, rfl, by omega, by omega, for_range (lo := 0) (n := (1 + n % 8).toNat) (fun j σ H' => H' = H ∧ ∃ (w : List Nat) (o3 : Option V), σ = [some (.int n), some (.str abc), some (.str (tx w)), o3] ∧ w.length ≤ j)
      ⟨rfl, [], none, rfl, Nat.zero_le _⟩ ?_ ?_⟩
    · rintro j σ H' hj ⟨rfl, w, o3, rfl, hw⟩
      have kj : (j : Int) ≤ 8 := by omega
      have sq : 0 ≤ (0 + (j : Int)) * (0 + (j : Int)) ∧ (0 + (j : Int)) * (0 + (j : Int)) ≤ 8 * 8 := ⟨Int.mul_nonneg (by omega) (by omega), Int.mul_le_mul (by omega) (by omega) (by omega) (by omega)⟩
      obtain ⟨c, hc⟩ := abc_ix (i := n / (8 + (0 + (j : Int)) * (0 + (j : Int))) % 26) (Int.emod_nonneg _ (by decide)) (Int.emod_lt_of_pos _ (by decide))
      refine ⟨_, rfl, _, rfl, _, rfl, _, rfl, _, rfl, _, _, rfl, rfl, small_mul (by omega), _, _, rfl, rfl, _, _, rfl, rfl, ⟨by show (0 : Int) < 8 + (0 + (j : Int)) * (0 + (j : Int)); omega, log_small (by omega)⟩, _, _, rfl, rfl, (by show (0 : Int) < 26; decide), abc, _, c, rfl, rfl, abc_len, hc, tx w, tx [c], rfl, rfl, ?_, ?_⟩
      · rw [tx_len, tx_len]
        exact Nat.le_trans (show w.length + 1 ≤ 20 by omega) (by decide)
      · rw [tx_cat]
        exact ⟨rfl, w ++ [c], _, rfl, by rw [List.length_append]; show w.length + 1 ≤ j + 1; omega⟩
    · rintro σ H' ⟨rfl, w, o3, rfl, hw⟩
      exact ⟨_, rfl, k _⟩
set_option maxHeartbeats 4000000 in
theorem ok_law_outcome {f fW fM : Addr} {fd dW dM : FuncData} (A : FnAt K mg "_law_outcome" s_law_outcome ["_law_cell"] f fd) (A_law_word : FnAt K mg "_law_word" s_law_word ["_law_figure"] fW dW) (A_law_mix : FnAt K mg "_law_mix" s_law_mix ["_law_cell", "_law_k"] fM dM) (T : Txt K mg C) : FnOk P w K mg base CX0 2 f fd ["_law_cell"] (sp_outcome K) := by
  have G_law_word : FnOk P w K mg base CX0 1 fW dW _ sp_word := ok_law_word A_law_word T
  have G_law_mix : FnOk P w K mg base CX0 1 fM dM _ sp_mix := ok_law_mix A_law_mix
  refine A.F.ok sc_law_outcome (fun vs H Q E h => ?_) (fun cdv Ar outer s H vs Q E hr h => ?_)
  · obtain ⟨n, rfl, _⟩ := h
    rfl
  · obtain ⟨n, rfl, n0, n1, k⟩ := h
    have hu := hu_of hr
    refine ⟨_, (pss_cons (ps_if (pt_cmpR op_eq (pe_op op_mod (pv 0) pe_int) pe_int (nomark _)) (pss_one (ps_ret pe_non)) pss_nil)
      (pss_cons (ps_if (pt_cmpR op_lt (pe_op op_mod (pv 0) pe_int) pe_int (nomark _)) (pss_one (ps_ret (pe_op op_mod (pe_op op_fdivP (pv 0) pe_int) pe_int))) pss_nil)
      (pss_cons (ps_if (pt_cmpR op_lt (pe_op op_mod (pv 0) pe_int) pe_int (nomark _)) (pss_one (ps_ret (pe_op op_mod (pe_op op_mulB (pe_op op_fdivP (pv 0) pe_int) (pv 0)) (pe_op op_pow pe_int pe_int)))) pss_nil)
      (pss_cons (ps_set (i := 1) sc_law_outcome.nd rfl (Or.inl rfl) pe_dnewK)
      (pss_cons (ps_for PassesOwn.never rfl (pi_range1 rfl T.range_ (pa_cons (pe_op op_add pe_int (pe_op op_mod (pe_op op_fdivP (pv 0) pe_int) pe_int)) pa_nil)) (pg_name (i := 2) sc_law_outcome.nd rfl (Or.inl rfl)) (pss_one (ps_dput hu (pv 1) (pe_call G_law_word (hr.mono (by decide)) rfl A_law_word.m A_law_word.F.kp A_law_word.b .nil pass0 (pa_cons (pe_call G_law_mix (hr.mono (by decide)) rfl A_law_mix.m A_law_mix.F.kp A_law_mix.b .nil pass0 (pa_cons (pv 0) (pa_cons (pv 2) pa_nil))) pa_nil)) (pe_op op_mod (pe_op op_mulB (pe_call G_law_mix (hr.mono (by decide)) rfl A_law_mix.m A_law_mix.F.kp A_law_mix.b .nil pass0 (pa_cons (pv 0) (pa_cons (pe_op op_add (pv 2) pe_int) pa_nil))) (pe_call G_law_mix (hr.mono (by decide)) rfl A_law_mix.m A_law_mix.F.kp A_law_mix.b .nil pass0 (pa_cons (pv 0) (pa_cons (pe_op op_add (pv 2) pe_int) pa_nil)))) (pe_op op_pow pe_int pe_int)) rfl)))
      (pss_cons (ps_if (pt_cmpR op_eq (pe_op op_mod (pv 0) pe_int) pe_int (nomark _)) (pss_one (ps_dput hu (pv 1) pe_str (pe_op op_mod (pe_op op_fdivP (pv 0) pe_int) pe_int) rfl)) pss_nil)
      (pss_one (ps_ret (pe_callTy call_tuple_of (by rfl) T.tuple_ Boot.«tuple» (pa_cons (pe_callB (call_sortedV rfl) (by rfl) T.sorted_ Boot.«sorted» (pa_cons (pe_bm0 PySem.F.plainAttrs_dict PySem.F.slot_dict_items PySem.F.type_dict_items mt_items (pv 1)) pa_nil)) pa_nil)))))))))), ?_⟩
    have fin : ∀ i : Int, Q (.int i) H := fun i => k (.int i) (.int i) _ H (.refl _) (.int i)
    refine ⟨_, rfl, _, _, rfl, rfl, (by show (0 : Int) < 7; decide), rfl, _, rfl, iteBB (fun _ => k .non .non _ H (.refl _) .non) (fun _ => ?_)⟩
    refine ⟨_, rfl, _, _, rfl, rfl, (by show (0 : Int) < 7; decide), _, _, rfl, rfl, _, rfl, iteBB (fun _ => ⟨_, rfl, _, _, rfl, rfl, ⟨by decide, by decide +kernel⟩, _, _, rfl, rfl, (by show (0 : Int) < 4; decide), fin _⟩) (fun _ => ?_)⟩
    refine ⟨_, rfl, _, _, rfl, rfl, (by show (0 : Int) < 7; decide), _, _, rfl, rfl, _, rfl, iteBB (fun _ => ⟨_, rfl, _, _, rfl, rfl, ⟨by decide, by decide +kernel⟩, _, rfl, _, _, rfl, rfl, small_mul (by omega), _, _, rfl, rfl, ⟨by decide, by decide, by decide⟩, _, _, rfl, rfl, (by show (0 : Int) < 10 ^ (12 : Int).toNat; decide), fin _⟩) (fun _ => ?_)⟩
    intro D hD
    have c0 := Int.emod_nonneg (n / 7) (show (3 : Int) ≠ 0 by decide)
    have c1 := Int.emod_lt_of_pos (n / 7) (show (0 : Int) < 3 by decide)
    refine ⟨_, rfl, _, _, rfl, rfl, ⟨by decide, by decide +kernel⟩, _, _, rfl, rfl, (by show (0 : Int) < 3; decide), _, _, rfl, rfl, 1 + n / 7 % 3, rfl, by omega, by omega, for_range (lo := 0) (n := (1 + n / 7 % 3).toNat) (fun j σ H' => Same H H' ∧ ∃ (ps : List (Str × Int)) (o2 : Option V), H' D = some (.dK (fdK ps)) ∧ ps.length ≤ j ∧ σ = [some (.int n), some (.ref D), o2])
      ⟨.upd hD, [], none, upd_same, Nat.le_refl _, rfl⟩ ?_ ?_⟩
    · rintro j σ H' hj ⟨S, ps, o2, eD, lp, rfl⟩
      refine ⟨_, rfl, _, rfl, _, _, rfl, rfl, n, _, rfl, by omega, by omega, fun m m0 m1 => ⟨_, rfl, _, rfl, _, _, rfl, rfl, n, _, rfl, by omega, by omega, fun m2 m20 m21 => ?_⟩⟩
      refine ⟨_, _, rfl, rfl, small_mul (by omega), _, _, rfl, rfl, ⟨by decide, by decide, by decide⟩, _, _, rfl, rfl, (by show (0 : Int) < 10 ^ (12 : Int).toNat; decide), _, rfl, _, rfl, _, rfl, n, _, rfl, by omega, by omega, fun m3 _ _ => ⟨m3, rfl, fun x => ?_⟩⟩
      dsimp only
      generalize m * m2 % 10 ^ (12 : Int).toNat = nb
      obtain ⟨qs, eq, lq⟩ := fdK_put ps x nb
      refine ⟨D, _, rfl, DPut.k (k := Sum.inr x) eD (Nat.lt_of_le_of_lt (show (fdK ps).length ≤ 100 by rw [List.length_map]; omega) (by decide)), fun b o eb => ?_, qs, _, ?_, by omega, rfl⟩
      · rw [upd_ne (ne_of_none eb hD)]
        exact S _ _ eb
      · rw [upd_same, eq]
    rintro σ H' ⟨S, ps, o2, eD, lp, rfl⟩
    have lp3 : ps.length ≤ 3 := by omega
    refine' restS (C := fun σ H2 => Same H H2 ∧ ∃ (ps : List (Str × Int)), H2 D = some (.dK (fdK ps)) ∧ ps.length ≤ 4 ∧ σ = [some (.int n), some (.ref D), o2]) (fun rest => ⟨_, rfl, _, _, rfl, rfl, (by show (0 : Int) < 7; decide), rfl, _, rfl, iteBB (fun _ => ?_) (fun _ => rest _ _ ⟨S, ps, eD, by omega, rfl⟩)⟩) ?_
    · refine ⟨_, rfl, _, _, rfl, rfl, ⟨by decide, by decide +kernel⟩, _, _, rfl, rfl, (by show (0 : Int) < 2; decide), _, rfl, ?_⟩
      dsimp only
      generalize n / 21 % 2 = nb
      obtain ⟨qs, eq, lq⟩ := fdK_put ps "a" nb
      refine ⟨D, _, rfl, DPut.k (k := Sum.inr "a") eD (Nat.lt_of_le_of_lt (show (fdK ps).length ≤ 100 by rw [List.length_map]; omega) (by decide)), rest _ _ ⟨fun b o eb => ?_, qs, ?_, by omega, rfl⟩⟩
      · rw [upd_ne (ne_of_none eb hD)]
        exact S _ _ eb
      · rw [upd_same, eq]
    rintro σ H2 ⟨S2, qs, eD2, lq, rfl⟩
    refine ⟨_, rfl, .inr (.inr (.inl ⟨rfl, .inl ⟨_, eD2⟩⟩)), D, _, rfl, rfl, eD2, fun v hv => ?_⟩
    have S3 := Same.upd (o := ObO v (viewO D)) hv
    refine ⟨v, D, qs, rfl, upd_same, S3 _ _ eD2, by omega, fun l H4 vs fs S4 hl el dl pm => ⟨l, vs, rfl, .inl ⟨SqL.of el, fun t ht => ?_⟩⟩⟩
    have S5 := Same.upd (o := .tup vs) ht
    exact k _ (.recd fs) _ _ (S2.trans (S3.trans (S4.trans S5))) (.tup (SqT.of upd_same) (dl.same S5))
end
end K30
namespace K30
open PySem L2 FW PyProof.Rows
inductive Pd
  | lf (o : Dt)
  | ask (s : Nat) (ch : List Nat)
abbrev cD (ch : List Nat) : List Dt := ch.map fun c : Nat => Dt.int (c : Int)
def hD : Pd → Dt
  | .lf o => .tup [.str "leaf", o]
  | .ask s ch => .tup [.str "ask", .int s, .tup (cD ch)]
theorem cD_inj : ∀ {a b : List Nat}, cD a = cD b → a = b
  | [], [], _ => rfl
  | [], y :: b, h => by simp at h
  | x :: a, [], h => by simp at h
  | x :: a, y :: b, h => by
    simp only [List.map_cons, List.cons.injEq, Dt.int.injEq] at h
    rw [cD_inj h.2, show x = y by omega]
theorem hD_inj {p q : Pd} (h : hD p = hD q) : p = q := by
  cases p with
  | lf o =>
    cases q with
    | lf o2 =>
      have : o = o2 := by simpa [hD] using h
      rw [this]
    | ask s ch => simp [hD] at h
  | ask s ch =>
    cases q with
    | lf o2 => simp [hD] at h
    | ask s2 ch2 =>
      have h' : ((s : Nat) : Int) = (s2 : Int) ∧ cD ch = cD ch2 := by simpa [hD] using h
      rw [cD_inj h'.2, show s = s2 by omega]
theorem hgts_cD : ∀ ch : List Nat, Dt.hgts (cD ch) = 0
  | [] => by simp [Dt.hgts]
  | c :: ch => by
    show Dt.hgts (.int (c : Int) :: cD ch) = 0
    rw [Dt.hgts, hgts_cD ch]
    simp [Dt.hgt]
def PdO : Pd → Prop
  | .lf o => Oc o
  | .ask _ _ => True
theorem kd_hD {p : Pd} (h : PdO p) : Kd (hD p) := by
  cases p with
  | lf o =>
    have := Oc.hgt h
    exact ⟨fun x z => by simp [hD] at z, by simp only [hD, Dt.hgt, Dt.hgts]; omega⟩
  | ask s ch =>
    have := hgts_cD ch
    exact ⟨fun x z => by simp [hD] at z, by simp only [hD, Dt.hgt, Dt.hgts]; omega⟩
def gF (m : Int) (Kl Nd : Addr) : List (Str × V) := [("most", .int m), ("kept", .ref Kl), ("numbers", .ref Nd)]
structure GrAt (K : PySem.W.Frag) (w : World) (m : Int) (H : Hp) (C G Kl Nd dx : Addr) (parts : List Pd) : Prop where
  ins : H G = some (.ins C dx (gF m Kl Nd))
  kl : LsM K H Kl (parts.map hD)
  nm : ∃ kvs, DgM K w H Nd kvs ∧ kvs.map (·.1) = parts.map hD ∧ ∀ (j : Nat) (e : Dt × V × V), kvs[j]? = some e → e.2.2 = nI j
  oc : ∀ p ∈ parts, PdO p
theorem GrAt.same {K : PySem.W.Frag} {w : World} {H H' : Hp} {m : Int} {C G Kl Nd dx : Addr} {parts : List Pd} (h : GrAt K w m H C G Kl Nd dx parts) (e : Same H H') : GrAt K w m H' C G Kl Nd dx parts :=
  ⟨e _ _ h.ins, h.kl.same e, let ⟨kvs, h1, h2, h3⟩ := h.nm; ⟨kvs, h1.same e, h2, h3⟩, h.oc⟩
theorem GrAt.nt {K : PySem.W.Frag} {w : World} {H : Hp} {m : Int} {C G Kl Nd dx : Addr} {parts : List Pd} (h : GrAt K w m H C G Kl Nd dx parts) : NTZ H [Kl, Nd] := fun a ha => by
  rcases List.mem_cons.mp ha with z | z
  · rw [z]
    obtain ⟨ws, ew, _⟩ := h.kl
    exact .lst ew
  · rw [List.mem_singleton.mp z]
    obtain ⟨kvs, M, _⟩ := h.nm
    obtain ⟨φ, eφ⟩ := M.at_.ext
    exact fun o e => by
      rw [eφ] at e
      cases e
      exact ⟨(fun vs z => nomatch z), (fun q vs z => nomatch z)⟩
inductive Grow (parts : List Pd) (p : Pd) : List Pd → Nat → Prop
  | old (j : Nat) (h : parts[j]? = some p) : Grow parts p parts j
  | new (h : p ∉ parts) : Grow parts p (parts ++ [p]) parts.length
theorem Grow.at {parts parts' : List Pd} {p : Pd} {j : Nat} (h : Grow parts p parts' j) : parts'[j]? = some p := by
  cases h with
  | old _ h => exact h
  | new h => rw [List.getElem?_append_right (Nat.le_refl _), Nat.sub_self]; rfl
def sp_ginit (K : PySem.W.Frag) (w : World) (m : Int) (C : Addr) : Sp := fun vs H Q _ => ∃ G dx, vs = [.ref G, .int m] ∧ H G = some (.ins C dx []) ∧ ∀ (Kl Nd : Addr) (H' : Hp), BtA G H H' → H Kl = none → H Nd = none → GrAt K w m H' C G Kl Nd dx [] → Q .non H'
def sp_keep (K : PySem.W.Frag) (w : World) (m : Int) (C CT : Addr) : Sp := fun vs H Q E => ∃ (G Kl Nd dx : Addr) (v : V) (parts : List Pd) (p : Pd), vs = [.ref G, v] ∧ GrAt K w m H C G Kl Nd dx parts ∧ DatAt K H v (hD p) ∧ PdO p ∧ (parts.length : Int) ≤ m ∧ m ≤ 2000 ∧
  (∀ (H' : Hp) (parts' : List Pd) (j : Nat), BtZ [Kl, Nd] H H' → GrAt K w m H' C G Kl Nd dx parts' → Grow parts p parts' j → (p ∉ parts → (parts.length : Int) < m) → Q (nI j) H') ∧ (p ∉ parts → (parts.length : Int) = m → ∀ H', Same H H' → E (.ref CT) none H')
def sp_leaf (K : PySem.W.Frag) (w : World) (m : Int) (C CT : Addr) : Sp := fun vs H Q E => ∃ (G Kl Nd dx : Addr) (v : V) (parts : List Pd) (o : Dt), vs = [.ref G, v] ∧ GrAt K w m H C G Kl Nd dx parts ∧ DatAt K H v o ∧ Oc o ∧ (parts.length : Int) ≤ m ∧ m ≤ 2000 ∧
  (∀ (H' : Hp) (parts' : List Pd) (j : Nat), BtZ [Kl, Nd] H H' → GrAt K w m H' C G Kl Nd dx parts' → Grow parts (.lf o) parts' j → (.lf o ∉ parts → (parts.length : Int) < m) → Q (nI j) H') ∧ (.lf o ∉ parts → (parts.length : Int) = m → ∀ H', Same H H' → E (.ref CT) none H')
structure TxE (K : PySem.W.Frag) (mg : Str → Option Value) (CT CR : Addr) : Prop where
  TooMuch_ : ExcCls K mg "TooMuch" CT
  NoOrder_ : ExcCls K mg "NoOrder" CR
theorem hask {K : PySem.W.Frag} {H : Hp} {v : V} {s : Nat} {ch : List Nat} (h : DatAt K H v (hD (.ask s ch))) : ∃ r c, v = .ref r ∧ SqT K H r [.str "ask", nI s, .ref c] ∧ SqT K H c (ch.map nI) := by
  obtain ⟨r, vs, rfl, h1, h2⟩ := DatAt.un (ds := [.str "ask", .int s, .tup (cD ch)]) h
  obtain ⟨v1, r1, rfl, q1, h3⟩ := h2.un
  obtain ⟨v2, r2, rfl, q2, h4⟩ := h3.un
  obtain ⟨v3, r3, rfl, q3, h5⟩ := h4.un
  cases h5.un0
  rw [q1.str_eq, q2.int_eq] at h1
  obtain ⟨c, ws, rfl, g1, g2⟩ := q3.un
  have : ∀ {ch : List Nat} {ws : List V}, DatsAt K H ws (cD ch) → ws = ch.map nI := fun {ch} => by
    induction ch with
    | nil => intro ws h; exact h.un0
    | cons c ch ih =>
      intro ws h
      obtain ⟨v, r, rfl, a1, a2⟩ := DatsAt.un (d := .int (c : Int)) (ds := cD ch) h
      rw [a1.int_eq, ih a2]
      rfl
  rw [this g2] at g1
  exact ⟨r, c, rfl, h1, g1⟩
theorem hleaf {K : PySem.W.Frag} {H : Hp} {v : V} {o : Dt} (h : DatAt K H v (hD (.lf o))) : ∃ r u, v = .ref r ∧ SqT K H r [.str "leaf", u] ∧ DatAt K H u o := by
  obtain ⟨r, vs, rfl, h1, h2⟩ := DatAt.un (ds := [.str "leaf", o]) h
  obtain ⟨v1, r1, rfl, q1, h3⟩ := h2.un
  obtain ⟨v2, r2, rfl, q2, h4⟩ := h3.un
  cases h4.un0
  rw [q1.str_eq] at h1
  exact ⟨r, v2, rfl, h1, q2⟩
section
variable {P : Program} {w : World} {K : PySem.W.Frag} {mg : Str → Option Value} {base : Heap} {m : Int} {C CT CR : Addr}
set_option maxHeartbeats 2000000 in
theorem ok_keep {f : Addr} {fd : FuncData} (F : Fun K "keep" "Graphs.keep" s_Graphs_keep f fd) (T : Txt K mg C) (TE : TxE K mg CT CR) : FnOk P w K mg base (CXe P w) 1 f fd ["self", "held"] (sp_keep K w m C CT) := by
  refine F.okE sc_Graphs_keep (fun vs H Q E h => ?_) (fun cdv Ar outer s H vs Q E hr h => ?_)
  · obtain ⟨G, Kl, Nd, dx, v, parts, p, rfl, _⟩ := h
    rfl
  · obtain ⟨G, Kl, Nd, dx, v, parts, p, rfl, ga, hv, hp, hl, hm2, k, kx⟩ := h
    refine ⟨_, (pss_cons (ps_if (pt_cmpR (op_ninG hr.units) (pv 1) (pe_fld (pv 0) rfl) (by rfl)) (pss_cons (ps_if (pt_cmpR op_ge (pe_callB call_len_seq (by rfl) T.len_ Boot.«len» (pa_cons (pe_fld (pv 0) rfl) pa_nil)) (pe_fld (pv 0) rfl) (nomark _)) (pss_one (ps_raise TE.TooMuch_ rfl rfl pe_str throws_of)) pss_nil)
      (pss_cons (ps_asg (pe_callB call_len_seq (by rfl) T.len_ Boot.«len» (pa_cons (pe_fld (pv 0) rfl) pa_nil)) (pg_sub (pe_fld (pv 0) rfl) (pv 1) (st_dg hr.units)))
      (pss_one (ps_expr (pe_bm PySem.F.plainAttrs_list PySem.F.slot_list_append PySem.F.type_list_append mt_append (pe_fld (pv 0) rfl) (pa_cons (pv 1) pa_nil)))))) pss_nil)
      (pss_one (ps_ret (pe_ix (ix_dg hr.units) (pe_fld (pv 0) rfl) (pv 1) (fun _ _ => rfl))))), ?_⟩
    have fK : List.lookup ("kept" : Str) (gF m Kl Nd) = some (V.ref Kl) := rfl
    have fN : List.lookup ("numbers" : Str) (gF m Kl Nd) = some (V.ref Nd) := rfl
    have fM : List.lookup ("most" : Str) (gF m Kl Nd) = some (V.int m) := rfl
    obtain ⟨kvs, M, ek, ev⟩ := ga.nm
    obtain ⟨hs, eh, dh⟩ := ga.kl
    have lk := congrArg List.length ek
    have lh := dh.length
    rw [List.length_map, List.length_map] at lk
    rw [List.length_map] at lh
    have kd := kd_hD hp
    refine' restS (C := fun σ H' => σ = [some (.ref G), some v] ∧ BtZ [Kl, Nd] H H' ∧ DatAt K H' v (hD p) ∧ ∃ parts' j, GrAt K w m H' C G Kl Nd dx parts' ∧ Grow parts p parts' j ∧ (p ∉ parts → (parts.length : Int) < m)) (fun rest => ⟨_, rfl, _, rfl, G, C, dx, _, .ref Nd, rfl, ga.ins, T.cl, T.n3, fN, Nd, kvs, hD p, rfl, M, hv, kd, _, rfl, iteBB (fun hc => ?new) (fun hc => rest _ _ ⟨rfl, .refl, hv, parts, ?old⟩)⟩) ?rst
    case new =>
      · have hno : hD p ∉ kvs.map (·.1) := fun z => by
          rw [hasD_iff.mpr z] at hc
          cases hc
        refine ⟨_, rfl, G, C, dx, _, .ref Kl, rfl, ga.ins, T.cl, T.n2, fK, Kl, hs, rfl, .inl (SqL.of eh), _, rfl, G, C, dx, _, .int m, rfl, ga.ins, T.cl, T.n1, fM, _, _, rfl, rfl, _, rfl, iteBB (fun hc => ?_) (fun hnf => ?_)⟩
        · have := of_decide_eq_true hc
          exact ⟨rfl, kx (fun z => hno (by rw [ek]; exact List.mem_map.mpr ⟨p, z, rfl⟩)) (by omega) _ (.refl _)⟩
        have hnf := of_decide_eq_false hnf
        have nKN : Kl ≠ Nd := fun z => by
          obtain ⟨φ, eφ⟩ := M.at_.ext
          rw [← z, eh] at eφ
          cases eφ
        have nGN : G ≠ Nd := fun z => by
          obtain ⟨φ, eφ⟩ := M.at_.ext
          rw [← z, ga.ins] at eφ
          cases eφ
        have nGK : G ≠ Kl := fun z => by
          have e := ga.ins
          rw [z, eh] at e
          cases e
        refine ⟨_, rfl, G, C, dx, _, .ref Kl, rfl, ga.ins, T.cl, T.n2, fK, Kl, hs, rfl, .inl (SqL.of eh), ?_⟩
        refine ⟨_, rfl, G, C, dx, _, .ref Nd, rfl, ga.ins, T.cl, T.n3, fN, _, rfl, Nd, kvs, hD p, rfl, M, by omega, hv, kd, ?_⟩
        have M1 := M.put (v := .int (hs.length : Nat)) hv kd
        obtain ⟨φ, eφ⟩ := M.at_.ext
        have up : ∀ {x : V} {d : Dt}, DatAt K H x d → DatAt K (upd H Nd (DkO w Nd (putD kvs (hD p) v (.int (hs.length : Nat))))) x d := fun {x d} h => DatAt.updX eφ h
        have eh1 : (upd H Nd (DkO w Nd (putD kvs (hD p) v (.int (hs.length : Nat))))) Kl = some (.lst hs) := by rw [upd_ne nKN]; exact eh
        have dh1 : DatsAt K (upd H Nd (DkO w Nd (putD kvs (hD p) v (.int (hs.length : Nat))))) hs (parts.map hD) := DatsAt.updX eφ dh
        have hv1 := up hv
        have ins1 : (upd H Nd (DkO w Nd (putD kvs (hD p) v (.int (hs.length : Nat))))) G = some (.ins C dx (gF m Kl Nd)) := by rw [upd_ne nGN]; exact ga.ins
        have B1 : BtZ [Kl, Nd] H (upd H Nd (DkO w Nd (putD kvs (hD p) v (.int (hs.length : Nat))))) := .upd (List.mem_cons_of_mem _ (List.mem_cons_self ..))
        have hnew : hasD kvs (hD p) = false := by
          cases e : hasD kvs (hD p) with
          | false => rfl
          | true => exact absurd (hasD_iff.mp e) hno
        have epv : putD kvs (hD p) v (.int (hs.length : Nat)) = kvs ++ [(hD p, v, .int (hs.length : Nat))] := by
          unfold putD
          rw [hnew, if_neg (by decide)]
        rw [epv] at M1 eh1 dh1 hv1 ins1 B1 ⊢
        refine ⟨_, rfl, G, C, dx, _, .ref Kl, rfl, ins1, T.cl, T.n2, fK, .inl ⟨rfl, _, SqL.of eh1⟩, _, rfl, Kl, hs, v, rfl, rfl, eh1, Nat.lt_of_le_of_lt (show hs.length ≤ 2000 by omega) (by decide), ?_⟩
        refine rest _ _ ⟨rfl, B1.trans (.upd (List.mem_cons_self ..)), hv1.updL eh1, parts ++ [p], parts.length, ⟨by rw [upd_ne nGK]; exact ins1, ⟨hs ++ [v], upd_same, ?_⟩, ⟨_, M1.updL eh1, ?_, fun j e he => ?_⟩, fun q hq => ?_⟩, .new fun z => hno (by rw [ek]; exact List.mem_map.mpr ⟨p, z, rfl⟩), fun _ => by omega⟩
        · rw [List.map_append]
          exact (dh1.append (.cons hv1 .nil)).updL eh1
        · rw [List.map_append, List.map_append, ek]
          rfl
        · by_cases hj : j < kvs.length
          · rw [List.getElem?_append_left hj] at he
            exact ev j e he
          · rw [List.getElem?_append_right (by omega)] at he
            have hz : j - kvs.length = 0 := by
              have := (List.getElem?_eq_some_iff.mp he).1
              simp at this
              omega
            rw [hz] at he
            cases he
            show V.int (hs.length : Nat) = nI j
            rw [show hs.length = j by omega]
        · rcases List.mem_append.mp hq with z | z
          · exact ga.oc q z
          · rw [List.mem_singleton.mp z]
            exact hp
    case old =>
      have hyes : hD p ∈ kvs.map (·.1) := hasD_iff.mp (by
        cases e : hasD kvs (hD p) with
        | true => rfl
        | false => rw [e] at hc; cases hc)
      rw [ek] at hyes
      obtain ⟨q, hq, eq⟩ := List.mem_map.mp hyes
      cases hD_inj eq
      obtain ⟨j, hj⟩ := List.getElem?_of_mem hq
      exact ⟨j, ga, .old j hj, fun z => absurd (List.mem_of_getElem? hj) z⟩
    case rst =>
      rintro σ H' ⟨rfl, B, hv', parts', j, ga', gr, hlt⟩
      obtain ⟨kvs', M', ek', ev'⟩ := ga'.nm
      have hat := gr.at
      have : (kvs'.map (·.1))[j]? = some (hD p) := by rw [ek', List.getElem?_map, hat]; rfl
      obtain ⟨e, he, ee⟩ := map_get this
      refine ⟨_, rfl, G, C, dx, _, .ref Nd, rfl, ga'.ins, T.cl, T.n3, fN, _, rfl, Nd, kvs', hD p, j, e, rfl, M', hv', kd, he, ee, ?_⟩
      rw [ev' j e he]
      exact k H' parts' j B ga' gr hlt
theorem ok_leaf {f fK : Addr} {fd dK : FuncData} (F : Fun K "leaf" "Graphs.leaf" s_Graphs_leaf f fd) (M_Graphs_keep : Meth K C "keep" fK) (G_Graphs_keep : FnOk P w K mg base (CXe P w) 1 fK dK ["self", "held"] (sp_keep K w m C CT)) (b_Graphs_keep : Binds K dK ["self", "held"] []) (T : Txt K mg C) : FnOk P w K mg base (CXe P w) 2 f fd ["self", "outcome"] (sp_leaf K w m C CT) := by
  refine F.okE (k := 1) sc_Graphs_leaf (fun vs H Q E h => ?_) (fun cdv Ar outer s H vs Q E hr h => ?_)
  · obtain ⟨G, Kl, Nd, dx, v, parts, o, rfl, _⟩ := h
    rfl
  · obtain ⟨G, Kl, Nd, dx, v, parts, o, rfl, ga, hv, ho, hl, hm2, k, kx⟩ := h
    refine ⟨_, (pss_one (ps_ret (pe_meth (pv 0) T.cl M_Graphs_keep G_Graphs_keep (hr.mono (by decide)) b_Graphs_keep .nil pass_up (pa_cons (pe_tup (pa_cons pe_str (pa_cons (pv 1) pa_nil))) pa_nil)))), ?_⟩
    refine ⟨_, rfl, G, dx, _, rfl, ga.ins, rfl, _, rfl, two_le, fun t ht => ?_⟩
    have S := Same.upd (o := .tup [.str "leaf", v]) ht
    have d : DatAt K (upd H t (.tup [.str "leaf", v])) (.ref t) (hD (.lf o)) := .tup (SqT.of upd_same) (.cons (.str _) (.cons (hv.same S) .nil))
    generalize upd H t (.tup [.str "leaf", v]) = H1 at S d
    exact ⟨G, Kl, Nd, dx, _, parts, .lf o, rfl, ga.same S, d, ho, hl, hm2, fun H' parts' j B g gr hlt => k H' parts' j ((BtZ.of S).trans B) g gr hlt, fun hn hm H' S' => kx hn hm H' (S.trans S')⟩
end
end K30
namespace L2
open PySem PySem.Spec PyProof.Rows
theorem pe_fldK {X : Cx} {K : PySem.W.Frag} (hK : X.K = K) {e : Expr} {f : Str} {pos : Pos} {ta : TE} (he : PE X e ta) (hb : attributeBase e f X.env (eval e X.env) = eval e X.env := by rfl) : PE X (.Attribute e f pos) (tFld K ta f) := by
  subst hK
  exact pe_fld he hb
end L2
namespace K30
open PySem L2 FW PyProof.Rows
def Bad (parts : List Pd) (s : Nat) (ch : List Nat) : Prop := ∃ c ∈ ch, ∃ s' ch', parts[c]? = some (.ask s' ch') ∧ s' ≤ s
def FsOk (parts : List Pd) (ch : List Nat) (v : V) : Prop := (v = .non ∧ ∀ c ∈ ch, ∀ s ch', parts[c]? ≠ some (.ask s ch')) ∨ ∃ s : Nat, v = nI s ∧ (∃ c ∈ ch, ∃ ch', parts[c]? = some (.ask s ch')) ∧ ∀ c ∈ ch, ∀ s' ch', parts[c]? = some (.ask s' ch') → s ≤ s'
def sp_first (K : PySem.W.Frag) (w : World) (m : Int) (C : Addr) : Sp := fun vs H Q _ => ∃ (G Kl Nd dx L : Addr) (parts : List Pd) (ch : List Nat), vs = [.ref G, .ref L] ∧ GrAt K w m H C G Kl Nd dx parts ∧ H L = some (.lst (ch.map nI)) ∧ ch.length ≤ 1000 ∧ (∀ c ∈ ch, c < parts.length) ∧
  ∀ (v : V) (H' : Hp), Same H H' → FsOk parts ch v → Q v H'
def sp_asked (K : PySem.W.Frag) (w : World) (m : Int) (C CT CR : Addr) : Sp := fun vs H Q E => ∃ (G Kl Nd dx L : Addr) (parts : List Pd) (s : Nat) (ch : List Nat), vs = [.ref G, nI s, .ref L] ∧ GrAt K w m H C G Kl Nd dx parts ∧ H L = some (.lst (ch.map nI)) ∧ ch ≠ [] ∧ ch.length ≤ 1000 ∧ (∀ c ∈ ch, c < parts.length) ∧ (parts.length : Int) ≤ m ∧ m ≤ 2000 ∧
  (Bad parts s ch → ∀ H', Same H H' → E (.ref CR) none H') ∧
  (¬ Bad parts s ch → ∀ (H' : Hp) (x : Nat), BtZ [Kl, Nd] H H' → GrAt K w m H' C G Kl Nd dx parts → ch[0]? = some x → (∀ y ∈ ch, y = x) → Q (nI x) H') ∧
  (¬ Bad parts s ch → ∀ (H' : Hp) (parts' : List Pd) (j : Nat), BtZ [Kl, Nd] H H' → GrAt K w m H' C G Kl Nd dx parts' → Grow parts (.ask s ch) parts' j → (.ask s ch ∉ parts → (parts.length : Int) < m) → (∀ x, ch[0]? = some x → ¬ ∀ y ∈ ch, y = x) → Q (nI j) H') ∧
  (¬ Bad parts s ch → (∀ x, ch[0]? = some x → ¬ ∀ y ∈ ch, y = x) → .ask s ch ∉ parts → (parts.length : Int) = m → ∀ H', Same H H' → E (.ref CT) none H')
theorem tail2 {X : Hp} {Y : Hp → Prop} {G : Hp → Prop} (y : Y X) (g : ∀ H, Y H → G H) : G X := g X y
section
variable {P : Program} {w : World} {K : PySem.W.Frag} {mg : Str → Option Value} {base : Heap} {m : Int} {C CT CR : Addr}
set_option maxHeartbeats 2000000 in
theorem ok_first_site {f : Addr} {fd : FuncData} (F : Fun K "first_site" "Graphs.first_site" s_Graphs_first_site f fd) (T : Txt K mg C) : FnOk P w K mg base CX0 1 f fd ["self", "parts"] (sp_first K w m C) := by
  refine F.ok sc_Graphs_first_site (fun vs H Q E h => ?_) (fun cdv Ar outer s H vs Q E hr h => ?_)
  · obtain ⟨G, Kl, Nd, dx, L, parts, ch, rfl, _⟩ := h
    rfl
  · obtain ⟨G, Kl, Nd, dx, L, parts, ch, rfl, ga, hL, lch, hc, k⟩ := h
    refine ⟨_, (pss_one (ps_ret (pe_minD rfl rfl T.min_ Boot.«min» (pa_cons (pe_comp rfl (Nc := ["part", "self"]) (caps1 1 0 [(".0", .local), ("part", .local), ("self", .cell)] rfl rfl rfl (by decide +kernel) (by decide +kernel) rfl (by decide +kernel) rfl rfl rfl rfl) (pi_list (pv 1)) (fun _ _ _ _ => (pg_name (i := 0) (show List.Nodup (["part", "self"] : List Str) by decide +kernel) rfl (Or.inl rfl))) (fun _ _ _ _ => by exact (pts_one (pt_cmpR op_eq (pe_ix (ix_tupK (K := K) rfl) (pe_ix (ix_listK (K := K) rfl) (pe_fldK (K := K) rfl (pv 1)) (pv 0) (fun _ _ => rfl)) pe_int (fun _ _ => rfl)) pe_str (nomark _)))) (fun _ _ _ _ => by exact (pe_ix (ix_tupK (K := K) rfl) (pe_ix (ix_listK (K := K) rfl) (pe_fldK (K := K) rfl (pv 1)) (pv 0) (fun _ _ => rfl)) pe_int (fun _ _ => rfl)))) pa_nil) (pk_cons pe_non pk_nil)))), ?_⟩
    have fK : List.lookup ("kept" : Str) (gF m Kl Nd) = some (V.ref Kl) := rfl
    refine ⟨_, rfl, L, rfl, ⟨_, SqL.of hL⟩, fun D hD => ?_⟩
    refine comp_list (K := K) (a := L) (D := D) (xs := ch.map nI) (fun i σ ys H' => (∃ o1, σ = [o1, some (.ref G)]) ∧ Same H H' ∧ H' D = some (.lst ys) ∧ ∃ ss : List Nat, ys = ss.map nI ∧ ss.length ≤ i ∧ (∀ x ∈ ss, ∃ c ∈ ch, ∃ ch', parts[c]? = some (.ask x ch')) ∧ ∀ c ∈ ch.take i, ∀ s' ch', parts[c]? = some (.ask s' ch') → s' ∈ ss)
      ⟨⟨none, rfl⟩, .upd hD, upd_same, [], rfl, Nat.le_refl _, (fun _ h => nomatch h), (fun _ h => nomatch h)⟩ ?_ ?_ ?_
    · rintro i σ ys H' hi ⟨_, S, eD, ss, rfl, ls, _, _⟩
      rw [List.length_map] at hi
      exact ⟨SqL.of (S _ _ hL), eD, Nat.lt_of_le_of_lt (show (ss.map nI).length ≤ 1000 by rw [List.length_map]; omega) (by decide)⟩
    · rintro i y σ ys H' hy ⟨⟨o1, rfl⟩, S, eD, ss, rfl, ls, hss, hall⟩ N hN
      obtain ⟨c, hci, rfl⟩ := map_get hy
      have cm := List.mem_of_getElem? hci
      have ga' := ga.same S
      obtain ⟨hs, eh, dh⟩ := ga'.kl
      have lh := dh.length
      rw [List.length_map] at lh
      obtain ⟨v, hv⟩ := get_ex (l := hs) (i := c) (by have := hc c cm; omega)
      obtain ⟨p, hp⟩ := get_ex (l := parts) (i := c) (hc c cm)
      obtain ⟨d, ed, dv⟩ := dh.get' hv
      rw [List.getElem?_map, hp] at ed
      cases ed
      refine ⟨_, rfl, G, C, dx, _, .ref Kl, rfl, ga'.ins, T.cl, T.n2, fK, _, rfl, Kl, hs, _, v, rfl, rfl, SqL.of eh, atI_nat hv, ?_⟩
      cases p with
      | lf o =>
        obtain ⟨r, u, rfl, sv, hu⟩ := hleaf dv
        refine ⟨r, _, 0, .str "leaf", rfl, rfl, sv, rfl, rfl, _, rfl, iteBB (fun hc => absurd hc (by decide +kernel)) (fun _ => ?_)⟩
        refine hN _ _ _ ⟨⟨_, rfl⟩, S, eD, ss, rfl, by omega, hss, fun c' hc' s' ch' h' => ?_⟩
        rw [take_snoc' hci] at hc'
        rcases List.mem_append.mp hc' with z | z
        · exact hall c' z s' ch' h'
        · rw [List.mem_singleton.mp z, hp] at h'
          cases h'
      | ask s2 ch2 =>
        obtain ⟨r, cl, rfl, sv, sc⟩ := hask dv
        refine ⟨r, _, 0, .str "ask", rfl, rfl, sv, rfl, rfl, _, rfl, iteBB (fun _ => ?_) (fun hc => absurd hc (by decide +kernel))⟩
        refine ⟨_, rfl, G, C, dx, _, .ref Kl, rfl, ga'.ins, T.cl, T.n2, fK, _, rfl, Kl, hs, _, .ref r, rfl, rfl, SqL.of eh, atI_nat hv, r, _, 1, nI s2, rfl, rfl, sv, rfl, eD, hN _ _ _ ⟨⟨_, rfl⟩, fun b o eb => ?_, upd_same, ss ++ [s2], by rw [List.map_append]; rfl, by rw [List.length_append]; show ss.length + 1 ≤ _; omega, fun x hx => ?_, fun c' hc' s' ch' h' => ?_⟩⟩
        · rw [upd_ne (ne_of_none eb hD)]
          exact S _ _ eb
        · rcases List.mem_append.mp hx with z | z
          · exact hss x z
          · cases List.mem_singleton.mp z
            exact ⟨c, cm, ch2, hp⟩
        · rw [take_snoc' hci] at hc'
          rcases List.mem_append.mp hc' with z | z
          · exact List.mem_append_left _ (hall c' z s' ch' h')
          · rw [List.mem_singleton.mp z, hp] at h'
            cases h'
            exact List.mem_append_right _ (List.mem_singleton.mpr rfl)
    · rintro σ ys H' ⟨_, S, eD, ss, rfl, ls, hss, hall⟩
      rw [List.length_map, List.take_of_length_le (Nat.le_refl _)] at hall
      have e : ss.map nI = (ss.map fun x : Nat => (x : Int)).map V.int := by
        rw [List.map_map]
        rfl
      refine ⟨D, ss.map fun x : Nat => (x : Int), .non, rfl, rfl, by rw [← e]; exact SqL.of eD, fun z => k .non H' S (.inl ⟨rfl, fun c hcm s ch' h' => ?_⟩), fun M hM hmin => ?_⟩
      · have := hall c hcm s ch' h'
        rw [List.map_eq_nil_iff.mp z] at this
        cases this
      · obtain ⟨x, hx, rfl⟩ := List.mem_map.mp hM
        obtain ⟨c, hcm, ch', hp⟩ := hss x hx
        refine k _ H' S (.inr ⟨x, rfl, ⟨c, hcm, ch', hp⟩, fun c2 hc2 s2 ch2 h2 => ?_⟩)
        have := hmin (s2 : Int) (List.mem_map.mpr ⟨s2, hall c2 hc2 s2 ch2 h2, rfl⟩)
        omega
set_option maxHeartbeats 2000000 in
theorem ok_asked {f fK fS : Addr} {fd dK dS : FuncData} (F : Fun K "asked" "Graphs.asked" s_Graphs_asked f fd) (M_Graphs_keep : Meth K C "keep" fK) (G_Graphs_keep : FnOk P w K mg base (CXe P w) 1 fK dK ["self", "held"] (sp_keep K w m C CT)) (b_Graphs_keep : Binds K dK ["self", "held"] [])
    (M_Graphs_first_site : Meth K C "first_site" fS) (G_Graphs_first_site : FnOk P w K mg base CX0 1 fS dS ["self", "parts"] (sp_first K w m C)) (b_Graphs_first_site : Binds K dS ["self", "parts"] []) (T : Txt K mg C) (TE : TxE K mg CT CR) : FnOk P w K mg base (CXe P w) 2 f fd ["self", "site", "children"] (sp_asked K w m C CT CR) := by
  refine F.okE (k := 1) sc_Graphs_asked (fun vs H Q E h => ?_) (fun cdv Ar outer s H vs Q E hr h => ?_)
  · obtain ⟨G, Kl, Nd, dx, L, parts, s, ch, rfl, _⟩ := h
    rfl
  · obtain ⟨G, Kl, Nd, dx, L, parts, sn, ch, rfl, ga, hL, ne, lch, hch, hl, hm2, kb, k1, k2, k3⟩ := h
    refine ⟨_, (pss_cons (ps_set (i := 3) sc_Graphs_asked.nd rfl (Or.inl rfl) (pe_meth (pv 0) T.cl M_Graphs_first_site G_Graphs_first_site (hr.mono (by decide)) b_Graphs_first_site .nil pass0 (pa_cons (pv 2) pa_nil)))
      (pss_cons (ps_if (PW.pt (pw_and (pt_cmpR op_notN (pv 3) pe_non (nomark _)) (pw_and1 (pt_cmpR op_le (pv 3) (pv 1) (nomark _))))) (pss_one (ps_raise TE.NoOrder_ rfl rfl pe_str throws_of)) pss_nil)
      (pss_cons (ps_if (pt_cmpR op_eq (pe_callB call_lenSet (by rfl) T.len_ Boot.«len» (pa_cons (pe_callTy (call_setI rfl) (by rfl) T.set_ Boot.«set» (pa_cons (pv 2) pa_nil)) pa_nil)) pe_int (nomark _)) (pss_one (ps_ret (pe_ix ix_list (pv 2) pe_int (fun _ _ => rfl)))) pss_nil)
      (pss_one (ps_ret (pe_meth (pv 0) T.cl M_Graphs_keep G_Graphs_keep (hr.mono (by decide)) b_Graphs_keep .nil pass_up (pa_cons (pe_tup (pa_cons pe_str (pa_cons (pv 1) (pa_cons (pe_callTy call_tuple_of (by rfl) T.tuple_ Boot.«tuple» (pa_cons (pv 2) pa_nil)) pa_nil)))) pa_nil))))))), ?_⟩
    refine ⟨_, rfl, G, dx, _, rfl, ga.ins, rfl, _, rfl, G, Kl, Nd, dx, L, parts, ch, rfl, ga, hL, lch, hch, fun v H1 S1 hv => ?_⟩
    obtain ⟨x0, hx0⟩ := get_ex (l := ch) (i := 0) (by cases ch with | nil => exact absurd rfl ne | cons x r => simp)
    have x0m := List.mem_of_getElem? hx0
    have hL1 := S1 _ _ hL
    have ga1 := ga.same S1
    have eI : ch.map nI = (ch.map fun x : Nat => (x : Int)).map V.int := by
      rw [List.map_map]
      rfl
    have one : (onceI (ch.map fun x : Nat => (x : Int))).length = 1 ↔ ∀ y ∈ ch, y = x0 := by
      rw [onceI_one (x := (x0 : Int)) (List.mem_map.mpr ⟨x0, x0m, rfl⟩)]
      constructor
      · intro h y hy
        have := h (y : Int) (List.mem_map.mpr ⟨y, hy, rfl⟩)
        omega
      · intro h y hy
        obtain ⟨z, hz, rfl⟩ := List.mem_map.mp hy
        rw [h z hz]
    refine' restS (C := fun σ H' => σ = [some (.ref G), some (nI sn), some (.ref L), some v] ∧ H' = H1 ∧ ¬ Bad parts sn ch) (fun rest => ⟨_, rfl, rfl, _, rfl, iteBB (fun hnn => ?aa) (fun hnn => iteF (rest _ _ ⟨rfl, rfl, ?cc⟩))⟩) ?bb
    case bb =>
      rintro σ H' ⟨rfl, rfl, nb⟩
      refine ⟨_, rfl, L, ch.map (fun x : Nat => (x : Int)), rfl, by rw [← eI]; exact SqL.of hL1, by rw [List.length_map]; omega, fun sp hsp => ?_⟩
      have S2 := Same.upd (o := StO P w sp (onceI (ch.map fun x : Nat => (x : Int))).length) hsp
      refine ⟨sp, _, rfl, upd_same, rfl, _, rfl, iteBB (fun hc => ?_) (fun hc => ?_)⟩
      · have e1 : (onceI (ch.map fun x : Nat => (x : Int))).length = 1 := by
          have := of_decide_eq_true hc
          injection this with this
          omega
        refine ⟨_, rfl, L, _, 0, nI x0, rfl, rfl, SqL.of (S2 _ _ hL1), atI_nat (j := 0) (by rw [List.getElem?_map, hx0]; rfl), ?_⟩
        exact k1 nb _ x0 (.of (S1.trans S2)) (ga1.same S2) hx0 (one.mp e1)
      · have e1 : ¬ (onceI (ch.map fun x : Nat => (x : Int))).length = 1 := fun z => by
          have := of_decide_eq_false hc
          exact this (by rw [z]; rfl)
        have ga2 := ga1.same S2
        have hL2 := S2 _ _ hL1
        refine tail2 (X := upd H' sp (StO P w sp (onceI (ch.map fun x : Nat => (x : Int))).length)) (Y := fun H2 => Same H' H2 ∧ GrAt K w m H2 C G Kl Nd dx parts ∧ H2 L = some (.lst (ch.map nI))) ⟨S2, ga2, hL2⟩ ?_
        rintro H2 ⟨S2, ga2, hL2⟩
        refine ⟨_, rfl, G, dx, _, rfl, ga2.ins, rfl, _, rfl, _, rfl, L, _, rfl, .inl ⟨SqL.of hL2, fun t ht => ?_⟩⟩
        have S3 := Same.upd (o := .tup (ch.map nI)) ht
        have e3 : SqT K (upd H2 t (.tup (ch.map nI))) t (ch.map nI) := SqT.of upd_same
        have ga3 := ga2.same S3
        generalize upd H2 t (.tup (ch.map nI)) = H3 at S3 e3 ga3
        refine ⟨(by show 3 ≤ sizeLine; decide), fun q hq => ?_⟩
        have S4 := Same.upd (o := .tup [.str "ask", nI sn, .ref t]) hq
        have dcs : ∀ (H' : Hp) (l : List Nat), DatsAt K H' (l.map nI) (cD l) := fun H' l => by
          induction l with
          | nil => exact .nil
          | cons c l ih => exact .cons (.int _) ih
        have d4 : DatAt K (upd H3 q (.tup [.str "ask", nI sn, .ref t])) (.ref q) (hD (.ask sn ch)) := .tup (SqT.of upd_same) (.cons (.str _) (.cons (.int _) (.cons (.tup (S4.tup e3) (dcs _ ch)) .nil)))
        have ga4 := ga3.same S4
        generalize upd H3 q (.tup [.str "ask", nI sn, .ref t]) = H4 at S4 d4 ga4
        have nall : ∀ x, ch[0]? = some x → ¬ ∀ y ∈ ch, y = x := fun x hx z => e1 (one.mpr (by rw [hx0] at hx; cases hx; exact z))
        have S04 := S1.trans (S2.trans (S3.trans S4))
        exact ⟨G, Kl, Nd, dx, _, parts, .ask sn ch, rfl, ga4, d4, True.intro, hl, hm2, fun H' parts' j B g gr hlt => k2 nb H' parts' j ((BtZ.of S04).trans B) g gr hlt nall, fun hn hm H' S' => k3 nb nall hn hm H' (S04.trans S')⟩
    case cc =>
      rcases hv with ⟨rfl, hno⟩ | ⟨s, rfl, _, _⟩
      · rintro ⟨c, hc, s', ch', h', _⟩
        exact hno c hc s' ch' h'
      · exact absurd hnn (by simp)
    case aa =>
      rcases hv with ⟨rfl, _⟩ | ⟨s2, rfl, ⟨c, hc, ch2, hp⟩, hmin⟩
      · exact absurd hnn (by decide)
      · refine ⟨_, rfl, _, rfl, _, _, rfl, rfl, _, rfl, iteBB (fun hc2 => ?_) (fun hc2 => rest _ _ ⟨rfl, rfl, ?_⟩)⟩
        · have := of_decide_eq_true hc2
          exact ⟨rfl, kb ⟨c, hc, s2, ch2, hp, by omega⟩ _ S1⟩
        · have := of_decide_eq_false hc2
          rintro ⟨c', hc', s', ch', h', hle⟩
          have := hmin c' hc' s' ch' h'
          omega
def sp_at (K : PySem.W.Frag) (w : World) (m : Int) (C : Addr) : Sp := fun vs H Q _ => ∃ (G Kl Nd dx : Addr) (parts : List Pd) (i : Nat) (p : Pd), vs = [.ref G, nI i] ∧ GrAt K w m H C G Kl Nd dx parts ∧ parts[i]? = some p ∧
  (∀ (r : Addr) (u : V) (o : Dt), p = .lf o → SqT K H r [.str "leaf", u] → DatAt K H u o → Q (.ref r) H) ∧
  ∀ (r l : Addr) (s : Nat) (ch : List Nat) (H' : Hp), p = .ask s ch → Same H H' → H l = none → SqT K H' r [.str "ask", nI s, .ref l] → H' l = some (.lst (ch.map nI)) → Q (.ref r) H'
def sp_size (K : PySem.W.Frag) (w : World) (m : Int) (C : Addr) : Sp := fun vs H Q _ => ∃ (G Kl Nd dx : Addr) (parts : List Pd), vs = [.ref G] ∧ GrAt K w m H C G Kl Nd dx parts ∧ Q (nI parts.length) H
theorem ok_size {f : Addr} {fd : FuncData} (F : Fun K "size" "Graphs.size" s_Graphs_size f fd) (T : Txt K mg C) : FnOk P w K mg base CX0 1 f fd ["self"] (sp_size K w m C) := by
  refine F.ok sc_Graphs_size (fun vs H Q E h => ?_) (fun cdv Ar outer s H vs Q E hr h => ?_)
  · obtain ⟨G, Kl, Nd, dx, parts, rfl, _⟩ := h
    rfl
  · obtain ⟨G, Kl, Nd, dx, parts, rfl, ga, k⟩ := h
    refine ⟨_, (pss_one (ps_ret (pe_callB call_len_seq (by rfl) T.len_ Boot.«len» (pa_cons (pe_fld (pv 0) rfl) pa_nil)))), ?_⟩
    obtain ⟨hs, eh, dh⟩ := ga.kl
    have lh := dh.length
    rw [List.length_map] at lh
    refine ⟨_, rfl, G, C, dx, _, .ref Kl, rfl, ga.ins, T.cl, T.n2, rfl, Kl, hs, rfl, .inl (SqL.of eh), ?_⟩
    rw [lh]
    exact k
theorem ok_at {f : Addr} {fd : FuncData} (F : Fun K "at" "Graphs.at" s_Graphs_at f fd) (T : Txt K mg C) : FnOk P w K mg base CX0 1 f fd ["self", "part"] (sp_at K w m C) := by
  refine F.ok sc_Graphs_at (fun vs H Q E h => ?_) (fun cdv Ar outer s H vs Q E hr h => ?_)
  · obtain ⟨G, Kl, Nd, dx, parts, i, p, rfl, _⟩ := h
    rfl
  · obtain ⟨G, Kl, Nd, dx, parts, i, p, rfl, ga, hp, k1, k2⟩ := h
    refine ⟨_, (pss_cons (ps_set (i := 2) sc_Graphs_at.nd rfl (Or.inl rfl) (pe_ix ix_list (pe_fld (pv 0) rfl) (pv 1) (fun _ _ => rfl)))
      (pss_cons (ps_if (pt_cmpR op_eq (pe_ix ix_tup (pv 2) pe_int (fun _ _ => rfl)) pe_str (nomark _)) (pss_one (ps_ret (pv 2))) pss_nil)
      (pss_one (ps_ret (pe_tup (pa_cons pe_str (pa_cons (pe_ix ix_tup (pv 2) pe_int (fun _ _ => rfl)) (pa_cons (pe_callTy call_list_of (by rfl) T.list_ Boot.«list» (pa_cons (pe_ix ix_tup (pv 2) pe_int (fun _ _ => rfl)) pa_nil)) pa_nil)))))))), ?_⟩
    have fK : List.lookup ("kept" : Str) (gF m Kl Nd) = some (V.ref Kl) := rfl
    obtain ⟨hs, eh, dh⟩ := ga.kl
    have lh := dh.length
    rw [List.length_map] at lh
    have hi := (List.getElem?_eq_some_iff.mp hp).1
    obtain ⟨v, hv⟩ := get_ex (l := hs) (i := i) (by omega)
    obtain ⟨d, ed, dv⟩ := dh.get' hv
    rw [List.getElem?_map, hp] at ed
    cases ed
    refine ⟨_, rfl, G, C, dx, _, .ref Kl, rfl, ga.ins, T.cl, T.n2, fK, _, rfl, Kl, hs, _, v, rfl, rfl, SqL.of eh, atI_nat hv, ?_⟩
    cases p with
    | lf o =>
      obtain ⟨r, u, rfl, sv, hu⟩ := hleaf dv
      exact ⟨_, rfl, r, _, 0, .str "leaf", rfl, rfl, sv, rfl, rfl, _, rfl, iteBB (fun _ => ⟨_, rfl, k1 r u o rfl sv hu⟩) (fun hc => absurd hc (by decide +kernel))⟩
    | ask s2 ch =>
      obtain ⟨r, cl2, rfl, sv, sc⟩ := hask dv
      refine ⟨_, rfl, r, _, 0, .str "ask", rfl, rfl, sv, rfl, rfl, _, rfl, iteBB (fun hc => absurd hc (by decide +kernel)) (fun _ => ?_)⟩
      refine ⟨_, rfl, r, _, 1, nI s2, rfl, rfl, sv, rfl, _, rfl, r, _, 2, .ref cl2, rfl, rfl, sv, rfl, cl2, _, rfl, .inr sc, fun D hD => ?_⟩
      have S1 := Same.upd (o := .lst (ch.map nI)) hD
      have e1 : (upd H D (.lst (ch.map nI))) D = some (.lst (ch.map nI)) := upd_same
      generalize upd H D (.lst (ch.map nI)) = H1 at S1 e1
      refine ⟨(by show 3 ≤ sizeLine; decide), fun t ht => ?_⟩
      have S2 := Same.upd (o := .tup [.str "ask", nI s2, .ref D]) ht
      exact k2 t D s2 ch _ rfl (S1.trans S2) hD (SqT.of upd_same) (S2 _ _ e1)
end
end K30
namespace K30
open PySem L2 FW PyProof.Rows
def Lf0 (parts : List Pd) : Prop := parts = [] ∨ ∃ o, parts[0]? = some (.lf o)
inductive EnT (K : PySem.W.Frag) (Z : List Addr) (H : Hp) : V → Pd → Prop
  | lf (r : Addr) (u : V) (o : Dt) (e : H r = some (.tup [.str "leaf", u])) (hu : DatAt K H u o) : EnT K Z H (.ref r) (.lf o)
  | ask (r l s : Nat) (ch : List Nat) (e : H r = some (.tup [.str "ask", nI s, .ref l])) (hl : H l = some (.lst (ch.map nI))) (nz : l ∉ Z) : EnT K Z H (.ref r) (.ask s ch)
theorem EnT.same {K : PySem.W.Frag} {Z : List Addr} {H H' : Hp} {v : V} {p : Pd} (h : EnT K Z H v p) (e : Same H H') : EnT K Z H' v p := by
  cases h with
  | lf r u o s hu => exact .lf r u o (e _ _ s) (hu.same e)
  | ask r l s ch sv hl nz => exact .ask r l s ch (e _ _ sv) (e _ _ hl) nz
theorem EnT.butZ {K : PySem.W.Frag} {Z : List Addr} {H H' : Hp} {v : V} {p : Pd} (h : EnT K Z H v p) (nt : NTZ H Z) (e : BtZ Z H H') : EnT K Z H' v p := by
  have nz2 : ∀ {r : Addr} {xs : List V}, H r = some (.tup xs) → r ∉ Z := fun {r xs} hr z => (nt r z _ hr).1 xs rfl
  cases h with
  | lf r u o s hu => exact .lf r u o (e _ _ (nz2 s) s) (hu.butZ nt e)
  | ask r l s ch sv hl nz => exact .ask r l s ch (e _ _ (nz2 sv) sv) (e _ _ nz hl) nz
theorem EnT.ref {K : PySem.W.Frag} {Z : List Addr} {H : Hp} {v : V} {p : Pd} (h : EnT K Z H v p) : ∃ r xs, v = .ref r ∧ H r = some (.tup xs) := by
  cases h with
  | lf r u o s hu => exact ⟨r, _, rfl, s⟩
  | ask r l s ch sv hl nz => exact ⟨r, _, rfl, sv⟩
structure KnL (K : PySem.W.Frag) (Z : List Addr) (H : Hp) (ks : List V) (parts : List Pd) : Prop where
  l : ks.length = parts.length
  it : ∀ (j : Nat) (v : V) (p : Pd), ks[j]? = some v → parts[j]? = some p → EnT K Z H v p
  nd : ks.Nodup
theorem KnL.same {K : PySem.W.Frag} {Z : List Addr} {H H' : Hp} {ks : List V} {parts : List Pd} (h : KnL K Z H ks parts) (e : Same H H') : KnL K Z H' ks parts := ⟨h.l, fun j v p h1 h2 => (h.it j v p h1 h2).same e, h.nd⟩
theorem KnL.butZ {K : PySem.W.Frag} {Z : List Addr} {H H' : Hp} {ks : List V} {parts : List Pd} (h : KnL K Z H ks parts) (nt : NTZ H Z) (e : BtZ Z H H') : KnL K Z H' ks parts := ⟨h.l, fun j v p h1 h2 => (h.it j v p h1 h2).butZ nt e, h.nd⟩
theorem KnL.at {K : PySem.W.Frag} {Z : List Addr} {H : Hp} {ks : List V} {parts : List Pd} (h : KnL K Z H ks parts) {j : Nat} {p : Pd} (hp : parts[j]? = some p) : ∃ v, ks[j]? = some v ∧ EnT K Z H v p := by
  have hj := (List.getElem?_eq_some_iff.mp hp).1
  have l := h.l
  obtain ⟨v, hv⟩ := get_ex (l := ks) (i := j) (by omega)
  exact ⟨v, hv, h.it j v p hv hp⟩
theorem dcs {K : PySem.W.Frag} {H : Hp} : ∀ l : List Nat, DatsAt K H (l.map nI) (cD l)
  | [] => .nil
  | c :: l => .cons (.int _) (dcs l)
theorem eqT_en {K : PySem.W.Frag} {Z Z2 : List Addr} {H : Hp} {v x : V} {p q : Pd} (hv : EnT K Z H v p) (hx : EnT K Z2 H x q) (ne : v ≠ x) (nl : ∀ r l r2 l2 s s2, v = .ref r → x = .ref r2 → H r = some (.tup [.str "ask", nI s, .ref l]) → H r2 = some (.tup [.str "ask", nI s2, .ref l2]) → l ≠ l2) (op : PdO p) (b : Bool) (hb : b = true ↔ p = q) : EqT K H v x b := by
  have two : ∀ (e : Nat → Bool), (List.range 2).all e = (e 0 && e 1) := fun e => by simp [List.range_succ]
  have three : ∀ (e : Nat → Bool), (List.range 3).all e = (e 0 && (e 1 && e 2)) := fun e => by simp [List.range_succ, Bool.and_assoc]
  have bt : ∀ {c : Bool}, (c = true ↔ p = q) → b = c := fun {c} h => by
    cases b <;> cases c <;> simp_all
  cases hv with
  | lf r u o e1 hu =>
    have oh := Oc.hgt op
    cases hx with
    | lf r2 u2 o2 e2 hu2 =>
      refine ⟨r, r2, _, _, fun j => if j = 0 then Dt.beq (.str "leaf") (.str "leaf") else Dt.beq o o2, rfl, rfl, fun z => ne (by rw [z]), SqT.of e1, SqT.of e2, fun j a c h1 h2 => ?_, bt ?_⟩
      · match j, h1, h2 with
        | 0, h1, h2 => cases h1; cases h2; exact .dat _ _ (.str _) (.str _) (by decide)
        | 1, h1, h2 => cases h1; cases h2; exact .dat _ _ hu hu2 (by omega)
        | j + 2, h1, h2 => simp at h1
      · show ((List.range 2).all _ && true) = true ↔ _
        rw [two]
        simp [Dt.beq_self, Dt.beq_iff]
    | ask r2 l2 s2 ch2 e2 hl2 _ =>
      refine ⟨r, r2, _, _, fun j => if j = 0 then Dt.beq (.str "leaf") (.str "ask") else Dt.beq o (.int (s2 : Int)), rfl, rfl, fun z => ne (by rw [z]), SqT.of e1, SqT.of e2, fun j a c h1 h2 => ?_, bt ?_⟩
      · match j, h1, h2 with
        | 0, h1, h2 => cases h1; cases h2; exact .dat _ _ (.str _) (.str _) (by decide)
        | 1, h1, h2 => cases h1; cases h2; exact .dat _ _ hu (.int _) (by omega)
        | j + 2, h1, h2 => simp at h1
      · show ((List.range 2).all _ && false) = true ↔ _
        simp
  | ask r l s ch e1 hl _ =>
    cases hx with
    | lf r2 u2 o2 e2 hu2 =>
      refine ⟨r, r2, _, _, fun j => if j = 0 then Dt.beq (.str "ask") (.str "leaf") else Dt.beq (.int (s : Int)) o2, rfl, rfl, fun z => ne (by rw [z]), SqT.of e1, SqT.of e2, fun j a c h1 h2 => ?_, bt ?_⟩
      · match j, h1, h2 with
        | 0, h1, h2 => cases h1; cases h2; exact .dat _ _ (.str _) (.str _) (by decide)
        | 1, h1, h2 => cases h1; cases h2; exact .dat _ _ (.int _) hu2 (by simp [Dt.hgt])
        | j + 2, h1, h2 => simp at h2
      · show ((List.range 2).all _ && false) = true ↔ _
        simp
    | ask r2 l2 s2 ch2 e2 hl2 _ =>
      refine ⟨r, r2, _, _, fun j => if j = 0 then Dt.beq (.str "ask") (.str "ask") else if j = 1 then Dt.beq (.int (s : Int)) (.int (s2 : Int)) else Dt.beqs (cD ch) (cD ch2), rfl, rfl, fun z => ne (by rw [z]), SqT.of e1, SqT.of e2, fun j a c h1 h2 => ?_, bt ?_⟩
      · match j, h1, h2 with
        | 0, h1, h2 => cases h1; cases h2; exact .dat _ _ (.str _) (.str _) (by decide)
        | 1, h1, h2 => cases h1; cases h2; exact .dat _ _ (.int _) (.int _) (by simp [Dt.hgt])
        | 2, h1, h2 => cases h1; cases h2; exact .lst l l2 _ _ ⟨_, hl, dcs ch⟩ ⟨_, hl2, dcs ch2⟩ (nl r l r2 l2 s s2 rfl rfl e1 e2) (by rw [hgts_cD]; omega)
        | j + 3, h1, h2 => simp at h1
      · show ((List.range 3).all _ && true) = true ↔ _
        rw [three]
        simp only [Dt.beq_self, if_true, Bool.and_true, Bool.true_and, Bool.and_eq_true]
        simp only [show ¬ (1 : Nat) = 0 from by decide, show ¬ (2 : Nat) = 0 from by decide, show ¬ (2 : Nat) = 1 from by decide, if_false, Dt.beq_iff, Dt.beqs_iff]
        constructor
        · rintro ⟨h1, h2⟩
          injection h1 with h1
          rw [cD_inj h2, show s = s2 by omega]
        · intro h
          injection h with h1 h2
          rw [h1, h2]
          exact ⟨rfl, rfl⟩
structure SsOk (ss : List Nat) : Prop where
  l : ss.length = 6
  inc : ss.Pairwise (· < ·)
  le : ∀ s ∈ ss, s ≤ 200
theorem atI_last {xs : List V} {x : V} : atI (xs ++ [x]) (-1) = some x := by
  unfold atI ixN
  have h1 : ¬ (0 : Int) ≤ -1 := by decide
  have h2 : -(((xs ++ [x]).length : Nat) : Int) ≤ -1 := by
    rw [List.length_append]
    show -((xs.length + 1 : Nat) : Int) ≤ -1
    omega
  rw [if_neg h1, if_pos h2]
  have e : ((-1 : Int) + (((xs ++ [x]).length : Nat) : Int)).toNat = xs.length := by
    rw [List.length_append]
    show ((-1 : Int) + ((xs.length + 1 : Nat) : Int)).toNat = xs.length
    omega
  rw [e]
  show (xs ++ [x])[xs.length]? = some x
  rw [List.getElem?_append_right (Nat.le_refl _), Nat.sub_self]
  rfl
def sp_sites (K : PySem.W.Frag) : Sp := fun vs H Q _ => ∃ (a : Addr) (ns : List Int), vs = [.ref a] ∧ SqL K H a (ns.map V.int) ∧ ∀ (Sl : Addr) (H' : Hp) (ss : List Nat), Same H H' → H' Sl = some (.lst (ss.map nI)) → SsOk ss → Q (.ref Sl) H'
section
variable {P : Program} {w : World} {K : PySem.W.Frag} {mg : Str → Option Value} {base : Heap} {C : Addr}
set_option maxHeartbeats 2000000 in
theorem ok_law_sites {f fC fM : Addr} {fd dC dM : FuncData} (A : FnAt K mg "_law_sites" s_law_sites ["_law_script"] f fd) (A_law_cell_at : FnAt K mg "_law_cell_at" s_law_cell_at ["_law_script", "_law_k"] fC dC) (A_law_mix : FnAt K mg "_law_mix" s_law_mix ["_law_cell", "_law_k"] fM dM) (T : Txt K mg C) : FnOk P w K mg base CX0 2 f fd ["_law_script"] (sp_sites K) := by
  have G_law_cell_at : FnOk P w K mg base CX0 1 fC dC _ (sp_cell K) := ok_law_cell_at A_law_cell_at T
  have G_law_mix : FnOk P w K mg base CX0 1 fM dM _ sp_mix := ok_law_mix A_law_mix
  refine A.F.ok (k := 1) sc_law_sites (fun vs H Q E h => ?_) (fun cdv Ar outer s H vs Q E hr h => ?_)
  · obtain ⟨a, ns, rfl, _⟩ := h
    rfl
  · obtain ⟨a, ns, rfl, hS, k⟩ := h
    refine ⟨_, (pss_cons (ps_set (i := 1) sc_law_sites.nd rfl (Or.inl rfl) (pe_lst (pa_cons (pe_op op_mod (pe_call G_law_cell_at (hr.mono (by decide)) rfl A_law_cell_at.m A_law_cell_at.F.kp A_law_cell_at.b .nil pass0 (pa_cons (pv 0) (pa_cons pe_int pa_nil))) pe_int) pa_nil)))
      (pss_cons (ps_for PassesOwn.never rfl (pi_range1 rfl T.range_ (pa_cons pe_int pa_nil)) (pg_name (i := 2) sc_law_sites.nd rfl (Or.inl rfl)) (pss_one (ps_expr (pe_bm PySem.F.plainAttrs_list PySem.F.slot_list_append PySem.F.type_list_append mt_append (pv 1) (pa_cons (pe_op op_add (pe_op op_add (pe_ix ix_list (pv 1) (pe_un un_neg pe_int) (fun _ _ => rfl)) pe_int) (pe_op op_mod (pe_call G_law_mix (hr.mono (by decide)) rfl A_law_mix.m A_law_mix.F.kp A_law_mix.b .nil pass0 (pa_cons (pe_call G_law_cell_at (hr.mono (by decide)) rfl A_law_cell_at.m A_law_cell_at.F.kp A_law_cell_at.b .nil pass0 (pa_cons (pv 0) (pa_cons pe_int pa_nil))) (pa_cons (pv 2) pa_nil))) pe_int)) pa_nil)))))
      (pss_one (ps_ret (pv 1))))), ?_⟩
    refine ⟨_, rfl, a, ns, 0, rfl, hS, fun c => ⟨_, _, rfl, rfl, (by show (0 : Int) < 20; decide), (by show 1 ≤ sizeLine; decide), fun Sl hSl => ?_⟩⟩
    dsimp only at hSl ⊢
    obtain ⟨x0, e0, b0⟩ : ∃ x : Nat, c % 20 = (x : Int) ∧ x ≤ 20 := ⟨(c % 20).toNat, by omega, by omega⟩
    rw [e0]
    refine ⟨5, rfl, by decide, by decide, for_range (lo := 0) (n := (5 : Int).toNat) (fun j σ H' => Same H H' ∧ ∃ (ss : List Nat) (l : Nat) (o2 : Option V), H' Sl = some (.lst ((ss ++ [l]).map nI)) ∧ ss.length = j ∧ (ss ++ [l]).Pairwise (· < ·) ∧ (∀ s ∈ ss ++ [l], s ≤ l) ∧ l ≤ 20 + 17 * j ∧ σ = [some (.ref a), some (.ref Sl), o2])
      ⟨.upd hSl, [], x0, none, upd_same, rfl, List.pairwise_singleton _ _, (fun s hs => by rw [List.mem_singleton.mp hs]; exact Nat.le_refl _), by omega, rfl⟩ ?_ ?_⟩
    · rintro j σ H' hj ⟨S, ss, l, o2, eS, ls, pw, mx, bl, rfl⟩
      have hj5 : j < 5 := hj
      refine ⟨_, rfl, .inl ⟨rfl, _, SqL.of eS⟩, ?_⟩
      refine ⟨_, rfl, _, rfl, Sl, _, _, nI l, rfl, rfl, SqL.of eS, (by rw [List.map_append]; exact atI_last), _, _, rfl, rfl, ?_⟩
      refine ⟨_, rfl, a, ns, 0, rfl, S.seq hS, fun c2 => ⟨_, rfl, c2, _, rfl, by omega, by omega, fun m m0 m1 => ⟨_, _, rfl, rfl, (by show (0 : Int) < 16; decide), _, _, rfl, rfl, Sl, _, _, rfl, rfl, eS, Nat.lt_of_le_of_lt (show ((ss ++ [l]).map nI).length ≤ 100 by rw [List.length_map, List.length_append, ls]; show j + 1 ≤ 100; omega) (by decide), ?_⟩⟩⟩
      dsimp only
      obtain ⟨x, ex, bx1, bx2⟩ : ∃ x : Nat, (l : Int) + 1 + m % 16 = (x : Int) ∧ l < x ∧ x ≤ l + 17 := ⟨((l : Int) + 1 + m % 16).toNat, by omega, by omega, by omega⟩
      rw [ex]
      refine ⟨fun b o eb => ?_, ss ++ [l], x, _, by rw [upd_same, List.map_append (l₁ := ss ++ [l])]; rfl, by rw [List.length_append, ls]; rfl, ?_, fun s hs => ?_, by omega, rfl⟩
      · rw [upd_ne (ne_of_none eb hSl)]
        exact S _ _ eb
      · rw [List.pairwise_append]
        refine ⟨pw, List.pairwise_singleton _ _, fun s hs y hy => ?_⟩
        rw [List.mem_singleton.mp hy]
        have := mx s hs
        omega
      · rcases List.mem_append.mp hs with z | z
        · have := mx s z
          omega
        · rw [List.mem_singleton.mp z]
          exact Nat.le_refl _
    · rintro σ H' ⟨S, ss, l, o2, eS, ls, pw, mx, bl, rfl⟩
      have l5 : ss.length = 5 := ls
      refine ⟨_, rfl, k Sl H' (ss ++ [l]) S eS ⟨by rw [List.length_append, l5]; rfl, pw, fun s hs => ?_⟩⟩
      have := mx s hs
      have : l ≤ 20 + 17 * 5 := bl
      omega
end
end K30
namespace K30
open PySem L2 FW PyProof.Rows
def One (ch : List Nat) : Prop := ∃ x, ch[0]? = some x ∧ ∀ y ∈ ch, y = x
def NB (parts : List Pd) (p : Pd) : Prop := ∀ s ch, p = .ask s ch → ¬ Bad parts s ch ∧ ¬ One ch
inductive Du (parts : List Pd) (m : Int) : Pd → Int → Prop
  | bad (s : Nat) (ch : List Nat) (h : Bad parts s ch) : Du parts m (.ask s ch) (-1)
  | one (s : Nat) (ch : List Nat) (x : Nat) (h : ¬ Bad parts s ch) (hx : ch[0]? = some x) (ha : ∀ y ∈ ch, y = x) : Du parts m (.ask s ch) (x : Int)
  | old (p : Pd) (j : Nat) (h : NB parts p) (hj : parts[j]? = some p) : Du parts m p (j : Int)
  | full (p : Pd) (h : NB parts p) (hn : p ∉ parts) (hl : (parts.length : Int) = m) : Du parts m p (-2)
  | new (p : Pd) (h : NB parts p) (hn : p ∉ parts) (hl : (parts.length : Int) ≠ m) : Du parts m p (parts.length : Int)
def DdOk (parts : List Pd) (p : Pd) : Prop := PdO p ∧ ∀ s ch, p = .ask s ch → ch ≠ [] ∧ ch.length ≤ 6 ∧ ∀ c ∈ ch, c < parts.length
def sp_children (K : PySem.W.Frag) : Sp := fun vs H Q _ => ∃ (a Kn : Addr) (Z : List Addr) (ns : List Int) (pl many site : Nat) (good : Bool) (ks : List V) (parts : List Pd), vs = [.ref a, nI pl, nI many, .ref Kn, nI site, .bl good] ∧ SqL K H a (ns.map V.int) ∧ pl ≤ 1000 ∧ 1 ≤ many ∧ many ≤ 6 ∧ H Kn = some (.lst ks) ∧ KnL K Z H ks parts ∧ parts.length ≤ 1000 ∧ (∃ o, parts[0]? = some (.lf o)) ∧
  ∀ (D : Addr) (H' : Hp) (ch : List Nat), Same H H' → H D = none → H' D = some (.lst (ch.map nI)) → ch.length = many → (∀ c ∈ ch, c < parts.length) → Q (.ref D) H'
def sp_due (K : PySem.W.Frag) (m : Int) : Sp := fun vs H Q _ => ∃ (Kn : Addr) (Z Z2 : List Addr) (v : V) (ks : List V) (parts : List Pd) (p : Pd), vs = [.ref Kn, v, .int m] ∧ H Kn = some (.lst ks) ∧ KnL K Z H ks parts ∧ EnT K Z2 H v p ∧ DdOk parts p ∧ (∀ q ∈ parts, PdO q) ∧ parts.Nodup ∧ parts.length ≤ 1000 ∧ v ∉ ks ∧
  (∀ (u : V) (r l r2 l2 : Addr) (s s2 : Nat), u ∈ ks → u = .ref r → v = .ref r2 → H r = some (.tup [.str "ask", nI s, .ref l]) → H r2 = some (.tup [.str "ask", nI s2, .ref l2]) → l ≠ l2) ∧
  ∀ (d : Int) (H' : Hp), Du parts m p d → Same H H' → Q (.int d) H'
theorem flat_rep {α : Type} (x : α) : ∀ n : Nat, (List.replicate n [x]).flatten = List.replicate n x
  | 0 => rfl
  | n + 1 => by
    rw [List.replicate_succ, List.flatten_cons, flat_rep x n]
    rfl
theorem dats_rep {K : PySem.W.Frag} {H : Hp} (x : Nat) : ∀ n : Nat, DatsAt K H (List.replicate n (nI x)) (List.replicate n (Dt.int (x : Int)))
  | 0 => .nil
  | n + 1 => .cons (.int _) (dats_rep x n)
theorem rep_iff {x : Nat} : ∀ {ch : List Nat}, cD ch = List.replicate ch.length (Dt.int (x : Int)) ↔ ∀ y ∈ ch, y = x
  | [] => by simp
  | c :: ch => by
    have ih := rep_iff (x := x) (ch := ch)
    show Dt.int (c : Int) :: cD ch = Dt.int (x : Int) :: List.replicate ch.length _ ↔ _
    rw [List.cons.injEq, ih]
    constructor
    · rintro ⟨h1, h2⟩ y hy
      rcases List.mem_cons.mp hy with z | z
      · injection h1 with h1
        omega
      · exact h2 y z
    · intro h
      exact ⟨by rw [h c (List.mem_cons_self ..)], fun y hy => h y (List.mem_cons_of_mem _ hy)⟩
section
variable {P : Program} {w : World} {K : PySem.W.Frag} {mg : Str → Option Value} {base : Heap} {m : Int} {C CT CR : Addr}
set_option maxHeartbeats 4000000 in
theorem ok_law_children {f fC : Addr} {fd dC : FuncData} (A : FnAt K mg "_law_children" s_law_children ["_law_script", "_law_place", "_law_many", "_law_known", "_law_site", "_law_good"] f fd) (A_law_cell_at : FnAt K mg "_law_cell_at" s_law_cell_at ["_law_script", "_law_k"] fC dC) (T : Txt K mg C) : FnOk P w K mg base CX0 2 f fd ["_law_script", "_law_place", "_law_many", "_law_known", "_law_site", "_law_good"] (sp_children K) := by
  have G_law_cell_at : FnOk P w K mg base CX0 1 fC dC _ (sp_cell K) := ok_law_cell_at A_law_cell_at T
  refine A.F.ok (k := 1) sc_law_children (fun vs H Q E h => ?_) (fun cdv Ar outer s H vs Q E hr h => ?_)
  · obtain ⟨a, Kn, Z, ns, pl, many, site, good, ks, parts, rfl, _⟩ := h
    rfl
  · obtain ⟨a, Kn, Z, ns, pl, many, site, good, ks, parts, rfl, hS, hpl, hm1, hm6, eK, kn, few, ⟨o0, ho0⟩, k⟩ := h
    refine ⟨_, (pss_cons (ps_set (i := 6) sc_law_children.nd rfl (Or.inr rfl) (pe_comp rfl (Nc := ["_law_k", "_law_site", "_law_known", "_law_good"]) (caps3 1 4 2 3 3 5 [(".0", .local), ("_law_k", .local), ("_law_good", .cell), ("_law_known", .cell), ("_law_site", .cell)] rfl rfl rfl (by decide +kernel) (by decide +kernel) rfl rfl rfl (by decide +kernel) rfl rfl rfl rfl rfl rfl rfl rfl rfl rfl rfl rfl) (pi_range1 rfl T.range_ (pa_cons (pe_callB call_len_seq (by rfl) T.len_ Boot.«len» (pa_cons (pv 3) pa_nil)) pa_nil)) (fun _ _ _ _ => (pg_name (i := 0) (show List.Nodup (["_law_k", "_law_site", "_law_known", "_law_good"] : List Str) by decide +kernel) rfl (Or.inl rfl))) (fun _ _ _ _ => by exact (pts_one (PW.pt (pw_or (pt_not (pt_val (pv 3))) (pw_or (pt_cmpR op_eq (pe_ix (ix_tupK (K := K) rfl) (pe_ix (ix_listK (K := K) rfl) (pv 2) (pv 0) (fun _ _ => rfl)) pe_int (fun _ _ => rfl)) pe_str (nomark _)) (pw_or1 (pt_cmpR op_gt (pe_ix (ix_tupK (K := K) rfl) (pe_ix (ix_listK (K := K) rfl) (pv 2) (pv 0) (fun _ _ => rfl)) pe_int (fun _ _ => rfl)) (pv 1) (nomark _)))))))) (fun _ _ _ _ => (pv 0))))
      (pss_one (ps_ret (pe_comp rfl (Nc := ["_law_k", "_law_some", "_law_script", "_law_place"]) (caps3 1 6 2 0 3 1 [(".0", .local), ("_law_k", .local), ("_law_cell_at", .globalImplicit), ("len", .globalImplicit), ("_law_place", .cell), ("_law_script", .cell), ("_law_some", .cell)] rfl rfl rfl (by decide +kernel) (by decide +kernel) rfl rfl rfl (by decide +kernel) rfl rfl rfl rfl rfl rfl rfl rfl rfl rfl rfl rfl) (pi_range1 rfl T.range_ (pa_cons (pv 2) pa_nil)) (fun _ _ _ _ => (pg_name (i := 0) (show List.Nodup (["_law_k", "_law_some", "_law_script", "_law_place"] : List Str) by decide +kernel) rfl (Or.inl rfl))) (fun _ _ _ _ => pts_nil) (fun _ _ _ _ => by exact (pe_ix (ix_listK (K := K) rfl) (pv 1) (pe_op op_mod (pe_call G_law_cell_at (hr.mono (by decide)) rfl A_law_cell_at.m A_law_cell_at.F.kp A_law_cell_at.b .nil pass0 (pa_cons (pv 2) (pa_cons (pe_op op_add (pv 3) (pv 0)) pa_nil))) (pe_callB (call_len_seqK (K := K) rfl) (by rfl) T.len_ Boot.«len» (pa_cons (pv 1) pa_nil))) (fun _ _ => rfl))))))), ?_⟩
    have lk := kn.l
    refine ⟨_, rfl, Kn, ks, rfl, .inl (SqL.of eK), (ks.length : Int), rfl, by omega, by omega, fun D hD => ?_⟩
    refine comp_range (lo := 0) (n := (ks.length : Int).toNat) (D := D) (fun i σ ys H' => (∃ o1, σ = [o1, some (nI site), some (.ref Kn), some (.bl good)]) ∧ Same H H' ∧ H' D = some (.lst ys) ∧ ∃ cs : List Nat, ys = cs.map nI ∧ cs.length ≤ i ∧ (∀ c ∈ cs, c < parts.length) ∧ (0 < i → cs ≠ []))
      ⟨⟨none, rfl⟩, .upd hD, upd_same, [], rfl, Nat.le_refl _, (fun _ h => nomatch h), (fun h => absurd h (Nat.lt_irrefl _))⟩ ?_ ?_ ?_
    · rintro i σ ys H' hi ⟨_, S, eD, cs, rfl, lc, _, _⟩
      exact ⟨eD, Nat.lt_of_le_of_lt (m := 1000) (by rw [List.length_map]; omega) (by decide)⟩
    · rintro i σ ys H' hi ⟨⟨o1, rfl⟩, S, eD, cs, rfl, lc, hcs, hn⟩ N hN
      have hi' : i < parts.length := by omega
      obtain ⟨p, hp⟩ := get_ex hi'
      obtain ⟨v, hv, en⟩ := (kn.same S).at hp
      have hat : atI ks (0 + (i : Int)) = some v := atI0 hv
      have yes : H' D = some (.lst (cs.map nI)) ∧ N [some (.int (0 + (i : Int))), some (nI site), some (.ref Kn), some (.bl good)] (cs.map nI ++ [.int (0 + (i : Int))]) (upd H' D (.lst (cs.map nI ++ [.int (0 + (i : Int))]))) := ⟨eD, hN _ _ _ ⟨⟨_, rfl⟩, fun b o eb => by
        rw [upd_ne (ne_of_none eb hD)]
        exact S _ _ eb, upd_same, cs ++ [i], by rw [List.map_append, Int.zero_add]; rfl, by rw [List.length_append]; show cs.length + 1 ≤ _; omega, fun c hc => by
        rcases List.mem_append.mp hc with z | z
        · exact hcs c z
        · rw [List.mem_singleton.mp z]
          exact hi', fun _ z => by simp at z⟩⟩
      cases good with
      | false => exact ⟨_, rfl, _, rfl, iteT (iteT ⟨_, rfl, yes⟩)⟩
      | true =>
        refine ⟨_, rfl, _, rfl, iteF ?_⟩
        cases en with
        | lf r u o e hu =>
          exact ⟨_, rfl, _, rfl, Kn, ks, _, .ref r, rfl, rfl, SqL.of (S _ _ eK), hat, r, _, 0, .str "leaf", rfl, rfl, SqT.of e, rfl, rfl, _, rfl, iteBB (fun _ => iteT ⟨_, rfl, yes⟩) (fun hc => absurd hc (by decide +kernel))⟩
        | ask r l s2 ch2 e hl nz =>
          refine ⟨_, rfl, _, rfl, Kn, ks, _, .ref r, rfl, rfl, SqL.of (S _ _ eK), hat, r, _, 0, .str "ask", rfl, rfl, SqT.of e, rfl, rfl, _, rfl, iteBB (fun hc => absurd hc (by decide +kernel)) (fun _ => ?_)⟩
          refine ⟨_, rfl, _, rfl, Kn, ks, _, .ref r, rfl, rfl, SqL.of (S _ _ eK), hat, r, _, 1, nI s2, rfl, rfl, SqT.of e, rfl, _, rfl, _, _, rfl, rfl, _, rfl, iteBB (fun _ => ⟨_, rfl, yes⟩) (fun _ => hN _ _ _ ⟨⟨_, rfl⟩, S, eD, cs, rfl, by omega, hcs, fun _ => ?_⟩)⟩
          cases i with
          | zero =>
            rw [ho0] at hp
            cases hp
          | succ i => exact hn (Nat.succ_pos _)
    rintro σ ys H1 ⟨_, S1, eD, cs, rfl, lc, hcs, hn⟩
    have hk0 := (List.getElem?_eq_some_iff.mp ho0).1
    have lcs : 0 < cs.length := List.length_pos_iff.mpr (hn (by omega))
    have lcm : (cs.map nI).length = cs.length := List.length_map ..
    refine ⟨_, rfl, (many : Int), rfl, by omega, by omega, fun D2 hD2 => ?_⟩
    refine comp_range (lo := 0) (n := (many : Int).toNat) (D := D2) (fun i σ ys H' => (∃ o1, σ = [o1, some (.ref D), some (.ref a), some (nI pl)]) ∧ Same H1 H' ∧ H' D2 = some (.lst ys) ∧ ∃ ch : List Nat, ys = ch.map nI ∧ ch.length = i ∧ ∀ c ∈ ch, c < parts.length)
      ⟨⟨none, rfl⟩, .upd hD2, upd_same, [], rfl, rfl, (fun _ h => nomatch h)⟩ ?_ ?_ ?_
    · rintro i σ ys H' hi ⟨_, S, eD2, ch, rfl, lch, _⟩
      exact ⟨eD2, Nat.lt_of_le_of_lt (show (ch.map nI).length ≤ 100 by rw [List.length_map]; omega) (by decide)⟩
    · rintro i σ ys H' hi ⟨⟨o1, rfl⟩, S, eD2, ch, rfl, lch, hch⟩ N hN
      refine iteT (B := True) ?_
      refine ⟨_, rfl, _, rfl, _, rfl, _, rfl, _, _, rfl, rfl, a, ns, pl + i, (by show [V.ref a, V.int ((pl : Int) + (0 + (i : Int)))] = _; rw [show (pl : Int) + (0 + (i : Int)) = ((pl + i : Nat) : Int) by omega]), (S1.trans S).seq hS, fun c => ?_⟩
      refine ⟨_, rfl, D, _, rfl, .inl (SqL.of (S _ _ eD)), _, _, rfl, rfl, (by show (0 : Int) < ((cs.map nI).length : Nat); omega), ?_⟩
      have z0 := Int.emod_nonneg c (show (((cs.map nI).length : Nat) : Int) ≠ 0 by omega)
      have z1 := Int.emod_lt_of_pos c (show (0 : Int) < (((cs.map nI).length : Nat) : Int) by omega)
      obtain ⟨c2, hc2⟩ := get_ex (l := cs) (i := (c % ((cs.map nI).length : Nat)).toNat) (by omega)
      have hat : atI (cs.map nI) (c % ((cs.map nI).length : Nat)) = some (nI c2) := by
        have := atI_nat (xs := cs.map nI) (j := (c % ((cs.map nI).length : Nat)).toNat) (v := nI c2) (by rw [List.getElem?_map, hc2]; rfl)
        rw [show (((c % ((cs.map nI).length : Nat)).toNat : Nat) : Int) = c % ((cs.map nI).length : Nat) by omega] at this
        exact this
      refine ⟨D, _, _, nI c2, rfl, rfl, SqL.of (S _ _ eD), hat, eD2, hN _ _ _ ⟨⟨_, rfl⟩, fun b o eb => ?_, upd_same, ch ++ [c2], by rw [List.map_append]; rfl, by rw [List.length_append, lch]; rfl, fun c hc => ?_⟩⟩
      · rw [upd_ne (ne_of_none eb hD2)]
        exact S _ _ eb
      · rcases List.mem_append.mp hc with z | z
        · exact hch c z
        · rw [List.mem_singleton.mp z]
          exact hcs c2 (List.mem_of_getElem? hc2)
    rintro σ ys H2 ⟨_, S2, eD2, ch, rfl, lch, hch⟩
    exact k D2 H2 ch (S1.trans S2) (S1.free hD2) eD2 (by omega) hch
end
end K30
namespace K30
open PySem L2 FW PyProof.Rows
section
variable {P : Program} {w : World} {K : PySem.W.Frag} {mg : Str → Option Value} {base : Heap} {m : Int} {C CT CR : Addr}
set_option maxHeartbeats 4000000 in
theorem ok_law_due {f : Addr} {fd : FuncData} (A : FnAt K mg "_law_due" s_law_due ["_law_known", "_law_deed", "_law_limit"] f fd) (T : Txt K mg C) : FnOk P w K mg base CX0 1 f fd ["_law_known", "_law_deed", "_law_limit"] (sp_due K m) := by
  refine A.F.ok sc_law_due (fun vs H Q E h => ?_) (fun cdv Ar outer s H vs Q E hr h => ?_)
  · obtain ⟨Kn, Z, Z2, v, ks, parts, p, rfl, _⟩ := h
    rfl
  · obtain ⟨Kn, Z, Z2, v, ks, parts, p, rfl, eK, kn, en, ⟨po, dd⟩, oc, ndp, few, vn, nl, k⟩ := h
    refine ⟨_, (pss_cons (ps_if (pt_cmpR op_eq (pe_ix ix_tup (pv 1) pe_int (fun _ _ => rfl)) pe_str (nomark _))
        (pss_cons (ps_for PassesOwn.never rfl (pi_list (pe_ix ix_tup (pv 1) pe_int (fun _ _ => rfl))) (pg_name (i := 3) sc_law_due.nd rfl (Or.inl rfl)) (pss_one (ps_if (PW.pt (pw_and (pt_cmpR op_eq (pe_ix ix_tup (pe_ix ix_list (pv 0) (pv 3) (fun _ _ => rfl)) pe_int (fun _ _ => rfl)) pe_str (nomark _)) (pw_and1 (pt_cmpR op_le (pe_ix ix_tup (pe_ix ix_list (pv 0) (pv 3) (fun _ _ => rfl)) pe_int (fun _ _ => rfl)) (pe_ix ix_tup (pv 1) pe_int (fun _ _ => rfl)) (nomark _))))) (pss_one (ps_ret (pe_un un_neg pe_int))) pss_nil)))
        (pss_one (ps_if (pt_cmpR (op_eqL hr.units) (pe_ix ix_tup (pv 1) pe_int (fun _ _ => rfl)) (pe_op op_rep (pe_lst (pa_cons (pe_ix ix_list (pe_ix ix_tup (pv 1) pe_int (fun _ _ => rfl)) pe_int (fun _ _ => rfl)) pa_nil)) (pe_callB call_len_seq (by rfl) T.len_ Boot.«len» (pa_cons (pe_ix ix_tup (pv 1) pe_int (fun _ _ => rfl)) pa_nil))) (nomark _)) (pss_one (ps_ret (pe_ix ix_list (pe_ix ix_tup (pv 1) pe_int (fun _ _ => rfl)) pe_int (fun _ _ => rfl)))) pss_nil))) pss_nil)
      (pss_cons (ps_if (pt_cmpR (op_inT hr.units) (pv 1) (pv 0) (by rfl)) (pss_one (ps_ret (pe_bm PySem.F.plainAttrs_list PySem.F.slot_list_index PySem.F.type_list_index (mt_indexT hr.units) (pv 0) (pa_cons (pv 1) pa_nil)))) pss_nil)
      (pss_cons (ps_if (pt_cmpR op_eq (pe_callB call_len_seq (by rfl) T.len_ Boot.«len» (pa_cons (pv 0) pa_nil)) (pv 2) (nomark _)) (pss_one (ps_ret (pe_un un_neg pe_int))) pss_nil)
      (pss_one (ps_ret (pe_callB call_len_seq (by rfl) T.len_ Boot.«len» (pa_cons (pv 0) pa_nil))))))), ?_⟩
    have lk := kn.l
    obtain ⟨r, kd, vr, ev, er, hkd⟩ : ∃ (r : Addr) (kd : Str) (vr : List V), v = .ref r ∧ H r = some (.tup (.str kd :: vr)) ∧ ((kd = "leaf" ∧ ∃ o, p = .lf o) ∨ (kd = "ask" ∧ ∃ s l ch, p = .ask s ch ∧ vr = [nI s, .ref l] ∧ H l = some (.lst (ch.map nI)))) := by
      cases en with
      | lf r u o e hu => exact ⟨r, _, _, rfl, e, .inl ⟨rfl, o, rfl⟩⟩
      | ask r l s ch e hl nz => exact ⟨r, _, _, rfl, e, .inr ⟨rfl, s, l, ch, rfl, rfl, hl⟩⟩
    subst ev
    refine' restS (C := fun σ H' => Same H H' ∧ NB parts p ∧ ∃ o3, σ = [some (.ref Kn), some (.ref r), some (.int m), o3]) (fun rest => ⟨_, rfl, r, _, 0, .str kd, rfl, rfl, SqT.of er, atI_nat (xs := .str kd :: vr) (j := 0) rfl, rfl, _, rfl, iteBB (fun hc => ?aa) (fun hc => rest _ _ ⟨.refl _, ?cc, none, rfl⟩)⟩) ?bb
    case bb =>
      rintro σ H' ⟨S, nb, o3, rfl⟩
      have eqt : ∀ (j : Nat) (u : V) (q : Pd), ks[j]? = some u → parts[j]? = some q → ∀ b : Bool, (b = true ↔ q = p) → EqT K H' u (.ref r) b := fun j u q h1 h2 b hb => by
        have um := List.mem_of_getElem? h1
        have enu := (kn.same S).it j u q h1 h2
        refine eqT_en enu (en.same S) (fun z => vn (by rw [← z]; exact um)) (fun r l r2 l2 s1 s2 z1 z2 z3 z4 => ?_) (oc q (List.mem_of_getElem? h2)) b hb
        have b1 : H r = some (.tup [.str "ask", nI s1, .ref l]) := by
          obtain ⟨r', xs, e1, e2⟩ := (kn.it j u q h1 h2).ref
          rw [z1] at e1
          cases e1
          have := S _ _ e2
          rw [z3] at this
          rw [e2, ← Option.some.inj this]
        have b2 : H r2 = some (.tup [.str "ask", nI s2, .ref l2]) := by
          obtain ⟨r', xs, e1, e2⟩ := en.ref
          cases z2
          cases e1
          have := S _ _ e2
          rw [z4] at this
          rw [e2, ← Option.some.inj this]
        exact nl u r l r2 l2 s1 s2 um z1 z2 b1 b2
      have eK' := S _ _ eK
      have enr := (en.same S)
      obtain ⟨bs, ebs⟩ : ∃ bs : List Bool, bs = parts.map fun q => @decide (q = p) (Classical.propDecidable _) := ⟨_, rfl⟩
      have any_iff : bs.any id = true ↔ p ∈ parts := by
        rw [ebs]
        constructor
        · intro h
          obtain ⟨b, hb, hbt⟩ := List.any_eq_true.mp h
          obtain ⟨q, hq, rfl⟩ := List.mem_map.mp hb
          rw [← @of_decide_eq_true _ (Classical.propDecidable _) hbt]
          exact hq
        · intro h
          exact List.any_eq_true.mpr ⟨true, List.mem_map.mpr ⟨p, h, @decide_eq_true _ (Classical.propDecidable _) rfl⟩, rfl⟩
      refine ⟨_, rfl, _, rfl, Kn, ks, bs, rfl, SqL.of eK', by rw [ebs, List.length_map]; exact lk, fun j u b h1 h2 => ?_, _, rfl, iteBB (fun hc => ?_) (fun hc => ?_)⟩
      · rw [ebs] at h2
        obtain ⟨q, hq, rfl⟩ := map_get h2
        exact eqt j u q h1 hq _ ⟨fun z => @of_decide_eq_true _ (Classical.propDecidable _) z, fun z => @decide_eq_true _ (Classical.propDecidable _) z⟩
      · have pm := any_iff.mp hc
        obtain ⟨j, hj⟩ := List.getElem?_of_mem pm
        have hjl := (List.getElem?_eq_some_iff.mp hj).1
        refine ⟨_, rfl, .inl ⟨rfl, _, SqL.of eK'⟩, _, rfl, Kn, ks, .ref r, j, rfl, rfl, eK', by omega, kn.nd, fun i u hu => ⟨?_, ?_⟩, k _ _ (.old p j nb hj) S⟩
        · have hil := (List.getElem?_eq_some_iff.mp hu).1
          obtain ⟨q, hq⟩ := get_ex (l := parts) (i := i) (by omega)
          refine eqt i u q hu hq _ ⟨fun z => ?_, fun z => ?_⟩
          · have := of_decide_eq_true z
            subst this
            rw [hq] at hj
            cases hj
            rfl
          · subst z
            exact decide_eq_true ((List.getElem?_inj (by omega) ndp).mp (hq.trans hj.symm))
        · have hil := (List.getElem?_eq_some_iff.mp hu).1
          obtain ⟨q, hq⟩ := get_ex (l := parts) (i := i) (by omega)
          obtain ⟨r, xs, e1, _⟩ := (kn.it i u q hu hq).ref
          exact ⟨r, e1⟩
      · have pn : p ∉ parts := fun z => by
          rw [any_iff.mpr z] at hc
          cases hc
        refine ⟨_, rfl, Kn, ks, rfl, .inl (SqL.of eK'), _, rfl, rfl, _, rfl, iteBB (fun hc => ?_) (fun hc => ?_)⟩
        · have := of_decide_eq_true hc
          injection this with this
          exact ⟨_, rfl, k _ _ (.full p nb pn (by omega)) S⟩
        · have hne := of_decide_eq_false hc
          refine ⟨_, rfl, Kn, ks, rfl, .inl (SqL.of eK'), ?_⟩
          rw [lk]
          exact k _ _ (.new p nb pn fun z => hne (by rw [lk, z])) S
    case cc =>
      have hc := of_decide_eq_false hc
      rcases hkd with ⟨_, o, rfl⟩ | ⟨e, _⟩
      · exact fun s ch z => nomatch z
      · exact absurd (by rw [e]) hc
    case aa =>
      have hc := of_decide_eq_true hc
      injection hc with hc
      rcases hkd with ⟨e, _⟩ | ⟨_, sn, l, ch, rfl, rfl, hl⟩
      · rw [e] at hc
        exact absurd hc (by decide +kernel)
      subst hc
      obtain ⟨cne, c6, clt⟩ := dd sn ch rfl
      obtain ⟨x0, hx0⟩ := get_ex (l := ch) (i := 0) (List.length_pos_iff.mpr cne)
      refine ⟨_, rfl, r, _, 2, .ref l, rfl, rfl, SqT.of er, rfl, l, rfl, ⟨_, SqL.of hl⟩, for_list (K := K) (a := l) (xs := ch.map nI) (fun i σ H' => H' = H ∧ (∀ c ∈ ch.take i, ∀ s' ch', parts[c]? = some (.ask s' ch') → ¬ s' ≤ sn) ∧ ∃ o3, σ = [some (.ref Kn), some (.ref r), some (.int m), o3])
        ⟨rfl, (fun _ h => nomatch h), none, rfl⟩ (fun i σ H' _ z => by rw [z.1]; exact SqL.of hl) ?_ ?_⟩
      · rintro i x σ H' hx ⟨rfl, hno, o3, rfl⟩
        obtain ⟨c, hci, rfl⟩ := map_get hx
        have cm := List.mem_of_getElem? hci
        obtain ⟨q, hq⟩ := get_ex (clt c cm)
        obtain ⟨u, hu, enu⟩ := kn.at hq
        have next : (∀ s' ch', q = .ask s' ch' → ¬ s' ≤ sn) → ∀ c' ∈ ch.take (i + 1), ∀ s' ch', parts[c']? = some (.ask s' ch') → ¬ s' ≤ sn := fun h c' hc' s' ch' h' => by
          rw [take_snoc' hci] at hc'
          rcases List.mem_append.mp hc' with z | z
          · exact hno c' z s' ch' h'
          · rw [List.mem_singleton.mp z, hq] at h'
            exact h s' ch' (Option.some.inj h')
        cases enu with
        | lf r2 u2 o2 e2 hu2 =>
          exact ⟨_, rfl, _, rfl, Kn, ks, _, .ref r2, rfl, rfl, SqL.of eK, atI_nat hu, r2, _, 0, .str "leaf", rfl, rfl, SqT.of e2, rfl, rfl, _, rfl, iteBB (fun hc => absurd hc (by decide +kernel)) (fun _ => iteF ⟨rfl, next (fun s' ch' z => nomatch z), _, rfl⟩)⟩
        | ask r2 l2 s2 ch2 e2 hl2 nz2 =>
          refine ⟨_, rfl, _, rfl, Kn, ks, _, .ref r2, rfl, rfl, SqL.of eK, atI_nat hu, r2, _, 0, .str "ask", rfl, rfl, SqT.of e2, rfl, rfl, _, rfl, iteBB (fun _ => ?_) (fun hc => absurd hc (by decide +kernel))⟩
          refine ⟨_, rfl, _, rfl, Kn, ks, _, .ref r2, rfl, rfl, SqL.of eK, atI_nat hu, r2, _, 1, nI s2, rfl, rfl, SqT.of e2, rfl, _, rfl, r, _, 1, nI sn, rfl, rfl, SqT.of er, rfl, _, _, rfl, rfl, _, rfl, iteBB (fun hc => ?_) (fun hc => ?_)⟩
          · have := of_decide_eq_true hc
            exact ⟨_, rfl, k _ _ (.bad sn ch ⟨c, cm, s2, ch2, hq, by omega⟩) (.refl _)⟩
          · have := of_decide_eq_false hc
            exact ⟨rfl, next (fun s' ch' z => by cases z; omega), _, rfl⟩
      rintro σ H' ⟨rfl, hno, o3, rfl⟩
      rw [List.length_map, List.take_of_length_le (Nat.le_refl _)] at hno
      have nbad : ¬ Bad parts sn ch := fun ⟨c, hc, s', ch', h', hle⟩ => hno c hc s' ch' h' hle
      refine ⟨_, rfl, r, _, 2, .ref l, rfl, rfl, SqT.of er, rfl, _, rfl, r, _, 2, .ref l, rfl, rfl, SqT.of er, rfl, l, _, 0, nI x0, rfl, rfl, SqL.of hl, atI_nat (j := 0) (by rw [List.getElem?_map, hx0]; rfl), (by show 1 ≤ sizeLine; decide), fun L1 hL1 => ?_⟩
      have S5 := Same.upd (o := .lst [nI x0]) hL1
      have eL1 : (upd H' L1 (.lst [nI x0])) L1 = some (.lst [nI x0]) := upd_same
      generalize upd H' L1 (.lst [nI x0]) = H5 at S5 eL1
      have hl5 := S5 _ _ hl
      refine ⟨_, rfl, r, _, 2, .ref l, rfl, rfl, S5.tup (SqT.of er), rfl, l, _, rfl, .inl (SqL.of hl5), L1, ((ch.map nI).length : Int), [nI x0], rfl, rfl, eL1, by omega, by rw [List.length_map]; omega, by rw [List.length_map]; show 1 * ch.length ≤ sizeLine; exact Nat.le_trans (show 1 * ch.length ≤ 6 by omega) (by decide), fun L2' hL2 => ?_⟩
      have S6 := Same.upd (o := .lst (List.replicate ((ch.map nI).length : Int).toNat [nI x0]).flatten) hL2
      have eL2 : (upd H5 L2' (.lst (List.replicate ((ch.map nI).length : Int).toNat [nI x0]).flatten)) L2' = some (.lst (List.replicate ch.length (nI x0))) := by
        rw [upd_same, flat_rep, Int.toNat_natCast, List.length_map]
      generalize upd H5 L2' (.lst (List.replicate ((ch.map nI).length : Int).toNat [nI x0]).flatten) = H6 at S6 eL2
      have S56 := S5.trans S6
      have hl6 := S6 _ _ hl5
      refine ⟨l, L2', _, _, _, _, rfl, rfl, SqL.of hl6, SqL.of eL2, dcs ch, dats_rep x0 ch.length, by rw [hgts_cD]; omega, _, rfl, iteBB (fun hc => ?_) (fun hc => ?_)⟩
      · have al := rep_iff.mp ((Dt.beqs_iff _ _).mp hc)
        exact ⟨_, rfl, r, _, 2, .ref l, rfl, rfl, S56.tup (SqT.of er), rfl, l, _, 0, nI x0, rfl, rfl, SqL.of hl6, atI_nat (j := 0) (by rw [List.getElem?_map, hx0]; rfl), k _ _ (.one sn ch x0 nbad hx0 al) S56⟩
      · refine rest _ _ ⟨S56, fun s ch' z => ?_, _, rfl⟩
        cases z
        refine ⟨nbad, fun ⟨x, hx, ha⟩ => ?_⟩
        rw [hx0] at hx
        cases hx
        rw [(Dt.beqs_iff _ _).mpr (rep_iff.mpr ha)] at hc
        cases hc
end
end K30
namespace K30
open PySem L2 FW PyProof.Rows
theorem GrAt.butA {K : PySem.W.Frag} {w : World} {m : Int} {H H' : Hp} {C G Kl Nd dx a : Addr} {parts : List Pd} (h : GrAt K w m H C G Kl Nd dx parts) (nt : NT H a) (B : BtA a H H') (n1 : G ≠ a) (n2 : Kl ≠ a) (n3 : Nd ≠ a) : GrAt K w m H' C G Kl Nd dx parts := by
  obtain ⟨kvs, M, h1, h2⟩ := h.nm
  exact ⟨B _ _ n1 h.ins, h.kl.but nt B n2, ⟨kvs, ⟨M.at_.elim (fun z => .inl (B _ _ n3 z)) (fun ⟨ep, z⟩ => .inr ⟨ep, B _ _ n3 z⟩), fun x hx => (M.dat x hx).but nt B, M.kd, M.nd⟩, h1, h2⟩, h.oc⟩
theorem GrAt.apart {K : PySem.W.Frag} {w : World} {m : Int} {H : Hp} {C G Kl Nd dx a : Addr} {parts : List Pd} (h : GrAt K w m H C G Kl Nd dx parts) (ha : H a = none) : G ≠ a ∧ Kl ≠ a ∧ Nd ≠ a := by
  obtain ⟨hs, eh, _⟩ := h.kl
  obtain ⟨kvs, M, _⟩ := h.nm
  obtain ⟨φ, eφ⟩ := M.at_.ext
  exact ⟨ne_of_none h.ins ha, ne_of_none eh ha, ne_of_none eφ ha⟩
inductive Aft (parts : List Pd) (m : Int) (p : Pd) : List Pd → Nat → Prop
  | old (j : Nat) (h : j < parts.length) : Aft parts m p parts j
  | new (hn : p ∉ parts) (hl : (parts.length : Int) < m) : Aft parts m p (parts ++ [p]) parts.length
def sp_kept (K : PySem.W.Frag) (w : World) (m : Int) (C CT CR : Addr) : Sp := fun vs H Q E => ∃ (G Kl Nd dx : Addr) (v : V) (parts : List Pd) (p : Pd), vs = [.ref G, v] ∧ GrAt K w m H C G Kl Nd dx parts ∧ EnT K [Kl, Nd] H v p ∧ DdOk parts p ∧ (parts.length : Int) ≤ m ∧ m ≤ 2000 ∧
  (∀ (H' : Hp) (parts' : List Pd) (j : Nat), Du parts m p (j : Int) → BtZ [Kl, Nd] H H' → GrAt K w m H' C G Kl Nd dx parts' → Aft parts m p parts' j → Q (nI j) H') ∧
  (Du parts m p (-1) → ∀ H', Same H H' → E (.ref CR) none H') ∧ (Du parts m p (-2) → ∀ H', Same H H' → E (.ref CT) none H')
theorem du_grow {parts parts' : List Pd} {m : Int} {p : Pd} {j : Nat} (nb : NB parts p) (g : Grow parts p parts' j) (hlt : p ∉ parts → (parts.length : Int) < m) : Du parts m p (j : Int) ∧ Aft parts m p parts' j := by
  cases g with
  | old _ h => exact ⟨.old p j nb h, .old j (List.getElem?_eq_some_iff.mp h).1⟩
  | new h =>
    have := hlt h
    exact ⟨.new p nb h (by omega), .new h this⟩
section
variable {P : Program} {w : World} {K : PySem.W.Frag} {mg : Str → Option Value} {base : Heap} {m : Int} {C CT CR : Addr}
set_option maxHeartbeats 4000000 in
theorem ok_law_kept {f fL fA : Addr} {fd dL dA : FuncData} (A : FnAt K mg "_law_kept" s_law_kept ["_law_graphs", "_law_deed"] f fd) (M_Graphs_leaf : Meth K C "leaf" fL) (G_Graphs_leaf : FnOk P w K mg base (CXe P w) 2 fL dL ["self", "outcome"] (sp_leaf K w m C CT)) (b_Graphs_leaf : Binds K dL ["self", "outcome"] [])
    (M_Graphs_asked : Meth K C "asked" fA) (G_Graphs_asked : FnOk P w K mg base (CXe P w) 2 fA dA ["self", "site", "children"] (sp_asked K w m C CT CR)) (b_Graphs_asked : Binds K dA ["self", "site", "children"] []) (T : Txt K mg C) : FnOk P w K mg base (CXe P w) 3 f fd ["_law_graphs", "_law_deed"] (sp_kept K w m C CT CR) := by
  refine A.F.okE (k := 2) sc_law_kept (fun vs H Q E h => ?_) (fun cdv Ar outer s H vs Q E hr h => ?_)
  · obtain ⟨G, Kl, Nd, dx, v, parts, p, rfl, _⟩ := h
    rfl
  · obtain ⟨G, Kl, Nd, dx, v, parts, p, rfl, ga, en, ⟨po, dd⟩, hl, hm2, k, kb, kf⟩ := h
    refine ⟨_, (pss_cons (ps_if (pt_cmpR op_eq (pe_ix ix_tup (pv 1) pe_int (fun _ _ => rfl)) pe_str (nomark _)) (pss_one (ps_ret (pe_meth (pv 0) T.cl M_Graphs_leaf G_Graphs_leaf hr b_Graphs_leaf .nil pass_up (pa_cons (pe_ix ix_tup (pv 1) pe_int (fun _ _ => rfl)) pa_nil)))) pss_nil)
      (pss_cons (ps_set (i := 2) sc_law_kept.nd rfl (Or.inl rfl) (pe_callTy call_list_of (by rfl) T.list_ Boot.«list» (pa_cons (pe_ix ix_tup (pv 1) pe_int (fun _ _ => rfl)) pa_nil)))
      (pss_cons (ps_set (i := 3) sc_law_kept.nd rfl (Or.inl rfl) (pe_meth (pv 0) T.cl M_Graphs_asked G_Graphs_asked hr b_Graphs_asked .nil pass_up (pa_cons (pe_ix ix_tup (pv 1) pe_int (fun _ _ => rfl)) (pa_cons (pv 2) pa_nil))))
      (pss_cons (ps_if (pt_cmpR (op_neL hr.units) (pv 2) (pe_ix ix_tup (pv 1) pe_int (fun _ _ => rfl)) (nomark _)) (pss_one (ps_ret pe_non)) pss_nil)
      (pss_cons (ps_expr (pe_bm0 PySem.F.plainAttrs_list PySem.F.slot_list_clear PySem.F.type_list_clear mt_clear (pv 2)))
      (pss_one (ps_ret (pv 3)))))))), ?_⟩
    have nt := ga.nt
    cases en with
    | lf r u o e hu =>
      refine ⟨_, rfl, r, _, 0, .str "leaf", rfl, rfl, SqT.of e, rfl, rfl, _, rfl, iteBB (fun _ => ?_) (fun hc => absurd hc (by decide +kernel))⟩
      have nb : NB parts (.lf o) := fun s ch z => nomatch z
      refine ⟨_, rfl, G, dx, _, rfl, ga.ins, rfl, _, rfl, r, _, 1, u, rfl, rfl, SqT.of e, rfl, G, Kl, Nd, dx, u, parts, o, rfl, ga, hu, po, hl, hm2, fun H' parts' j B g gr hlt => ?_, fun hn hm H' S => kf (.full _ nb hn hm) H' S⟩
      obtain ⟨d1, d2⟩ := du_grow nb gr hlt
      exact k H' parts' j d1 B g d2
    | ask r l sn ch e hlc nz =>
      obtain ⟨cne, c6, clt⟩ := dd sn ch rfl
      refine ⟨_, rfl, r, _, 0, .str "ask", rfl, rfl, SqT.of e, rfl, rfl, _, rfl, iteBB (fun hc => absurd hc (by decide +kernel)) (fun _ => ?_)⟩
      refine ⟨_, rfl, r, _, 2, .ref l, rfl, rfl, SqT.of e, rfl, l, _, rfl, .inl (SqL.of hlc), fun L hL => ?_⟩
      have S1 := Same.upd (o := .lst (ch.map nI)) hL
      have eL : (upd H L (.lst (ch.map nI))) L = some (.lst (ch.map nI)) := upd_same
      have ga1 := ga.same S1
      have nlL : l ≠ L := ne_of_none hlc hL
      obtain ⟨n1, n2, n3⟩ := ga.apart hL
      generalize upd H L (.lst (ch.map nI)) = H1 at S1 eL ga1
      have e1 := S1 _ _ e
      have nt1 := ga1.nt
      have nLZ : L ∉ [Kl, Nd] := fun z => by
        rcases List.mem_cons.mp z with y | y
        · exact n2 y.symm
        · exact n3 (List.mem_singleton.mp y).symm
      have tl : ∀ {H2 : Hp} {parts' : List Pd} {j : Nat}, Du parts m (.ask sn ch) (j : Int) → BtZ [Kl, Nd] H1 H2 → GrAt K w m H2 C G Kl Nd dx parts' → Aft parts m (.ask sn ch) parts' j → H2 L = some (.lst (ch.map nI)) ∧ H2 l = some (.lst (ch.map nI)) ∧ SqT K H2 r [.str "ask", nI sn, .ref l] ∧ Q (nI j) (upd H2 L (.lst [])) := fun {H2 parts' j} d B g af => by
        have eL2 := B _ _ nLZ eL
        refine ⟨eL2, B _ _ nz (S1 _ _ hlc), B.tup nt1 (SqT.of e1), k _ parts' j d (fun b o hb eb => ?_) (g.butA (.lst eL2) .upd n1 n2 n3) af⟩
        rw [upd_ne (ne_of_none eb hL)]
        exact B _ _ hb (S1 _ _ eb)
      refine ⟨_, rfl, G, dx, _, rfl, ga1.ins, rfl, _, rfl, r, _, 1, nI sn, rfl, rfl, SqT.of e1, rfl, _, rfl, G, Kl, Nd, dx, L, parts, sn, ch, rfl, ga1, eL, cne, by omega, clt, hl, hm2, fun hb H' S => kb (.bad sn ch hb) H' (S1.trans S), fun nb H2 x B g hx al => ?_, fun nb H2 parts' j B g gr hlt nall => ?_, fun nb nall hn hm H' S => kf (.full _ (fun s ch' z => by cases z; exact ⟨nb, fun ⟨x, hx, ha⟩ => nall x hx ha⟩) hn hm) H' (S1.trans S)⟩
      · obtain ⟨eL2, el2, sv2, q⟩ := tl (.one sn ch x nb hx al) B g (.old x (clt x (List.mem_of_getElem? hx)))
        refine ⟨_, rfl, _, rfl, r, _, 2, .ref l, rfl, rfl, sv2, rfl, L, l, _, _, _, _, rfl, rfl, SqL.of eL2, SqL.of el2, dcs ch, dcs ch, by rw [hgts_cD]; omega, _, rfl, ?_⟩
        rw [Dt.beqs_self]
        exact iteF ⟨_, rfl, .inl ⟨rfl, _, SqL.of eL2⟩, L, _, rfl, rfl, eL2, _, rfl, q⟩
      · obtain ⟨d1, d2⟩ := du_grow (fun s ch' z => by cases z; exact ⟨nb, fun ⟨x, hx, ha⟩ => nall x hx ha⟩) gr hlt
        obtain ⟨eL2, el2, sv2, q⟩ := tl d1 B g d2
        refine ⟨_, rfl, _, rfl, r, _, 2, .ref l, rfl, rfl, sv2, rfl, L, l, _, _, _, _, rfl, rfl, SqL.of eL2, SqL.of el2, dcs ch, dcs ch, by rw [hgts_cD]; omega, _, rfl, ?_⟩
        rw [Dt.beqs_self]
        exact iteF ⟨_, rfl, .inl ⟨rfl, _, SqL.of eL2⟩, L, _, rfl, rfl, eL2, _, rfl, q⟩
end
end K30
namespace K30
open PySem L2 FW PyProof.Rows
theorem Du.det {parts : List Pd} {m : Int} {p : Pd} {a b : Int} (nd : parts.Nodup) (h : Du parts m p a) (k : Du parts m p b) : a = b := by
  cases h with
  | bad s ch h =>
    cases k with
    | bad _ _ _ => rfl
    | one _ _ x h2 _ _ => exact absurd h h2
    | old _ j nb _ => exact absurd h (nb s ch rfl).1
    | full _ nb _ _ => exact absurd h (nb s ch rfl).1
    | new _ nb _ _ => exact absurd h (nb s ch rfl).1
  | one s ch x h hx ha =>
    cases k with
    | bad _ _ h2 => exact absurd h2 h
    | one _ _ y _ hy _ =>
      rw [hx] at hy
      cases hy
      rfl
    | old _ j nb _ => exact absurd ⟨x, hx, ha⟩ (nb s ch rfl).2
    | full _ nb _ _ => exact absurd ⟨x, hx, ha⟩ (nb s ch rfl).2
    | new _ nb _ _ => exact absurd ⟨x, hx, ha⟩ (nb s ch rfl).2
  | old _ j nb hj =>
    cases k with
    | bad s ch h => exact absurd h (nb s ch rfl).1
    | one s ch x h hx ha => exact absurd ⟨x, hx, ha⟩ (nb s ch rfl).2
    | old _ i _ hi =>
      have := (List.getElem?_inj (List.getElem?_eq_some_iff.mp hj).1 nd).mp (hj.trans hi.symm)
      rw [this]
    | full _ _ hn _ => exact absurd (List.mem_of_getElem? hj) hn
    | new _ _ hn _ => exact absurd (List.mem_of_getElem? hj) hn
  | full _ nb hn hl =>
    cases k with
    | bad s ch h => exact absurd h (nb s ch rfl).1
    | one s ch x h hx ha => exact absurd ⟨x, hx, ha⟩ (nb s ch rfl).2
    | old _ i _ hi => exact absurd (List.mem_of_getElem? hi) hn
    | full _ _ _ _ => rfl
    | new _ _ _ hl2 => exact absurd hl hl2
  | new _ nb hn hl =>
    cases k with
    | bad s ch h => exact absurd h (nb s ch rfl).1
    | one s ch x h hx ha => exact absurd ⟨x, hx, ha⟩ (nb s ch rfl).2
    | old _ i _ hi => exact absurd (List.mem_of_getElem? hi) hn
    | full _ _ _ hl2 => exact absurd hl2 hl
    | new _ _ _ _ => rfl
section
variable {X : Cx} {K : PySem.W.Frag}
theorem call_isiXK (hK : X.K = K) : CallR X (.builtin "isinstance") (fun xs H Q => ∃ p c cv C b, xs = [.ref p, c] ∧ ((∃ n, c = .ty n) ∨ ∃ a, c = .ref a) ∧ RelV c cv ∧ H p = some (.ext (ExcAt p (.ref C))) ∧ ExcKit K C ∧ PySem.W.kitOne K (.ref C) cv = some b ∧ Q (.bl b) H) := by
  subst hK
  exact call_isiX
end
structure TxR (K : PySem.W.Frag) (mg : Str → Option Value) (CT CR cF cS cV cX cN cU cW : Addr) : Prop where
  FlipError_ : mg "FlipError" = some (.ref cF)
  NoShare_ : mg "NoShare" = some (.ref cS)
  Never_ : mg "Never" = some (.ref cV)
  NoText_ : mg "NoText" = some (.ref cX)
  NoName_ : mg "NoName" = some (.ref cN)
  NoNumber_ : mg "NoNumber" = some (.ref cU)
  NoRow_ : mg "NoRow" = some (.ref cW)
  ValueError_ : mg "ValueError" = none
structure KitE (K : PySem.W.Frag) (C cF cS cV cX cN cU cW : Addr) : Prop where
  kit : ExcKit K C
  hit : PySem.W.exmOne K (.ref C) (.ref cF) = some true
  isV : PySem.W.kitOne K (.ref C) (.type "ValueError") = some true
  nS : PySem.W.kitOne K (.ref C) (.ref cS) = some false
  nV : PySem.W.kitOne K (.ref C) (.ref cV) = some false
  nX : PySem.W.kitOne K (.ref C) (.ref cX) = some false
  nN : PySem.W.kitOne K (.ref C) (.ref cN) = some false
  nU : PySem.W.kitOne K (.ref C) (.ref cU) = some false
  nW : PySem.W.kitOne K (.ref C) (.ref cW) = some false
def sp_refused (K : PySem.W.Frag) (w : World) (m : Int) (C : Addr) : Sp := fun vs H Q _ => ∃ (G Kl Nd dx : Addr) (v : V) (parts : List Pd) (p : Pd) (d : Int), vs = [.ref G, v, .int d] ∧ GrAt K w m H C G Kl Nd dx parts ∧ EnT K [Kl, Nd] H v p ∧ DdOk parts p ∧ (parts.length : Int) ≤ m ∧ m ≤ 2000 ∧ parts.Nodup ∧ Du parts m p d ∧ d < 0 ∧
  ∀ H', Same H H' → Q (.bl true) H'
section
variable {P : Program} {w : World} {K : PySem.W.Frag} {mg : Str → Option Value} {base : Heap} {m : Int} {C CT CR cF cS cV cX cN cU cW : Addr}
set_option maxHeartbeats 4000000 in
theorem ok_law_refused {f fK : Addr} {fd dK : FuncData} (A : FnAt K mg "_law_refused" s_law_refused ["_law_graphs", "_law_deed", "_law_due_here"] f fd) (A_law_kept : FnAt K mg "_law_kept" s_law_kept ["_law_graphs", "_law_deed"] fK dK) (G_law_kept : FnOk P w K mg base (CXe P w) 3 fK dK ["_law_graphs", "_law_deed"] (sp_kept K w m C CT CR))
    (T : Txt K mg C) (TE : TxE K mg CT CR) (R : TxR K mg CT CR cF cS cV cX cN cU cW) (k1 : KitE K CR cF cS cV cX cN cU cW) (k2 : KitE K CT cF cS cV cX cN cU cW) (nRT : PySem.W.kitOne K (.ref CR) (.ref CT) = some false) (nTR : PySem.W.kitOne K (.ref CT) (.ref CR) = some false) : FnOk P w K mg base CX0 4 f fd ["_law_graphs", "_law_deed", "_law_due_here"] (sp_refused K w m C) := by
  refine A.F.ok (k := 3) sc_law_refused (fun vs H Q E h => ?_) (fun cdv Ar outer s H vs Q E hr h => ?_)
  · obtain ⟨G, Kl, Nd, dx, v, parts, p, d, rfl, _⟩ := h
    rfl
  · obtain ⟨G, Kl, Nd, dx, v, parts, p, d, rfl, ga, en, ok, hl, hm2, nd, du, d0, k⟩ := h
    refine ⟨_, (pss_cons (ps_set (i := 3) sc_law_refused.nd rfl (Or.inl rfl) pe_int)
      (pss_cons (ps_try (i := 4) G_law_kept hr rfl A_law_kept.m A_law_kept.F.kp A_law_kept.b (pa_cons (pv 0) (pa_cons (pv 1) pa_nil)) rfl R.FlipError_ sc_law_refused.nd rfl rfl (fun _ => (pss_cons (ps_set (i := 5) sc_law_refused.nd rfl (Or.inl rfl) (pe_or (pe_callB (call_isiXK (K := K) rfl) (by rfl) T.isinstance_ Boot.«isinstance» (pa_cons (pv 4) (pa_cons (pe_glob rfl R.Never_ (v := .ref cV) rfl) pa_nil))) (pe_or (pe_callB (call_isiXK (K := K) rfl) (by rfl) T.isinstance_ Boot.«isinstance» (pa_cons (pv 4) (pa_cons (pe_glob rfl R.NoName_ (v := .ref cN) rfl) pa_nil))) (pe_or (pe_callB (call_isiXK (K := K) rfl) (by rfl) T.isinstance_ Boot.«isinstance» (pa_cons (pv 4) (pa_cons (pe_glob rfl R.NoNumber_ (v := .ref cU) rfl) pa_nil))) (pe_one (pe_callB (call_isiXK (K := K) rfl) (by rfl) T.isinstance_ Boot.«isinstance» (pa_cons (pv 4) (pa_cons (pe_glob rfl R.NoRow_ (v := .ref cW) rfl) pa_nil))))))))
        (pss_cons (ps_set (i := 3) sc_law_refused.nd rfl (Or.inl rfl) (pe_op op_add (pe_op op_add (pe_callTy call_int1 (by rfl) T.int_ Boot.«int» (pa_cons (pe_callB (call_isiXK (K := K) rfl) (by rfl) T.isinstance_ Boot.«isinstance» (pa_cons (pv 4) (pa_cons (pe_glob rfl TE.NoOrder_.m (v := .ref CR) rfl) pa_nil))) pa_nil)) (pe_op op_mulB pe_int (pe_callTy call_int1 (by rfl) T.int_ Boot.«int» (pa_cons (pe_callB (call_isiXK (K := K) rfl) (by rfl) T.isinstance_ Boot.«isinstance» (pa_cons (pv 4) (pa_cons (pe_glob rfl TE.TooMuch_.m (v := .ref CT) rfl) pa_nil))) pa_nil)))) (pe_op op_mulB pe_int (pe_callTy call_int1 (by rfl) T.int_ Boot.«int» (pa_cons (pv 5) pa_nil)))))
        (pss_one (ps_set (i := 3) sc_law_refused.nd rfl (Or.inl rfl) (pe_op op_add (pv 3) (pe_op op_mulB pe_int (pe_callTy call_int1 (by rfl) T.int_ Boot.«int» (pa_cons (pe_or (pe_callB (call_isiXK (K := K) rfl) (by rfl) T.isinstance_ Boot.«isinstance» (pa_cons (pv 4) (pa_cons (pe_glob rfl R.NoShare_ (v := .ref cS) rfl) pa_nil))) (pe_or (pe_callB (call_isiXK (K := K) rfl) (by rfl) T.isinstance_ Boot.«isinstance» (pa_cons (pv 4) (pa_cons (pe_glob rfl R.NoText_ (v := .ref cX) rfl) pa_nil))) (pe_one (pe_not (pe_callB (call_isiXK (K := K) rfl) (by rfl) T.isinstance_ Boot.«isinstance» (pa_cons (pv 4) (pa_cons (pe_bltn rfl R.ValueError_ Boot.«ValueError» (v := .ty "ValueError") rfl) pa_nil))))))) pa_nil))))))))) rfl (fun _ _ z => z) rfl rfl rfl)
      (pss_one (ps_ret (pe_cmpR op_eq (pv 3) (pe_op op_sub pe_int (pv 2)) (nomark _)))))), ?_⟩
    have kS : ∀ C : Addr, PySem.W.kitOne K (.ref C) (.ref C) = some true := fun C => by
      unfold PySem.W.kitOne
      rw [if_pos (by simp)]
    refine ⟨_, rfl, _, rfl, G, Kl, Nd, dx, v, parts, p, rfl, ga, en, ok, hl, hm2, fun H' parts' j dj B g af => ?_, fun db H0 s0 => ⟨⟨CR, rfl⟩, k1.hit, fun ea hea => ?_⟩, fun db H0 s0 => ⟨⟨CT, rfl⟩, k2.hit, fun ea hea => ?_⟩⟩
    · have := du.det nd dj
      omega
    · have hx : (upd H0 ea (HO.ext (ExcAt ea (.ref CR)))) ea = some (.ext (ExcAt ea (.ref CR))) := upd_same
      have sH : Same H (upd H0 ea (HO.ext (ExcAt ea (.ref CR)))) := s0.updR hea
      generalize upd H0 ea (HO.ext (ExcAt ea (.ref CR))) = H1 at hx sH
      have ed := du.det nd db
      subst ed
      refine ⟨_, rfl, ea, _, .ref cV, CR, false, rfl, .inr ⟨cV, rfl⟩, rfl, hx, k1.kit, k1.nV, _, rfl, iteF ?_⟩
      refine ⟨_, rfl, ea, _, .ref cN, CR, false, rfl, .inr ⟨cN, rfl⟩, rfl, hx, k1.kit, k1.nN, _, rfl, iteF ?_⟩
      refine ⟨_, rfl, ea, _, .ref cU, CR, false, rfl, .inr ⟨cU, rfl⟩, rfl, hx, k1.kit, k1.nU, _, rfl, iteF ?_⟩
      refine ⟨_, rfl, ea, _, .ref cW, CR, false, rfl, .inr ⟨cW, rfl⟩, rfl, hx, k1.kit, k1.nW, ?_⟩
      refine ⟨_, rfl, ea, _, .ref CR, CR, true, rfl, .inr ⟨CR, rfl⟩, rfl, hx, k1.kit, kS CR, .inr ⟨_, rfl, ?_⟩⟩
      refine ⟨_, rfl, ea, _, .ref CT, CR, false, rfl, .inr ⟨CT, rfl⟩, rfl, hx, k1.kit, nRT, .inr ⟨_, rfl, ?_⟩⟩
      refine ⟨_, _, rfl, rfl, small_mul (by decide), _, _, rfl, rfl, _, rfl, .inr ⟨_, rfl, _, _, rfl, rfl, small_mul (by decide), _, _, rfl, rfl, ?_⟩⟩
      refine ⟨_, rfl, _, rfl, ea, _, .ref cS, CR, false, rfl, .inr ⟨cS, rfl⟩, rfl, hx, k1.kit, k1.nS, _, rfl, iteF ?_⟩
      refine ⟨_, rfl, ea, _, .ref cX, CR, false, rfl, .inr ⟨cX, rfl⟩, rfl, hx, k1.kit, k1.nX, _, rfl, iteF ?_⟩
      refine ⟨_, rfl, ea, _, .type "ValueError", CR, true, rfl, .inl ⟨_, rfl⟩, rfl, hx, k1.kit, k1.isV, _, rfl, .inr ⟨_, rfl, _, _, rfl, rfl, small_mul (by decide), _, _, rfl, rfl, ?_⟩⟩
      exact ⟨_, rfl, _, rfl, _, _, rfl, rfl, rfl, k H1 sH⟩
    · have hx : (upd H0 ea (HO.ext (ExcAt ea (.ref CT)))) ea = some (.ext (ExcAt ea (.ref CT))) := upd_same
      have sH : Same H (upd H0 ea (HO.ext (ExcAt ea (.ref CT)))) := s0.updR hea
      generalize upd H0 ea (HO.ext (ExcAt ea (.ref CT))) = H1 at hx sH
      have ed := du.det nd db
      subst ed
      refine ⟨_, rfl, ea, _, .ref cV, CT, false, rfl, .inr ⟨cV, rfl⟩, rfl, hx, k2.kit, k2.nV, _, rfl, iteF ?_⟩
      refine ⟨_, rfl, ea, _, .ref cN, CT, false, rfl, .inr ⟨cN, rfl⟩, rfl, hx, k2.kit, k2.nN, _, rfl, iteF ?_⟩
      refine ⟨_, rfl, ea, _, .ref cU, CT, false, rfl, .inr ⟨cU, rfl⟩, rfl, hx, k2.kit, k2.nU, _, rfl, iteF ?_⟩
      refine ⟨_, rfl, ea, _, .ref cW, CT, false, rfl, .inr ⟨cW, rfl⟩, rfl, hx, k2.kit, k2.nW, ?_⟩
      refine ⟨_, rfl, ea, _, .ref CR, CT, false, rfl, .inr ⟨CR, rfl⟩, rfl, hx, k2.kit, nTR, .inr ⟨_, rfl, ?_⟩⟩
      refine ⟨_, rfl, ea, _, .ref CT, CT, true, rfl, .inr ⟨CT, rfl⟩, rfl, hx, k2.kit, kS CT, .inr ⟨_, rfl, ?_⟩⟩
      refine ⟨_, _, rfl, rfl, small_mul (by decide), _, _, rfl, rfl, _, rfl, .inr ⟨_, rfl, _, _, rfl, rfl, small_mul (by decide), _, _, rfl, rfl, ?_⟩⟩
      refine ⟨_, rfl, _, rfl, ea, _, .ref cS, CT, false, rfl, .inr ⟨cS, rfl⟩, rfl, hx, k2.kit, k2.nS, _, rfl, iteF ?_⟩
      refine ⟨_, rfl, ea, _, .ref cX, CT, false, rfl, .inr ⟨cX, rfl⟩, rfl, hx, k2.kit, k2.nX, _, rfl, iteF ?_⟩
      refine ⟨_, rfl, ea, _, .type "ValueError", CT, true, rfl, .inl ⟨_, rfl⟩, rfl, hx, k2.kit, k2.isV, _, rfl, .inr ⟨_, rfl, _, _, rfl, rfl, small_mul (by decide), _, _, rfl, rfl, ?_⟩⟩
      exact ⟨_, rfl, _, rfl, _, _, rfl, rfl, rfl, k H1 sH⟩
end
end K30
namespace K30
open PySem L2 FW PyProof.Rows
theorem passN {P : Program} {w : World} {X : Cx} : Passes (CXe P w) X E0 := by
  intro pins σ H1 s1 e s' I hcx
  obtain ⟨ea, cls, a0, H2, B, rfl, hos, bare, un, hok, fl, cov, hea, sea, he⟩ := hcx
  exact he.elim
theorem EnT.mono {K : PySem.W.Frag} {Z Z2 : List Addr} {H : Hp} {v : V} {p : Pd} (h : EnT K Z H v p) (hz : ∀ x ∈ Z2, x ∈ Z) : EnT K Z2 H v p := by
  cases h with
  | lf r u o e hu => exact .lf r u o e hu
  | ask r l s ch e hl nz => exact .ask r l s ch e hl fun z => nz (hz _ z)
structure St (K : PySem.W.Frag) (w : World) (m : Int) (H : Hp) (C G Kl Nd dx Kn : Addr) (ks : List V) (parts : List Pd) : Prop where
  ga : GrAt K w m H C G Kl Nd dx parts
  eK : H Kn = some (.lst ks)
  kn : KnL K [Kl, Nd, Kn] H ks parts
  nd : parts.Nodup
  ok : ∀ p ∈ parts, DdOk parts p ∧ NB parts p
  n1 : G ≠ Kn
  n2 : Kl ≠ Kn
  n3 : Nd ≠ Kn
theorem St.same {K : PySem.W.Frag} {w : World} {m : Int} {H H' : Hp} {C G Kl Nd dx Kn : Addr} {ks : List V} {parts : List Pd} (h : St K w m H C G Kl Nd dx Kn ks parts) (e : Same H H') : St K w m H' C G Kl Nd dx Kn ks parts := ⟨h.ga.same e, e _ _ h.eK, h.kn.same e, h.nd, h.ok, h.n1, h.n2, h.n3⟩
theorem nt3 {K : PySem.W.Frag} {w : World} {m : Int} {H : Hp} {C G Kl Nd dx Kn : Addr} {ks : List V} {parts : List Pd} (h : GrAt K w m H C G Kl Nd dx parts) (eK : H Kn = some (.lst ks)) : NTZ H [Kl, Nd, Kn] := fun a ha => by
  rcases List.mem_cons.mp ha with z | z
  · exact h.nt a (by rw [z]; simp)
  rcases List.mem_cons.mp z with z | z
  · exact h.nt a (by rw [z]; simp)
  · rw [List.mem_singleton.mp z]
    exact .lst eK
theorem Du.nb {parts : List Pd} {m : Int} {p : Pd} {d : Int} (h : Du parts m p d) (e : d = (parts.length : Int)) (ok : DdOk parts p) : NB parts p := by
  cases h with
  | bad s ch h => omega
  | one s ch x h hx ha =>
    have := (ok.2 s ch rfl).2.2 x (List.mem_of_getElem? hx)
    omega
  | old _ j h hj => exact h
  | full _ h hn hl => exact h
  | new _ h hn hl => exact h
theorem KnL.snoc {K : PySem.W.Frag} {Z : List Addr} {H : Hp} {ks : List V} {parts : List Pd} {v : V} {p : Pd} (h : KnL K Z H ks parts) (hv : EnT K Z H v p) (nv : v ∉ ks) : KnL K Z H (ks ++ [v]) (parts ++ [p]) := by
  have l := h.l
  refine ⟨by rw [List.length_append, List.length_append, l]; rfl, fun j u q h1 h2 => ?_, ?_⟩
  · by_cases hj : j < ks.length
    · rw [List.getElem?_append_left hj] at h1
      rw [List.getElem?_append_left (by omega)] at h2
      exact h.it j u q h1 h2
    · rw [List.getElem?_append_right (by omega)] at h1 h2
      rw [l] at h1
      have e0 : j - parts.length = 0 := by
        cases e : j - parts.length with
        | zero => rfl
        | succ n => rw [e] at h1; simp at h1
      rw [e0] at h1 h2
      cases h1
      cases h2
      exact hv
  · rw [List.nodup_append]
    refine ⟨h.nd, by simp, fun a ha b hb => ?_⟩
    rw [List.mem_singleton.mp hb]
    exact fun z => nv (by rw [← z]; exact ha)
theorem St.nK {K : PySem.W.Frag} {w : World} {m : Int} {H : Hp} {C G Kl Nd dx Kn : Addr} {ks : List V} {parts : List Pd} (h : St K w m H C G Kl Nd dx Kn ks parts) : Kn ∉ [Kl, Nd] := fun z => by
  rcases List.mem_cons.mp z with y | y
  · exact h.n2 y.symm
  · exact h.n3 (List.mem_singleton.mp y).symm
theorem sub23 {Kl Nd Kn : Addr} : ∀ x ∈ [Kl, Nd], x ∈ [Kl, Nd, Kn] := fun x h => by
  rcases List.mem_cons.mp h with z | z
  · rw [z]; simp
  · rw [List.mem_singleton.mp z]; simp
theorem grow_ok {parts : List Pd} {p q : Pd} (h : DdOk parts q ∧ NB parts q) : DdOk (parts ++ [p]) q ∧ NB (parts ++ [p]) q := by
  obtain ⟨⟨po, dd⟩, nb⟩ := h
  refine ⟨⟨po, fun s ch e => ?_⟩, fun s ch e => ?_⟩
  · obtain ⟨h1, h2, h3⟩ := dd s ch e
    exact ⟨h1, h2, fun c hc => by have := h3 c hc; rw [List.length_append]; omega⟩
  · obtain ⟨h1, h2, h3⟩ := dd s ch e
    obtain ⟨b1, b2⟩ := nb s ch e
    refine ⟨fun ⟨c, hc, s', ch', hp, hle⟩ => b1 ⟨c, hc, s', ch', ?_, hle⟩, b2⟩
    rwa [List.getElem?_append_left (h3 c hc)] at hp
theorem al_leaf {K : PySem.W.Frag} {Z : List Addr} {H : Hp} {u u' : V} {o : Dt} {r : Addr} (h : EnT K Z H u (.lf o)) (s : SqT K H r [.str "leaf", u']) (d : DatAt K H u' o) (oh : Oc o) : Al K H 3 (.ref r) u := by
  have ohg := Oc.hgt oh
  cases h with
  | lf r2 u2 _ e hu =>
    refine .tup r r2 _ _ s (SqT.of e) rfl fun i x y h1 h2 => ?_
    match i, h1, h2 with
    | 0, h1, h2 => cases h1; cases h2; exact .str _
    | 1, h1, h2 => cases h1; cases h2; exact Al.of 2 (by omega) d hu
theorem al_ask {K : PySem.W.Frag} {Z : List Addr} {H : Hp} {u : V} {s : Nat} {ch : List Nat} {r l : Addr} (h : EnT K Z H u (.ask s ch)) (sr : SqT K H r [.str "ask", nI s, .ref l]) (hl : H l = some (.lst (ch.map nI))) : Al K H 3 (.ref r) u := by
  cases h with
  | ask r2 l2 _ _ e hl2 nz =>
    refine .tup r r2 _ _ sr (SqT.of e) rfl fun i x y h1 h2 => ?_
    match i, h1, h2 with
    | 0, h1, h2 => cases h1; cases h2; exact .str _
    | 1, h1, h2 => cases h1; cases h2; exact .int _
    | 2, h1, h2 =>
      cases h1
      cases h2
      refine .lst l l2 _ _ hl hl2 rfl fun i x y h1 h2 => ?_
      rw [h1] at h2
      cases h2
      obtain ⟨c, _, rfl⟩ := map_get h1
      exact .int _
def sp_done (K : PySem.W.Frag) (w : World) (m : Int) (C : Addr) : Sp := fun vs H Q _ => ∃ (G Kl Nd dx Kn : Addr) (v : V) (ks : List V) (parts : List Pd) (p : Pd), vs = [.ref G, .ref Kn, v, .int m] ∧ St K w m H C G Kl Nd dx Kn ks parts ∧ EnT K [Kl, Nd, Kn] H v p ∧ DdOk parts p ∧ (parts.length : Int) ≤ m ∧ m ≤ 2000 ∧ parts.length ≤ 1000 ∧ v ∉ ks ∧
  (∀ (u : V) (r l r2 l2 : Addr) (s s2 : Nat), u ∈ ks → u = .ref r → v = .ref r2 → H r = some (.tup [.str "ask", nI s, .ref l]) → H r2 = some (.tup [.str "ask", nI s2, .ref l2]) → l ≠ l2) ∧
  ∀ (H' : Hp) (ks' : List V) (parts' : List Pd), BtZ [Kl, Nd, Kn] H H' → St K w m H' C G Kl Nd dx Kn ks' parts' → (parts'.length : Int) ≤ m → (ks' = ks ∧ parts' = parts ∨ ks' = ks ++ [v] ∧ parts' = parts ++ [p]) → Q (.bl true) H'
section
variable {P : Program} {w : World} {K : PySem.W.Frag} {mg : Str → Option Value} {base : Heap} {m : Int} {C CT CR : Addr}
set_option maxHeartbeats 4000000 in
theorem ok_law_done {f fD fR fK fW fS fA fZ : Addr} {fd dD dR dK dW dS dA dZ : FuncData} (A : FnAt K mg "_law_done" s_law_done ["_law_graphs", "_law_known", "_law_deed", "_law_limit"] f fd) (A_law_due : FnAt K mg "_law_due" s_law_due ["_law_known", "_law_deed", "_law_limit"] fD dD) (A_law_refused : FnAt K mg "_law_refused" s_law_refused ["_law_graphs", "_law_deed", "_law_due_here"] fR dR) (G_law_refused : FnOk P w K mg base CX0 4 fR dR ["_law_graphs", "_law_deed", "_law_due_here"] (sp_refused K w m C))
    (A_law_kept : FnAt K mg "_law_kept" s_law_kept ["_law_graphs", "_law_deed"] fK dK) (G_law_kept : FnOk P w K mg base (CXe P w) 3 fK dK ["_law_graphs", "_law_deed"] (sp_kept K w m C CT CR)) (A_law_whole : FnAt K mg "_law_whole" s_law_whole ["_law_found"] fW dW) (A_law_same : FnAt K mg "_law_same" s_law_same ["_law_found", "_law_due_here"] fS dS)
    (M_Graphs_at : Meth K C "at" fA) (G_Graphs_at : FnOk P w K mg base CX0 1 fA dA ["self", "part"] (sp_at K w m C)) (b_Graphs_at : Binds K dA ["self", "part"] []) (M_Graphs_size : Meth K C "size" fZ) (G_Graphs_size : FnOk P w K mg base CX0 1 fZ dZ ["self"] (sp_size K w m C)) (b_Graphs_size : Binds K dZ ["self"] []) (T : Txt K mg C) :
    FnOk P w K mg base CX0 6 f fd ["_law_graphs", "_law_known", "_law_deed", "_law_limit"] (sp_done K w m C) := by
  have G_law_due : FnOk P w K mg base CX0 1 fD dD _ (sp_due K m) := ok_law_due A_law_due T
  have G_law_whole : FnOk P w K mg base CX0 1 fW dW _ sp_whole := ok_law_whole A_law_whole T
  have G_law_same : FnOk P w K mg base CX0 5 fS dS _ (sp_same K 3) := ok_law_same A_law_same A_law_whole T 3
  refine A.F.ok (k := 5) sc_law_done (fun vs H Q E h => ?_) (fun cdv Ar outer s H vs Q E hr h => ?_)
  · obtain ⟨G, Kl, Nd, dx, Kn, v, ks, parts, p, rfl, _⟩ := h
    rfl
  · obtain ⟨G, Kl, Nd, dx, Kn, v, ks, parts, p, rfl, st, en, dok, hlm, hm2, few, vk, apart, k⟩ := h
    refine ⟨_, (pss_cons (ps_set (i := 4) sc_law_done.nd rfl (Or.inl rfl) (pe_call G_law_due (hr.mono (by decide)) rfl A_law_due.m A_law_due.F.kp A_law_due.b .nil pass0 (pa_cons (pv 1) (pa_cons (pv 2) (pa_cons (pv 3) pa_nil)))))
      (pss_cons (ps_if (pt_cmpR op_lt (pv 4) pe_int (nomark _)) (pss_one (ps_ret (pe_and (pe_call G_law_refused (hr.mono (by decide)) rfl A_law_refused.m A_law_refused.F.kp A_law_refused.b .nil pass0 (pa_cons (pv 0) (pa_cons (pv 2) (pa_cons (pv 4) pa_nil)))) (pe_one (pe_cmpR op_eq (pe_meth0 (pv 0) T.cl M_Graphs_size G_Graphs_size (hr.mono (by decide)) b_Graphs_size .nil pass0) (pe_callB call_len_seq (by rfl) T.len_ Boot.«len» (pa_cons (pv 1) pa_nil)) (nomark _)))))) pss_nil)
      (pss_cons (ps_set (i := 5) sc_law_done.nd rfl (Or.inl rfl) (pe_call G_law_kept (hr.mono (by decide)) rfl A_law_kept.m A_law_kept.F.kp A_law_kept.b .nil passN (pa_cons (pv 0) (pa_cons (pv 2) pa_nil))))
      (pss_cons (ps_if (PW.pt (pw_or (pt_not (pt_val (pe_call G_law_whole (hr.mono (by decide)) rfl A_law_whole.m A_law_whole.F.kp A_law_whole.b .nil pass0 (pa_cons (pv 5) pa_nil)))) (pw_or1 (pt_cmpR op_ne (pv 5) (pv 4) (nomark _))))) (pss_one (ps_ret pe_bl)) pss_nil)
      (pss_cons (ps_if (pt_cmpR op_eq (pv 4) (pe_callB call_len_seq (by rfl) T.len_ Boot.«len» (pa_cons (pv 1) pa_nil)) (nomark _)) (pss_one (ps_expr (pe_bm PySem.F.plainAttrs_list PySem.F.slot_list_append PySem.F.type_list_append mt_append (pv 1) (pa_cons (pv 2) pa_nil)))) pss_nil)
      (pss_cons (ps_set (i := 6) sc_law_done.nd rfl (Or.inl rfl) (pe_meth (pv 0) T.cl M_Graphs_at G_Graphs_at (hr.mono (by decide)) b_Graphs_at .nil pass0 (pa_cons (pv 5) pa_nil)))
      (pss_cons (ps_if (pt_not (pt_val (pe_call G_law_same (hr.mono (by decide)) rfl A_law_same.m A_law_same.F.kp A_law_same.b .nil pass0 (pa_cons (pv 6) (pa_cons (pe_ix ix_list (pv 1) (pv 5) (fun _ _ => rfl)) pa_nil))))) (pss_one (ps_ret pe_bl)) pss_nil)
      (pss_cons (ps_if (pt_cmpR op_eq (pe_ix ix_tup (pv 6) pe_int (fun _ _ => rfl)) pe_str (nomark _)) (pss_one (ps_expr (pe_bm0 PySem.F.plainAttrs_list PySem.F.slot_list_clear PySem.F.type_list_clear mt_clear (pe_ix ix_tup (pv 6) pe_int (fun _ _ => rfl))))) pss_nil)
      (pss_one (ps_ret (pe_and (pe_call G_law_same (hr.mono (by decide)) rfl A_law_same.m A_law_same.F.kp A_law_same.b .nil pass0 (pa_cons (pe_meth (pv 0) T.cl M_Graphs_at G_Graphs_at (hr.mono (by decide)) b_Graphs_at .nil pass0 (pa_cons (pv 5) pa_nil)) (pa_cons (pe_ix ix_list (pv 1) (pv 5) (fun _ _ => rfl)) pa_nil))) (pe_one (pe_call G_law_same (hr.mono (by decide)) rfl A_law_same.m A_law_same.F.kp A_law_same.b .nil pass0 (pa_cons (pe_meth0 (pv 0) T.cl M_Graphs_size G_Graphs_size (hr.mono (by decide)) b_Graphs_size .nil pass0) (pa_cons (pe_callB call_len_seq (by rfl) T.len_ Boot.«len» (pa_cons (pv 1) pa_nil)) pa_nil))))))))))))))), ?_⟩
    refine ⟨_, rfl, _, rfl, _, rfl, Kn, _, _, v, ks, parts, p, rfl, st.eK, st.kn, en, dok, st.ga.oc, st.nd, few, vk, apart, fun d H1 du S1 => ?_⟩
    have st1 := st.same S1
    have en1 := en.same S1
    have lk := st.kn.l
    refine ⟨_, rfl, _, _, rfl, rfl, _, rfl, iteBB (fun hc => ?_) (fun hc => ?_)⟩
    · have d0 := of_decide_eq_true hc
      refine ⟨_, rfl, _, rfl, _, rfl, G, Kl, Nd, dx, v, parts, p, d, rfl, st1.ga, en1.mono sub23, dok, hlm, hm2, st.nd, du, d0, fun H2 S2 => ⟨_, rfl, iteT ?_⟩⟩
      have st2 := st1.same S2
      refine ⟨_, rfl, G, dx, _, rfl, st2.ga.ins, rfl, G, Kl, Nd, dx, parts, rfl, st2.ga, _, rfl, Kn, ks, rfl, .inl (SqL.of st2.eK), rfl, ?_⟩
      rw [show nI parts.length = V.int ks.length by rw [lk]]
      rw [show decide (V.int (ks.length : Int) = V.int (ks.length : Int)) = true from decide_eq_true rfl]
      exact k H2 ks parts (.of (S1.trans S2)) st2 hlm (.inl ⟨rfl, rfl⟩)
    have d0 := of_decide_eq_false hc
    refine ⟨_, rfl, _, rfl, G, Kl, Nd, dx, v, parts, p, rfl, st1.ga, en1.mono sub23, dok, hlm, hm2, fun H2 parts' j dj B g af => ?_, fun db _ _ => ?_, fun df _ _ => ?_⟩
    rotate_left
    · have := du.det st.nd db
      omega
    · have := du.det st.nd df
      omega
    have ed := du.det st.nd dj
    subst ed
    have Z3 : BtZ [Kl, Nd, Kn] H H2 := (BtZ.of S1).trans (B.mono sub23)
    have eK2 := B _ _ st.nK st1.eK
    have nt0 := nt3 st.ga st.eK
    have kn2 : KnL K [Kl, Nd, Kn] H2 ks parts := st.kn.butZ nt0 Z3
    have en2 : EnT K [Kl, Nd, Kn] H2 v p := en.butZ nt0 Z3
    refine ⟨_, rfl, _, rfl, _, rfl, iteF ⟨_, rfl, _, rfl, rfl, _, rfl, iteBB (fun hc => by simp at hc) (fun _ => ?_)⟩⟩
    refine' restS (C := fun σ H3 => σ = [some (.ref G), some (.ref Kn), some v, some (.int m), some (.int j), some (.int j), none] ∧ ∃ ks' parts', BtZ [Kl, Nd, Kn] H H3 ∧ St K w m H3 C G Kl Nd dx Kn ks' parts' ∧ (parts'.length : Int) ≤ m ∧ j < parts'.length ∧ (ks' = ks ∧ parts' = parts ∨ ks' = ks ++ [v] ∧ parts' = parts ++ [p]))
      (fun rest => ⟨_, rfl, _, rfl, Kn, ks, rfl, .inl (SqL.of eK2), rfl, _, rfl, iteBB (fun hc => ?aa) (fun hc => rest _ _ ⟨rfl, ?cc⟩)⟩) ?bb
    case cc =>
      have hne := of_decide_eq_false hc
      cases af with
      | old _ h => exact ⟨ks, parts, Z3, ⟨g, eK2, kn2, st.nd, st.ok, st.n1, st.n2, st.n3⟩, hlm, h, .inl ⟨rfl, rfl⟩⟩
      | new hn hl => exact absurd (by rw [lk]) hne
    case aa =>
      have he := of_decide_eq_true hc
      injection he with he
      cases af with
      | old _ h => omega
      | new hn hl =>
        refine ⟨_, rfl, .inl ⟨rfl, _, SqL.of eK2⟩, _, rfl, Kn, _, _, rfl, rfl, eK2, Nat.lt_of_le_of_lt (m := 1000) (by omega) (by decide), rest _ _ ⟨rfl, ?_⟩⟩
        have B3 : BtZ [Kl, Nd, Kn] H2 (upd H2 Kn (.lst (ks ++ [v]))) := .upd (by simp)
        have nt2 : NTZ H2 [Kl, Nd, Kn] := nt3 g eK2
        have nbp := du.nb rfl dok
        refine ⟨ks ++ [v], parts ++ [p], Z3.trans B3, ⟨g.butA (.lst eK2) .upd st.n1 st.n2 st.n3, upd_same, (kn2.butZ nt2 B3).snoc (en2.butZ nt2 B3) vk, ?_, fun q hq => ?_, st.n1, st.n2, st.n3⟩, by rw [List.length_append]; show ((parts.length + 1 : Nat) : Int) ≤ m; omega, by rw [List.length_append]; exact Nat.lt_succ_self _, .inr ⟨rfl, rfl⟩⟩
        · rw [List.nodup_append]
          refine ⟨st.nd, by simp, fun a ha b hb => ?_⟩
          rw [List.mem_singleton.mp hb]
          exact fun z => hn (by rw [← z]; exact ha)
        · rcases List.mem_append.mp hq with z | z
          · exact grow_ok (st.ok q z)
          · rw [List.mem_singleton.mp z]
            exact grow_ok ⟨dok, nbp⟩
    rintro σ H3 ⟨rfl, ks', parts', Z4, st3, hlm', hj, alt⟩
    obtain ⟨q, hq⟩ := get_ex hj
    have lk3 := st3.kn.l
    have oq := st3.ga.oc q (List.mem_of_getElem? hq)
    cases q with
    | lf o =>
      refine ⟨_, rfl, G, dx, _, rfl, st3.ga.ins, rfl, _, rfl, G, Kl, Nd, dx, parts', j, .lf o, rfl, st3.ga, hq, fun r u o' e sr hu => ?_, fun r l s ch H' e => nomatch e⟩
      cases e
      obtain ⟨x, hx, ex⟩ := st3.kn.at hq
      refine ⟨_, rfl, _, rfl, _, rfl, Kn, ks', _, x, rfl, rfl, SqL.of st3.eK, atI_nat hx, _, _, rfl, al_leaf ex sr hu oq, _, rfl, iteF ?_⟩
      refine ⟨_, rfl, r, _, 0, .str "leaf", rfl, rfl, sr, rfl, rfl, _, rfl, iteBB (fun hc => absurd hc (by decide +kernel)) (fun _ => ?_)⟩
      refine ⟨_, rfl, G, dx, _, rfl, st3.ga.ins, rfl, _, rfl, G, Kl, Nd, dx, parts', j, .lf o, rfl, st3.ga, hq, fun r2 u2 o2 e2 sr2 hu2 => ?_, fun r l s ch H' e => nomatch e⟩
      cases e2
      refine ⟨_, rfl, _, rfl, Kn, ks', _, x, rfl, rfl, SqL.of st3.eK, atI_nat hx, _, _, rfl, al_leaf ex sr2 hu2 oq, _, rfl, iteT ?_⟩
      exact ⟨_, rfl, G, dx, _, rfl, st3.ga.ins, rfl, G, Kl, Nd, dx, parts', rfl, st3.ga, _, rfl, Kn, ks', rfl, .inl (SqL.of st3.eK), _, _, rfl, by rw [lk3]; exact .int _, k H3 ks' parts' Z4 st3 hlm' alt⟩
    | ask s ch =>
      refine ⟨_, rfl, G, dx, _, rfl, st3.ga.ins, rfl, _, rfl, G, Kl, Nd, dx, parts', j, .ask s ch, rfl, st3.ga, hq, (fun r u o' e => nomatch e), fun r l s' ch' H4 e S4 hl sr el => ?_⟩
      cases e
      have st4 := st3.same S4
      obtain ⟨x, hx, ex⟩ := st4.kn.at hq
      refine ⟨_, rfl, _, rfl, _, rfl, Kn, ks', _, x, rfl, rfl, SqL.of st4.eK, atI_nat hx, _, _, rfl, al_ask ex sr el, _, rfl, iteF ?_⟩
      refine ⟨_, rfl, r, _, 0, .str "ask", rfl, rfl, sr, rfl, rfl, _, rfl, iteBB (fun _ => ?_) (fun hc => absurd hc (by decide +kernel))⟩
      refine ⟨_, rfl, r, _, 2, .ref l, rfl, rfl, sr, rfl, .inl ⟨rfl, _, SqL.of el⟩, l, _, rfl, rfl, el, ?_⟩
      have S5 : Same H3 (upd H4 l (.lst [])) := fun b o hb => by
        rw [upd_ne (ne_of_none hb hl)]
        exact S4 b o hb
      generalize upd H4 l (.lst []) = H5 at S5
      have st5 := st3.same S5
      refine ⟨_, rfl, G, dx, _, rfl, st5.ga.ins, rfl, _, rfl, G, Kl, Nd, dx, parts', j, .ask s ch, rfl, st5.ga, hq, (fun r u o' e => nomatch e), fun r2 l2 s2 ch2 H6 e2 S6 hl2 sr2 el2 => ?_⟩
      cases e2
      have st6 := st5.same S6
      obtain ⟨x6, hx6, ex6⟩ := st6.kn.at hq
      refine ⟨_, rfl, _, rfl, Kn, ks', _, x6, rfl, rfl, SqL.of st6.eK, atI_nat hx6, _, _, rfl, al_ask ex6 sr2 el2, _, rfl, iteT ?_⟩
      exact ⟨_, rfl, G, dx, _, rfl, st6.ga.ins, rfl, G, Kl, Nd, dx, parts', rfl, st6.ga, _, rfl, Kn, ks', rfl, .inl (SqL.of st6.eK), _, _, rfl, by rw [lk3]; exact .int _, k H6 ks' parts' (Z4.trans (.of (S5.trans S6))) st6 hlm' alt⟩
end
end K30
namespace K30
open PySem L2 FW PyProof.Rows
theorem GrAt.butZ {K : PySem.W.Frag} {w : World} {m : Int} {H H' : Hp} {C G Kl Nd dx : Addr} {Z : List Addr} {parts : List Pd} (h : GrAt K w m H C G Kl Nd dx parts) (nt : NTZ H Z) (B : BtZ Z H H') (n1 : G ∉ Z) (n2 : Kl ∉ Z) (n3 : Nd ∉ Z) : GrAt K w m H' C G Kl Nd dx parts := by
  obtain ⟨kvs, M, h1, h2⟩ := h.nm
  exact ⟨B _ _ n1 h.ins, h.kl.butZ nt B n2, ⟨kvs, ⟨M.at_.elim (fun z => .inl (B _ _ n3 z)) (fun ⟨ep, z⟩ => .inr ⟨ep, B _ _ n3 z⟩), fun x hx => (M.dat x hx).butZ nt B, M.kd, M.nd⟩, h1, h2⟩, h.oc⟩
theorem GrAt.has {K : PySem.W.Frag} {w : World} {m : Int} {H : Hp} {C G Kl Nd dx : Addr} {parts : List Pd} (h : GrAt K w m H C G Kl Nd dx parts) : (∃ o, H G = some o) ∧ (∃ o, H Kl = some o) ∧ ∃ o, H Nd = some o := by
  obtain ⟨hs, eh, _⟩ := h.kl
  obtain ⟨kvs, M, _⟩ := h.nm
  obtain ⟨φ, eφ⟩ := M.at_.ext
  exact ⟨⟨_, h.ins⟩, ⟨_, eh⟩, ⟨_, eφ⟩⟩
def sp_last (K : PySem.W.Frag) (w : World) (m : Int) (C : Addr) : Sp := fun vs H Q _ => ∃ (G Kl Nd dx Kn : Addr) (ks : List V) (parts : List Pd), vs = [.ref G, .ref Kn] ∧ St K w m H C G Kl Nd dx Kn ks parts ∧ (parts.length : Int) ≤ m ∧ m ≤ 2000 ∧ parts.length ≤ 1000 ∧ ∀ H', Q (.bl true) H'
section
variable {P : Program} {w : World} {K : PySem.W.Frag} {mg : Str → Option Value} {base : Heap} {m : Int} {C CT CR : Addr}
set_option maxHeartbeats 4000000 in
theorem ok_law_at_last {f f4 fL fK fW fS fA fZ : Addr} {fd d4 dL dK dW dS dA dZ : FuncData} {uM : Value} (A : FnAt K mg "_law_at_last" s_law_at_last ["_law_graphs", "_law_known"] f fd)
    (M_Graphs : Mk K C f4) (G_Graphs_init : FnOk P w K mg base CX0 1 f4 d4 ["self", "most"] (sp_ginit K w 2000 C)) (b_Graphs_init : Binds K d4 ["self", "most"] [uM]) (hM : RelV (.int 2000) uM)
    (A_law_kept : FnAt K mg "_law_kept" s_law_kept ["_law_graphs", "_law_deed"] fK dK) (G_law_kept : FnOk P w K mg base (CXe P w) 3 fK dK ["_law_graphs", "_law_deed"] (sp_kept K w m C CT CR)) (A_law_whole : FnAt K mg "_law_whole" s_law_whole ["_law_found"] fW dW) (A_law_same : FnAt K mg "_law_same" s_law_same ["_law_found", "_law_due_here"] fS dS)
    (M_Graphs_leaf : Meth K C "leaf" fL) (G_Graphs_leaf2 : FnOk P w K mg base (CXe P w) 2 fL dL ["self", "outcome"] (sp_leaf K w 2000 C CT)) (b_Graphs_leaf : Binds K dL ["self", "outcome"] [])
    (M_Graphs_at : Meth K C "at" fA) (G_Graphs_at : FnOk P w K mg base CX0 1 fA dA ["self", "part"] (sp_at K w m C)) (b_Graphs_at : Binds K dA ["self", "part"] []) (M_Graphs_size : Meth K C "size" fZ) (G_Graphs_size : FnOk P w K mg base CX0 1 fZ dZ ["self"] (sp_size K w m C)) (G_Graphs_size2 : FnOk P w K mg base CX0 1 fZ dZ ["self"] (sp_size K w 2000 C)) (b_Graphs_size : Binds K dZ ["self"] []) (T : Txt K mg C) :
    FnOk P w K mg base CX0 6 f fd ["_law_graphs", "_law_known"] (sp_last K w m C) := by
  have G_law_same : FnOk P w K mg base CX0 5 fS dS _ (sp_same K 3) := ok_law_same A_law_same A_law_whole T 3
  refine A.F.ok (k := 5) sc_law_at_last (fun vs H Q E h => ?_) (fun cdv Ar outer s H vs Q E hr h => ?_)
  · obtain ⟨G, Kl, Nd, dx, Kn, ks, parts, rfl, _⟩ := h
    rfl
  · obtain ⟨G, Kl, Nd, dx, Kn, ks, parts, rfl, st, hlm, hm2, few, k⟩ := h
    refine ⟨_, (pss_cons (ps_set (i := 2) sc_law_at_last.nd rfl (Or.inl rfl) (pe_make0 M_Graphs G_Graphs_init (hr.mono (by decide)) rfl T.Graphs_ b_Graphs_init (.cons (a := V.int 2000) hM .nil) pass0))
      (pss_cons (ps_if (PW.pt (pw_or (pt_not (pt_val (pe_call G_law_same (hr.mono (by decide)) rfl A_law_same.m A_law_same.F.kp A_law_same.b .nil pass0 (pa_cons (pe_meth0 (pv 2) T.cl M_Graphs_size G_Graphs_size2 (hr.mono (by decide)) b_Graphs_size .nil pass0) (pa_cons pe_int pa_nil))))) (pw_or1 (pt_not (pt_val (pe_call G_law_same (hr.mono (by decide)) rfl A_law_same.m A_law_same.F.kp A_law_same.b .nil pass0 (pa_cons (pe_meth (pv 2) T.cl M_Graphs_leaf G_Graphs_leaf2 (hr.mono (by decide)) b_Graphs_leaf .nil passN (pa_cons pe_non pa_nil)) (pa_cons pe_int pa_nil)))))))) (pss_one (ps_ret pe_bl)) pss_nil)
      (pss_cons (ps_for PassesOwn.never rfl (pi_range1 rfl T.range_ (pa_cons (pe_callB call_len_seq (by rfl) T.len_ Boot.«len» (pa_cons (pv 1) pa_nil)) pa_nil)) (pg_name (i := 3) sc_law_at_last.nd rfl (Or.inl rfl)) (pss_one (ps_if (PW.pt (pw_or (pt_not (pt_val (pe_call G_law_same (hr.mono (by decide)) rfl A_law_same.m A_law_same.F.kp A_law_same.b .nil pass0 (pa_cons (pe_meth (pv 0) T.cl M_Graphs_at G_Graphs_at (hr.mono (by decide)) b_Graphs_at .nil pass0 (pa_cons (pv 3) pa_nil)) (pa_cons (pe_ix ix_list (pv 1) (pv 3) (fun _ _ => rfl)) pa_nil))))) (pw_or1 (pt_not (pt_val (pe_call G_law_same (hr.mono (by decide)) rfl A_law_same.m A_law_same.F.kp A_law_same.b .nil pass0 (pa_cons (pe_call G_law_kept (hr.mono (by decide)) rfl A_law_kept.m A_law_kept.F.kp A_law_kept.b .nil passN (pa_cons (pv 0) (pa_cons (pe_ix ix_list (pv 1) (pv 3) (fun _ _ => rfl)) pa_nil))) (pa_cons (pv 3) pa_nil)))))))) (pss_one (ps_ret pe_bl)) pss_nil)))
      (pss_one (ps_ret (pe_and (pe_call G_law_same (hr.mono (by decide)) rfl A_law_same.m A_law_same.F.kp A_law_same.b .nil pass0 (pa_cons (pe_meth0 (pv 0) T.cl M_Graphs_size G_Graphs_size (hr.mono (by decide)) b_Graphs_size .nil pass0) (pa_cons (pe_callB call_len_seq (by rfl) T.len_ Boot.«len» (pa_cons (pv 1) pa_nil)) pa_nil))) (pe_one (pe_call G_law_same (hr.mono (by decide)) rfl A_law_same.m A_law_same.F.kp A_law_same.b .nil pass0 (pa_cons (pe_meth0 (pv 2) T.cl M_Graphs_size G_Graphs_size2 (hr.mono (by decide)) b_Graphs_size .nil pass0) (pa_cons pe_int pa_nil)))))))))), ?_⟩
    have lk := st.kn.l
    refine fun G2 dx2 hG2 hdx ndx => ⟨G2, dx2, rfl, upd_same, fun Kl2 Nd2 H1 B1 hKl2 hNd2 ga2 => ⟨rfl, ?_⟩⟩
    have S1 : Same H H1 := fun b o eb => by
      refine B1 _ _ (ne_of_none eb hG2) ?_
      rw [upd_ne (ne_of_none eb hG2), upd_ne (ne_of_none eb hdx)]
      exact eb
    have hKl0 : H Kl2 = none := by
      cases e : H Kl2 with
      | none => rfl
      | some o =>
        rw [upd_ne (ne_of_none e hG2), upd_ne (ne_of_none e hdx), e] at hKl2
        cases hKl2
    have hNd0 : H Nd2 = none := by
      cases e : H Nd2 with
      | none => rfl
      | some o =>
        rw [upd_ne (ne_of_none e hG2), upd_ne (ne_of_none e hdx), e] at hNd2
        cases hNd2
    clear B1 hdx ndx hKl2 hNd2
    refine ⟨_, rfl, G2, dx2, _, rfl, ga2.ins, rfl, G2, Kl2, Nd2, dx2, [], rfl, ga2, _, _, rfl, .int _, _, rfl, iteF ?_⟩
    refine ⟨_, rfl, G2, dx2, _, rfl, ga2.ins, rfl, G2, Kl2, Nd2, dx2, .non, [], .non, rfl, ga2, .non, .non, (by show (0 : Int) ≤ 2000; decide), Int.le_refl _, fun H2 parts2 j B2 ga3 gr _ => ?_, fun _ z => absurd z (by decide)⟩
    have e2 : parts2 = [.lf .non] ∧ j = 0 := by
      cases gr with
      | old _ h => simp at h
      | new h => exact ⟨rfl, rfl⟩
    obtain ⟨rfl, rfl⟩ := e2
    have S2 : Same H H2 := B2.same (fun x hx => by
      rcases List.mem_cons.mp hx with z | z
      · rw [z]; exact hKl0
      · rw [List.mem_singleton.mp z]; exact hNd0) S1
    obtain ⟨⟨_, hKl⟩, ⟨_, hNd⟩⟩ := st.ga.has.2
    have nin : ∀ {x : Addr}, H x = none → x ∉ [Kl, Nd] := fun {x} hx z => by
      rcases List.mem_cons.mp z with z | z
      · rw [z, hKl] at hx; cases hx
      · rw [List.mem_singleton.mp z, hNd] at hx; cases hx
    refine ⟨_, _, rfl, .int _, _, rfl, iteF ?_⟩
    have st2 := st.same S2
    refine ⟨_, rfl, Kn, ks, rfl, .inl (SqL.of st2.eK), (ks.length : Int), rfl, by omega, by omega, for_range (lo := 0) (n := (ks.length : Int).toNat) (fun j σ H' => St K w m H' C G Kl Nd dx Kn ks parts ∧ GrAt K w 2000 H' C G2 Kl2 Nd2 dx2 [.lf .non] ∧ ∃ o3, σ = [some (.ref G), some (.ref Kn), some (.ref G2), o3])
      ⟨st2, ga3, none, rfl⟩ ?_ ?_⟩
    · rintro j σ H3 hj ⟨st3, ga4, o3, rfl⟩
      have hj' : j < parts.length := by omega
      obtain ⟨p, hp⟩ := get_ex hj'
      obtain ⟨u, hu, eu⟩ := st3.kn.at hp
      rw [Int.zero_add]
      have pm := List.mem_of_getElem? hp
      cases p with
      | lf o =>
        refine ⟨_, rfl, G, dx, _, rfl, st3.ga.ins, rfl, _, rfl, G, Kl, Nd, dx, parts, j, .lf o, rfl, st3.ga, hp, fun r u' o' e sr hd => ?_, fun r l s ch H4 e => nomatch e⟩
        cases e
        have S4 : Same H3 H3 := .refl _
        have al := al_leaf eu sr hd (st3.ga.oc _ pm)
        have st4 := st3.same S4
        have ga5 := ga4.same S4
        refine ⟨_, rfl, _, rfl, Kn, ks, _, u, rfl, rfl, SqL.of st4.eK, atI_nat hu, _, _, rfl, al, _, rfl, iteF ?_⟩
        have dold : Du parts m (.lf o) (j : Int) := .old _ j (st.ok _ pm).2 hp
        refine ⟨_, rfl, _, rfl, _, rfl, Kn, ks, _, u, rfl, rfl, SqL.of st4.eK, atI_nat hu, G, Kl, Nd, dx, u, parts, .lf o, rfl, st4.ga, (eu.same S4).mono sub23, (st.ok _ pm).1, hlm, hm2, fun H5 parts' i di B g af => ?_, fun db _ _ => ?_, fun df _ _ => ?_⟩
        rotate_left
        · have := dold.det st.nd db
          omega
        · have := dold.det st.nd df
          omega
        have ei := dold.det st.nd di
        have ei : j = i := by omega
        subst ei
        refine ⟨_, rfl, _, _, rfl, .int _, _, rfl, iteF ?_⟩
        have epp : parts' = parts := by
          cases af with
          | old _ _ => rfl
          | new hn _ => exact absurd pm hn
        subst epp
        have nt4 := st4.ga.nt
        exact ⟨⟨g, B _ _ st4.nK st4.eK, st4.kn.butZ (nt3 st4.ga st4.eK) (B.mono sub23), st4.nd, st4.ok, st4.n1, st4.n2, st4.n3⟩, ga5.butZ nt4 B (nin hG2) (nin hKl0) (nin hNd0), _, rfl⟩
      | ask s ch =>
        refine ⟨_, rfl, G, dx, _, rfl, st3.ga.ins, rfl, _, rfl, G, Kl, Nd, dx, parts, j, .ask s ch, rfl, st3.ga, hp, (fun r u' o' e => nomatch e), fun r l s' ch' H4 e S4 hl sr el => ?_⟩
        cases e
        have al := al_ask (eu.same S4) sr el
        have st4 := st3.same S4
        have ga5 := ga4.same S4
        refine ⟨_, rfl, _, rfl, Kn, ks, _, u, rfl, rfl, SqL.of st4.eK, atI_nat hu, _, _, rfl, al, _, rfl, iteF ?_⟩
        have dold : Du parts m (.ask s ch) (j : Int) := .old _ j (st.ok _ pm).2 hp
        refine ⟨_, rfl, _, rfl, _, rfl, Kn, ks, _, u, rfl, rfl, SqL.of st4.eK, atI_nat hu, G, Kl, Nd, dx, u, parts, .ask s ch, rfl, st4.ga, (eu.same S4).mono sub23, (st.ok _ pm).1, hlm, hm2, fun H5 parts' i di B g af => ?_, fun db _ _ => ?_, fun df _ _ => ?_⟩
        rotate_left
        · have := dold.det st.nd db
          omega
        · have := dold.det st.nd df
          omega
        have ei := dold.det st.nd di
        have ei : j = i := by omega
        subst ei
        refine ⟨_, rfl, _, _, rfl, .int _, _, rfl, iteF ?_⟩
        have epp : parts' = parts := by
          cases af with
          | old _ _ => rfl
          | new hn _ => exact absurd pm hn
        subst epp
        have nt4 := st4.ga.nt
        exact ⟨⟨g, B _ _ st4.nK st4.eK, st4.kn.butZ (nt3 st4.ga st4.eK) (B.mono sub23), st4.nd, st4.ok, st4.n1, st4.n2, st4.n3⟩, ga5.butZ nt4 B (nin hG2) (nin hKl0) (nin hNd0), _, rfl⟩
    · rintro σ H3 ⟨st3, ga4, o3, rfl⟩
      refine ⟨_, rfl, G, dx, _, rfl, st3.ga.ins, rfl, G, Kl, Nd, dx, parts, rfl, st3.ga, _, rfl, Kn, ks, rfl, .inl (SqL.of st3.eK), _, _, rfl, by rw [lk]; exact .int _, _, rfl, iteT ?_⟩
      exact ⟨_, rfl, G2, dx2, _, rfl, ga4.ins, rfl, G2, Kl2, Nd2, dx2, [.lf .non], rfl, ga4, _, _, rfl, .int _, k _⟩
end
end K30
namespace K30
open PySem L2 FW PyProof.Rows
theorem FnOk.ex {P : Program} {w : World} {K : PySem.W.Frag} {mg : Str → Option Value} {base : Heap} {CX : CXT} {k : Nat} {f : Addr} {fd : FuncData} {ps : List Str} {sp : Int → Sp} (F : ∀ m, FnOk P w K mg base CX k f fd ps (sp m)) : FnOk P w K mg base CX k f fd ps (fun vs H Q E => ∃ m, sp m vs H Q E) :=
  ⟨fun vs H Q E ⟨m, q⟩ => (F m).len vs H Q E q, fun A outer s H args us vs Q E hr he hb hv ⟨m, hs⟩ => (F m).run A outer s H args us vs Q E hr he hb hv hs⟩
theorem KnL.mem {K : PySem.W.Frag} {Z : List Addr} {H : Hp} {ks : List V} {parts : List Pd} {u : V} (h : KnL K Z H ks parts) (hu : u ∈ ks) : ∃ p, EnT K Z H u p := by
  obtain ⟨i, hi⟩ := List.mem_iff_getElem?.mp hu
  have l := h.l
  obtain ⟨p, hp⟩ := get_ex (l := parts) (i := i) (by have := (List.getElem?_eq_some_iff.mp hi).1; omega)
  exact ⟨p, h.it i u p hi hp⟩
theorem KnL.new {K : PySem.W.Frag} {Z : List Addr} {H : Hp} {ks : List V} {parts : List Pd} {r : Addr} (h : KnL K Z H ks parts) (hr : H r = none) : V.ref r ∉ ks := fun z => by
  obtain ⟨p, hp⟩ := h.mem z
  obtain ⟨r2, xs, e, e2⟩ := hp.ref
  cases e
  rw [hr] at e2
  cases e2
theorem ap_leaf {ks : List V} {H : Hp} {r : Addr} {v : V} (er : H r = some (.tup [.str "leaf", v])) : ∀ (u : V) (r1 l r2 l2 : Addr) (s s2 : Nat), u ∈ ks → u = .ref r1 → V.ref r = .ref r2 → H r1 = some (.tup [.str "ask", nI s, .ref l]) → H r2 = some (.tup [.str "ask", nI s2, .ref l2]) → l ≠ l2 := fun u r1 l r2 l2 s s2 _ _ e _ e2 => by
  cases e
  rw [er] at e2
  simp at e2
theorem ap_ask {K : PySem.W.Frag} {Z : List Addr} {ks : List V} {parts : List Pd} {H0 H : Hp} {r D : Addr} {sn : Nat} (kn : KnL K Z H0 ks parts) (S : Same H0 H) (hD : H0 D = none) (er : H r = some (.tup [.str "ask", nI sn, .ref D])) : ∀ (u : V) (r1 l r2 l2 : Addr) (s s2 : Nat), u ∈ ks → u = .ref r1 → V.ref r = .ref r2 → H r1 = some (.tup [.str "ask", nI s, .ref l]) → H r2 = some (.tup [.str "ask", nI s2, .ref l2]) → l ≠ l2 := fun u r1 l r2 l2 s s2 hu eu e e1 e2 => by
  cases e
  rw [er] at e2
  have : D = l2 := by
    simp at e2
    exact e2.2
  rw [← this]
  obtain ⟨p, hp⟩ := kn.mem hu
  cases hp with
  | lf r3 u3 o e3 hu3 =>
    cases eu
    rw [S _ _ e3] at e1
    simp at e1
  | ask r3 l3 s3 ch e3 hl3 nz =>
    cases eu
    rw [S _ _ e3] at e1
    have : l3 = l := by
      simp at e1
      exact e1.2
    rw [← this]
    exact ne_of_none hl3 hD
def g2 {α : Type} (us ws : List α) : List α := match us, ws with
  | [u], [x] => [u, x]
  | _, _ => []
def sp_law (K : PySem.W.Frag) : Sp := fun vs H Q _ => ∃ (a : Addr) (ns : List Int), vs = [.ref a] ∧ SqL K H a (ns.map V.int) ∧ ns.length ≤ 63 ∧ (∀ n ∈ ns, Builtin.Int.intBits n ≤ 2 ^ 20) ∧ ∀ H', Q (.bl true) H'
section
variable {P : Program} {w : World} {K : PySem.W.Frag} {mg : Str → Option Value} {base : Heap} {C CT CR : Addr}
set_option maxHeartbeats 16000000 in
theorem ok_law {f f1 f2 f3 f4 f5 f6 f7 f8 : Addr} {fd d1 d2 d3 d4 d5 d6 d7 d8 : FuncData} {uM : Value} (A : FnAt K mg "law" s_law ["_law_script"] f fd)
    (A_law_sites : FnAt K mg "_law_sites" s_law_sites ["_law_script"] f1 d1)
    (A_law_cell_at : FnAt K mg "_law_cell_at" s_law_cell_at ["_law_script", "_law_k"] f2 d2) (A_law_mix : FnAt K mg "_law_mix" s_law_mix ["_law_cell", "_law_k"] f3 d3)
    (M_Graphs : Mk K C f4) (GI : ∀ m, FnOk P w K mg base CX0 1 f4 d4 ["self", "most"] (sp_ginit K w m C)) (b_Graphs_init : Binds K d4 ["self", "most"] [uM]) (hM : RelV (.int 2000) uM) (kb : KBinds K d4 ["self", "most"] ["most"] g2 g2)
    (A_law_outcome : FnAt K mg "_law_outcome" s_law_outcome ["_law_cell"] f5 d5) (G_law_outcome : FnOk P w K mg base CX0 2 f5 d5 ["_law_cell"] (sp_outcome K))
    (A_law_children : FnAt K mg "_law_children" s_law_children ["_law_script", "_law_place", "_law_many", "_law_known", "_law_site", "_law_good"] f6 d6)
    (A_law_done : FnAt K mg "_law_done" s_law_done ["_law_graphs", "_law_known", "_law_deed", "_law_limit"] f7 d7) (GD : ∀ m, FnOk P w K mg base CX0 6 f7 d7 ["_law_graphs", "_law_known", "_law_deed", "_law_limit"] (sp_done K w m C))
    (A_law_at_last : FnAt K mg "_law_at_last" s_law_at_last ["_law_graphs", "_law_known"] f8 d8) (GL : ∀ m, FnOk P w K mg base CX0 6 f8 d8 ["_law_graphs", "_law_known"] (sp_last K w m C))
    (T : Txt K mg C) : FnOk P w K mg base CX0 7 f fd ["_law_script"] (sp_law K) := by
  have G_law_cell_at : FnOk P w K mg base CX0 1 f2 d2 _ (sp_cell K) := ok_law_cell_at A_law_cell_at T
  have G_law_mix : FnOk P w K mg base CX0 1 f3 d3 _ sp_mix := ok_law_mix A_law_mix
  have G_law_sites : FnOk P w K mg base CX0 2 f1 d1 _ (sp_sites K) := ok_law_sites A_law_sites A_law_cell_at A_law_mix T
  have G_law_children : FnOk P w K mg base CX0 2 f6 d6 _ (sp_children K) := ok_law_children A_law_children A_law_cell_at T
  have G_Graphs_init := FnOk.ex GI
  have G_law_done := FnOk.ex GD
  have G_law_at_last := FnOk.ex GL
  refine A.F.ok (k := 6) sc_law (fun vs H Q E h => ?_) (fun cdv Ar outer s0 H vs Q E hr h => ?_)
  · obtain ⟨a, ns, rfl, _⟩ := h
    rfl
  · obtain ⟨a, ns, rfl, hS, hl63, hbits, k⟩ := h
    refine ⟨_, (pss_cons (ps_set (i := 1) sc_law.nd rfl (Or.inl rfl) (pe_call G_law_sites (hr.mono (by decide)) rfl A_law_sites.m A_law_sites.F.kp A_law_sites.b .nil pass0 (pa_cons (pv 0) pa_nil)))
      (pss_cons (ps_set (i := 2) sc_law.nd rfl (Or.inl rfl) pe_int)
      (pss_cons (ps_set (i := 3) sc_law.nd rfl (Or.inl rfl) (pe_make0 M_Graphs G_Graphs_init (hr.mono (by decide)) rfl T.Graphs_ b_Graphs_init (.cons (a := V.int 2000) hM .nil) pass0))
      (pss_cons (ps_if (pt_cmpR op_eq (pe_op op_mod (pe_call G_law_cell_at (hr.mono (by decide)) rfl A_law_cell_at.m A_law_cell_at.F.kp A_law_cell_at.b .nil pass0 (pa_cons (pv 0) (pa_cons pe_int pa_nil))) pe_int) pe_int (nomark _)) (pss_cons (ps_set (i := 2) sc_law.nd rfl (Or.inl rfl) (pe_op op_add pe_int (pe_op op_mod (pe_op op_fdivP (pe_call G_law_cell_at (hr.mono (by decide)) rfl A_law_cell_at.m A_law_cell_at.F.kp A_law_cell_at.b .nil pass0 (pa_cons (pv 0) (pa_cons pe_int pa_nil))) pe_int) pe_int)))
      (pss_one (ps_set (i := 3) sc_law.nd rfl (Or.inl rfl) (pe_makeK0 M_Graphs G_Graphs_init (hr.mono (by decide)) rfl T.Graphs_ kb pass0 (pk_cons (pv 2) pk_nil))))) pss_nil)
      (pss_cons (ps_set (i := 4) sc_law.nd rfl (Or.inl rfl) (pe_lst pa_nil))
      (pss_cons (ps_set (i := 5) sc_law.nd rfl (Or.inl rfl) pe_int)
      (pss_cons (ps_while PassesOwn.never (pt_cmpR op_lt (pv 5) (pe_callB (call_min2 rfl) (by rfl) T.min_ Boot.«min» (pa_cons (pe_callB call_len_seq (by rfl) T.len_ Boot.«len» (pa_cons (pv 0) pa_nil)) (pa_cons pe_int pa_nil))) (nomark _)) (pss_cons (ps_set (i := 6) sc_law.nd rfl (Or.inl rfl) (pe_call G_law_mix (hr.mono (by decide)) rfl A_law_mix.m A_law_mix.F.kp A_law_mix.b .nil pass0 (pa_cons (pe_ix ix_list (pv 0) (pv 5) (fun _ _ => rfl)) (pa_cons (pv 5) pa_nil))))
      (pss_cons (ps_set (i := 5) sc_law.nd rfl (Or.inl rfl) (pe_op op_add (pv 5) pe_int))
      (pss_cons (ps_set (i := 7) sc_law.nd rfl (Or.inl rfl) (pe_tup (pa_cons pe_str (pa_cons (pe_call G_law_outcome (hr.mono (by decide)) rfl A_law_outcome.m A_law_outcome.F.kp A_law_outcome.b .nil pass0 (pa_cons (pe_op op_fdivP (pv 6) pe_int) pa_nil)) pa_nil))))
      (pss_cons (ps_if (PW.pt (pw_and (pt_cmpR op_gt (pe_callB call_len_seq (by rfl) T.len_ Boot.«len» (pa_cons (pv 4) pa_nil)) pe_int (nomark _)) (pw_and1 (pt_cmpR op_gt (pe_op op_mod (pv 6) pe_int) pe_int (nomark _))))) (pss_cons (ps_set (i := 8) sc_law.nd rfl (Or.inl rfl) (pe_op op_mod (pe_op op_fdivP (pv 6) pe_int) pe_int))
      (pss_cons (ps_set (i := 9) sc_law.nd rfl (Or.inl rfl) (pe_op op_add pe_int (pe_op op_mod (pe_call G_law_mix (hr.mono (by decide)) rfl A_law_mix.m A_law_mix.F.kp A_law_mix.b .nil pass0 (pa_cons (pe_call G_law_cell_at (hr.mono (by decide)) rfl A_law_cell_at.m A_law_cell_at.F.kp A_law_cell_at.b .nil pass0 (pa_cons (pv 0) (pa_cons pe_int pa_nil))) (pa_cons (pv 8) pa_nil))) pe_int)))
      (pss_cons (ps_set (i := 10) sc_law.nd rfl (Or.inl rfl) (pe_call G_law_children (hr.mono (by decide)) rfl A_law_children.m A_law_children.F.kp A_law_children.b .nil pass0 (pa_cons (pv 0) (pa_cons (pv 5) (pa_cons (pv 9) (pa_cons (pv 4) (pa_cons (pe_ix ix_list (pv 1) (pv 8) (fun _ _ => rfl)) (pa_cons (pe_cmpR op_gt (pe_op op_mod (pe_op op_fdivP (pv 6) pe_int) pe_int) pe_int (nomark _)) pa_nil))))))))
      (pss_cons (ps_if (pt_cmpR op_eq (pe_op op_mod (pe_op op_fdivP (pv 6) pe_int) pe_int) pe_int (nomark _)) (pss_one (ps_set (i := 10) sc_law.nd rfl (Or.inl rfl) (pe_op op_rep (pe_lst (pa_cons (pe_ix ix_list (pv 10) pe_int (fun _ _ => rfl)) pa_nil)) (pv 9)))) pss_nil)
      (pss_cons (ps_set (i := 7) sc_law.nd rfl (Or.inl rfl) (pe_tup (pa_cons pe_str (pa_cons (pe_ix ix_list (pv 1) (pv 8) (fun _ _ => rfl)) (pa_cons (pv 10) pa_nil)))))
      (pss_one (ps_set (i := 5) sc_law.nd rfl (Or.inl rfl) (pe_op op_add (pv 5) (pv 9))))))))) pss_nil)
      (pss_one (ps_if (pt_not (pt_val (pe_call G_law_done (hr.mono (by decide)) rfl A_law_done.m A_law_done.F.kp A_law_done.b .nil pass0 (pa_cons (pv 3) (pa_cons (pv 4) (pa_cons (pv 7) (pa_cons (pv 2) pa_nil))))))) (pss_one (ps_ret pe_bl)) pss_nil)))))))
      (pss_one (ps_ret (pe_call G_law_at_last (hr.mono (by decide)) rfl A_law_at_last.m A_law_at_last.F.kp A_law_at_last.b .nil pass0 (pa_cons (pv 3) (pa_cons (pv 4) pa_nil)))))))))))), ?_⟩
    refine ⟨_, rfl, a, ns, rfl, hS, fun Sl H1 ss S1 eS so => ?_⟩
    have hS1 := S1.seq hS
    refine fun G0 dx0 hG0 hdx0 _ => ⟨2000, G0, dx0, rfl, upd_same, fun Kl0 Nd0 H2 B2 hKl0 hNd0 ga2 => ⟨rfl, ?_⟩⟩
    have fresh : ∀ {A B : Hp} {x dx y : Addr}, A x = none → A dx = none → (upd (upd A dx (.own x)) x (.ins C dx [])) y = none → Same H1 A → H1 y = none := fun {A B x dx y} h1 h2 h3 S => by
      cases e : H1 y with
      | none => rfl
      | some o =>
        have e' := S _ _ e
        rw [upd_ne (ne_of_none e' h1), upd_ne (ne_of_none e' h2), e'] at h3
        cases h3
    have sameM : ∀ {A B : Hp} {x dx : Addr}, A x = none → A dx = none → BtA x (upd (upd A dx (.own x)) x (.ins C dx [])) B → Same A B := fun {A B x dx} h1 h2 h3 b o eb => by
      refine h3 _ _ (ne_of_none eb h1) ?_
      rw [upd_ne (ne_of_none eb h1), upd_ne (ne_of_none eb h2)]
      exact eb
    have S2 : Same H1 H2 := sameM hG0 hdx0 B2
    have fKl0 : H1 Kl0 = none := fresh (B := H2) hG0 hdx0 hKl0 (.refl _)
    have fNd0 : H1 Nd0 = none := fresh (B := H2) hG0 hdx0 hNd0 (.refl _)
    clear B2 hKl0 hNd0 hG0 hdx0
    refine' restS (C := fun σ H4 => ∃ (m : Int) (G Kl Nd dx : Addr), σ = [some (.ref a), some (.ref Sl), some (.int m), some (.ref G), none, none, none, none, none, none, none] ∧ Same H1 H4 ∧ GrAt K w m H4 C G Kl Nd dx [] ∧ H1 Kl = none ∧ H1 Nd = none ∧ 1 ≤ m ∧ m ≤ 2000)
      (fun rest => ⟨_, rfl, a, ns, 2, rfl, S2.seq hS1, fun c => ⟨_, _, rfl, rfl, (by show (0 : Int) < 2; decide), rfl, _, rfl, iteBB (fun hc => ?aa) (fun hc => rest _ _ ⟨2000, G0, Kl0, Nd0, dx0, rfl, S2, ga2, fKl0, fNd0, by decide, by decide⟩)⟩⟩) ?bb
    case aa =>
      refine ⟨_, rfl, a, ns, 2, rfl, S2.seq hS1, fun c2 => ⟨_, _, rfl, rfl, ⟨(by show (0 : Int) < 2; decide), (by decide +kernel)⟩, _, _, rfl, rfl, (by show (0 : Int) < 40; decide), _, _, rfl, rfl, _, rfl, ?_⟩⟩
      refine fun G3 dx3 hG3 hdx3 _ => ⟨1 + c2 / 2 % 40, G3, dx3, rfl, upd_same, fun Kl3 Nd3 H5 B5 hKl3 hNd3 ga5 => ⟨rfl, rest _ _ ⟨1 + c2 / 2 % 40, G3, Kl3, Nd3, dx3, rfl, S2.trans (sameM hG3 hdx3 B5), ga5, fresh (B := H5) hG3 hdx3 hKl3 S2, fresh (B := H5) hG3 hdx3 hNd3 S2, by omega, by omega⟩⟩⟩
    clear S2 ga2 fKl0 fNd0 fresh sameM
    rintro σ H4 ⟨m, G, Kl, Nd, dx, rfl, S4, ga, fKl, fNd, m1, m2⟩
    refine ⟨Nat.zero_le _, fun Kn hKn => ?_⟩
    have S5 := Same.upd (o := .lst []) hKn
    have eKn : (upd H4 Kn (.lst [])) Kn = some (.lst []) := upd_same
    obtain ⟨n1, n2, n3⟩ := ga.apart hKn
    generalize upd H4 Kn (.lst []) = H5 at S5 eKn
    have fKn : H1 Kn = none := by
      cases e : H1 Kn with
      | none => rfl
      | some o =>
        rw [S4 _ _ e] at hKn
        cases hKn
    have st5 : St K w m H5 C G Kl Nd dx Kn [] [] := ⟨ga.same S5, eKn, ⟨rfl, fun j v p h1 h2 => by simp at h1, List.nodup_nil⟩, List.nodup_nil, (fun _ h => nomatch h), n1, n2, n3⟩
    have S15 := S4.trans S5
    have fZ : ∀ x ∈ [Kl, Nd, Kn], H1 x = none := fun x hx => by
      rcases List.mem_cons.mp hx with z | z
      · rw [z]; exact fKl
      rcases List.mem_cons.mp z with z | z
      · rw [z]; exact fNd
      · rw [List.mem_singleton.mp z]; exact fKn
    clear S4 S5 eKn hKn ga
    refine while_by (fun σ H' => ∃ (pl : Nat) (ks : List V) (parts : List Pd) (o6 o7 o8 o9 o10 : Option V), σ = [some (.ref a), some (.ref Sl), some (.int m), some (.ref G), some (.ref Kn), some (nI pl), o6, o7, o8, o9, o10] ∧ Same H1 H' ∧ St K w m H' C G Kl Nd dx Kn ks parts ∧ Lf0 parts ∧ parts.length ≤ pl ∧ pl ≤ 100 ∧ (parts.length : Int) ≤ m)
      (fun σ _ => match σ with | [_, _, _, _, _, some (.int pl), _, _, _, _, _] => (1000 - pl).toNat | _ => 0) ⟨3, [], [], _, _, _, _, _, rfl, S15, st5, .inl rfl, by decide, by decide, by show (0 : Int) ≤ m; omega⟩ ?_ ?_
    · clear st5 S15
      rintro σ H' ⟨pl, ks, parts, o6, o7, o8, o9, o10, rfl, S, st, lf, hpl, hp1, hlm⟩
      have hSq := S.seq hS1
      refine ⟨_, rfl, _, rfl, a, _, rfl, .inl hSq, _, _, rfl, _, _, rfl, rfl, _, rfl, iteBB (fun hc => ?_) (fun _ => ?_)⟩
      rotate_left
      · exact ⟨_, rfl, _, rfl, m, G, Kl, Nd, dx, Kn, ks, parts, rfl, st, hlm, m2, by omega, k⟩
      have hc := of_decide_eq_true hc
      rw [List.length_map] at hc
      have p83 : pl < ns.length ∧ pl < 83 := by
        split at hc <;> omega
      obtain ⟨n, hn⟩ := get_ex p83.1
      refine ⟨_, rfl, _, rfl, a, _, _, .int n, rfl, rfl, hSq, atI_nat (by rw [List.getElem?_map, hn]; rfl), _, rfl, n, _, rfl, by omega, by omega, fun c c0 c1 => ?_⟩
      refine ⟨_, rfl, _, _, rfl, rfl, ?_⟩
      dsimp only
      refine ⟨_, rfl, _, _, rfl, rfl, ⟨(by show (0 : Int) < 3; decide), (by decide +kernel)⟩, c / 3, rfl, by omega, by omega, fun o oc v6 H6 S6 dv => ⟨(by show 2 ≤ sizeLine; decide), fun r hr6 => ?_⟩⟩
      have S7 := Same.upd (o := .tup [.str "leaf", v6]) hr6
      have er : (upd H6 r (.tup [.str "leaf", v6])) r = some (.tup [.str "leaf", v6]) := upd_same
      generalize upd H6 r (.tup [.str "leaf", v6]) = H7 at S7 er
      have S67 := S6.trans S7
      have st7 := st.same S67
      have lk := st.kn.l
      have hr0 : H' r = none := by
        cases e : H' r with
        | none => rfl
        | some y => rw [S6 _ _ e] at hr6; cases hr6
      refine' restS (C := fun σ H8 => ∃ (x5 : Int) (pl' : Nat) (v : V) (p : Pd) (o8 o9 o10 : Option V), σ = [some (.ref a), some (.ref Sl), some (.int m), some (.ref G), some (.ref Kn), some (.int x5), some (.int c), some v, o8, o9, o10] ∧ x5 = (pl' : Int) ∧ pl < pl' ∧ pl' ≤ pl + 7 ∧ Same H' H8 ∧ EnT K [Kl, Nd, Kn] H8 v p ∧ DdOk parts p ∧ v ∉ ks ∧
          (∀ (u : V) (r l r2 l2 : Addr) (s s2 : Nat), u ∈ ks → u = .ref r → v = .ref r2 → H8 r = some (.tup [.str "ask", nI s, .ref l]) → H8 r2 = some (.tup [.str "ask", nI s2, .ref l2]) → l ≠ l2) ∧ (parts = [] → ∃ o, p = .lf o))
        (fun rest => ⟨_, rfl, Kn, ks, rfl, .inl (SqL.of st7.eK), _, _, rfl, rfl, _, rfl, iteBB (fun hc1 => ⟨_, rfl, _, _, rfl, rfl, (by show (0 : Int) < 3; decide), _, _, rfl, rfl, _, rfl, iteBB (fun hc2 => ?ab) (fun _ => rest _ _ ?cc)⟩) (fun _ => iteF (rest _ _ ?dd))⟩) ?bc
      case cc => exact ⟨_, pl + 1, _, .lf o, _, _, _, rfl, rfl, by omega, by omega, S67, .lf r v6 o er (dv.same S7), ⟨oc, fun s ch z => nomatch z⟩, st.kn.new hr0, ap_leaf er, fun _ => ⟨o, rfl⟩⟩
      case dd => exact ⟨_, pl + 1, _, .lf o, _, _, _, rfl, rfl, by omega, by omega, S67, .lf r v6 o er (dv.same S7), ⟨oc, fun s ch z => nomatch z⟩, st.kn.new hr0, ap_leaf er, fun _ => ⟨o, rfl⟩⟩
      case ab =>
        have kpos := of_decide_eq_true hc1
        obtain ⟨o0, ho0⟩ : ∃ o, parts[0]? = some (.lf o) := by
          rcases lf with z | z
          · rw [z] at lk
            rw [lk] at kpos
            exact absurd kpos (by decide)
          · exact z
        obtain ⟨tn, etn, ltn⟩ : ∃ tn : Nat, c / 3 % 6 = (tn : Int) ∧ tn < 6 := ⟨(c / 3 % 6).toNat, by omega, by omega⟩
        refine ⟨_, rfl, _, _, rfl, rfl, ⟨(by show (0 : Int) < 3; decide), (by decide +kernel)⟩, _, _, rfl, rfl, (by show (0 : Int) < 6; decide), ?_⟩
        dsimp only
        rw [etn]
        refine ⟨_, rfl, a, ns, 1, rfl, (S.trans S67).seq hS1, fun c3 => ⟨_, rfl, c3, _, rfl, by omega, by omega, fun y y0 y1 => ⟨_, _, rfl, rfl, (by show (0 : Int) < 6; decide), _, _, rfl, rfl, ?_⟩⟩⟩
        dsimp only
        obtain ⟨mn, emn, mn1, mn6⟩ : ∃ mn : Nat, 1 + y % 6 = (mn : Int) ∧ 1 ≤ mn ∧ mn ≤ 6 := ⟨(1 + y % 6).toNat, by omega, by omega, by omega⟩
        rw [emn]
        obtain ⟨sn, hsn⟩ := get_ex (l := ss) (i := tn) (by have := so.l; omega)
        have eS7 := (S.trans S67) _ _ eS
        have hat : ∀ {K' : List V}, K' = ss.map nI → atI K' (tn : Int) = some (nI sn) := fun e => by
          rw [e]
          exact atI_nat (by rw [List.getElem?_map, hsn]; rfl)
        refine ⟨_, rfl, _, rfl, _, rfl, _, rfl, _, rfl, _, rfl, Sl, _, _, nI sn, rfl, rfl, SqL.of eS7, hat rfl, _, rfl, _, _, rfl, rfl, ⟨(by show (0 : Int) < 18; decide), (by decide +kernel)⟩, _, _, rfl, rfl, (by show (0 : Int) < 4; decide), _, _, rfl, rfl, ?_⟩
        refine ⟨a, Kn, [Kl, Nd, Kn], ns, pl + 1, mn, sn, _, ks, parts, rfl, (S.trans S67).seq hS1, by omega, mn1, mn6, st7.eK, st7.kn, by omega, ⟨o0, ho0⟩, fun D H8 ch S8 hD eD lch cch => ?_⟩
        have hD0 : H' D = none := by
          cases e : H' D with
          | none => rfl
          | some y => rw [S67 _ _ e] at hD; cases hD
        have S08 := S67.trans S8
        refine' restS (C := fun σ H9 => ∃ (D : Addr) (ch : List Nat), σ = [some (.ref a), some (.ref Sl), some (.int m), some (.ref G), some (.ref Kn), some (.int ((pl : Int) + 1)), some (.int c), some (.ref r), some (.int tn), some (.int mn), some (.ref D)] ∧ Same H' H9 ∧ H' D = none ∧ H9 D = some (.lst (ch.map nI)) ∧ ch.length = mn ∧ ∀ c ∈ ch, c < parts.length)
          (fun rest2 => ⟨_, rfl, _, _, rfl, rfl, ⟨(by show (0 : Int) < 72; decide), (by decide +kernel)⟩, _, _, rfl, rfl, (by show (0 : Int) < 5; decide), rfl, _, rfl, iteBB (fun _ => ?ac) (fun _ => rest2 _ _ ⟨D, ch, rfl, S08, hD0, eD, lch, cch⟩)⟩) ?bd
        case ac =>
          obtain ⟨x0, hx0⟩ := get_ex (l := ch) (i := 0) (by omega)
          refine ⟨_, rfl, D, _, 0, nI x0, rfl, rfl, SqL.of eD, atI_nat (j := 0) (by rw [List.getElem?_map, hx0]; rfl), (by show 1 ≤ sizeLine; decide), fun L1 hL1 => ?_⟩
          refine ⟨_, rfl, L1, (mn : Int), [nI x0], rfl, rfl, upd_same, by omega, by omega, by show 1 * mn ≤ sizeLine; exact Nat.le_trans (show 1 * mn ≤ 6 by omega) (by decide), fun L2' hL2 => ?_⟩
          have S9 := Same.upd (o := .lst [nI x0]) hL1
          have S10 := Same.upd (o := .lst (List.replicate (mn : Int).toNat [nI x0]).flatten) hL2
          have hL0 : H' L2' = none := by
            cases e : H' L2' with
            | none => rfl
            | some y => rw [S9 _ _ (S08 _ _ e)] at hL2; cases hL2
          refine rest2 _ _ ⟨L2', List.replicate mn x0, rfl, S08.trans (S9.trans S10), hL0, ?_, List.length_replicate, fun y hy => ?_⟩
          · rw [upd_same, flat_rep, Int.toNat_natCast, List.map_replicate]
          · rw [(List.mem_replicate.mp hy).2]
            exact cch x0 (List.mem_of_getElem? hx0)
        rintro σ H9 ⟨D, ch, rfl, S9, hD, eD, lch, cch⟩
        clear S08 hD0
        refine ⟨_, rfl, _, rfl, Sl, _, _, nI sn, rfl, rfl, SqL.of ((S.trans S9) _ _ eS), hat rfl, _, rfl, (by show 3 ≤ sizeLine; decide), fun r2 hr2 => ?_⟩
        have S10 := Same.upd (o := .tup [.str "ask", nI sn, .ref D]) hr2
        have er2 : (upd H9 r2 (.tup [.str "ask", nI sn, .ref D])) r2 = some (.tup [.str "ask", nI sn, .ref D]) := upd_same
        have hr20 : H' r2 = none := by
          cases e : H' r2 with
          | none => rfl
          | some y => rw [S9 _ _ e] at hr2; cases hr2
        generalize upd H9 r2 (.tup [.str "ask", nI sn, .ref D]) = H10 at S10 er2
        have S010 := S9.trans S10
        refine ⟨_, rfl, _, rfl, _, _, rfl, rfl, rest _ _ ⟨_, pl + 1 + mn, .ref r2, .ask sn ch, _, _, _, rfl, rfl, by omega, by omega, S010, .ask r2 D sn ch er2 (S10 _ _ eD) (fun z => ?_), ⟨trivial, fun s ch' z => ?_⟩, st.kn.new hr20, ap_ask st.kn S010 hD er2, fun z => ?_⟩⟩
        · rcases List.mem_cons.mp z with z | z
          · obtain ⟨o, ho⟩ := st.ga.has.2.1
            rw [z, ho] at hD
            cases hD
          rcases List.mem_cons.mp z with z | z
          · obtain ⟨o, ho⟩ := st.ga.has.2.2
            rw [z, ho] at hD
            cases hD
          · rw [List.mem_singleton.mp z, st.eK] at hD
            cases hD
        · cases z
          refine ⟨fun z => ?_, by omega, cch⟩
          rw [z] at lch
          simp at lch
          omega
        · rw [z] at ho0
          cases ho0
      rintro σ H8 ⟨x5, pl', v, p, o8', o9', o10', rfl, rfl, lt1, lt2, S8, en, dok, vk, apart, hl0⟩
      have st8 := st.same S8
      refine ⟨_, rfl, _, rfl, _, rfl, _, rfl, m, G, Kl, Nd, dx, Kn, v, ks, parts, p, rfl, st8, en, dok, hlm, m2, by omega, vk, apart, fun H9 ks' parts' B9 st9 hl9 alt => ⟨_, rfl, iteF ⟨⟨pl', ks', parts', _, _, _, _, _, rfl, B9.same fZ (S.trans S8), st9, ?_, ?_, by omega, hl9⟩, ?_⟩⟩⟩
      · rcases alt with ⟨_, e⟩ | ⟨_, e⟩
        · rw [e]; exact lf
        · rw [e]
          rcases lf with z | ⟨o, ho⟩
          · obtain ⟨o, rfl⟩ := hl0 z
            rw [z]
            exact .inr ⟨o, rfl⟩
          · exact .inr ⟨o, by rw [List.getElem?_append_left (List.getElem?_eq_some_iff.mp ho).1]; exact ho⟩
      · rcases alt with ⟨_, e⟩ | ⟨_, e⟩
        · rw [e]; omega
        · rw [e, List.length_append]
          show parts.length + 1 ≤ pl'
          omega
      · show (1000 - (pl' : Int)).toNat < (1000 - (pl : Int)).toNat
        omega
    · intro σ H Q Q' hq h
      obtain ⟨x, hx, y, hy, p, ys, e1, e2, i, j, e3, i2, j2, e4, e5, b, e6, q⟩ := h
      exact ⟨x, hx, y, hy, p, ys, e1, e2, i, j, e3, i2, j2, e4, e5, b, e6, hq _ _ q⟩
end
end K30
namespace K30
open PySem L2 FW PyProof.Rows
structure FunD (K : PySem.W.Frag) (x qual : Str) (st : Stmt) (f : Addr) (fd : FuncData) (tI : Addr) : Prop where
  ex : ∃ (oc : Value) (od : Option Addr) (kV doc pm : Value) (an : Option Addr) (cdv ct : Value) (osl : Array (Option Value)),
    fd = PySem.W.fnOf x qual (defArgs st) (defBody st) (defScope st) (.ref tI) kV doc pm an cdv ct ∧ K.lookup f = some ⟨oc, od, .func fd, osl⟩ ∧ PySem.W.codeIn K cdv qual = true
  kp : PySem.W.keepIn K (.ref f) = true
section
variable {P : Program} {w : World} {K : PySem.W.Frag} {mg : Str → Option Value} {base : Heap} {C : Addr}
theorem FunD.ok {x qual : Str} {st : Stmt} {f tI : Addr} {fd : FuncData} {N ps : List Str} {k : Nat} {sp : Sp} (F : FunD K x qual st f fd tI) (S : FnScope N ps (defScope st)) (len : ∀ vs H Q E, sp vs H Q E → vs.length = ps.length)
    (hbody : ∀ (cdv : Value) (A : Around) (outer : List Env) (s : Shared) (H : Hp) (vs : List V) (Q : VK) (E : XK), Room k (A.deeper (envOfC qual (defScope st) s.heap.objs.size f cdv)) → sp vs H Q E →
      ∃ t, PSs (cxOf CX0 P w K mg base N qual (defScope st) f cdv A outer s H E).nox (defBody st) t ∧ t { nx := fun _ H' => Q .non H', rt := Q } (start N vs) H) : FnOk P w K mg base CX0 (k + 1) f fd ps sp := by
  obtain ⟨oc, od, kV, doc, pm, an, cdv, ct, osl, rfl, lk, hcd⟩ := F.ex
  refine fn_of lk hcd S len fun A outer s H vs Q E hr hsp => ?_
  obtain ⟨t, h, q⟩ := hbody cdv A outer s H vs Q E hr hsp
  exact ⟨t, h.nox, q⟩
theorem funD_mk {x qual : Str} {st : Stmt} {f tI : Addr} {oc : Value} {od an : Option Addr} {osl : Array (Option Value)} {kV doc pm cdv ct : Value} (l : K.lookup f = some ⟨oc, od, .func (PySem.W.fnOf x qual (defArgs st) (defBody st) (defScope st) (.ref tI) kV doc pm an cdv ct), osl⟩)
    (c : PySem.W.codeIn K cdv qual = true) (k : PySem.W.keepIn K (.ref f) = true) : FunD K x qual st f (PySem.W.fnOf x qual (defArgs st) (defBody st) (defScope st) (.ref tI) kV doc pm an cdv ct) tI := ⟨⟨oc, od, kV, doc, pm, an, cdv, ct, osl, rfl, l, c⟩, k⟩
theorem FunD.binds2 {f tI : Addr} {fd : FuncData} {oT : Obj} {uM : Value} (F : FunD K "__init__" "Graphs.__init__" s_Graphs_init f fd tI) (lT : K.lookup tI = some oT) (hT : ∃ n, oT.data = .seq #[uM] n) : Binds K fd ["self", "most"] [uM] := by
  obtain ⟨oc, od, kV, doc, pm, an, cdv, ct, osl, rfl, lk, hcd⟩ := F.ex
  obtain ⟨n, hn⟩ := hT
  intro s us KX hl
  have hu : us.length = 1 := by
    rw [List.length_append] at hl
    simpa using hl
  obtain ⟨u, rfl⟩ : ∃ u, us = [u] := List.length_eq_one_iff.mp hu
  exact BindsTo.of_defaults rfl (KX _ _ lT) hn rfl rfl
theorem FunD.kbinds {f tI : Addr} {fd : FuncData} {oT : Obj} {uM : Value} (F : FunD K "__init__" "Graphs.__init__" s_Graphs_init f fd tI) (lT : K.lookup tI = some oT) (hT : ∃ n, oT.data = .seq #[uM] n) : KBinds K fd ["self", "most"] ["most"] g2 g2 := by
  obtain ⟨oc, od, kV, doc, pm, an, cdv, ct, osl, rfl, lk, hcd⟩ := F.ex
  obtain ⟨n, hn⟩ := hT
  refine ⟨fun s us ws KX hl => ?_, fun {vs us zs ws} h1 h2 => ?_⟩
  · match us, ws, hl with
    | [u], [x], _ => exact BindsTo.of_defaults rfl (KX _ _ lT) hn rfl rfl
    | [], _, hl => simp [g2] at hl
    | _ :: _ :: _, _, hl => simp [g2] at hl
    | [_], [], hl => simp [g2] at hl
    | [_], _ :: _ :: _, hl => simp [g2] at hl
  · cases h1 with
    | nil => exact .nil
    | cons a h1 =>
      cases h1 with
      | cons _ _ => cases h2 <;> exact .nil
      | nil =>
        cases h2 with
        | nil => exact .nil
        | cons b h2 =>
          cases h2 with
          | nil => exact .cons a (.cons b .nil)
          | cons _ _ => exact .nil
theorem ok_ginitD {m : Int} {f tI : Addr} {fd : FuncData} (F : FunD K "__init__" "Graphs.__init__" s_Graphs_init f fd tI) (T : Txt K mg C) : FnOk P w K mg base CX0 1 f fd ["self", "most"] (sp_ginit K w m C) := by
  refine F.ok sc_Graphs_init (fun vs H Q E h => ?_) (fun cdv Ar outer s H vs Q E hr h => ?_)
  · obtain ⟨G, dx, rfl, _⟩ := h
    rfl
  · obtain ⟨G, dx, rfl, hG, k⟩ := h
    refine ⟨_, (pss_cons (ps_fld (pv 0) (pv 1) rfl)
      (pss_cons (ps_fld (pv 0) (pe_lst pa_nil) rfl)
      (pss_one (ps_fld (pv 0) pe_dnewD rfl)))), ?_⟩
    refine ⟨_, rfl, _, rfl, G, C, dx, [], rfl, hG, T.cl, T.n1, (by show 0 < 1000; decide), ?_⟩
    have e1 : (upd H G (.ins C dx (putF "most" (.int m) []))) G = some (.ins C dx [("most", .int m)]) := upd_same
    have B1 : BtA G H (upd H G (.ins C dx (putF "most" (.int m) []))) := .upd
    generalize upd H G (.ins C dx (putF "most" (.int m) [])) = H1 at e1 B1
    refine ⟨Nat.zero_le _, fun Kl hKl => ?_⟩
    have nK : G ≠ Kl := ne_of_none e1 hKl
    refine ⟨_, rfl, G, C, dx, [("most", .int m)], rfl, by rw [upd_ne nK]; exact e1, T.cl, T.n2, (by show 1 < 1000; decide), ?_⟩
    have e2 : (upd (upd H1 Kl (.lst [])) G (.ins C dx (putF "kept" (.ref Kl) [("most", .int m)]))) G = some (.ins C dx [("most", .int m), ("kept", .ref Kl)]) := upd_same
    have k2 : (upd (upd H1 Kl (.lst [])) G (.ins C dx (putF "kept" (.ref Kl) [("most", .int m)]))) Kl = some (.lst []) := by rw [upd_ne nK.symm, upd_same]
    have B2 : BtA G H (upd (upd H1 Kl (.lst [])) G (.ins C dx (putF "kept" (.ref Kl) [("most", .int m)]))) := (B1.trans (BtA.updF hKl)).trans .upd
    have hKl0 : H Kl = none := by
      cases hH : H Kl with
      | none => rfl
      | some y => rw [B1 _ _ nK.symm hH] at hKl; cases hKl
    generalize upd (upd H1 Kl (.lst [])) G (.ins C dx (putF "kept" (.ref Kl) [("most", .int m)])) = H2 at e2 k2 B2
    refine fun Nd hNd => ?_
    have nN : G ≠ Nd := ne_of_none e2 hNd
    have nKN : Kl ≠ Nd := ne_of_none k2 hNd
    have hNd0 : H Nd = none := by
      cases hH : H Nd with
      | none => rfl
      | some y => rw [B2 _ _ nN.symm hH] at hNd; cases hNd
    refine ⟨_, rfl, G, C, dx, _, rfl, by rw [upd_ne nN]; exact e2, T.cl, T.n3, (by show 2 < 1000; decide), ?_⟩
    refine k Kl Nd _ ((B2.trans (BtA.updF hNd)).trans .upd) hKl0 hNd0 ⟨upd_same, ⟨[], by rw [upd_ne nK.symm, upd_ne nKN]; exact k2, .nil⟩, ⟨[], ⟨.inl (by rw [upd_ne nN.symm, upd_same]; rfl), (fun _ h => nomatch h), (fun _ h => nomatch h), .nil⟩, rfl, fun j e h => by simp at h⟩, (fun _ h => nomatch h)⟩
end
end K30
namespace K30
open PySem L2 FW PyProof.Rows
noncomputable def KF : Params → PySem.W.Frag := fun P =>
 (nat_lit 2, ⟨.none, none, (.dict #[] 0), #[]⟩) ::
 (nat_lit 3, ⟨(.type "dict"), none, (.dict #[⟨PyData.keyHash P "__name__", (.str "__name__" 165), (.str "law_flipwright_k30_parts_kept_once" 554)⟩, ⟨PyData.keyHash P "__doc__", (.str "__doc__" 166), .none⟩, ⟨PyData.keyHash P "__package__", (.str "__package__" 167), .none⟩, ⟨PyData.keyHash P "__loader__", (.str "__loader__" 168), (.builtin "__main__.__loader__#opaque")⟩, ⟨PyData.keyHash P "__spec__", (.str "__spec__" 169), .none⟩, ⟨PyData.keyHash P "__annotations__", (.str "__annotations__" 170), (.ref 6)⟩, ⟨PyData.keyHash P "__builtins__", (.str "__builtins__" 171), (.ref 4)⟩, ⟨PyData.keyHash P "__file__", (.str "__file__" 173), (.str "/claim/cut.py" 172)⟩, ⟨PyData.keyHash P "__cached__", (.str "__cached__" 174), .none⟩, ⟨PyData.keyHash P "_wall", (.str "_wall" 193), (.ref 21)⟩, ⟨PyData.keyHash P "FlipError", (.str "FlipError" 213), (.ref 31)⟩, ⟨PyData.keyHash P "NoShare", (.str "NoShare" 229), (.ref 44)⟩, ⟨PyData.keyHash P "Never", (.str "Never" 245), (.ref 56)⟩, ⟨PyData.keyHash P "NoText", (.str "NoText" 270), (.ref 75)⟩, ⟨PyData.keyHash P "NoName", (.str "NoName" 295), (.ref 94)⟩, ⟨PyData.keyHash P "TooMuch", (.str "TooMuch" 311), (.ref 106)⟩, ⟨PyData.keyHash P "NoOrder", (.str "NoOrder" 327), (.ref 118)⟩, ⟨PyData.keyHash P "NoNumber", (.str "NoNumber" 343), (.ref 130)⟩, ⟨PyData.keyHash P "NoRow", (.str "NoRow" 359), (.ref 142)⟩, ⟨PyData.keyHash P "Graphs", (.str "Graphs" 553), (.ref 286)⟩, ⟨PyData.keyHash P "_law_cell_at", (.str "_law_cell_at" 563), (.ref 297)⟩, ⟨PyData.keyHash P "_law_whole", (.str "_law_whole" 570), (.ref 304)⟩, ⟨PyData.keyHash P "_law_mix", (.str "_law_mix" 579), (.ref 311)⟩, ⟨PyData.keyHash P "_law_same", (.str "_law_same" 588), (.ref 318)⟩, ⟨PyData.keyHash P "_law_word", (.str "_law_word" 598), (.ref 325)⟩, ⟨PyData.keyHash P "_law_outcome", (.str "_law_outcome" 607), (.ref 332)⟩, ⟨PyData.keyHash P "_law_sites", (.str "_law_sites" 616), (.ref 339)⟩, ⟨PyData.keyHash P "_law_children", (.str "_law_children" 622), (.ref 344)⟩, ⟨PyData.keyHash P "_law_due", (.str "_law_due" 632), (.ref 351)⟩, ⟨PyData.keyHash P "_law_kept", (.str "_law_kept" 642), (.ref 358)⟩, ⟨PyData.keyHash P "_law_refused", (.str "_law_refused" 654), (.ref 365)⟩, ⟨PyData.keyHash P "_law_done", (.str "_law_done" 667), (.ref 372)⟩, ⟨PyData.keyHash P "_law_at_last", (.str "_law_at_last" 677), (.ref 379)⟩, ⟨PyData.keyHash P "law", (.str "law" 694), (.ref 386)⟩] 34), #[]⟩) ::
 (nat_lit 15, ⟨(.type "tuple"), none, (.seq #[] 0), #[]⟩) ::
 (nat_lit 17, ⟨(.type "tuple"), none, (.seq #[(.str "k" 190)] 0), #[]⟩) ::
 (nat_lit 18, ⟨(.type "tuple"), none, (.seq #[] 0), #[]⟩) ::
 (nat_lit 20, ⟨(.type "code"), none, (.fields #[(.str "_wall" 187), (.str "_wall" 188), (.str "/claim/cut.py" 189), (.int 1 0), (.int 1 0), (.int 0 0), (.int 0 0), (.int 3 0), (.ref 15), (.bool true), (.int 181 0), (.ref 16), .none, (.ref 17), (.ref 18), (.ref 19), (.int 191 0), (.int 1 0), (.str "/claim/cut.py" 192)]), #[]⟩) ::
 (nat_lit 21, ⟨(.type "function"), none, (.func ⟨"_wall", "_wall", ⟨[], [⟨"k", none, ⟨1, 10, 1, 11⟩⟩], none, [], [], none, []⟩, (.stmts [(.While (.Constant (.bool true) 0 ⟨2, 10, 2, 14⟩) [(.Pass ⟨3, 8, 3, 12⟩)] [] ⟨2, 4, 3, 12⟩)]), ⟨.function, [("k", .local)], false, false, []⟩, 3, [], .none, .none, .none, (.str "__main__" 164), none, (.ref 20), .none, 0⟩), #[]⟩) ::
 (nat_lit 22, ⟨(.type "tuple"), none, (.seq #[(.type "ValueError")] 0), #[]⟩) ::
 (nat_lit 29, ⟨(.type "tuple"), none, (.seq #[] 0), #[]⟩) ::
 (nat_lit 30, ⟨(.type "dict"), none, (.dict #[⟨PyData.keyHash P "__module__", (.str "__module__" 203), (.str "flipwright.errors" 194)⟩, ⟨PyData.keyHash P "__firstlineno__", (.str "__firstlineno__" 207), (.int 5 206)⟩, ⟨PyData.keyHash P "__static_attributes__", (.str "__static_attributes__" 208), (.ref 29)⟩, ⟨PyData.keyHash P "__weakref__", (.str "__weakref__" 210), (.ref 32)⟩, ⟨PyData.keyHash P "__doc__", (.str "__doc__" 211), .none⟩] 3), #[]⟩) ::
 (nat_lit 31, ⟨(.type "type"), none, (.cls (.mk "FlipError" [(.type "ValueError")] [(.ref 31), (.type "ValueError"), (.type "Exception"), (.type "BaseException"), (.type "object")] 30 "FlipError" true [] [(.ref 44), (.ref 56), (.ref 75), (.ref 94), (.ref 106), (.ref 118), (.ref 130), (.ref 142)] false none false)), #[(some (.ref 22)), none, (some (.str "FlipError" 196)), (some (.str "FlipError" 204)), (some (.builtin "ValueError.__new__")), (some (.bool true))]⟩) ::
 (nat_lit 32, ⟨(.type "getset_descriptor"), none, (.fields #[(.str "__weakref__" 209), (.ref 31), (.builtin "ExceptionGroup.__weakref__"), .none]), #[]⟩) ::
 (nat_lit 35, ⟨(.type "tuple"), none, (.seq #[(.ref 31)] 0), #[]⟩) ::
 (nat_lit 42, ⟨(.type "tuple"), none, (.seq #[] 0), #[]⟩) ::
 (nat_lit 43, ⟨(.type "dict"), none, (.dict #[⟨PyData.keyHash P "__module__", (.str "__module__" 221), (.str "flipwright.errors" 194)⟩, ⟨PyData.keyHash P "__firstlineno__", (.str "__firstlineno__" 225), (.int 7 224)⟩, ⟨PyData.keyHash P "__static_attributes__", (.str "__static_attributes__" 226), (.ref 42)⟩, ⟨PyData.keyHash P "__doc__", (.str "__doc__" 227), .none⟩] 2), #[]⟩) ::
 (nat_lit 44, ⟨(.type "type"), none, (.cls (.mk "NoShare" [(.ref 31)] [(.ref 44), (.ref 31), (.type "ValueError"), (.type "Exception"), (.type "BaseException"), (.type "object")] 43 "NoShare" true [] [] false none false)), #[(some (.ref 35)), none, (some (.str "NoShare" 214)), (some (.str "NoShare" 222)), (some (.builtin "ValueError.__new__")), (some (.bool true))]⟩) ::
 (nat_lit 47, ⟨(.type "tuple"), none, (.seq #[(.ref 31)] 0), #[]⟩) ::
 (nat_lit 54, ⟨(.type "tuple"), none, (.seq #[] 0), #[]⟩) ::
 (nat_lit 55, ⟨(.type "dict"), none, (.dict #[⟨PyData.keyHash P "__module__", (.str "__module__" 237), (.str "flipwright.errors" 194)⟩, ⟨PyData.keyHash P "__firstlineno__", (.str "__firstlineno__" 241), (.int 9 240)⟩, ⟨PyData.keyHash P "__static_attributes__", (.str "__static_attributes__" 242), (.ref 54)⟩, ⟨PyData.keyHash P "__doc__", (.str "__doc__" 243), .none⟩] 2), #[]⟩) ::
 (nat_lit 56, ⟨(.type "type"), none, (.cls (.mk "Never" [(.ref 31)] [(.ref 56), (.ref 31), (.type "ValueError"), (.type "Exception"), (.type "BaseException"), (.type "object")] 55 "Never" true [] [] false none false)), #[(some (.ref 47)), none, (some (.str "Never" 230)), (some (.str "Never" 238)), (some (.builtin "ValueError.__new__")), (some (.bool true))]⟩) ::
 (nat_lit 59, ⟨(.type "tuple"), none, (.seq #[(.ref 31)] 0), #[]⟩) ::
 (nat_lit 66, ⟨(.type "tuple"), none, (.seq #[] 0), #[]⟩) ::
 (nat_lit 68, ⟨(.type "tuple"), none, (.seq #[(.str "self" 261), (.str "row" 262)] 0), #[]⟩) ::
 (nat_lit 69, ⟨(.type "tuple"), none, (.seq #[] 0), #[]⟩) ::
 (nat_lit 71, ⟨(.type "code"), none, (.fields #[(.str "__init__" 258), (.str "NoText.__init__" 259), (.str "/claim/cut.py" 260), (.int 13 0), (.int 2 0), (.int 0 0), (.int 0 0), (.int 3 0), (.ref 66), (.bool true), (.int 181 0), (.ref 67), .none, (.ref 68), (.ref 69), (.ref 70), (.int 263 0), (.int 13 0), (.str "/claim/cut.py" 264)]), #[]⟩) ::
 (nat_lit 72, ⟨(.type "function"), none, (.func ⟨"__init__", "NoText.__init__", defArgs s_NoText_init, .stmts (defBody s_NoText_init), defScope s_NoText_init, 3, [], .none, .none, .none, (.str "flipwright.errors" 194), none, (.ref 71), .none, 0⟩), #[]⟩) ::
 (nat_lit 73, ⟨(.type "tuple"), none, (.seq #[(.str "row" 266)] 0), #[]⟩) ::
 (nat_lit 74, ⟨(.type "dict"), none, (.dict #[⟨PyData.keyHash P "__module__", (.str "__module__" 253), (.str "flipwright.errors" 194)⟩, ⟨PyData.keyHash P "__firstlineno__", (.str "__firstlineno__" 257), (.int 11 256)⟩, ⟨PyData.keyHash P "__init__", (.str "__init__" 265), (.ref 72)⟩, ⟨PyData.keyHash P "__static_attributes__", (.str "__static_attributes__" 267), (.ref 73)⟩, ⟨PyData.keyHash P "__doc__", (.str "__doc__" 268), .none⟩] 2), #[]⟩) ::
 (nat_lit 75, ⟨(.type "type"), none, (.cls (.mk "NoText" [(.ref 31)] [(.ref 75), (.ref 31), (.type "ValueError"), (.type "Exception"), (.type "BaseException"), (.type "object")] 74 "NoText" true [] [] false none false)), #[(some (.ref 59)), none, (some (.str "NoText" 246)), (some (.str "NoText" 254)), (some (.builtin "ValueError.__new__")), (some (.bool true))]⟩) ::
 (nat_lit 78, ⟨(.type "tuple"), none, (.seq #[(.ref 31)] 0), #[]⟩) ::
 (nat_lit 85, ⟨(.type "tuple"), none, (.seq #[] 0), #[]⟩) ::
 (nat_lit 87, ⟨(.type "tuple"), none, (.seq #[(.str "self" 286), (.str "row" 287)] 0), #[]⟩) ::
 (nat_lit 88, ⟨(.type "tuple"), none, (.seq #[] 0), #[]⟩) ::
 (nat_lit 90, ⟨(.type "code"), none, (.fields #[(.str "__init__" 283), (.str "NoName.__init__" 284), (.str "/claim/cut.py" 285), (.int 17 0), (.int 2 0), (.int 0 0), (.int 0 0), (.int 3 0), (.ref 85), (.bool true), (.int 181 0), (.ref 86), .none, (.ref 87), (.ref 88), (.ref 89), (.int 288 0), (.int 17 0), (.str "/claim/cut.py" 289)]), #[]⟩) ::
 (nat_lit 91, ⟨(.type "function"), none, (.func ⟨"__init__", "NoName.__init__", defArgs s_NoName_init, .stmts (defBody s_NoName_init), defScope s_NoName_init, 3, [], .none, .none, .none, (.str "flipwright.errors" 194), none, (.ref 90), .none, 0⟩), #[]⟩) ::
 (nat_lit 92, ⟨(.type "tuple"), none, (.seq #[(.str "row" 291)] 0), #[]⟩) ::
 (nat_lit 93, ⟨(.type "dict"), none, (.dict #[⟨PyData.keyHash P "__module__", (.str "__module__" 278), (.str "flipwright.errors" 194)⟩, ⟨PyData.keyHash P "__firstlineno__", (.str "__firstlineno__" 282), (.int 15 281)⟩, ⟨PyData.keyHash P "__init__", (.str "__init__" 290), (.ref 91)⟩, ⟨PyData.keyHash P "__static_attributes__", (.str "__static_attributes__" 292), (.ref 92)⟩, ⟨PyData.keyHash P "__doc__", (.str "__doc__" 293), .none⟩] 2), #[]⟩) ::
 (nat_lit 94, ⟨(.type "type"), none, (.cls (.mk "NoName" [(.ref 31)] [(.ref 94), (.ref 31), (.type "ValueError"), (.type "Exception"), (.type "BaseException"), (.type "object")] 93 "NoName" true [] [] false none false)), #[(some (.ref 78)), none, (some (.str "NoName" 271)), (some (.str "NoName" 279)), (some (.builtin "ValueError.__new__")), (some (.bool true))]⟩) ::
 (nat_lit 97, ⟨(.type "tuple"), none, (.seq #[(.ref 31)] 0), #[]⟩) ::
 (nat_lit 104, ⟨(.type "tuple"), none, (.seq #[] 0), #[]⟩) ::
 (nat_lit 105, ⟨(.type "dict"), none, (.dict #[⟨PyData.keyHash P "__module__", (.str "__module__" 303), (.str "flipwright.errors" 194)⟩, ⟨PyData.keyHash P "__firstlineno__", (.str "__firstlineno__" 307), (.int 19 306)⟩, ⟨PyData.keyHash P "__static_attributes__", (.str "__static_attributes__" 308), (.ref 104)⟩, ⟨PyData.keyHash P "__doc__", (.str "__doc__" 309), .none⟩] 2), #[]⟩) ::
 (nat_lit 106, ⟨(.type "type"), none, (.cls (.mk "TooMuch" [(.ref 31)] [(.ref 106), (.ref 31), (.type "ValueError"), (.type "Exception"), (.type "BaseException"), (.type "object")] 105 "TooMuch" true [] [] false none false)), #[(some (.ref 97)), none, (some (.str "TooMuch" 296)), (some (.str "TooMuch" 304)), (some (.builtin "ValueError.__new__")), (some (.bool true))]⟩) ::
 (nat_lit 109, ⟨(.type "tuple"), none, (.seq #[(.ref 31)] 0), #[]⟩) ::
 (nat_lit 116, ⟨(.type "tuple"), none, (.seq #[] 0), #[]⟩) ::
 (nat_lit 117, ⟨(.type "dict"), none, (.dict #[⟨PyData.keyHash P "__module__", (.str "__module__" 319), (.str "flipwright.errors" 194)⟩, ⟨PyData.keyHash P "__firstlineno__", (.str "__firstlineno__" 323), (.int 21 322)⟩, ⟨PyData.keyHash P "__static_attributes__", (.str "__static_attributes__" 324), (.ref 116)⟩, ⟨PyData.keyHash P "__doc__", (.str "__doc__" 325), .none⟩] 2), #[]⟩) ::
 (nat_lit 118, ⟨(.type "type"), none, (.cls (.mk "NoOrder" [(.ref 31)] [(.ref 118), (.ref 31), (.type "ValueError"), (.type "Exception"), (.type "BaseException"), (.type "object")] 117 "NoOrder" true [] [] false none false)), #[(some (.ref 109)), none, (some (.str "NoOrder" 312)), (some (.str "NoOrder" 320)), (some (.builtin "ValueError.__new__")), (some (.bool true))]⟩) ::
 (nat_lit 121, ⟨(.type "tuple"), none, (.seq #[(.ref 31)] 0), #[]⟩) ::
 (nat_lit 128, ⟨(.type "tuple"), none, (.seq #[] 0), #[]⟩) ::
 (nat_lit 129, ⟨(.type "dict"), none, (.dict #[⟨PyData.keyHash P "__module__", (.str "__module__" 335), (.str "flipwright.errors" 194)⟩, ⟨PyData.keyHash P "__firstlineno__", (.str "__firstlineno__" 339), (.int 23 338)⟩, ⟨PyData.keyHash P "__static_attributes__", (.str "__static_attributes__" 340), (.ref 128)⟩, ⟨PyData.keyHash P "__doc__", (.str "__doc__" 341), .none⟩] 2), #[]⟩) ::
 (nat_lit 130, ⟨(.type "type"), none, (.cls (.mk "NoNumber" [(.ref 31)] [(.ref 130), (.ref 31), (.type "ValueError"), (.type "Exception"), (.type "BaseException"), (.type "object")] 129 "NoNumber" true [] [] false none false)), #[(some (.ref 121)), none, (some (.str "NoNumber" 328)), (some (.str "NoNumber" 336)), (some (.builtin "ValueError.__new__")), (some (.bool true))]⟩) ::
 (nat_lit 133, ⟨(.type "tuple"), none, (.seq #[(.ref 31)] 0), #[]⟩) ::
 (nat_lit 140, ⟨(.type "tuple"), none, (.seq #[] 0), #[]⟩) ::
 (nat_lit 141, ⟨(.type "dict"), none, (.dict #[⟨PyData.keyHash P "__module__", (.str "__module__" 351), (.str "flipwright.errors" 194)⟩, ⟨PyData.keyHash P "__firstlineno__", (.str "__firstlineno__" 355), (.int 25 354)⟩, ⟨PyData.keyHash P "__static_attributes__", (.str "__static_attributes__" 356), (.ref 140)⟩, ⟨PyData.keyHash P "__doc__", (.str "__doc__" 357), .none⟩] 2), #[]⟩) ::
 (nat_lit 142, ⟨(.type "type"), none, (.cls (.mk "NoRow" [(.ref 31)] [(.ref 142), (.ref 31), (.type "ValueError"), (.type "Exception"), (.type "BaseException"), (.type "object")] 141 "NoRow" true [] [] false none false)), #[(some (.ref 133)), none, (some (.str "NoRow" 344)), (some (.str "NoRow" 352)), (some (.builtin "ValueError.__new__")), (some (.bool true))]⟩) ::
 (nat_lit 152, ⟨(.type "tuple"), none, (.seq #[(.int 2000 374)] 0), #[]⟩) ::
 (nat_lit 153, ⟨(.type "tuple"), none, (.seq #[] 0), #[]⟩) ::
 (nat_lit 155, ⟨(.type "tuple"), none, (.seq #[(.str "self" 378), (.str "most" 379)] 0), #[]⟩) ::
 (nat_lit 156, ⟨(.type "tuple"), none, (.seq #[] 0), #[]⟩) ::
 (nat_lit 158, ⟨(.type "code"), none, (.fields #[(.str "__init__" 375), (.str "Graphs.__init__" 376), (.str "/claim/cut.py" 377), (.int 30 0), (.int 2 0), (.int 0 0), (.int 0 0), (.int 3 0), (.ref 153), (.bool true), (.int 181 0), (.ref 154), .none, (.ref 155), (.ref 156), (.ref 157), (.int 380 0), (.int 30 0), (.str "/claim/cut.py" 381)]), #[]⟩) ::
 (nat_lit 159, ⟨(.type "function"), none, (.func ⟨"__init__", "Graphs.__init__", defArgs s_Graphs_init, .stmts (defBody s_Graphs_init), defScope s_Graphs_init, 3, [], (.ref 152), .none, .none, (.str "flipwright.graphs" 360), none, (.ref 158), .none, 0⟩), #[]⟩) ::
 (nat_lit 160, ⟨(.type "tuple"), none, (.seq #[] 0), #[]⟩) ::
 (nat_lit 162, ⟨(.type "tuple"), none, (.seq #[(.str "self" 386), (.str "held" 387)] 0), #[]⟩) ::
 (nat_lit 163, ⟨(.type "tuple"), none, (.seq #[] 0), #[]⟩) ::
 (nat_lit 165, ⟨(.type "code"), none, (.fields #[(.str "keep" 383), (.str "Graphs.keep" 384), (.str "/claim/cut.py" 385), (.int 35 0), (.int 2 0), (.int 0 0), (.int 0 0), (.int 3 0), (.ref 160), (.bool true), (.int 181 0), (.ref 161), .none, (.ref 162), (.ref 163), (.ref 164), (.int 388 0), (.int 35 0), (.str "/claim/cut.py" 389)]), #[]⟩) ::
 (nat_lit 166, ⟨(.type "function"), none, (.func ⟨"keep", "Graphs.keep", defArgs s_Graphs_keep, .stmts (defBody s_Graphs_keep), defScope s_Graphs_keep, 3, [], .none, .none, .none, (.str "flipwright.graphs" 360), none, (.ref 165), .none, 0⟩), #[]⟩) ::
 (nat_lit 167, ⟨(.type "tuple"), none, (.seq #[] 0), #[]⟩) ::
 (nat_lit 169, ⟨(.type "tuple"), none, (.seq #[(.str "self" 394), (.str "outcome" 395)] 0), #[]⟩) ::
 (nat_lit 170, ⟨(.type "tuple"), none, (.seq #[] 0), #[]⟩) ::
 (nat_lit 172, ⟨(.type "code"), none, (.fields #[(.str "leaf" 391), (.str "Graphs.leaf" 392), (.str "/claim/cut.py" 393), (.int 43 0), (.int 2 0), (.int 0 0), (.int 0 0), (.int 3 0), (.ref 167), (.bool true), (.int 181 0), (.ref 168), .none, (.ref 169), (.ref 170), (.ref 171), (.int 396 0), (.int 43 0), (.str "/claim/cut.py" 397)]), #[]⟩) ::
 (nat_lit 173, ⟨(.type "function"), none, (.func ⟨"leaf", "Graphs.leaf", defArgs s_Graphs_leaf, .stmts (defBody s_Graphs_leaf), defScope s_Graphs_leaf, 3, [], .none, .none, .none, (.str "flipwright.graphs" 360), none, (.ref 172), .none, 0⟩), #[]⟩) ::
 (nat_lit 174, ⟨(.type "tuple"), none, (.seq #[] 0), #[]⟩) ::
 (nat_lit 176, ⟨(.type "tuple"), none, (.seq #[(.str "self" 402), (.str "site" 403), (.str "children" 404), (.str "below" 405)] 0), #[]⟩) ::
 (nat_lit 177, ⟨(.type "tuple"), none, (.seq #[] 0), #[]⟩) ::
 (nat_lit 179, ⟨(.type "code"), none, (.fields #[(.str "asked" 399), (.str "Graphs.asked" 400), (.str "/claim/cut.py" 401), (.int 46 0), (.int 3 0), (.int 0 0), (.int 0 0), (.int 3 0), (.ref 174), (.bool true), (.int 181 0), (.ref 175), .none, (.ref 176), (.ref 177), (.ref 178), (.int 406 0), (.int 46 0), (.str "/claim/cut.py" 407)]), #[]⟩) ::
 (nat_lit 180, ⟨(.type "function"), none, (.func ⟨"asked", "Graphs.asked", defArgs s_Graphs_asked, .stmts (defBody s_Graphs_asked), defScope s_Graphs_asked, 3, [], .none, .none, .none, (.str "flipwright.graphs" 360), none, (.ref 179), .none, 0⟩), #[]⟩) ::
 (nat_lit 181, ⟨(.type "tuple"), none, (.seq #[] 0), #[]⟩) ::
 (nat_lit 183, ⟨(.type "tuple"), none, (.seq #[(.str "self" 412), (.str "part" 413), (.str "held" 414)] 0), #[]⟩) ::
 (nat_lit 184, ⟨(.type "tuple"), none, (.seq #[] 0), #[]⟩) ::
 (nat_lit 186, ⟨(.type "code"), none, (.fields #[(.str "at" 409), (.str "Graphs.at" 410), (.str "/claim/cut.py" 411), (.int 54 0), (.int 2 0), (.int 0 0), (.int 0 0), (.int 3 0), (.ref 181), (.bool true), (.int 181 0), (.ref 182), .none, (.ref 183), (.ref 184), (.ref 185), (.int 415 0), (.int 54 0), (.str "/claim/cut.py" 416)]), #[]⟩) ::
 (nat_lit 187, ⟨(.type "function"), none, (.func ⟨"at", "Graphs.at", defArgs s_Graphs_at, .stmts (defBody s_Graphs_at), defScope s_Graphs_at, 3, [], .none, .none, .none, (.str "flipwright.graphs" 360), none, (.ref 186), .none, 0⟩), #[]⟩) ::
 (nat_lit 188, ⟨(.type "tuple"), none, (.seq #[] 0), #[]⟩) ::
 (nat_lit 190, ⟨(.type "tuple"), none, (.seq #[(.str "self" 421)] 0), #[]⟩) ::
 (nat_lit 191, ⟨(.type "tuple"), none, (.seq #[] 0), #[]⟩) ::
 (nat_lit 193, ⟨(.type "code"), none, (.fields #[(.str "size" 418), (.str "Graphs.size" 419), (.str "/claim/cut.py" 420), (.int 60 0), (.int 1 0), (.int 0 0), (.int 0 0), (.int 3 0), (.ref 188), (.bool true), (.int 181 0), (.ref 189), .none, (.ref 190), (.ref 191), (.ref 192), (.int 422 0), (.int 60 0), (.str "/claim/cut.py" 423)]), #[]⟩) ::
 (nat_lit 194, ⟨(.type "function"), none, (.func ⟨"size", "Graphs.size", defArgs s_Graphs_size, .stmts (defBody s_Graphs_size), defScope s_Graphs_size, 3, [], .none, .none, .none, (.str "flipwright.graphs" 360), none, (.ref 193), .none, 0⟩), #[]⟩) ::
 (nat_lit 195, ⟨(.type "tuple"), none, (.seq #[] 0), #[]⟩) ::
 (nat_lit 197, ⟨(.type "tuple"), none, (.seq #[(.str "self" 428), (.str "part" 429), (.str "choices" 430)] 0), #[]⟩) ::
 (nat_lit 198, ⟨(.type "tuple"), none, (.seq #[] 0), #[]⟩) ::
 (nat_lit 200, ⟨(.type "code"), none, (.fields #[(.str "down" 425), (.str "Graphs.down" 426), (.str "/claim/cut.py" 427), (.int 63 0), (.int 3 0), (.int 0 0), (.int 0 0), (.int 3 0), (.ref 195), (.bool true), (.int 181 0), (.ref 196), .none, (.ref 197), (.ref 198), (.ref 199), (.int 431 0), (.int 63 0), (.str "/claim/cut.py" 432)]), #[]⟩) ::
 (nat_lit 201, ⟨(.type "function"), none, (.func ⟨"down", "Graphs.down", ⟨[], [⟨"self", none, ⟨63, 13, 63, 17⟩⟩, ⟨"part", none, ⟨63, 19, 63, 23⟩⟩, ⟨"choices", none, ⟨63, 25, 63, 32⟩⟩], none, [], [], none, []⟩, (.stmts [(.Expr (.Call (.Name "_wall" ⟨64, 8, 64, 13⟩) [(.Constant (.int 0) 0 ⟨64, 14, 64, 15⟩)] [] ⟨64, 8, 64, 16⟩) ⟨64, 8, 64, 16⟩)]), ⟨.function, [("self", .local), ("part", .local), ("choices", .local), ("_wall", .globalImplicit)], false, false, []⟩, 3, [], .none, .none, .none, (.str "flipwright.graphs" 360), none, (.ref 200), .none, 0⟩), #[]⟩) ::
 (nat_lit 202, ⟨(.type "tuple"), none, (.seq #[] 0), #[]⟩) ::
 (nat_lit 205, ⟨(.type "code"), none, (.fields #[(.str "first_site" 434), (.str "Graphs.first_site" 435), (.str "/claim/cut.py" 436), (.int 66 0), (.int 2 0), (.int 0 0), (.int 0 0), (.int 3 0), (.ref 202), (.bool true), (.int 181 0), (.ref 203), .none, .none, .none, (.ref 204), (.int 437 0), (.int 66 0), (.str "/claim/cut.py" 438)]), #[]⟩) ::
 (nat_lit 206, ⟨(.type "function"), none, (.func ⟨"first_site", "Graphs.first_site", defArgs s_Graphs_first_site, .stmts (defBody s_Graphs_first_site), defScope s_Graphs_first_site, 3, [], .none, .none, .none, (.str "flipwright.graphs" 360), none, (.ref 205), .none, 0⟩), #[]⟩) ::
 (nat_lit 207, ⟨(.type "tuple"), none, (.seq #[] 0), #[]⟩) ::
 (nat_lit 209, ⟨(.type "tuple"), none, (.seq #[(.str "self" 443), (.str "part" 444), (.str "site" 445)] 0), #[]⟩) ::
 (nat_lit 210, ⟨(.type "tuple"), none, (.seq #[] 0), #[]⟩) ::
 (nat_lit 212, ⟨(.type "code"), none, (.fields #[(.str "asks_at" 440), (.str "Graphs.asks_at" 441), (.str "/claim/cut.py" 442), (.int 69 0), (.int 3 0), (.int 0 0), (.int 0 0), (.int 3 0), (.ref 207), (.bool true), (.int 181 0), (.ref 208), .none, (.ref 209), (.ref 210), (.ref 211), (.int 446 0), (.int 69 0), (.str "/claim/cut.py" 447)]), #[]⟩) ::
 (nat_lit 213, ⟨(.type "function"), none, (.func ⟨"asks_at", "Graphs.asks_at", ⟨[], [⟨"self", none, ⟨69, 16, 69, 20⟩⟩, ⟨"part", none, ⟨69, 22, 69, 26⟩⟩, ⟨"site", none, ⟨69, 28, 69, 32⟩⟩], none, [], [], none, []⟩, (.stmts [(.Expr (.Call (.Name "_wall" ⟨70, 8, 70, 13⟩) [(.Constant (.int 1) 0 ⟨70, 14, 70, 15⟩)] [] ⟨70, 8, 70, 16⟩) ⟨70, 8, 70, 16⟩)]), ⟨.function, [("self", .local), ("part", .local), ("site", .local), ("_wall", .globalImplicit)], false, false, []⟩, 3, [], .none, .none, .none, (.str "flipwright.graphs" 360), none, (.ref 212), .none, 0⟩), #[]⟩) ::
 (nat_lit 214, ⟨(.type "tuple"), none, (.seq #[] 0), #[]⟩) ::
 (nat_lit 216, ⟨(.type "tuple"), none, (.seq #[(.str "self" 452), (.str "parts" 453), (.str "site" 454), (.str "index" 455)] 0), #[]⟩) ::
 (nat_lit 217, ⟨(.type "tuple"), none, (.seq #[] 0), #[]⟩) ::
 (nat_lit 219, ⟨(.type "code"), none, (.fields #[(.str "parts_at" 449), (.str "Graphs.parts_at" 450), (.str "/claim/cut.py" 451), (.int 72 0), (.int 4 0), (.int 0 0), (.int 0 0), (.int 3 0), (.ref 214), (.bool true), (.int 181 0), (.ref 215), .none, (.ref 216), (.ref 217), (.ref 218), (.int 456 0), (.int 72 0), (.str "/claim/cut.py" 457)]), #[]⟩) ::
 (nat_lit 220, ⟨(.type "function"), none, (.func ⟨"parts_at", "Graphs.parts_at", ⟨[], [⟨"self", none, ⟨72, 17, 72, 21⟩⟩, ⟨"parts", none, ⟨72, 23, 72, 28⟩⟩, ⟨"site", none, ⟨72, 30, 72, 34⟩⟩, ⟨"index", none, ⟨72, 36, 72, 41⟩⟩], none, [], [], none, []⟩, (.stmts [(.Expr (.Call (.Name "_wall" ⟨73, 8, 73, 13⟩) [(.Constant (.int 2) 0 ⟨73, 14, 73, 15⟩)] [] ⟨73, 8, 73, 16⟩) ⟨73, 8, 73, 16⟩)]), ⟨.function, [("self", .local), ("parts", .local), ("site", .local), ("index", .local), ("_wall", .globalImplicit)], false, false, []⟩, 3, [], .none, .none, .none, (.str "flipwright.graphs" 360), none, (.ref 219), .none, 0⟩), #[]⟩) ::
 (nat_lit 221, ⟨(.type "tuple"), none, (.seq #[] 0), #[]⟩) ::
 (nat_lit 223, ⟨(.type "tuple"), none, (.seq #[(.str "self" 462), (.str "parts" 463), (.str "site" 464)] 0), #[]⟩) ::
 (nat_lit 224, ⟨(.type "tuple"), none, (.seq #[] 0), #[]⟩) ::
 (nat_lit 226, ⟨(.type "code"), none, (.fields #[(.str "width_at" 459), (.str "Graphs.width_at" 460), (.str "/claim/cut.py" 461), (.int 75 0), (.int 3 0), (.int 0 0), (.int 0 0), (.int 3 0), (.ref 221), (.bool true), (.int 181 0), (.ref 222), .none, (.ref 223), (.ref 224), (.ref 225), (.int 465 0), (.int 75 0), (.str "/claim/cut.py" 466)]), #[]⟩) ::
 (nat_lit 227, ⟨(.type "function"), none, (.func ⟨"width_at", "Graphs.width_at", ⟨[], [⟨"self", none, ⟨75, 17, 75, 21⟩⟩, ⟨"parts", none, ⟨75, 23, 75, 28⟩⟩, ⟨"site", none, ⟨75, 30, 75, 34⟩⟩], none, [], [], none, []⟩, (.stmts [(.Expr (.Call (.Name "_wall" ⟨76, 8, 76, 13⟩) [(.Constant (.int 3) 0 ⟨76, 14, 76, 15⟩)] [] ⟨76, 8, 76, 16⟩) ⟨76, 8, 76, 16⟩)]), ⟨.function, [("self", .local), ("parts", .local), ("site", .local), ("_wall", .globalImplicit)], false, false, []⟩, 3, [], .none, .none, .none, (.str "flipwright.graphs" 360), none, (.ref 226), .none, 0⟩), #[]⟩) ::
 (nat_lit 228, ⟨(.type "tuple"), none, (.seq #[] 0), #[]⟩) ::
 (nat_lit 230, ⟨(.type "tuple"), none, (.seq #[(.str "self" 471), (.str "part" 472), (.str "places" 473)] 0), #[]⟩) ::
 (nat_lit 231, ⟨(.type "tuple"), none, (.seq #[] 0), #[]⟩) ::
 (nat_lit 233, ⟨(.type "code"), none, (.fields #[(.str "find_places" 468), (.str "Graphs.find_places" 469), (.str "/claim/cut.py" 470), (.int 78 0), (.int 3 0), (.int 0 0), (.int 0 0), (.int 3 0), (.ref 228), (.bool true), (.int 181 0), (.ref 229), .none, (.ref 230), (.ref 231), (.ref 232), (.int 474 0), (.int 78 0), (.str "/claim/cut.py" 475)]), #[]⟩) ::
 (nat_lit 234, ⟨(.type "function"), none, (.func ⟨"find_places", "Graphs.find_places", ⟨[], [⟨"self", none, ⟨78, 20, 78, 24⟩⟩, ⟨"part", none, ⟨78, 26, 78, 30⟩⟩, ⟨"places", none, ⟨78, 32, 78, 38⟩⟩], none, [], [], none, []⟩, (.stmts [(.Expr (.Call (.Name "_wall" ⟨79, 8, 79, 13⟩) [(.Constant (.int 4) 0 ⟨79, 14, 79, 15⟩)] [] ⟨79, 8, 79, 16⟩) ⟨79, 8, 79, 16⟩)]), ⟨.function, [("self", .local), ("part", .local), ("places", .local), ("_wall", .globalImplicit)], false, false, []⟩, 3, [], .none, .none, .none, (.str "flipwright.graphs" 360), none, (.ref 233), .none, 0⟩), #[]⟩) ::
 (nat_lit 235, ⟨(.type "tuple"), none, (.seq #[] 0), #[]⟩) ::
 (nat_lit 237, ⟨(.type "tuple"), none, (.seq #[(.str "self" 480), (.str "part" 481)] 0), #[]⟩) ::
 (nat_lit 238, ⟨(.type "tuple"), none, (.seq #[] 0), #[]⟩) ::
 (nat_lit 240, ⟨(.type "code"), none, (.fields #[(.str "listed" 477), (.str "Graphs.listed" 478), (.str "/claim/cut.py" 479), (.int 81 0), (.int 2 0), (.int 0 0), (.int 0 0), (.int 3 0), (.ref 235), (.bool true), (.int 181 0), (.ref 236), .none, (.ref 237), (.ref 238), (.ref 239), (.int 482 0), (.int 81 0), (.str "/claim/cut.py" 483)]), #[]⟩) ::
 (nat_lit 241, ⟨(.type "function"), none, (.func ⟨"listed", "Graphs.listed", ⟨[], [⟨"self", none, ⟨81, 15, 81, 19⟩⟩, ⟨"part", none, ⟨81, 21, 81, 25⟩⟩], none, [], [], none, []⟩, (.stmts [(.Expr (.Call (.Name "_wall" ⟨82, 8, 82, 13⟩) [(.Constant (.int 5) 0 ⟨82, 14, 82, 15⟩)] [] ⟨82, 8, 82, 16⟩) ⟨82, 8, 82, 16⟩)]), ⟨.function, [("self", .local), ("part", .local), ("_wall", .globalImplicit)], false, false, []⟩, 3, [], .none, .none, .none, (.str "flipwright.graphs" 360), none, (.ref 240), .none, 0⟩), #[]⟩) ::
 (nat_lit 242, ⟨(.type "tuple"), none, (.seq #[] 0), #[]⟩) ::
 (nat_lit 244, ⟨(.type "tuple"), none, (.seq #[(.str "self" 488), (.str "parts" 489), (.str "how" 490)] 0), #[]⟩) ::
 (nat_lit 245, ⟨(.type "tuple"), none, (.seq #[] 0), #[]⟩) ::
 (nat_lit 247, ⟨(.type "code"), none, (.fields #[(.str "stand_ins" 485), (.str "Graphs.stand_ins" 486), (.str "/claim/cut.py" 487), (.int 84 0), (.int 3 0), (.int 0 0), (.int 0 0), (.int 3 0), (.ref 242), (.bool true), (.int 181 0), (.ref 243), .none, (.ref 244), (.ref 245), (.ref 246), (.int 491 0), (.int 84 0), (.str "/claim/cut.py" 492)]), #[]⟩) ::
 (nat_lit 248, ⟨(.type "function"), none, (.func ⟨"stand_ins", "Graphs.stand_ins", ⟨[], [⟨"self", none, ⟨84, 18, 84, 22⟩⟩, ⟨"parts", none, ⟨84, 24, 84, 29⟩⟩, ⟨"how", none, ⟨84, 31, 84, 34⟩⟩], none, [], [], none, []⟩, (.stmts [(.Expr (.Call (.Name "_wall" ⟨85, 8, 85, 13⟩) [(.Constant (.int 6) 0 ⟨85, 14, 85, 15⟩)] [] ⟨85, 8, 85, 16⟩) ⟨85, 8, 85, 16⟩)]), ⟨.function, [("self", .local), ("parts", .local), ("how", .local), ("_wall", .globalImplicit)], false, false, []⟩, 3, [], .none, .none, .none, (.str "flipwright.graphs" 360), none, (.ref 247), .none, 0⟩), #[]⟩) ::
 (nat_lit 249, ⟨(.type "tuple"), none, (.seq #[] 0), #[]⟩) ::
 (nat_lit 251, ⟨(.type "tuple"), none, (.seq #[(.str "self" 497), (.str "parts" 498), (.str "how" 499), (.str "stands" 500), (.str "done" 501)] 0), #[]⟩) ::
 (nat_lit 252, ⟨(.type "tuple"), none, (.seq #[] 0), #[]⟩) ::
 (nat_lit 254, ⟨(.type "code"), none, (.fields #[(.str "join_row" 494), (.str "Graphs.join_row" 495), (.str "/claim/cut.py" 496), (.int 87 0), (.int 5 0), (.int 0 0), (.int 0 0), (.int 3 0), (.ref 249), (.bool true), (.int 181 0), (.ref 250), .none, (.ref 251), (.ref 252), (.ref 253), (.int 502 0), (.int 87 0), (.str "/claim/cut.py" 503)]), #[]⟩) ::
 (nat_lit 255, ⟨(.type "function"), none, (.func ⟨"join_row", "Graphs.join_row", ⟨[], [⟨"self", none, ⟨87, 17, 87, 21⟩⟩, ⟨"parts", none, ⟨87, 23, 87, 28⟩⟩, ⟨"how", none, ⟨87, 30, 87, 33⟩⟩, ⟨"stands", none, ⟨87, 35, 87, 41⟩⟩, ⟨"done", none, ⟨87, 43, 87, 47⟩⟩], none, [], [], none, []⟩, (.stmts [(.Expr (.Call (.Name "_wall" ⟨88, 8, 88, 13⟩) [(.Constant (.int 7) 0 ⟨88, 14, 88, 15⟩)] [] ⟨88, 8, 88, 16⟩) ⟨88, 8, 88, 16⟩)]), ⟨.function, [("self", .local), ("parts", .local), ("how", .local), ("stands", .local), ("done", .local), ("_wall", .globalImplicit)], false, false, []⟩, 3, [], .none, .none, .none, (.str "flipwright.graphs" 360), none, (.ref 254), .none, 0⟩), #[]⟩) ::
 (nat_lit 256, ⟨(.type "tuple"), none, (.seq #[] 0), #[]⟩) ::
 (nat_lit 258, ⟨(.type "tuple"), none, (.seq #[(.str "self" 508), (.str "parts" 509), (.str "how" 510)] 0), #[]⟩) ::
 (nat_lit 259, ⟨(.type "tuple"), none, (.seq #[] 0), #[]⟩) ::
 (nat_lit 261, ⟨(.type "code"), none, (.fields #[(.str "joined" 505), (.str "Graphs.joined" 506), (.str "/claim/cut.py" 507), (.int 90 0), (.int 3 0), (.int 0 0), (.int 0 0), (.int 3 0), (.ref 256), (.bool true), (.int 181 0), (.ref 257), .none, (.ref 258), (.ref 259), (.ref 260), (.int 511 0), (.int 90 0), (.str "/claim/cut.py" 512)]), #[]⟩) ::
 (nat_lit 262, ⟨(.type "function"), none, (.func ⟨"joined", "Graphs.joined", ⟨[], [⟨"self", none, ⟨90, 15, 90, 19⟩⟩, ⟨"parts", none, ⟨90, 21, 90, 26⟩⟩, ⟨"how", none, ⟨90, 28, 90, 31⟩⟩], none, [], [], none, []⟩, (.stmts [(.Expr (.Call (.Name "_wall" ⟨91, 8, 91, 13⟩) [(.Constant (.int 8) 0 ⟨91, 14, 91, 15⟩)] [] ⟨91, 8, 91, 16⟩) ⟨91, 8, 91, 16⟩)]), ⟨.function, [("self", .local), ("parts", .local), ("how", .local), ("_wall", .globalImplicit)], false, false, []⟩, 3, [], .none, .none, .none, (.str "flipwright.graphs" 360), none, (.ref 261), .none, 0⟩), #[]⟩) ::
 (nat_lit 263, ⟨(.type "tuple"), none, (.seq #[] 0), #[]⟩) ::
 (nat_lit 265, ⟨(.type "tuple"), none, (.seq #[(.str "self" 517), (.str "parts" 518), (.str "how" 519)] 0), #[]⟩) ::
 (nat_lit 266, ⟨(.type "tuple"), none, (.seq #[] 0), #[]⟩) ::
 (nat_lit 268, ⟨(.type "code"), none, (.fields #[(.str "joined_counts" 514), (.str "Graphs.joined_counts" 515), (.str "/claim/cut.py" 516), (.int 93 0), (.int 3 0), (.int 0 0), (.int 0 0), (.int 3 0), (.ref 263), (.bool true), (.int 181 0), (.ref 264), .none, (.ref 265), (.ref 266), (.ref 267), (.int 520 0), (.int 93 0), (.str "/claim/cut.py" 521)]), #[]⟩) ::
 (nat_lit 269, ⟨(.type "function"), none, (.func ⟨"joined_counts", "Graphs.joined_counts", ⟨[], [⟨"self", none, ⟨93, 22, 93, 26⟩⟩, ⟨"parts", none, ⟨93, 28, 93, 33⟩⟩, ⟨"how", none, ⟨93, 35, 93, 38⟩⟩], none, [], [], none, []⟩, (.stmts [(.Expr (.Call (.Name "_wall" ⟨94, 8, 94, 13⟩) [(.Constant (.int 9) 0 ⟨94, 14, 94, 15⟩)] [] ⟨94, 8, 94, 16⟩) ⟨94, 8, 94, 16⟩)]), ⟨.function, [("self", .local), ("parts", .local), ("how", .local), ("_wall", .globalImplicit)], false, false, []⟩, 3, [], .none, .none, .none, (.str "flipwright.graphs" 360), none, (.ref 268), .none, 0⟩), #[]⟩) ::
 (nat_lit 270, ⟨(.type "tuple"), none, (.seq #[] 0), #[]⟩) ::
 (nat_lit 272, ⟨(.type "tuple"), none, (.seq #[(.str "self" 526), (.str "parts" 527), (.str "stands" 528), (.str "done" 529)] 0), #[]⟩) ::
 (nat_lit 273, ⟨(.type "tuple"), none, (.seq #[] 0), #[]⟩) ::
 (nat_lit 275, ⟨(.type "code"), none, (.fields #[(.str "choose_row" 523), (.str "Graphs.choose_row" 524), (.str "/claim/cut.py" 525), (.int 96 0), (.int 4 0), (.int 0 0), (.int 0 0), (.int 3 0), (.ref 270), (.bool true), (.int 181 0), (.ref 271), .none, (.ref 272), (.ref 273), (.ref 274), (.int 530 0), (.int 96 0), (.str "/claim/cut.py" 531)]), #[]⟩) ::
 (nat_lit 276, ⟨(.type "function"), none, (.func ⟨"choose_row", "Graphs.choose_row", ⟨[], [⟨"self", none, ⟨96, 19, 96, 23⟩⟩, ⟨"parts", none, ⟨96, 25, 96, 30⟩⟩, ⟨"stands", none, ⟨96, 32, 96, 38⟩⟩, ⟨"done", none, ⟨96, 40, 96, 44⟩⟩], none, [], [], none, []⟩, (.stmts [(.Expr (.Call (.Name "_wall" ⟨97, 8, 97, 13⟩) [(.Constant (.int 10) 0 ⟨97, 14, 97, 16⟩)] [] ⟨97, 8, 97, 17⟩) ⟨97, 8, 97, 17⟩)]), ⟨.function, [("self", .local), ("parts", .local), ("stands", .local), ("done", .local), ("_wall", .globalImplicit)], false, false, []⟩, 3, [], .none, .none, .none, (.str "flipwright.graphs" 360), none, (.ref 275), .none, 0⟩), #[]⟩) ::
 (nat_lit 277, ⟨(.type "tuple"), none, (.seq #[] 0), #[]⟩) ::
 (nat_lit 279, ⟨(.type "tuple"), none, (.seq #[(.str "self" 536), (.str "test" 537), (.str "one" 538), (.str "other" 539)] 0), #[]⟩) ::
 (nat_lit 280, ⟨(.type "tuple"), none, (.seq #[] 0), #[]⟩) ::
 (nat_lit 282, ⟨(.type "code"), none, (.fields #[(.str "chosen" 533), (.str "Graphs.chosen" 534), (.str "/claim/cut.py" 535), (.int 99 0), (.int 4 0), (.int 0 0), (.int 0 0), (.int 3 0), (.ref 277), (.bool true), (.int 181 0), (.ref 278), .none, (.ref 279), (.ref 280), (.ref 281), (.int 540 0), (.int 99 0), (.str "/claim/cut.py" 541)]), #[]⟩) ::
 (nat_lit 283, ⟨(.type "function"), none, (.func ⟨"chosen", "Graphs.chosen", ⟨[], [⟨"self", none, ⟨99, 15, 99, 19⟩⟩, ⟨"test", none, ⟨99, 21, 99, 25⟩⟩, ⟨"one", none, ⟨99, 27, 99, 30⟩⟩, ⟨"other", none, ⟨99, 32, 99, 37⟩⟩], none, [], [], none, []⟩, (.stmts [(.Expr (.Call (.Name "_wall" ⟨100, 8, 100, 13⟩) [(.Constant (.int 11) 0 ⟨100, 14, 100, 16⟩)] [] ⟨100, 8, 100, 17⟩) ⟨100, 8, 100, 17⟩)]), ⟨.function, [("self", .local), ("test", .local), ("one", .local), ("other", .local), ("_wall", .globalImplicit)], false, false, []⟩, 3, [], .none, .none, .none, (.str "flipwright.graphs" 360), none, (.ref 282), .none, 0⟩), #[]⟩) ::
 (nat_lit 284, ⟨(.type "tuple"), none, (.seq #[(.str "kept" 543), (.str "most" 544), (.str "numbers" 545)] 0), #[]⟩) ::
 (nat_lit 285, ⟨(.type "dict"), none, (.dict #[⟨PyData.keyHash P "__module__", (.str "__module__" 369), (.str "flipwright.graphs" 360)⟩, ⟨PyData.keyHash P "__firstlineno__", (.str "__firstlineno__" 373), (.int 28 372)⟩, ⟨PyData.keyHash P "__init__", (.str "__init__" 382), (.ref 159)⟩, ⟨PyData.keyHash P "keep", (.str "keep" 390), (.ref 166)⟩, ⟨PyData.keyHash P "leaf", (.str "leaf" 398), (.ref 173)⟩, ⟨PyData.keyHash P "asked", (.str "asked" 408), (.ref 180)⟩, ⟨PyData.keyHash P "at", (.str "at" 417), (.ref 187)⟩, ⟨PyData.keyHash P "size", (.str "size" 424), (.ref 194)⟩, ⟨PyData.keyHash P "down", (.str "down" 433), (.ref 201)⟩, ⟨PyData.keyHash P "first_site", (.str "first_site" 439), (.ref 206)⟩, ⟨PyData.keyHash P "asks_at", (.str "asks_at" 448), (.ref 213)⟩, ⟨PyData.keyHash P "parts_at", (.str "parts_at" 458), (.ref 220)⟩, ⟨PyData.keyHash P "width_at", (.str "width_at" 467), (.ref 227)⟩, ⟨PyData.keyHash P "find_places", (.str "find_places" 476), (.ref 234)⟩, ⟨PyData.keyHash P "listed", (.str "listed" 484), (.ref 241)⟩, ⟨PyData.keyHash P "stand_ins", (.str "stand_ins" 493), (.ref 248)⟩, ⟨PyData.keyHash P "join_row", (.str "join_row" 504), (.ref 255)⟩, ⟨PyData.keyHash P "joined", (.str "joined" 513), (.ref 262)⟩, ⟨PyData.keyHash P "joined_counts", (.str "joined_counts" 522), (.ref 269)⟩, ⟨PyData.keyHash P "choose_row", (.str "choose_row" 532), (.ref 276)⟩, ⟨PyData.keyHash P "chosen", (.str "chosen" 542), (.ref 283)⟩, ⟨PyData.keyHash P "__static_attributes__", (.str "__static_attributes__" 546), (.ref 284)⟩, ⟨PyData.keyHash P "__dict__", (.str "__dict__" 548), (.ref 287)⟩, ⟨PyData.keyHash P "__weakref__", (.str "__weakref__" 550), (.ref 288)⟩, ⟨PyData.keyHash P "__doc__", (.str "__doc__" 551), .none⟩] 4), #[]⟩) ::
 (nat_lit 286, ⟨(.type "type"), none, (.cls (.mk "Graphs" [(.type "object")] [(.ref 286), (.type "object")] 285 "Graphs" true [] [] false none false)), #[none, none, (some (.str "Graphs" 362)), (some (.str "Graphs" 370)), (some (.builtin "object.__new__")), (some (.bool true))]⟩) ::
 (nat_lit 287, ⟨(.type "getset_descriptor"), none, (.fields #[(.str "__dict__" 547), (.ref 286), (.builtin "function.__dict__"), (.builtin "function.__dict__#set")]), #[]⟩) ::
 (nat_lit 288, ⟨(.type "getset_descriptor"), none, (.fields #[(.str "__weakref__" 549), (.ref 286), (.builtin "ExceptionGroup.__weakref__"), .none]), #[]⟩) ::
 (nat_lit 291, ⟨(.type "tuple"), none, (.seq #[] 0), #[]⟩) ::
 (nat_lit 293, ⟨(.type "tuple"), none, (.seq #[(.str "_law_script" 559), (.str "_law_k" 560)] 0), #[]⟩) ::
 (nat_lit 294, ⟨(.type "tuple"), none, (.seq #[] 0), #[]⟩) ::
 (nat_lit 296, ⟨(.type "code"), none, (.fields #[(.str "_law_cell_at" 556), (.str "_law_cell_at" 557), (.str "/claim/cut.py" 558), (.int 102 0), (.int 2 0), (.int 0 0), (.int 0 0), (.int 3 0), (.ref 291), (.bool true), (.int 181 0), (.ref 292), .none, (.ref 293), (.ref 294), (.ref 295), (.int 561 0), (.int 102 0), (.str "/claim/cut.py" 562)]), #[]⟩) ::
 (nat_lit 297, ⟨(.type "function"), none, (.func ⟨"_law_cell_at", "_law_cell_at", defArgs s_law_cell_at, .stmts (defBody s_law_cell_at), defScope s_law_cell_at, 3, [], .none, .none, .none, (.str "law_flipwright_k30_parts_kept_once" 554), none, (.ref 296), .none, 0⟩), #[]⟩) ::
 (nat_lit 298, ⟨(.type "tuple"), none, (.seq #[] 0), #[]⟩) ::
 (nat_lit 300, ⟨(.type "tuple"), none, (.seq #[(.str "_law_found" 567)] 0), #[]⟩) ::
 (nat_lit 301, ⟨(.type "tuple"), none, (.seq #[] 0), #[]⟩) ::
 (nat_lit 303, ⟨(.type "code"), none, (.fields #[(.str "_law_whole" 564), (.str "_law_whole" 565), (.str "/claim/cut.py" 566), (.int 106 0), (.int 1 0), (.int 0 0), (.int 0 0), (.int 3 0), (.ref 298), (.bool true), (.int 181 0), (.ref 299), .none, (.ref 300), (.ref 301), (.ref 302), (.int 568 0), (.int 106 0), (.str "/claim/cut.py" 569)]), #[]⟩) ::
 (nat_lit 304, ⟨(.type "function"), none, (.func ⟨"_law_whole", "_law_whole", defArgs s_law_whole, .stmts (defBody s_law_whole), defScope s_law_whole, 3, [], .none, .none, .none, (.str "law_flipwright_k30_parts_kept_once" 554), none, (.ref 303), .none, 0⟩), #[]⟩) ::
 (nat_lit 305, ⟨(.type "tuple"), none, (.seq #[] 0), #[]⟩) ::
 (nat_lit 307, ⟨(.type "tuple"), none, (.seq #[(.str "_law_cell" 574), (.str "_law_k" 575), (.str "_law_figure" 576)] 0), #[]⟩) ::
 (nat_lit 308, ⟨(.type "tuple"), none, (.seq #[] 0), #[]⟩) ::
 (nat_lit 310, ⟨(.type "code"), none, (.fields #[(.str "_law_mix" 571), (.str "_law_mix" 572), (.str "/claim/cut.py" 573), (.int 108 0), (.int 2 0), (.int 0 0), (.int 0 0), (.int 3 0), (.ref 305), (.bool true), (.int 181 0), (.ref 306), .none, (.ref 307), (.ref 308), (.ref 309), (.int 577 0), (.int 108 0), (.str "/claim/cut.py" 578)]), #[]⟩) ::
 (nat_lit 311, ⟨(.type "function"), none, (.func ⟨"_law_mix", "_law_mix", defArgs s_law_mix, .stmts (defBody s_law_mix), defScope s_law_mix, 3, [], .none, .none, .none, (.str "law_flipwright_k30_parts_kept_once" 554), none, (.ref 310), .none, 0⟩), #[]⟩) ::
 (nat_lit 312, ⟨(.type "tuple"), none, (.seq #[] 0), #[]⟩) ::
 (nat_lit 314, ⟨(.type "tuple"), none, (.seq #[(.str "_law_found" 583), (.str "_law_due_here" 584), (.str "_law_k" 585)] 0), #[]⟩) ::
 (nat_lit 315, ⟨(.type "tuple"), none, (.seq #[] 0), #[]⟩) ::
 (nat_lit 317, ⟨(.type "code"), none, (.fields #[(.str "_law_same" 580), (.str "_law_same" 581), (.str "/claim/cut.py" 582), (.int 111 0), (.int 2 0), (.int 0 0), (.int 0 0), (.int 3 0), (.ref 312), (.bool true), (.int 181 0), (.ref 313), .none, (.ref 314), (.ref 315), (.ref 316), (.int 586 0), (.int 111 0), (.str "/claim/cut.py" 587)]), #[]⟩) ::
 (nat_lit 318, ⟨(.type "function"), none, (.func ⟨"_law_same", "_law_same", defArgs s_law_same, .stmts (defBody s_law_same), defScope s_law_same, 3, [], .none, .none, .none, (.str "law_flipwright_k30_parts_kept_once" 554), none, (.ref 317), .none, 0⟩), #[]⟩) ::
 (nat_lit 319, ⟨(.type "tuple"), none, (.seq #[] 0), #[]⟩) ::
 (nat_lit 321, ⟨(.type "tuple"), none, (.seq #[(.str "_law_figure" 592), (.str "_law_letters" 593), (.str "_law_word_here" 594), (.str "_law_k" 595)] 0), #[]⟩) ::
 (nat_lit 322, ⟨(.type "tuple"), none, (.seq #[] 0), #[]⟩) ::
 (nat_lit 324, ⟨(.type "code"), none, (.fields #[(.str "_law_word" 589), (.str "_law_word" 590), (.str "/claim/cut.py" 591), (.int 126 0), (.int 1 0), (.int 0 0), (.int 0 0), (.int 3 0), (.ref 319), (.bool true), (.int 181 0), (.ref 320), .none, (.ref 321), (.ref 322), (.ref 323), (.int 596 0), (.int 126 0), (.str "/claim/cut.py" 597)]), #[]⟩) ::
 (nat_lit 325, ⟨(.type "function"), none, (.func ⟨"_law_word", "_law_word", defArgs s_law_word, .stmts (defBody s_law_word), defScope s_law_word, 3, [], .none, .none, .none, (.str "law_flipwright_k30_parts_kept_once" 554), none, (.ref 324), .none, 0⟩), #[]⟩) ::
 (nat_lit 326, ⟨(.type "tuple"), none, (.seq #[] 0), #[]⟩) ::
 (nat_lit 328, ⟨(.type "tuple"), none, (.seq #[(.str "_law_cell" 602), (.str "_law_fields" 603), (.str "_law_k" 604)] 0), #[]⟩) ::
 (nat_lit 329, ⟨(.type "tuple"), none, (.seq #[] 0), #[]⟩) ::
 (nat_lit 331, ⟨(.type "code"), none, (.fields #[(.str "_law_outcome" 599), (.str "_law_outcome" 600), (.str "/claim/cut.py" 601), (.int 132 0), (.int 1 0), (.int 0 0), (.int 0 0), (.int 3 0), (.ref 326), (.bool true), (.int 181 0), (.ref 327), .none, (.ref 328), (.ref 329), (.ref 330), (.int 605 0), (.int 132 0), (.str "/claim/cut.py" 606)]), #[]⟩) ::
 (nat_lit 332, ⟨(.type "function"), none, (.func ⟨"_law_outcome", "_law_outcome", defArgs s_law_outcome, .stmts (defBody s_law_outcome), defScope s_law_outcome, 3, [], .none, .none, .none, (.str "law_flipwright_k30_parts_kept_once" 554), none, (.ref 331), .none, 0⟩), #[]⟩) ::
 (nat_lit 333, ⟨(.type "tuple"), none, (.seq #[] 0), #[]⟩) ::
 (nat_lit 335, ⟨(.type "tuple"), none, (.seq #[(.str "_law_script" 611), (.str "_law_found" 612), (.str "_law_k" 613)] 0), #[]⟩) ::
 (nat_lit 336, ⟨(.type "tuple"), none, (.seq #[] 0), #[]⟩) ::
 (nat_lit 338, ⟨(.type "code"), none, (.fields #[(.str "_law_sites" 608), (.str "_law_sites" 609), (.str "/claim/cut.py" 610), (.int 145 0), (.int 1 0), (.int 0 0), (.int 0 0), (.int 3 0), (.ref 333), (.bool true), (.int 181 0), (.ref 334), .none, (.ref 335), (.ref 336), (.ref 337), (.int 614 0), (.int 145 0), (.str "/claim/cut.py" 615)]), #[]⟩) ::
 (nat_lit 339, ⟨(.type "function"), none, (.func ⟨"_law_sites", "_law_sites", defArgs s_law_sites, .stmts (defBody s_law_sites), defScope s_law_sites, 3, [], .none, .none, .none, (.str "law_flipwright_k30_parts_kept_once" 554), none, (.ref 338), .none, 0⟩), #[]⟩) ::
 (nat_lit 340, ⟨(.type "tuple"), none, (.seq #[] 0), #[]⟩) ::
 (nat_lit 343, ⟨(.type "code"), none, (.fields #[(.str "_law_children" 617), (.str "_law_children" 618), (.str "/claim/cut.py" 619), (.int 150 0), (.int 6 0), (.int 0 0), (.int 0 0), (.int 3 0), (.ref 340), (.bool true), (.int 181 0), (.ref 341), .none, .none, .none, (.ref 342), (.int 620 0), (.int 150 0), (.str "/claim/cut.py" 621)]), #[]⟩) ::
 (nat_lit 344, ⟨(.type "function"), none, (.func ⟨"_law_children", "_law_children", defArgs s_law_children, .stmts (defBody s_law_children), defScope s_law_children, 3, [], .none, .none, .none, (.str "law_flipwright_k30_parts_kept_once" 554), none, (.ref 343), .none, 0⟩), #[]⟩) ::
 (nat_lit 345, ⟨(.type "tuple"), none, (.seq #[] 0), #[]⟩) ::
 (nat_lit 347, ⟨(.type "tuple"), none, (.seq #[(.str "_law_known" 626), (.str "_law_deed" 627), (.str "_law_limit" 628), (.str "_law_child" 629)] 0), #[]⟩) ::
 (nat_lit 348, ⟨(.type "tuple"), none, (.seq #[] 0), #[]⟩) ::
 (nat_lit 350, ⟨(.type "code"), none, (.fields #[(.str "_law_due" 623), (.str "_law_due" 624), (.str "/claim/cut.py" 625), (.int 153 0), (.int 3 0), (.int 0 0), (.int 0 0), (.int 3 0), (.ref 345), (.bool true), (.int 181 0), (.ref 346), .none, (.ref 347), (.ref 348), (.ref 349), (.int 630 0), (.int 153 0), (.str "/claim/cut.py" 631)]), #[]⟩) ::
 (nat_lit 351, ⟨(.type "function"), none, (.func ⟨"_law_due", "_law_due", defArgs s_law_due, .stmts (defBody s_law_due), defScope s_law_due, 3, [], .none, .none, .none, (.str "law_flipwright_k30_parts_kept_once" 554), none, (.ref 350), .none, 0⟩), #[]⟩) ::
 (nat_lit 352, ⟨(.type "tuple"), none, (.seq #[] 0), #[]⟩) ::
 (nat_lit 354, ⟨(.type "tuple"), none, (.seq #[(.str "_law_graphs" 636), (.str "_law_deed" 637), (.str "_law_children_here" 638), (.str "_law_found" 639)] 0), #[]⟩) ::
 (nat_lit 355, ⟨(.type "tuple"), none, (.seq #[] 0), #[]⟩) ::
 (nat_lit 357, ⟨(.type "code"), none, (.fields #[(.str "_law_kept" 633), (.str "_law_kept" 634), (.str "/claim/cut.py" 635), (.int 165 0), (.int 2 0), (.int 0 0), (.int 0 0), (.int 3 0), (.ref 352), (.bool true), (.int 181 0), (.ref 353), .none, (.ref 354), (.ref 355), (.ref 356), (.int 640 0), (.int 165 0), (.str "/claim/cut.py" 641)]), #[]⟩) ::
 (nat_lit 358, ⟨(.type "function"), none, (.func ⟨"_law_kept", "_law_kept", defArgs s_law_kept, .stmts (defBody s_law_kept), defScope s_law_kept, 3, [], .none, .none, .none, (.str "law_flipwright_k30_parts_kept_once" 554), none, (.ref 357), .none, 0⟩), #[]⟩) ::
 (nat_lit 359, ⟨(.type "tuple"), none, (.seq #[] 0), #[]⟩) ::
 (nat_lit 361, ⟨(.type "tuple"), none, (.seq #[(.str "_law_graphs" 646), (.str "_law_deed" 647), (.str "_law_due_here" 648), (.str "_law_kind" 649), (.str "e" 650), (.str "_law_other" 651)] 0), #[]⟩) ::
 (nat_lit 362, ⟨(.type "tuple"), none, (.seq #[] 0), #[]⟩) ::
 (nat_lit 364, ⟨(.type "code"), none, (.fields #[(.str "_law_refused" 643), (.str "_law_refused" 644), (.str "/claim/cut.py" 645), (.int 174 0), (.int 3 0), (.int 0 0), (.int 0 0), (.int 3 0), (.ref 359), (.bool true), (.int 181 0), (.ref 360), .none, (.ref 361), (.ref 362), (.ref 363), (.int 652 0), (.int 174 0), (.str "/claim/cut.py" 653)]), #[]⟩) ::
 (nat_lit 365, ⟨(.type "function"), none, (.func ⟨"_law_refused", "_law_refused", defArgs s_law_refused, .stmts (defBody s_law_refused), defScope s_law_refused, 3, [], .none, .none, .none, (.str "law_flipwright_k30_parts_kept_once" 554), none, (.ref 364), .none, 0⟩), #[]⟩) ::
 (nat_lit 366, ⟨(.type "tuple"), none, (.seq #[] 0), #[]⟩) ::
 (nat_lit 368, ⟨(.type "tuple"), none, (.seq #[(.str "_law_graphs" 658), (.str "_law_known" 659), (.str "_law_deed" 660), (.str "_law_limit" 661), (.str "_law_due_here" 662), (.str "_law_found" 663), (.str "_law_first" 664)] 0), #[]⟩) ::
 (nat_lit 369, ⟨(.type "tuple"), none, (.seq #[] 0), #[]⟩) ::
 (nat_lit 371, ⟨(.type "code"), none, (.fields #[(.str "_law_done" 655), (.str "_law_done" 656), (.str "/claim/cut.py" 657), (.int 183 0), (.int 4 0), (.int 0 0), (.int 0 0), (.int 3 0), (.ref 366), (.bool true), (.int 181 0), (.ref 367), .none, (.ref 368), (.ref 369), (.ref 370), (.int 665 0), (.int 183 0), (.str "/claim/cut.py" 666)]), #[]⟩) ::
 (nat_lit 372, ⟨(.type "function"), none, (.func ⟨"_law_done", "_law_done", defArgs s_law_done, .stmts (defBody s_law_done), defScope s_law_done, 3, [], .none, .none, .none, (.str "law_flipwright_k30_parts_kept_once" 554), none, (.ref 371), .none, 0⟩), #[]⟩) ::
 (nat_lit 373, ⟨(.type "tuple"), none, (.seq #[] 0), #[]⟩) ::
 (nat_lit 375, ⟨(.type "tuple"), none, (.seq #[(.str "_law_graphs" 671), (.str "_law_known" 672), (.str "_law_other" 673), (.str "_law_k" 674)] 0), #[]⟩) ::
 (nat_lit 376, ⟨(.type "tuple"), none, (.seq #[] 0), #[]⟩) ::
 (nat_lit 378, ⟨(.type "code"), none, (.fields #[(.str "_law_at_last" 668), (.str "_law_at_last" 669), (.str "/claim/cut.py" 670), (.int 198 0), (.int 2 0), (.int 0 0), (.int 0 0), (.int 3 0), (.ref 373), (.bool true), (.int 181 0), (.ref 374), .none, (.ref 375), (.ref 376), (.ref 377), (.int 675 0), (.int 198 0), (.str "/claim/cut.py" 676)]), #[]⟩) ::
 (nat_lit 379, ⟨(.type "function"), none, (.func ⟨"_law_at_last", "_law_at_last", defArgs s_law_at_last, .stmts (defBody s_law_at_last), defScope s_law_at_last, 3, [], .none, .none, .none, (.str "law_flipwright_k30_parts_kept_once" 554), none, (.ref 378), .none, 0⟩), #[]⟩) ::
 (nat_lit 380, ⟨(.type "tuple"), none, (.seq #[] 0), #[]⟩) ::
 (nat_lit 382, ⟨(.type "tuple"), none, (.seq #[(.str "_law_script" 681), (.str "_law_sites_here" 682), (.str "_law_limit" 683), (.str "_law_graphs" 684), (.str "_law_known" 685), (.str "_law_place" 686), (.str "_law_cell" 687), (.str "_law_deed" 688), (.str "_law_turn" 689), (.str "_law_many" 690), (.str "_law_children_here" 691)] 0), #[]⟩) ::
 (nat_lit 383, ⟨(.type "tuple"), none, (.seq #[] 0), #[]⟩) ::
 (nat_lit 385, ⟨(.type "code"), none, (.fields #[(.str "law" 678), (.str "law" 679), (.str "/claim/cut.py" 680), (.int 206 0), (.int 1 0), (.int 0 0), (.int 0 0), (.int 3 0), (.ref 380), (.bool true), (.int 181 0), (.ref 381), .none, (.ref 382), (.ref 383), (.ref 384), (.int 692 0), (.int 206 0), (.str "/claim/cut.py" 693)]), #[]⟩) ::
 (nat_lit 386, ⟨(.type "function"), none, (.func ⟨"law", "law", defArgs s_law, .stmts (defBody s_law), defScope s_law, 3, [], .none, .none, .none, (.str "law_flipwright_k30_parts_kept_once" 554), none, (.ref 385), .none, 0⟩), #[]⟩) :: []
def KA : List Addr := [2, 3, 15, 17, 18, 20, 21, 22, 29, 30, 31, 32, 35, 42, 43, 44, 47, 54, 55, 56, 59, 66, 68, 69, 71, 72, 73, 74, 75, 78, 85, 87, 88, 90, 91, 92, 93, 94, 97, 104, 105, 106, 109, 116, 117, 118, 121, 128, 129, 130, 133, 140, 141, 142, 152, 153, 155, 156, 158, 159, 160, 162, 163, 165, 166, 167, 169, 170, 172, 173, 174, 176, 177, 179, 180, 181, 183, 184, 186, 187, 188, 190, 191, 193, 194, 195, 197, 198, 200, 201, 202, 205, 206, 207, 209, 210, 212, 213, 214, 216, 217, 219, 220, 221, 223, 224, 226, 227, 228, 230, 231, 233, 234, 235, 237, 238, 240, 241, 242, 244, 245, 247, 248, 249, 251, 252, 254, 255, 256, 258, 259, 261, 262, 263, 265, 266, 268, 269, 270, 272, 273, 275, 276, 277, 279, 280, 282, 283, 284, 285, 286, 287, 288, 291, 293, 294, 296, 297, 298, 300, 301, 303, 304, 305, 307, 308, 310, 311, 312, 314, 315, 317, 318, 319, 321, 322, 324, 325, 326, 328, 329, 331, 332, 333, 335, 336, 338, 339, 340, 343, 344, 345, 347, 348, 350, 351, 352, 354, 355, 357, 358, 359, 361, 362, 364, 365, 366, 368, 369, 371, 372, 373, 375, 376, 378, 379, 380, 382, 383, 385, 386]
theorem KAs (P : Params) : KA = List.map (fun x => x.fst) (KF P) := by kernel_rfl
noncomputable def vw : Program := { PySem.Challenge.rw_flipwright_k30_parts_kept_once.row.toRowW.1 with main := { PySem.Challenge.rw_flipwright_k30_parts_kept_once.row.toRowW.1.main with body := ((PySem.Challenge.rw_flipwright_k30_parts_kept_once.row.toRowW.1.main.body.drop 0).take 1 ++ ((PySem.Challenge.rw_flipwright_k30_parts_kept_once.row.toRowW.1.main.body.drop 2).take 9 ++ ((PySem.Challenge.rw_flipwright_k30_parts_kept_once.row.toRowW.1.main.body.drop 12).take 1 ++ (PySem.Challenge.rw_flipwright_k30_parts_kept_once.row.toRowW.1.main.body.drop 14)))) } }
abbrev pg : Program := PySem.Challenge.rw_flipwright_k30_parts_kept_once.row.toRowW.prog
noncomputable def ev : Env := { scope := pg.main.scope, locals := mainNs, globals := mainNs, cells := [], code := .ref 13, frame := some 14 }
noncomputable def Sa (w : World) (os : OsState) : Shared := match PySem.W.topGo treeTable pg w 11 (some (.ref 6)) 12 ⟨PySem.W.boot_heap w.params, Array.mk [], PySem.W.boot_drawn, PySem.W.boot_toks, os⟩ (PySem.W.topStub pg) with | some r => r.1 | none => ⟨PySem.W.boot_heap w.params, Array.mk [], PySem.W.boot_drawn, PySem.W.boot_toks, os⟩
theorem hd_pre (w : World) (os : OsState) : PySem.W.topGo treeTable pg w 11 (some (.ref 6)) 12 ⟨PySem.W.boot_heap w.params, Array.mk [], PySem.W.boot_drawn, PySem.W.boot_toks, os⟩ (PySem.W.topStub pg) =
      some (Sa w os, ⟨denote treeTable (.body (PySem.W.behindTheImports pg) ev), .body (PySem.W.behindTheImports pg) ev, default, [PySem.W.topFrame default]⟩) := by kernel_rfl
theorem hd_tree (w : World) (os : OsState) : (TH.ofS (Sa w os)).abs = Sa w os := by kernel_rfl
theorem hd_block : blockStart (PySem.W.behindTheImports pg) ev = .pure () := by kernel_rfl
theorem hd_size (w : World) : ((PySem.W.boot_heap w.params).isNs mainGlobals, (PySem.W.boot_heap w.params).objs.size, (PySem.W.boot_heap w.params).nsMap mainGlobals "__annotations__") = (true, 11, some (.ref 6)) := by kernel_rfl
set_option maxHeartbeats 0 in
theorem hd_run (w : World) (os : OsState) : TH.lookT pg w 11 (some (.ref 6)) (PySem.W.behindTheImports pg) ev (.body (PySem.W.behindTheImports pg) ev) default default 3344 (TH.ofS (Sa w os)) (TH.looks pg vw [] (fun s => PySem.W.xlAt vw [] s && PySem.W.recOk (PySem.W.RowW.records (PySem.W.OpenRow.toRowW PySem.Challenge.rw_flipwright_k30_parts_kept_once.row)) s) (PySem.W.Hook.obs (PySem.W.kHook KF KA KAs)) true (PySem.W.boot_heap w.params)) = some (true, PySem.W.openGood vw [], PySem.W.Hook.val (PySem.W.kHook KF KA KAs) w) := by kernel_rfl
end K30
namespace K30
open PySem L2 FW PyProof.Rows
theorem all_mk {l : PySem.W.OpenLaw} {w : World} {K : PySem.W.Frag} {mg : Str → Option Value} {fa C gI gP gL gQ gZ gW gS : Addr} {f0 f1 f2 f3 f4 f5 f6 f7 f8 f9 f10 f11 f12 f13 : Addr} {d0 d1 d2 d3 d4 d5 d6 d7 d8 d9 d10 d11 d12 d13 : FuncData} {uM : Value} {tI CT CR xF xS xV xX xN xU xW : Addr} {oT : Obj} (hfa : mg "law" = some (.ref fa))
    (A0 : FnAt K mg "law" s_law ["_law_script"] f0 d0)
    (A1 : FnAt K mg "_law_cell_at" s_law_cell_at ["_law_script", "_law_k"] f1 d1)
    (A2 : FnAt K mg "_law_whole" s_law_whole ["_law_found"] f2 d2)
    (A3 : FnAt K mg "_law_mix" s_law_mix ["_law_cell", "_law_k"] f3 d3)
    (A4 : FnAt K mg "_law_same" s_law_same ["_law_found", "_law_due_here"] f4 d4)
    (A5 : FnAt K mg "_law_word" s_law_word ["_law_figure"] f5 d5)
    (A6 : FnAt K mg "_law_outcome" s_law_outcome ["_law_cell"] f6 d6)
    (A7 : FnAt K mg "_law_sites" s_law_sites ["_law_script"] f7 d7)
    (A8 : FnAt K mg "_law_children" s_law_children ["_law_script", "_law_place", "_law_many", "_law_known", "_law_site", "_law_good"] f8 d8)
    (A9 : FnAt K mg "_law_due" s_law_due ["_law_known", "_law_deed", "_law_limit"] f9 d9)
    (A10 : FnAt K mg "_law_kept" s_law_kept ["_law_graphs", "_law_deed"] f10 d10)
    (A11 : FnAt K mg "_law_refused" s_law_refused ["_law_graphs", "_law_deed", "_law_due_here"] f11 d11)
    (A12 : FnAt K mg "_law_done" s_law_done ["_law_graphs", "_law_known", "_law_deed", "_law_limit"] f12 d12)
    (A13 : FnAt K mg "_law_at_last" s_law_at_last ["_law_graphs", "_law_known"] f13 d13)
    {odI anI : Option Addr} {slI : Array (Option Value)} {ocI kVI dcI pmI cdI ctI : Value} (lI : K.lookup gI = some ⟨ocI, odI, .func (PySem.W.fnOf "__init__" "Graphs.__init__" (defArgs s_Graphs_init) (defBody s_Graphs_init) (defScope s_Graphs_init) (.ref tI) kVI dcI pmI anI cdI ctI), slI⟩) (cI : PySem.W.codeIn K cdI "Graphs.__init__" = true) (kI : PySem.W.keepIn K (.ref gI) = true)
    {odP anP : Option Addr} {slP : Array (Option Value)} {ocP kVP dcP pmP cdP ctP : Value} (lP : K.lookup gP = some ⟨ocP, odP, .func (PySem.W.fnOf "keep" "Graphs.keep" (defArgs s_Graphs_keep) (defBody s_Graphs_keep) (defScope s_Graphs_keep) .none kVP dcP pmP anP cdP ctP), slP⟩) (cP : PySem.W.codeIn K cdP "Graphs.keep" = true) (kP : PySem.W.keepIn K (.ref gP) = true)
    {odL anL : Option Addr} {slL : Array (Option Value)} {ocL kVL dcL pmL cdL ctL : Value} (lL : K.lookup gL = some ⟨ocL, odL, .func (PySem.W.fnOf "leaf" "Graphs.leaf" (defArgs s_Graphs_leaf) (defBody s_Graphs_leaf) (defScope s_Graphs_leaf) .none kVL dcL pmL anL cdL ctL), slL⟩) (cL : PySem.W.codeIn K cdL "Graphs.leaf" = true) (kL : PySem.W.keepIn K (.ref gL) = true)
    {odQ anQ : Option Addr} {slQ : Array (Option Value)} {ocQ kVQ dcQ pmQ cdQ ctQ : Value} (lQ : K.lookup gQ = some ⟨ocQ, odQ, .func (PySem.W.fnOf "asked" "Graphs.asked" (defArgs s_Graphs_asked) (defBody s_Graphs_asked) (defScope s_Graphs_asked) .none kVQ dcQ pmQ anQ cdQ ctQ), slQ⟩) (cQ : PySem.W.codeIn K cdQ "Graphs.asked" = true) (kQ : PySem.W.keepIn K (.ref gQ) = true)
    {odZ anZ : Option Addr} {slZ : Array (Option Value)} {ocZ kVZ dcZ pmZ cdZ ctZ : Value} (lZ : K.lookup gZ = some ⟨ocZ, odZ, .func (PySem.W.fnOf "size" "Graphs.size" (defArgs s_Graphs_size) (defBody s_Graphs_size) (defScope s_Graphs_size) .none kVZ dcZ pmZ anZ cdZ ctZ), slZ⟩) (cZ : PySem.W.codeIn K cdZ "Graphs.size" = true) (kZ : PySem.W.keepIn K (.ref gZ) = true)
    {odW anW : Option Addr} {slW : Array (Option Value)} {ocW kVW dcW pmW cdW ctW : Value} (lW : K.lookup gW = some ⟨ocW, odW, .func (PySem.W.fnOf "at" "Graphs.at" (defArgs s_Graphs_at) (defBody s_Graphs_at) (defScope s_Graphs_at) .none kVW dcW pmW anW cdW ctW), slW⟩) (cW : PySem.W.codeIn K cdW "Graphs.at" = true) (kW : PySem.W.keepIn K (.ref gW) = true)
    {odS anS : Option Addr} {slS : Array (Option Value)} {ocS kVS dcS pmS cdS ctS : Value} (lS : K.lookup gS = some ⟨ocS, odS, .func (PySem.W.fnOf "first_site" "Graphs.first_site" (defArgs s_Graphs_first_site) (defBody s_Graphs_first_site) (defScope s_Graphs_first_site) .none kVS dcS pmS anS cdS ctS), slS⟩) (cS : PySem.W.codeIn K cdS "Graphs.first_site" = true) (kS : PySem.W.keepIn K (.ref gS) = true)
    (MI : Mk K C gI)
    (MP : Meth K C "keep" gP)
    (ML : Meth K C "leaf" gL)
    (MQ : Meth K C "asked" gQ)
    (MZ : Meth K C "size" gZ)
    (MW : Meth K C "at" gW)
    (MS : Meth K C "first_site" gS)
    (T : Txt K mg C)
    (lT : K.lookup tI = some oT)
    (hT : ∃ n, oT.data = .seq #[uM] n)
    (hM : RelV (.int 2000) uM)
    (TE : TxE K mg CT CR)
    (R : TxR K mg CT CR xF xS xV xX xN xU xW)
    (k1 : KitE K CR xF xS xV xX xN xU xW)
    (k2 : KitE K CT xF xS xV xX xN xU xW)
    (nRT : PySem.W.kitOne K (.ref CR) (.ref CT) = some false)
    (nTR : PySem.W.kitOne K (.ref CT) (.ref CR) = some false)
    (hb : ∀ (s : Shared) (v : Value), BindsTo s d0 ⟨[v], []⟩ [("_law_script", v)]) :
    ∃ fd : FuncData, (∀ (s : Shared) (v : Value), BindsTo s fd ⟨[v], []⟩ [("_law_script", v)]) ∧ ∀ base : Heap, K.In base → base.Ns mainGlobals mg → FnOk l.prog w K mg base CX0 7 fa fd ["_law_script"] (sp_law K) := by
  have e := hfa.symm.trans A0.m
  cases e
  have FI := funD_mk (st := s_Graphs_init) lI cI kI
  have bI := FI.binds2 lT hT
  have FP := fun_mk (st := s_Graphs_keep) lP cP kP
  have bP := FP.binds (ps := ["self", "held"]) fun _ _ _ _ _ _ us hl => match us, hl with | [_, _], _ => rfl
  have FL := fun_mk (st := s_Graphs_leaf) lL cL kL
  have bL := FL.binds (ps := ["self", "outcome"]) fun _ _ _ _ _ _ us hl => match us, hl with | [_, _], _ => rfl
  have FQ := fun_mk (st := s_Graphs_asked) lQ cQ kQ
  have bQ := FQ.binds (ps := ["self", "site", "children"]) fun _ _ _ _ _ _ us hl => match us, hl with | [_, _, _], _ => rfl
  have FZ := fun_mk (st := s_Graphs_size) lZ cZ kZ
  have bZ := FZ.binds (ps := ["self"]) fun _ _ _ _ _ _ us hl => match us, hl with | [_], _ => rfl
  have FW := fun_mk (st := s_Graphs_at) lW cW kW
  have bW := FW.binds (ps := ["self", "part"]) fun _ _ _ _ _ _ us hl => match us, hl with | [_, _], _ => rfl
  have FS := fun_mk (st := s_Graphs_first_site) lS cS kS
  have bS := FS.binds (ps := ["self", "parts"]) fun _ _ _ _ _ _ us hl => match us, hl with | [_, _], _ => rfl
  refine ⟨d0, hb, fun base _ _ => ?_⟩
  have Gk : ∀ m, FnOk l.prog w K mg base (CXe l.prog w) 1 gP _ ["self", "held"] (sp_keep K w m C CT) := fun m => ok_keep FP T TE
  have Gf : ∀ m, FnOk l.prog w K mg base CX0 1 gS _ ["self", "parts"] (sp_first K w m C) := fun m => ok_first_site FS T
  have Gl : ∀ m, FnOk l.prog w K mg base (CXe l.prog w) 2 gL _ ["self", "outcome"] (sp_leaf K w m C CT) := fun m => ok_leaf FL MP (Gk m) bP T
  have Ga : ∀ m, FnOk l.prog w K mg base (CXe l.prog w) 2 gQ _ ["self", "site", "children"] (sp_asked K w m C CT CR) := fun m => ok_asked FQ MP (Gk m) bP MS (Gf m) bS T TE
  have Gz : ∀ m, FnOk l.prog w K mg base CX0 1 gZ _ ["self"] (sp_size K w m C) := fun m => ok_size FZ T
  have Gt : ∀ m, FnOk l.prog w K mg base CX0 1 gW _ ["self", "part"] (sp_at K w m C) := fun m => ok_at FW T
  have GI : ∀ m, FnOk l.prog w K mg base CX0 1 gI _ ["self", "most"] (sp_ginit K w m C) := fun m => ok_ginitD FI T
  have Gp : ∀ m, FnOk l.prog w K mg base (CXe l.prog w) 3 f10 d10 ["_law_graphs", "_law_deed"] (sp_kept K w m C CT CR) := fun m => ok_law_kept A10 ML (Gl m) bL MQ (Ga m) bQ T
  have Gr : ∀ m, FnOk l.prog w K mg base CX0 4 f11 d11 ["_law_graphs", "_law_deed", "_law_due_here"] (sp_refused K w m C) := fun m => ok_law_refused A11 A10 (Gp m) T TE R k1 k2 nRT nTR
  have Gd : ∀ m, FnOk l.prog w K mg base CX0 6 f12 d12 ["_law_graphs", "_law_known", "_law_deed", "_law_limit"] (sp_done K w m C) := fun m => ok_law_done A12 A9 A11 (Gr m) A10 (Gp m) A2 A4 MW (Gt m) bW MZ (Gz m) bZ T
  have Ge : ∀ m, FnOk l.prog w K mg base CX0 6 f13 d13 ["_law_graphs", "_law_known"] (sp_last K w m C) := fun m => ok_law_at_last A13 MI (GI 2000) bI hM A10 (Gp m) A2 A4 ML (Gl 2000) bL MW (Gt m) bW MZ (Gz m) (Gz 2000) bZ T
  exact ok_law A0 A7 A1 A3 MI GI bI hM (FI.kbinds lT hT) A6 (ok_law_outcome A6 A5 A3 T) A8 A12 Gd A13 Ge T
theorem walk {l : PySem.W.OpenLaw} {q : Program} {loose : List Str} {XP : (Str → Option Value) → Heap → Prop} {YP : World → Heap → Prop} {d : DefRec} {K : Params → PySem.W.Frag} (hn : l.most = some 63) (hdf : d.params.defaults = [])
    (hY : ∀ (w : World) (h : Heap), YP w h → (K w.params).In h)
    (F : ∀ (w : World) (mg : Str → Option Value) (fa : Addr) (h : Heap), (K w.params).In h → h.Ns mainGlobals mg → mg d.name = some (.ref fa) →
      ∃ fd : FuncData, (∀ (s : Shared) (u : Value), BindsTo s fd ⟨[u], []⟩ [("_law_script", u)]) ∧ ∀ base : Heap, (K w.params).In base → base.Ns mainGlobals mg → FnOk l.prog w (K w.params) mg base CX0 7 fa fd ["_law_script"] (sp_law (K w.params))) :
    PySem.W.WalkO q loose XP YP l.row.toRowW d [] (fun f vs => PySem.call f vs) :=
  L2.walk_ofB (n := 63) (k := 7) (x := "_law_script") (CX := fun _ => CX0) (sp := fun w => sp_law (K w.params)) hn (by decide) hdf ⟨rfl, by decide, by decide⟩ hY F (fun _ _ a ns hl hb _ hS => ⟨a, ns, rfl, hS, hl, hb, fun _ => rfl⟩) fun _ _ _ _ _ z => z
end K30
open PySem PySem.W PyProof.Rows L2
set_option maxRecDepth 100000 in
set_option maxHeartbeats 0 in
theorem PySem.Challenge.cw_flipwright_k30_parts_kept_once_holds : PySem.Challenge.rw_flipwright_k30_parts_kept_once.Holds := by
  w_on; o_law
  refine holds_open (q := K30.vw) (loose := []) (Xt := fun s => xlAt K30.vw [] s && recOk (RowW.records (OpenRow.toRowW PySem.Challenge.rw_flipwright_k30_parts_kept_once.row)) s) (XP := XL K30.vw []) (Yf := Hook.obs (kHook K30.KF K30.KA K30.KAs)) (Ya := Hook.val (kHook K30.KF K30.KA K30.KAs)) (YP := Hook.says (kHook K30.KF K30.KA K30.KAs)) (N := 6668) ?hl (Hook.of _) (Hook.keeps _) (fun s e => xl_of s (Bool.and_eq_true_iff.mp e).1) XL.keeps (by rfl) (by rfl) (by rfl) (fun s e => recFacts_of (Bool.and_eq_true_iff.mp e).2) (by rfl) (by first | assumption | decide +kernel) (by decide +kernel) ⟨rfl, rfl, rfl, rfl, rfl, by decide +kernel⟩ ?hw ?hc
  (case hw => w_witness2)
  (case hl => exact TH.left (k0 := 12) rfl (by rfl) (fun _ => rfl) K30.hd_size K30.hd_pre K30.hd_tree K30.hd_block K30.hd_run (by rfl))
  k_fill
  refine K30.walk (l := PySem.Challenge.rw_flipwright_k30_parts_kept_once) rfl rfl (fun w h Y => PySem.W.kIn_of Y) ?F
  case F =>
    intro w mg fa h KX G hmg
    refine' K30.all_mk hmg (fnAt_mk KX G ?a0 ?l0 ?c0 ?k0 (fun _ _ _ _ _ _ us hl => match us, hl with | [_], _ => rfl))
      (fnAt_mk KX G ?a1 ?l1 ?c1 ?k1 (fun _ _ _ _ _ _ us hl => match us, hl with | [_, _], _ => rfl))
      (fnAt_mk KX G ?a2 ?l2 ?c2 ?k2 (fun _ _ _ _ _ _ us hl => match us, hl with | [_], _ => rfl))
      (fnAt_mk KX G ?a3 ?l3 ?c3 ?k3 (fun _ _ _ _ _ _ us hl => match us, hl with | [_, _], _ => rfl))
      (fnAt_mk KX G ?a4 ?l4 ?c4 ?k4 (fun _ _ _ _ _ _ us hl => match us, hl with | [_, _], _ => rfl))
      (fnAt_mk KX G ?a5 ?l5 ?c5 ?k5 (fun _ _ _ _ _ _ us hl => match us, hl with | [_], _ => rfl))
      (fnAt_mk KX G ?a6 ?l6 ?c6 ?k6 (fun _ _ _ _ _ _ us hl => match us, hl with | [_], _ => rfl))
      (fnAt_mk KX G ?a7 ?l7 ?c7 ?k7 (fun _ _ _ _ _ _ us hl => match us, hl with | [_], _ => rfl))
      (fnAt_mk KX G ?a8 ?l8 ?c8 ?k8 (fun _ _ _ _ _ _ us hl => match us, hl with | [_, _, _, _, _, _], _ => rfl))
      (fnAt_mk KX G ?a9 ?l9 ?c9 ?k9 (fun _ _ _ _ _ _ us hl => match us, hl with | [_, _, _], _ => rfl))
      (fnAt_mk KX G ?a10 ?l10 ?c10 ?k10 (fun _ _ _ _ _ _ us hl => match us, hl with | [_, _], _ => rfl))
      (fnAt_mk KX G ?a11 ?l11 ?c11 ?k11 (fun _ _ _ _ _ _ us hl => match us, hl with | [_, _, _], _ => rfl))
      (fnAt_mk KX G ?a12 ?l12 ?c12 ?k12 (fun _ _ _ _ _ _ us hl => match us, hl with | [_, _, _, _], _ => rfl))
      (fnAt_mk KX G ?a13 ?l13 ?c13 ?k13 (fun _ _ _ _ _ _ us hl => match us, hl with | [_, _], _ => rfl))
      ?mlI ?mcI ?mqI
      ?mlP ?mcP ?mqP
      ?mlL ?mcL ?mqL
      ?mlQ ?mcQ ?mqQ
      ?mlZ ?mcZ ?mqZ
      ?mlW ?mcW ?mqW
      ?mlS ?mcS ?mqS
      ⟨?mkI, ?aiI, ?fiI, ?kcI⟩
      ⟨?tP1, ?tP2, ?tP3⟩
      ⟨?tL1, ?tL2, ?tL3⟩
      ⟨?tQ1, ?tQ2, ?tQ3⟩
      ⟨?tZ1, ?tZ2, ?tZ3⟩
      ⟨?tW1, ?tW2, ?tW3⟩
      ⟨?tS1, ?tS2, ?tS3⟩
      ⟨PySem.W.mg_of KX G ?gG, ⟨?pg1, ?hd1, ?po1, ?sa1⟩, ?na1, ?na2, ?na3, PySem.W.mg_none_of KX G ?zl0, PySem.W.mg_none_of KX G ?zl1, PySem.W.mg_none_of KX G ?zl2, PySem.W.mg_none_of KX G ?zl3, PySem.W.mg_none_of KX G ?zl4, PySem.W.mg_none_of KX G ?zl5, PySem.W.mg_none_of KX G ?zl6, PySem.W.mg_none_of KX G ?zl7, PySem.W.mg_none_of KX G ?zl8, PySem.W.mg_none_of KX G ?zl9, PySem.W.mg_none_of KX G ?zl10⟩
      ?lT
      ?sT
      ?rM
      ⟨⟨PySem.W.mg_of KX G ?gT, ?eT⟩, ⟨PySem.W.mg_of KX G ?gR, ?eR⟩⟩
      ⟨PySem.W.mg_of KX G ?gr0, PySem.W.mg_of KX G ?gr1, PySem.W.mg_of KX G ?gr2, PySem.W.mg_of KX G ?gr3, PySem.W.mg_of KX G ?gr4, PySem.W.mg_of KX G ?gr5, PySem.W.mg_of KX G ?gr6, PySem.W.mg_none_of KX G ?zv⟩
      ⟨⟨?kaq0, ?kaq1, ?kaq2, ?kaq3, ?kaq4⟩, ?kah, ?kav, ?kan0, ?kan1, ?kan2, ?kan3, ?kan4, ?kan5⟩
      ⟨⟨?kbq0, ?kbq1, ?kbq2, ?kbq3, ?kbq4⟩, ?kbh, ?kbv, ?kbn0, ?kbn1, ?kbn2, ?kbn3, ?kbn4, ?kbn5⟩
      ?nrt
      ?ntr
      ?hb
    (case a0 => k_is); (case l0 => k_is); (case c0 => k_is); (case k0 => k_is)
    (case a1 => k_is); (case l1 => k_is); (case c1 => k_is); (case k1 => k_is)
    (case a2 => k_is); (case l2 => k_is); (case c2 => k_is); (case k2 => k_is)
    (case a3 => k_is); (case l3 => k_is); (case c3 => k_is); (case k3 => k_is)
    (case a4 => k_is); (case l4 => k_is); (case c4 => k_is); (case k4 => k_is)
    (case a5 => k_is); (case l5 => k_is); (case c5 => k_is); (case k5 => k_is)
    (case a6 => k_is); (case l6 => k_is); (case c6 => k_is); (case k6 => k_is)
    (case a7 => k_is); (case l7 => k_is); (case c7 => k_is); (case k7 => k_is)
    (case a8 => k_is); (case l8 => k_is); (case c8 => k_is); (case k8 => k_is)
    (case a9 => k_is); (case l9 => k_is); (case c9 => k_is); (case k9 => k_is)
    (case a10 => k_is); (case l10 => k_is); (case c10 => k_is); (case k10 => k_is)
    (case a11 => k_is); (case l11 => k_is); (case c11 => k_is); (case k11 => k_is)
    (case a12 => k_is); (case l12 => k_is); (case c12 => k_is); (case k12 => k_is)
    (case a13 => k_is); (case l13 => k_is); (case c13 => k_is); (case k13 => k_is)
    (case gG => k_is)
    (case gT => k_is)
    (case gR => k_is)
    (case gr0 => k_is)
    (case gr1 => k_is)
    (case gr2 => k_is)
    (case gr3 => k_is)
    (case gr4 => k_is)
    (case gr5 => k_is)
    (case gr6 => k_is)
    (case aiI => k_is)
    (case mlI => k_is); (case mcI => k_is); (case mqI => k_is)
    (case tP1 => k_is)
    (case mlP => k_is); (case mcP => k_is); (case mqP => k_is)
    (case tL1 => k_is)
    (case mlL => k_is); (case mcL => k_is); (case mqL => k_is)
    (case tQ1 => k_is)
    (case mlQ => k_is); (case mcQ => k_is); (case mqQ => k_is)
    (case tZ1 => k_is)
    (case mlZ => k_is); (case mcZ => k_is); (case mqZ => k_is)
    (case tW1 => k_is)
    (case mlW => k_is); (case mcW => k_is); (case mqW => k_is)
    (case tS1 => k_is)
    (case mlS => k_is); (case mcS => k_is); (case mqS => k_is)
    (case mkI => k_is); (case fiI => k_is); (case kcI => k_is)
    (case tP2 => k_is); (case tP3 => k_is)
    (case tL2 => k_is); (case tL3 => k_is)
    (case tQ2 => k_is); (case tQ3 => k_is)
    (case tZ2 => k_is); (case tZ3 => k_is)
    (case tW2 => k_is); (case tW3 => k_is)
    (case tS2 => k_is); (case tS3 => k_is)
    (case pg1 => k_is)
    (case hd1 => k_is)
    (case po1 => k_is)
    (case sa1 => k_is)
    (case na1 => unfold L2.NoAttr; k_is)
    (case na2 => unfold L2.NoAttr; k_is)
    (case na3 => unfold L2.NoAttr; k_is)
    (case zl0 => k_is)
    (case zl1 => k_is)
    (case zl2 => k_is)
    (case zl3 => k_is)
    (case zl4 => k_is)
    (case zl5 => k_is)
    (case zl6 => k_is)
    (case zl7 => k_is)
    (case zl8 => k_is)
    (case zl9 => k_is)
    (case zl10 => k_is)
    (case lT => k_is)
    (case sT => exact ⟨_, rfl⟩)
    (case rM => exact ⟨_, rfl⟩)
    (case eT => k_exc)
    (case eR => k_exc)
    (case zv => k_is)
    (case kaq0 => k_is)
    (case kaq1 => k_is)
    (case kaq2 => k_is)
    (case kaq3 => k_is)
    (case kaq4 => k_is)
    (case kah => kts_exm)
    (case kav => kit_is)
    (case kan0 => kit_is)
    (case kan1 => kit_is)
    (case kan2 => kit_is)
    (case kan3 => kit_is)
    (case kan4 => kit_is)
    (case kan5 => kit_is)
    (case kbq0 => k_is)
    (case kbq1 => k_is)
    (case kbq2 => k_is)
    (case kbq3 => k_is)
    (case kbq4 => k_is)
    (case kbh => kts_exm)
    (case kbv => kit_is)
    (case kbn0 => kit_is)
    (case kbn1 => kit_is)
    (case kbn2 => kit_is)
    (case kbn3 => kit_is)
    (case kbn4 => kit_is)
    (case kbn5 => kit_is)
    (case nrt => kit_is)
    (case ntr => kit_is)
    (case hb => exact fun s u => .of_eq rfl)
