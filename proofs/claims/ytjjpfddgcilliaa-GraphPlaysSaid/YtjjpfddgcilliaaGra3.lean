/-
  LAYER 28: MAPS KEYED BY CELLS, as functions of cells: what is looked up, stored, taken out, counted.
-/
import Derived.Test.YtjjpfddgcilliaaGra2
set_option linter.unusedSimpArgs false
set_option linter.unusedVariables false
namespace Go.Proofs.Ytjjpfddgcilliaa
open Go.RowKit Go.Shelf Go.Sort Go.Lib Go.Maps
set_option maxRecDepth 100000

/-- an element as it stands. -/
def rawR (v : Value) : Option (DataW Value × List MemPlace) := some (.held v, [])
/-- block b is a map of at most n entries, which holds f. -/
def MapAt (W : World) (b n : Nat) (f : Ce → Option Value) : Prop :=
  (∃ D : DataW Value, W.ownsMap Try.prog 32 rawR b n D ∧ ∀ x, okC x → ∀ z, D.atKey (klC x) z = (match f x with | some v => .held v | none => z)) ∧ ∀ x v, f x = some v → okC x
theorem MapAt.mono {W : World} {b n n' : Nat} {f : Ce → Option Value} (h : MapAt W b n f) (hn : n ≤ n') : MapAt W b n' f := by
  obtain ⟨⟨D, h1, h2⟩, h3⟩ := h; exact ⟨⟨D, h1.mono hn, h2⟩, h3⟩
theorem MapAt.lt {W : World} {b n : Nat} {f : Ce → Option Value} (h : MapAt W b n f) : b < W.heap.size := by obtain ⟨⟨D, h1, _⟩, _⟩ := h; exact h1.lt
theorem MapAt.isMap {W : World} {b n : Nat} {f : Ce → Option Value} (h : MapAt W b n f) : ∃ es c, W.heap[b]? = some (.map es c) := by obtain ⟨⟨D, ⟨es, c, hb, _⟩, _⟩, _⟩ := h; exact ⟨es, c, hb⟩
theorem MapAt.blk {W W' : World} {b n : Nat} {f : Ce → Option Value} (h : MapAt W b n f) (hb : W'.heap[b]? = W.heap[b]?) : MapAt W' b n f := by
  obtain ⟨⟨D, ⟨es, c, h0, r⟩, h2⟩, h3⟩ := h; exact ⟨⟨D, ⟨es, c, hb.trans h0, r⟩, h2⟩, h3⟩
theorem MapAt.kept {W W' : World} {row : Option Nat} {b n : Nat} {f : Ce → Option Value} (h : MapAt W b n f) (hg : W.grownBy W' row) (hne : some b ≠ row) : MapAt W' b n f := h.blk (hg.block b h.lt hne)
theorem MapAt.below {W W' : World} {b n : Nat} {f : Ce → Option Value} (h : MapAt W b n f) (hb : Below W.heap.size W W') : MapAt W' b n f := h.blk (hb.block b h.lt)
theorem MapAt.congr {W : World} {b n : Nat} {f g : Ce → Option Value} (h : MapAt W b n f) (e : ∀ x, f x = g x) : MapAt W b n g := by rwa [show g = f from funext fun x => (e x).symm]
theorem MapAt.made (W : World) : MapAt (W.alloc (.map #[] 0)) W.heap.size 0 fun _ => none :=
  ⟨⟨_, World.ownsMap_made W _ _ _, fun x _ z => rfl⟩, fun _ _ h => by cases h⟩
theorem MapAt.val {D : DataW Value} {f : Ce → Option Value} {x : Ce} {y : DataW Value} (h : ∀ z, D.atKey (klC x) z = (match f x with | some v => .held v | none => z)) (hy : ∀ z, D.atKey (klC x) z = y) : ∃ v, f x = some v ∧ y = .held v := by
  cases hf : f x with
  | some v => exact ⟨v, rfl, by rw [← hy .nil, h .nil, hf]⟩
  | none =>
    rw [hf] at h
    have h1 := (h .nil).symm.trans (hy .nil)
    have h2 := (h (.agg [])).symm.trans (hy (.agg []))
    simp at h1 h2
    rw [← h1] at h2; cases h2
/-- m[x], with and without the second answer. -/
theorem MapAt.look {W : World} {b n : Nat} {f : Ce → Option Value} (h : MapAt W b n f) (c : Bool) {t e : TypeId} (ht : Try.prog.underlying t = some (.map 32 e)) {z : Value} (hz : (zeroValue e).run Try.prog W = .ok z W) {x : Ce} (hx : okC x) :
    (Instr.lookup t (.map (some b)) (mkC x) c).run Try.prog W = .ok (if c then .tuple #[(f x).getD z, .bool (f x).isSome] else (f x).getD z) W := by
  obtain ⟨⟨D, ⟨es, clock, hb, F, hs, rfl⟩, h2⟩, _⟩ := h
  have hat := h2 x hx
  rcases Maps.fit_look c Try.keyd ht hz hb F (keyOf_mkC hx) with ⟨hrun, _, h3⟩ | ⟨e0, y, _, _, hrun, hR, h3, _⟩
  · have : f x = none := by
      cases hf : f x with
      | none => rfl
      | some v =>
        rw [hf] at hat
        have h4 := (hat .nil).symm.trans (h3 .nil)
        simp at h4
    rw [hrun, this]; rfl
  · obtain ⟨v, hv, hy⟩ := MapAt.val hat h3
    simp [rawR] at hR
    rw [← hR] at hy
    simp at hy
    rw [hrun, hv, hy]; rfl
set_option maxRecDepth 100000 in
/-- m[x] = v. -/
theorem MapAt.store {W : World} {b n : Nat} {f : Ce → Option Value} (h : MapAt W b n f) {t e : TypeId} (ht : Try.prog.underlying t = some (.map 32 e)) (hn : n < maxLen) {x : Ce} (hx : okC x) (v : Value) :
    ∃ W', (Instr.mapUpdate t (.map (some b)) (mkC x) v).run Try.prog W = .ok () W' ∧ MapAt W' b (n + 1) (fun y => if y = x then some v else f y) ∧ W.grownBy W' (some b) := by
  obtain ⟨⟨D, h1, h2⟩, h3⟩ := h
  obtain ⟨W', hr, ho, hg⟩ := h1.update Try.keyd ht hn (keyOf_mkC hx) (val := v) (d := .held v) (ps := []) rfl
  refine ⟨W', hr, ⟨⟨_, ho, fun y hy z => ?_⟩, fun y u hu => ?_⟩, hg⟩
  · by_cases e : y = x
    · subst e; rw [atKey_put_same h1.isMap (klC_key hx)]; simp
    · rw [atKey_put_other (klC_ne hx hy fun h => e h.symm)]; simp only [e, if_false]; exact h2 y hy z
  · by_cases e : y = x
    · subst e; exact hx
    · simp only [e, if_false] at hu; exact h3 y u hu
/-- delete(m, x). -/
theorem MapAt.drop {W : World} {b n : Nat} {f : Ce → Option Value} (h : MapAt W b n f) {t e : TypeId} (ht : Try.prog.underlying t = some (.map 32 e)) {x : Ce} (hx : okC x) (ty : TypeId) :
    ∃ W', (Builtin.delete_ #[t, 32] ty #[.map (some b), mkC x]).run Try.prog W = .ok (.tuple #[]) W' ∧ MapAt W' b n (fun y => if y = x then none else f y) ∧ W.grownBy W' (some b) := by
  obtain ⟨⟨D, h1, h2⟩, h3⟩ := h
  obtain ⟨W', hr, ho, hg⟩ := h1.drop Try.keyd ht (keyOf_mkC hx) ty
  refine ⟨W', hr, ⟨⟨_, ho, fun y hy z => ?_⟩, fun y u hu => ?_⟩, hg.grown⟩
  · by_cases e : y = x
    · subst e; rw [atKey_del_same]; simp
    · rw [atKey_del_other (klC_ne hx hy fun h => e h.symm)]; simp only [e, if_false]; exact h2 y hy z
  · by_cases e : y = x
    · simp only [e, if_true] at hu; cases hu
    · simp only [e, if_false] at hu; exact h3 y u hu
theorem mapKeys {W : World} {b n : Nat} {D : DataW Value} (h : W.ownsMap Try.prog 32 rawR b n D) : ∃ es, D = .map es ∧ ∀ p ∈ es, KeysOf Try.prog 32 p.1 := by
  obtain ⟨es, clock, _, F, _, rfl⟩ := h
  exact ⟨_, rfl, fun p hp => fit_keys F p (mem_sorted.1 hp)⟩
/-- len(m): 0 just where there is nothing. -/
theorem MapAt.len {W : World} {b n : Nat} {f : Ce → Option Value} (h : MapAt W b n f) {t e : TypeId} (ht : Try.prog.underlying t = some (.map 32 e)) (ty : TypeId) :
    ∃ k : Nat, k ≤ n ∧ (Builtin.len_ #[t] ty #[.map (some b)]).run Try.prog W = .ok (.int .i64 k) W ∧ (k = 0 ↔ ∀ x, f x = none) := by
  obtain ⟨⟨D, h1, h2⟩, h3⟩ := h
  refine ⟨_, h1.size_le, h1.len ht ty, ?_⟩
  obtain ⟨es, hD, hk⟩ := mapKeys h1
  constructor
  · intro h0 x
    cases hf : f x with
    | none => rfl
    | some v =>
      have hx := h3 x v hf
      have := h2 x hx .nil
      rw [hf] at this
      have hes : es = [] := by rw [hD, Maps.size_eq] at h0; exact List.length_eq_zero_iff.1 h0
      rw [hD, hes] at this
      simp [DataW.atKey] at this
  · intro hall
    rw [hD, Maps.size_eq]
    cases es with
    | nil => rfl
    | cons p r =>
      obtain ⟨v, hv⟩ := hk p (by simp)
      obtain ⟨x, _, hx, hp⟩ := keyOf_inv hv
      have h4 : has D (klC x) = true := by
        rw [hD, has_eq, ← hp]
        exact List.any_eq_true.2 ⟨p, by simp, WideAt.sameKey_self (Try.keyd.key hv)⟩
      have h5 : has D (klC x) = false := has_false_of_atKey fun z => by rw [h2 x hx z, hall x]
      rw [h4] at h5; cases h5

/-! ### at the operation, for the walk -/
section
variable {w : World} {ops : Array Oper} {rest : List Oper} {o : Oper} {a : Act} {Q : Exit → Act → World → Prop}
end
end Go.Proofs.Ytjjpfddgcilliaa
