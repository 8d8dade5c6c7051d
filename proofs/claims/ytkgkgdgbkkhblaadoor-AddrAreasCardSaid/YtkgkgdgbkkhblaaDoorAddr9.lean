/-
  LAYER 10, AREAS: lists of cells; the document's Cells.
-/
import Derived.Test.YtkgkgdgbkkhblaaDoorAddr8
import Derived.Laws.AppendOwn
import Derived.OwnWalk
namespace Go.Proofs.YtkgkgdgbkkhblaaDoor
open Go.RowKit Go.Shelf
set_option linter.unusedSimpArgs false
set_option linter.unusedVariables false

theorem Tryd.infoCell : (Tryd.prog.info? 44).map (fun i => (i.zero, i.size, i.bytes)) = some (some (.agg #[.int .i64 0, .int .i64 0, .int .i64 0]), 3, 24) := by kernel_rfl
/-- the first k cells of an area that is nc columns wide, row by row: what memory holds of them. -/
def cellsF (sheet a b : Int) (nc : Nat) : Nat → List Value
  | 0 => []
  | k + 1 => cellsF sheet a b nc k ++ [.int .i64 sheet, .int .i64 (a + (k % nc : Nat)), .int .i64 (b + (k / nc : Nat))]
theorem cellsF_length (sheet a b : Int) (nc k : Nat) : (cellsF sheet a b nc k).length = 3 * k := by
  induction k with
  | zero => rfl
  | succ k ih => rw [cellsF, List.length_append, ih]; simp; omega
theorem cellsF_get (sheet a b : Int) (nc : Nat) : ∀ n k : Nat, k < n →
    (cellsF sheet a b nc n)[3 * k]? = some (.int .i64 sheet) ∧ (cellsF sheet a b nc n)[3 * k + 1]? = some (.int .i64 (a + (k % nc : Nat))) ∧ (cellsF sheet a b nc n)[3 * k + 2]? = some (.int .i64 (b + (k / nc : Nat))) := by
  intro n
  induction n with
  | zero => intro k h; omega
  | succ n ih =>
    intro k h
    have hl := cellsF_length sheet a b nc n
    by_cases hk : k < n
    · obtain ⟨h1, h2, h3⟩ := ih k hk
      rw [cellsF]
      refine ⟨?_, ?_, ?_⟩
      · rw [List.getElem?_append_left (by omega)]; exact h1
      · rw [List.getElem?_append_left (by omega)]; exact h2
      · rw [List.getElem?_append_left (by omega)]; exact h3
    · obtain rfl : k = n := by omega
      rw [cellsF]
      refine ⟨?_, ?_, ?_⟩
      · rw [List.getElem?_append_right (by omega), hl]; simp
      · rw [List.getElem?_append_right (by omega), hl, show 3 * k + 1 - 3 * k = 1 from by omega]; rfl
      · rw [List.getElem?_append_right (by omega), hl, show 3 * k + 2 - 3 * k = 2 from by omega]; rfl
theorem cellsF_step (sheet a b : Int) {nc i : Nat} (j : Nat) (hi : i < nc) : cellsF sheet a b nc (j * nc + (i + 1)) = cellsF sheet a b nc (j * nc + i) ++ [.int .i64 sheet, .int .i64 (a + i), .int .i64 (b + j)] := by
  have h1 : (j * nc + i) % nc = i := by rw [Nat.mul_comm, Nat.mul_add_mod]; exact Nat.mod_eq_of_lt hi
  have h2 : (j * nc + i) / nc = j := by
    rw [Nat.mul_comm, Nat.mul_add_div (by omega), Nat.div_eq_of_lt hi]; omega
  rw [← Nat.add_assoc, cellsF, h1, h2]
/-- a list of so many cells, as it lies in memory. -/
def CellsAt (W : World) (v : Value) (n : Nat) (sheet a b : Int) (nc : Nat) : Prop :=
  (v = .slice none 0 0 ∧ n = 0) ∨ ∃ g cap : Nat, v = .slice (some ⟨g, 0, none⟩) n cap ∧ g < W.heap.size ∧ n ≤ 200 ∧
    ∀ k, k < n → W.cell? ⟨g, 3 * k, none⟩ = some (.int .i64 sheet) ∧ W.cell? ⟨g, 3 * k + 1, none⟩ = some (.int .i64 (a + (k % nc : Nat))) ∧ W.cell? ⟨g, 3 * k + 2, none⟩ = some (.int .i64 (b + (k / nc : Nat)))
theorem CellsAt.below {W W' : World} {v : Value} {n : Nat} {sheet a b : Int} {nc : Nat} (h : CellsAt W v n sheet a b nc) (hb : Below W.heap.size W W') : CellsAt W' v n sheet a b nc := by
  rcases h with h | ⟨g, cap, hv, hg, hn, hc⟩
  · exact Or.inl h
  · refine Or.inr ⟨g, cap, hv, Nat.lt_of_lt_of_le hg hb.size, hn, fun k hk => ?_⟩
    obtain ⟨h1, h2, h3⟩ := hc k hk
    exact ⟨belK hb h1 hg, belK hb h2 hg, belK hb h3 hg⟩
theorem CellsAt.of_owns {W : World} {v : Value} {n base : Nat} {t : TypeId} {sheet a b : Int} {nc : Nat} (h : W.ownsRow base t 3 v n (cellsF sheet a b nc n)) (hn : n ≤ 200) : CellsAt W v n sheet a b nc := by
  have hl := cellsF_length sheet a b nc n
  rcases h.2 with ⟨hv, hx⟩ | ⟨g, cap, cur, hv, _, hgg, _⟩
  · refine Or.inl ⟨hv, ?_⟩
    rw [hx] at hl; simp at hl; omega
  · refine Or.inr ⟨g, cap, hv, (Array.getElem?_eq_some_iff.1 hgg).1, hn, fun k hk => ?_⟩
    have hadd : ∀ j, (⟨g, 0, none⟩ : Addr).add j = ⟨g, j, none⟩ := fun j => by unfold Addr.add; split <;> simp_all
    obtain ⟨h1, h2, h3⟩ := cellsF_get sheet a b nc n k hk
    have hc := h.cells (g := g) (by rw [hv]; rfl)
    have c1 := hc _ _ h1
    have c2 := hc _ _ h2
    have c3 := hc _ _ h3
    rw [hadd] at c1 c2 c3
    exact ⟨c1, c2, c3⟩
theorem cell_three_new (w : World) (x y z : Value) (t : TypeId) : ∀ (j : Nat) u, [x, y, z][j]? = some u → (w.alloc (.cells #[x, y, z] t)).cell? ((⟨w.heap.size, 0, none⟩ : Addr).add j) = some u := by
  intro j u hj
  match j, hj with
  | 0, hj => simp at hj; subst hj; simp [Addr.add, go_sem]
  | 1, hj => simp at hj; subst hj; simp [Addr.add, go_sem]
  | 2, hj => simp at hj; subst hj; simp [Addr.add, go_sem]
theorem three_cells (x y z : Int) : ∀ u ∈ [Value.int .i64 x, Value.int .i64 y, Value.int .i64 z], u.oneCell' = true := by simp [Value.oneCell']
/-- how many, as a natural. -/
def cntN (a b c d : Int) : Nat := if nrmB a b c d then (c - a + 1).toNat * (d - b + 1).toNat else 0
end Go.Proofs.YtkgkgdgbkkhblaaDoor
