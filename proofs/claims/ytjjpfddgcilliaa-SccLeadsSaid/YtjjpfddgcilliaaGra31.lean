/-
  GRAPHS: a graph is the document's, about some cells: `like` says so.
-/
import Derived.Test.YtjjpfddgcilliaaGra30
set_option linter.unusedSimpArgs false
set_option linter.unusedVariables false
namespace Go.Proofs.Ytjjpfddgcilliaa
open Go.RowKit Go.Shelf Go.Sort Go.Lib Go.Maps
set_option maxRecDepth 100000

theorem rowOf_mem : ∀ {R : List Rw}, (R.map fun r => r.1).Nodup → ∀ r ∈ R, rowOf R r.1 = some r.2
  | [], _, _, h => by cases h
  | r0 :: R, hd, r, h => by
    rw [List.map_cons, List.nodup_cons] at hd
    rcases List.mem_cons.1 h with rfl | h
    · unfold rowOf; rw [List.find?_cons, decide_eq_true rfl]; rfl
    · have hne : r0.1 ≠ r.1 := fun e => hd.1 (e ▸ List.mem_map.2 ⟨r, h, rfl⟩)
      have ih := rowOf_mem hd.2 r h
      unfold rowOf at ih ⊢
      rw [List.find?_cons, decide_eq_false hne]
      exact ih
theorem rowOf_in {R : List Rw} {z : Ce} {l : List Ce} (h : rowOf R z = some l) : (z, l) ∈ R := by
  unfold rowOf at h
  cases hf : R.find? (fun r => decide (r.1 = z)) with
  | none => rw [hf] at h; cases h
  | some r =>
    rw [hf] at h
    cases h
    have h1 := List.find?_some hf
    have h2 := List.mem_of_find?_eq_some hf
    have h3 : r.1 = z := of_decide_eq_true h1
    rw [← h3]; exact h2
theorem some_row {R : List Rw} (hd : (R.map fun r => r.1).Nodup) (z : Ce) : z ∈ onc (R.map fun r => r.1) ↔ (rowOf R z).isSome = true := by
  rw [mem_onc, List.mem_map]
  constructor
  · rintro ⟨r, hr, rfl⟩
    rw [rowOf_mem hd r hr]; rfl
  · intro h
    cases hg : rowOf R z with
    | none => rw [hg] at h; cases h
    | some l => exact ⟨(z, l), rowOf_in hg, rfl⟩
end Go.Proofs.Ytjjpfddgcilliaa
