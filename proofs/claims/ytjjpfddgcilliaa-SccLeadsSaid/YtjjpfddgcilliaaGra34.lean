/-
  GRAPHS, the document's side: Drop.
-/
import Derived.Test.YtjjpfddgcilliaaGra32
set_option linter.unusedSimpArgs false
set_option linter.unusedVariables false
namespace Go.Proofs.Ytjjpfddgcilliaa
open Go.RowKit Go.Shelf Go.Sort Go.Lib Go.Maps
set_option maxRecDepth 100000

theorem flR_one {Z : List (Ce × Value)} (h : ∀ z ∈ Z, z.2.oneCell' = true) : ∀ u ∈ flR Z, u.oneCell' = true := by
  intro u hu
  unfold flR at hu
  obtain ⟨z, hz, h2⟩ := List.mem_flatMap.1 hu
  simp [rowL] at h2
  rcases h2 with rfl | rfl | rfl | rfl
  · rfl
  · rfl
  · rfl
  · exact h z hz
theorem own_slice {W : World} {base : Nat} {e : TypeId} {size : Nat} {v : Value} {n : Nat} {xs : List Value} (h : W.ownsRow base e size v n xs) : ∃ a c, v = .slice a n c := by
  rcases h.2 with ⟨rfl, rfl⟩ | ⟨g, cap, _, rfl, _⟩
  · exact ⟨none, 0, rfl⟩
  · exact ⟨_, _, rfl⟩
end Go.Proofs.Ytjjpfddgcilliaa
