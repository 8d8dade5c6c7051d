/-
  GRAPHS, the document's side: a cell put in at its place; parts of a list in memory.
-/
import Derived.Test.YtjjpfddgcilliaaGra25
import Derived.Deep.Onto
set_option linter.unusedSimpArgs false
set_option linter.unusedVariables false
namespace Go.Proofs.Ytjjpfddgcilliaa
open Go.RowKit Go.Shelf Go.Sort Go.Lib Go.Maps
set_option maxRecDepth 100000

theorem cLt_asymm' {x y : Ce} (h : cLt x y = true) : cLt y x = false := by
  cases h2 : cLt y x with
  | false => rfl
  | true => have := cLt_trans h h2; rw [cLt_irrefl] at this; cases this
/-- where it stands already, or goes in. -/
theorem insC_here (x : Ce) : ∀ (l : List Ce) (j : Nat), j ≤ l.length → (∀ i (h : i < l.length), i < j → cLt l[i] x = true) → (∀ h : j < l.length, l[j] = x) → j < l.length → insC x l = l
  | [], j, _, _, _, h => absurd h (by simp)
  | y :: r, 0, _, _, he, h => by
    have e : y = x := he h
    subst e
    unfold insC
    rw [cLt_irrefl]
    simp
  | y :: r, j + 1, hj, hp, he, h => by
    have h0 : cLt y x = true := hp 0 (by simp) (by omega)
    unfold insC
    rw [cLt_asymm' h0, h0]
    simp only [Bool.false_eq_true, if_false, if_true]
    rw [insC_here x r j (by simpa using hj) (fun i hi hij => hp (i + 1) (by simpa using hi) (by omega)) (fun hh => he (by simpa using hh)) (by simpa using h)]
theorem insC_at (x : Ce) : ∀ (l : List Ce) (j : Nat), j ≤ l.length → (∀ i (h : i < l.length), i < j → cLt l[i] x = true) → (∀ h : j < l.length, cLt l[j] x = false ∧ l[j] ≠ x) → insC x l = l.take j ++ ([x] ++ l.drop j)
  | [], j, hj, _, _ => by
    obtain rfl : j = 0 := by simpa using hj
    rfl
  | y :: r, 0, _, _, he => by
    obtain ⟨h1, h2⟩ := he (by simp)
    have h1 : cLt y x = false := h1
    have h2 : y ≠ x := h2
    unfold insC
    have h3 : cLt x y = true := by
      cases h3 : cLt x y with
      | true => rfl
      | false => exact absurd (cLt_total h1 h3) h2
    rw [h3]; rfl
  | y :: r, j + 1, hj, hp, he => by
    have h0 : cLt y x = true := hp 0 (by simp) (by omega)
    unfold insC
    rw [cLt_asymm' h0, h0]
    simp only [Bool.false_eq_true, if_false, if_true]
    rw [insC_at x r j (by simpa using hj) (fun i hi hij => hp (i + 1) (by simpa using hi) (by omega)) (fun hh => he (by simpa using hh))]
    rfl
theorem flC_take (l : List Ce) (j : Nat) : ∀ (i : Nat) (u : Value), (flC (l.take j))[i]? = some u → (flC l)[i]? = some u := fun i u h => by
  have e : flC l = flC (l.take j) ++ flC (l.drop j) := by rw [← flC_append, List.take_append_drop]
  rw [e, List.getElem?_append_left (List.getElem?_eq_some_iff.1 h).1]; exact h
theorem flC_drop (l : List Ce) (j : Nat) (hj : j ≤ l.length) : ∀ (i : Nat) (u : Value), (flC (l.drop j))[i]? = some u → (flC l)[j * 3 + i]? = some u := fun i u h => by
  have e : flC l = flC (l.take j) ++ flC (l.drop j) := by rw [← flC_append, List.take_append_drop]
  have hl : (flC (l.take j)).length = j * 3 := by rw [flC_length, List.length_take, Nat.min_eq_left hj]
  rw [e, List.getElem?_append_right (by omega), hl, Nat.add_sub_cancel_left]; exact h
theorem CsAt.take {W : World} {g o n cap cap' : Nat} {l : List Ce} (h : CsAt W (.slice (some ⟨g, o, none⟩) n cap) l) {j : Nat} (hj : j ≤ l.length) : CsAt W (.slice (some ⟨g, o, none⟩) j cap') (l.take j) := by
  rcases h with ⟨h, _⟩ | ⟨g', o', c', hv, hg, hc⟩
  · cases h
  · cases hv
    exact Or.inr ⟨g, o, cap', by rw [List.length_take, Nat.min_eq_left hj], hg, fun i u hi => hc i u (flC_take l j i u hi)⟩
theorem CsAt.drop {W : World} {g o n cap cap' m : Nat} {l : List Ce} (h : CsAt W (.slice (some ⟨g, o, none⟩) n cap) l) {j : Nat} (hj : j ≤ l.length) (hm : m = l.length - j) : CsAt W (.slice (some ⟨g, o + j * 3, none⟩) m cap') (l.drop j) := by
  rcases h with ⟨h, _⟩ | ⟨g', o', c', hv, hg, hc⟩
  · cases h
  · cases hv
    exact Or.inr ⟨g, o + j * 3, cap', by rw [List.length_drop, hm], hg, fun i u hi => by rw [Nat.add_assoc]; exact hc _ u (flC_drop l j hj i u hi)⟩
/-- the cells of a list that came in. -/
theorem LstAt.cells {W : World} {v : Value} {l : List Ce} (h : LstAt W v l) : ∃ (a : Option Addr) (cap : Nat), v = .slice a l.length cap ∧ ∀ k (hk : k < l.length), ∃ g o, a = some ⟨g, o, none⟩ ∧ g < W.heap.size ∧ W.cell? ⟨g, o + k * 3, none⟩ = some (.int .i64 l[k].1) ∧ W.cell? ⟨g, o + k * 3 + 1, none⟩ = some (.int .i64 l[k].2.1) ∧ W.cell? ⟨g, o + k * 3 + 2, none⟩ = some (.int .i64 l[k].2.2) := by
  rcases h with h | ⟨a, rfl, rfl⟩
  · exact h.shape
  · exact ⟨some a, 0, rfl, fun k hk => absurd hk (by simp)⟩
theorem onc_take_succ (l : List Ce) (k : Nat) (h : k < l.length) : onc (l.take (k + 1)) = insC l[k] (onc (l.take k)) := by rw [take_snoc l k h, onc_snoc]
end Go.Proofs.Ytjjpfddgcilliaa
