/-
  LAYER 25, 27: THE ORDER OF CELLS: the program's Less, and the function that it sorts by.
-/
import Derived.Test.YtjjpfddgcilliaaGra1
import Derived.Test.YtjjpfddgcilliaaShelfG
import Derived.Deep.LoopGhost
set_option linter.unusedSimpArgs false
set_option linter.unusedVariables false
namespace Go.Proofs.Ytjjpfddgcilliaa
open Go.RowKit Go.Shelf Go.Sort Go.Lib
set_option maxRecDepth 100000

/-- the first of three numbers that is not 0. -/
def or3 (x y z : Int) : Int := if x ≠ 0 then x else if y ≠ 0 then y else z
def nth3 (x y z : Int) : Nat → Int
  | 0 => x
  | 1 => y
  | _ => z
theorem or3_hit {x y z : Int} {k : Nat} (hk : k < 3) (h0 : ∀ j, j < k → nth3 x y z j = 0) (h : nth3 x y z k ≠ 0) : or3 x y z = nth3 x y z k := by
  match k, hk with
  | 0, _ => have h' : x ≠ 0 := h
            unfold or3; rw [if_pos h']; rfl
  | 1, _ => have a : x = 0 := h0 0 (by omega)
            have h' : y ≠ 0 := h
            unfold or3; rw [if_neg (by omega), if_pos h']; rfl
  | 2, _ => have a : x = 0 := h0 0 (by omega)
            have b : y = 0 := h0 1 (by omega)
            unfold or3; rw [if_neg (by omega), if_neg (by omega)]; rfl
theorem or3_none {x y z : Int} (h0 : ∀ j, j < 3 → nth3 x y z j = 0) : or3 x y z = 0 := by
  have a : x = 0 := h0 0 (by omega)
  have b : y = 0 := h0 1 (by omega)
  have c : z = 0 := h0 2 (by omega)
  unfold or3; rw [if_neg (by omega), if_neg (by omega)]; exact c
set_option maxRecDepth 100000 in
set_option maxHeartbeats 1000000 in
theorem cmpOr_any (g cap : Nat) (x y z : Int) (w : World) (k : ∀ j, j < 3 → w.cell? ⟨g, j, none⟩ = some (.int .i64 (nth3 x y z j))) :
    Calls Try.prog 79 #[.slice (some ⟨g, 0, none⟩) 3 cap] w fun e w' => e = .returned (.int .i64 (or3 x y z)) ∧ w' = w := by
  have HK := Lib.hid k
  clear k
  have HH : Hid (∀ k, k < 3 → (∀ j, j < k → nth3 x y z j = 0) → nth3 x y z k ≠ 0 → or3 x y z = nth3 x y z k) := Lib.hid fun k => or3_hit
  have HN : Hid ((∀ j, j < 3 → nth3 x y z j = 0) → or3 x y z = 0) := Lib.hid or3_none
  generalize or3 x y z = R at *
  generalize nth3 x y z = f at *
  go_enter Try.func79, Try.ntmps79
  go_wp2
  go_loopw [8] (fun i wr => ∃ k : Nat, k ≤ 3 ∧ i = .int .i64 k ∧ (∀ j, j < k → f j = 0) ∧ wr = w) (fun i _ => 3 - (intOf i).toNat)
  case atStart => exact ⟨0, by omega, rfl, fun j hj => absurd hj (by omega), rfl⟩
  case round =>
    obtain ⟨k, hk, rfl, hz, rfl⟩ := hrel
    by_cases hlt : k < 3
    · have c0 := HK.out k hlt
      have H1 := Lib.hid (HH.out k hlt hz)
      have HZ := Lib.hid hz
      clear hz
      obtain ⟨u, hu⟩ : ∃ u, u = f k := ⟨_, rfl⟩
      rw [← hu] at c0
      by_cases h0 : u = 0
      · have HU := Lib.hid (hu.symm.trans h0)
        clear hu
        subst h0
        go_wp2
        go_roundw
        case rel => exact ⟨k + 1, by omega, by go_num, fun j hj => if e : j = k then e ▸ HU.out else HZ.out j (by omega), by first | rfl | trivial⟩
        case measure => simp [intOf]; omega
      · have hb : (u != 0) = true := by simp [h0]
        have HU := Lib.hid hu
        have HR := Lib.hid ((H1.out (by rw [← hu]; exact h0)).trans hu.symm)
        clear hu
        go_wp2
        go_ret
        exact ⟨ret_int HR.out.symm, rfl⟩
    · obtain rfl : k = 3 := by omega
      have HR := Lib.hid (HN.out hz)
      clear hz
      go_wp2
      go_ret
      exact ⟨ret_int HR.out.symm, rfl⟩
theorem cmpI_def (a b : Int) : Lib.compareInt a b = if a < b then -1 else if b < a then 1 else 0 := by unfold Lib.compareInt; rfl
theorem less_or3 (x y : Ce) : decide (or3 (Lib.compareInt x.1 y.1) (Lib.compareInt x.2.2 y.2.2) (Lib.compareInt x.2.1 y.2.1) < 0) = cLt x y := by
  have e : (or3 (Lib.compareInt x.1 y.1) (Lib.compareInt x.2.2 y.2.2) (Lib.compareInt x.2.1 y.2.1) < 0) ↔ (x.1 < y.1 ∨ x.1 = y.1 ∧ (x.2.2 < y.2.2 ∨ x.2.2 = y.2.2 ∧ x.2.1 < y.2.1)) := by
    obtain ⟨a, b, c⟩ := x
    obtain ⟨a', b', c'⟩ := y
    simp only
    unfold or3
    rw [cmpI_def, cmpI_def, cmpI_def]
    rcases Int.lt_trichotomy a a' with h | h | h
    · simp [h]
    · subst h
      rcases Int.lt_trichotomy c c' with h | h | h
      · simp [h]
      · subst h
        rcases Int.lt_trichotomy b b' with h | h | h
        · simp [h]
        · subst h; simp
        · have : ¬ b < b' := by omega
          simp [h, this]
      · have h1 : ¬ c < c' := by omega
        have h2 : ¬ c = c' := by omega
        simp [h, h1, h2]
    · have h1 : ¬ a < a' := by omega
      have h2 : ¬ a = a' := by omega
      simp [h, h1, h2]
  unfold cLt
  exact decide_eq_decide.2 e
end Go.Proofs.Ytjjpfddgcilliaa
