/-
  WHAT LAYER 6's STATEMENTS SAY MORE: the rest's sign and amount, the root of a square.
-/
import Derived.Test.YtbgmnpabclfjaaaGreatDoorRound16
import Derived.Test.YtbgmnpabclfjaaaGreatDoorRound3
namespace Go.Proofs.YtbgmnpabclfjaaaGreatDoor
open Go.RowKit Go.Shelf
set_option linter.unusedSimpArgs false
set_option linter.unusedVariables false

theorem flr_sign {x y : Int} (h : y ≠ 0) : flr x y = 0 ∨ (0 < flr x y ∧ 0 < y) ∨ (flr x y < 0 ∧ y < 0) := by
  by_cases hy : 0 < y
  · have := Int.emod_nonneg x h
    rw [flr_pos hy]
    omega
  · have h1 : y < 0 := by omega
    have := Int.emod_nonneg (-x) (show -y ≠ 0 by omega)
    rw [flr_neg h1]
    omega
theorem amount_lt {N D N2 D1 D2 r : Nat} (hc : N * (D1 * D2) = r * D) (hr : r < N2 * D1) (hD : D ≠ 0) : N * D2 < N2 * D := by
  refine Nat.lt_of_not_le fun h => ?_
  have h1 : N2 * D * D1 ≤ N * D2 * D1 := Nat.mul_le_mul_right D1 h
  have h2 : r * D < N2 * D1 * D := Nat.mul_lt_mul_of_pos_right hr (Nat.pos_of_ne_zero hD)
  have e1 : N * D2 * D1 = N * (D1 * D2) := by rw [Nat.mul_assoc, Nat.mul_comm D2]
  have e2 : N2 * D * D1 = N2 * D1 * D := by rw [Nat.mul_assoc, Nat.mul_comm D, ← Nat.mul_assoc]
  rw [e1, hc, e2] at h1
  omega
theorem cmp_sign {a b : Int} (h : (0 < a ∧ 0 < b) ∨ (a < 0 ∧ b < 0)) : cmpI' a 0 = cmpI' b 0 := by
  unfold cmpI'
  rcases h with ⟨h1, h2⟩ | ⟨h1, h2⟩
  · rw [if_neg (by omega), if_neg (by omega), if_neg (by omega), if_neg (by omega)]
  · rw [if_pos h1, if_pos h2]
theorem mod_facts {q1 q2 : Rt} (h1 : RtOk q1) (h2 : RtOk q2) (hE : modE q1 q2 = 0) :
    RtOk (modR q1 q2) ∧ (topI (modR q1 q2) = 0 ∨ (topI (modR q1 q2) ≠ 0 ∧ cmpI' (topI (modR q1 q2)) 0 = cmpI' (topI q2) 0 ∧
      cmpI' (topI (absR (modR q1 q2)) * lowI (absR q2)) (topI (absR q2) * lowI (absR (modR q1 q2))) < 0)) := by
  have h0 : topI q2 ≠ 0 := fun h => by unfold modE at hE; rw [if_pos h] at hE; omega
  unfold modE at hE
  rw [if_neg h0] at hE
  have hR : modR q1 q2 = mkR (flr (topI q1 * lowI q2) (topI q2 * lowI q1)) (lowI q1 * lowI q2) := by unfold modR; rw [if_neg h0]
  rw [hR]
  have hl1 : 0 < lowI q1 := by have := h1.1; unfold lowI; omega
  have hl2 : 0 < lowI q2 := by have := h2.1; unfold lowI; omega
  have hy0 : topI q2 * lowI q1 ≠ 0 := Int.mul_ne_zero h0 (by omega)
  have hs := flr_sign (x := topI q1 * lowI q2) hy0
  have hab := flr_abs (x := topI q1 * lowI q2) hy0
  have hyp : 0 < topI q2 * lowI q1 → 0 < topI q2 := fun h => by
    refine Int.lt_of_not_ge fun h3 => ?_
    have := Int.mul_nonpos_of_nonpos_of_nonneg (show topI q2 ≤ 0 from h3) (show 0 ≤ lowI q1 by omega)
    omega
  have hyn : topI q2 * lowI q1 < 0 → topI q2 < 0 := fun h => by
    refine Int.lt_of_not_ge fun h3 => ?_
    have := Int.mul_nonneg h3 (show 0 ≤ lowI q1 by omega)
    omega
  have hya : (topI q2 * lowI q1).natAbs = q2.num * q1.den := by
    rw [Int.natAbs_mul]
    unfold topI lowI
    rw [sI_abs, Int.natAbs_natCast]
  have hz : (lowI q1 * lowI q2).natAbs = q1.den * q2.den := by rw [Int.natAbs_mul]; rfl
  have hzb : zb (lowI q1 * lowI q2) = false := by
    have := Int.mul_pos hl1 hl2
    unfold zb
    exact decide_eq_false (by omega)
  rw [hya] at hab
  obtain ⟨hok, _, he⟩ := mk_ok hE
  have hcr := mk_cross (flr (topI q1 * lowI q2) (topI q2 * lowI q1)) (lowI q1 * lowI q2)
  rw [hz] at hcr
  refine ⟨hok, ?_⟩
  rw [he] at hok ⊢
  have hD := hok.1
  rw [hzb]
  generalize flr (topI q1 * lowI q2) (topI q2 * lowI q1) = R at *
  generalize mkN R (lowI q1 * lowI q2) = N at *
  generalize mkD R (lowI q1 * lowI q2) = D at *
  have hD : D ≠ 0 := hD
  by_cases hr : R = 0
  · left
    subst hr
    have hN : N = 0 := by
      rw [Int.natAbs_zero, Nat.zero_mul] at hcr
      rcases Nat.mul_eq_zero.1 hcr with h | h
      · exact h
      · exact absurd h (Nat.mul_ne_zero h1.1 h2.1)
    rw [hN]
    exact (sI_zero_iff _ 0).2 rfl
  · right
    have hN : N ≠ 0 := fun h => by
      rw [h, Nat.zero_mul] at hcr
      rcases Nat.mul_eq_zero.1 hcr.symm with h3 | h3
      · omega
      · exact hD h3
    rw [decide_eq_true hN, Bool.bne_false, Bool.and_true]
    have ht : topI ⟨zb R, N, D⟩ = sI (zb R) N := rfl
    have hsg : (0 < topI ⟨zb R, N, D⟩ ∧ 0 < topI q2) ∨ (topI ⟨zb R, N, D⟩ < 0 ∧ topI q2 < 0) := by
      rw [ht]
      rcases hs with h | ⟨h, h3⟩ | ⟨h, h3⟩
      · exact absurd h hr
      · left
        refine ⟨?_, hyp h3⟩
        rw [show zb R = false from decide_eq_false (by omega)]
        show (0 : Int) < (N : Int)
        omega
      · right
        refine ⟨?_, hyn h3⟩
        rw [show zb R = true from decide_eq_true h]
        show -(N : Int) < 0
        omega
    refine ⟨by omega, cmp_sign hsg, cmpI_lt ?_⟩
    have := amount_lt hcr hab hD
    show (N : Int) * (q2.den : Int) < (q2.num : Int) * (D : Int)
    rw [← Int.natCast_mul, ← Int.natCast_mul]
    omega
end Go.Proofs.YtbgmnpabclfjaaaGreatDoor
