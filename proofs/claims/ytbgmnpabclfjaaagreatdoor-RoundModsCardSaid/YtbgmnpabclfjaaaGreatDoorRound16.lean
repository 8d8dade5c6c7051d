/-
  WHAT LAYER 6's STATEMENTS SAY MORE: a whole part's bounds, what has no more places, the rest's sign and amount, the root of a square.
-/
import Derived.Test.YtbgmnpabclfjaaaGreatDoorRound11
import Derived.Test.YtbgmnpabclfjaaaGreatDoorRound8
namespace Go.Proofs.YtbgmnpabclfjaaaGreatDoor
open Go.RowKit Go.Shelf
set_option linter.unusedSimpArgs false
set_option linter.unusedVariables false

theorem cmpI_lt {x y : Int} (h : x < y) : cmpI' x y < 0 := by unfold cmpI'; rw [if_pos h]; omega
theorem mk_ok {x y : Int} (h : mkE x y = 0) : RtOk (mkR x y) ∧ y ≠ 0 ∧ mkR x y = ⟨(zb x != zb y) && decide (mkN x y ≠ 0), mkN x y, mkD x y⟩ := by
  by_cases h0 : y = 0
  · rw [(mk_zero h0).2] at h; omega
  by_cases hb : 256 < Nt.blen (mkN x y) ∨ 256 < Nt.blen (mkD x y)
  · rw [(mk_big h0 hb).2] at h; omega
  obtain ⟨e1, _⟩ := mk_fine h0 hb
  rw [e1]
  have hyn : y.natAbs ≠ 0 := by omega
  have hg := Nat.gcd_pos_of_pos_right x.natAbs (Nat.pos_of_ne_zero hyn)
  refine ⟨⟨?_, div_gcd_one hyn, (show Nt.blen (mkN x y) ≤ 256 by omega), (show Nt.blen (mkD x y) ≤ 256 by omega), fun h => ?_⟩, h0, rfl⟩
  · have := Nat.div_pos (Nat.le_of_dvd (Nat.pos_of_ne_zero hyn) (Nat.gcd_dvd_right x.natAbs y.natAbs)) hg
    show mkD x y ≠ 0
    unfold mkD
    omega
  · have h : mkN x y = 0 := h
    show ((zb x != zb y) && decide (mkN x y ≠ 0)) = false
    rw [h]; simp
theorem mkN_mul (x y : Int) : mkN x y * Nat.gcd x.natAbs y.natAbs = x.natAbs := Nat.div_mul_cancel (Nat.gcd_dvd_left _ _)
theorem mkD_mul (x y : Int) : mkD x y * Nat.gcd x.natAbs y.natAbs = y.natAbs := Nat.div_mul_cancel (Nat.gcd_dvd_right _ _)
/-- the amounts, crosswise. -/
theorem mk_cross (x y : Int) : mkN x y * y.natAbs = x.natAbs * mkD x y := by
  have h1 := mkN_mul x y
  have h2 := mkD_mul x y
  generalize mkN x y = a at *
  generalize mkD x y = b at *
  generalize Nat.gcd x.natAbs y.natAbs = g at *
  rw [← h1, ← h2, Nat.mul_comm b, Nat.mul_assoc]
/-- what has no more places stays. -/
theorem rd_again {s : Bool} {S : Nat} {n : Int} (hn1 : -60 ≤ n) (hn2 : n ≤ 60) (hE : mkE (sI s (S * tenN (-n))) (tenN n) = 0) (P : Away) (hP : ∀ u, u ≠ 0 → P 0 u = false) :
    rdR P (mkR (sI s (S * tenN (-n))) (tenN n)) n = mkR (sI s (S * tenN (-n))) (tenN n) ∧ rdE P (mkR (sI s (S * tenN (-n))) (tenN n)) n = 0 := by
  obtain ⟨hok, h0, he⟩ := mk_ok hE
  have key : rdX P (mkR (sI s (S * tenN (-n))) (tenN n)) n = sI s (S * tenN (-n)) := by
    have hcr := mk_cross (sI s (S * tenN (-n))) (tenN n)
    have hN0 : mkN (sI s (S * tenN (-n))) (tenN n) = 0 ↔ S * tenN (-n) = 0 := by
      have hm := mkN_mul (sI s (S * tenN (-n))) (tenN n)
      rw [sI_abs] at hm
      constructor
      · intro h; rw [h, Nat.zero_mul] at hm; exact hm.symm
      · intro h; unfold mkN; rw [sI_abs, h, Nat.zero_div]
    have hz : S * tenN (-n) ≠ 0 → zb (sI s (S * tenN (-n))) = s := fun h => sI_zb h
    rw [he] at hok ⊢
    rw [sI_abs, Int.natAbs_natCast] at hcr
    rw [zb_cast]
    generalize zb (sI s (S * tenN (-n))) = b at *
    generalize mkN (sI s (S * tenN (-n))) (tenN n) = N at *
    generalize mkD (sI s (S * tenN (-n))) (tenN n) = D at *
    have hD : D ≠ 0 := hok.1
    have ht := tenN_pos (-n)
    unfold rdX rdS
    show sI ((b != false) && decide (N ≠ 0)) ((N * tenN n / (D * tenN (-n)) + if P (N * tenN n % (D * tenN (-n))) (D * tenN (-n)) then 1 else 0) * tenN (-n)) = _
    generalize tenN (-n) = m at *
    generalize tenN n = B at *
    have e1 : N * B = D * m * S := by rw [hcr, Nat.mul_comm S m, Nat.mul_comm (m * S) D, Nat.mul_assoc]
    have hp : 0 < D * m := Nat.mul_pos (Nat.pos_of_ne_zero hD) (Nat.pos_of_ne_zero ht)
    rw [e1, Nat.mul_div_cancel_left S hp, Nat.mul_mod_right, hP _ (Nat.ne_of_gt hp)]
    by_cases hS : S * m = 0
    · have hn := hN0.2 hS
      rw [hn]
      simp [sI, hS]
    · rw [hz hS, decide_eq_true (show N ≠ 0 from fun h => hS (hN0.1 h))]
      simp
  unfold rdR rdE
  rw [if_neg (by omega), if_neg (by omega), key]
  exact ⟨rfl, hE⟩
theorem rd_stays {Q : Rt} {n : Int} (hn1 : -60 ≤ n) (hn2 : n ≤ 60) (hE : rdE awayDown Q n = 0) :
    RtOk (rdR awayDown Q n) ∧ (∀ P, P = awayDown ∨ P = awayUp ∨ P = awayHalf → rdR P (rdR awayDown Q n) n = rdR awayDown Q n ∧ rdE P (rdR awayDown Q n) n = 0) := by
  have e1 : rdR awayDown Q n = mkR (rdX awayDown Q n) (tenN n) := by unfold rdR; rw [if_neg (by omega)]
  have e2 : rdE awayDown Q n = mkE (rdX awayDown Q n) (tenN n) := by unfold rdE; rw [if_neg (by omega)]
  rw [e2] at hE
  rw [e1]
  have hx : rdX awayDown Q n = sI Q.neg (rdS awayDown Q n * tenN (-n)) := rfl
  rw [hx] at hE ⊢
  refine ⟨(mk_ok hE).1, fun P hP => rd_again hn1 hn2 hE P fun u hu => ?_⟩
  rcases hP with rfl | rfl | rfl
  · rfl
  · rfl
  · exact decide_eq_false (by omega)
theorem rdE_far {P : Away} {Q : Rt} {n : Int} (h : rdE P Q n = 0) : -60 ≤ n ∧ n ≤ 60 := by
  unfold rdE at h
  split at h
  · omega
  · omega
end Go.Proofs.YtbgmnpabclfjaaaGreatDoor
