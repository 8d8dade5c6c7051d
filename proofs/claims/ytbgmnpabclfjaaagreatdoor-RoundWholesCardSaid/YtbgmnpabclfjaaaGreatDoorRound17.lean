/-
 WHAT LAYER 6's STATEMENTS SAY MORE: the rest's sign and amount, the root of a square.
-/
import Derived.Test.YtbgmnpabclfjaaaGreatDoorRound16
import Derived.Test.YtbgmnpabclfjaaaGreatDoorRound3
namespace Go.Proofs.YtbgmnpabclfjaaaGreatDoor
open Go.RowKit Go.Shelf
set_option linter.unusedSimpArgs false
set_option linter.unusedVariables false

theorem flr_sign {x y : Int} (h : y ≠ 0) : flr x y = 0 ∨ (0 < flr x y ∧ 0 < y) ∨ (flr x y < 0 ∧ y < 0) := by
 by_cases hy : 0 < y
 · have := Int.emod_nonneg x h
   rw [flr_pos hy]
   omega
 · have h1 : y < 0 := by omega
   have := Int.emod_nonneg (-x) (show -y ≠ 0 by omega)
   rw [flr_neg h1]
   omega
theorem top_abs (q : Rt) : topI (absR q) = (q.num : Int) ∧ lowI (absR q) = (q.den : Int) := ⟨rfl, rfl⟩
theorem amount_lt {N D N2 D1 D2 r : Nat} (hc : N * (D1 * D2) = r * D) (hr : r < N2 * D1) (hD : D ≠ 0) : N * D2 < N2 * D := by
 refine Nat.lt_of_not_le fun h => ?_
 have h1 : N2 * D * D1 ≤ N * D2 * D1 := Nat.mul_le_mul_right D1 h
 have h2 : r * D < N2 * D1 * D := Nat.mul_lt_mul_of_pos_right hr (Nat.pos_of_ne_zero hD)
 have e1 : N * D2 * D1 = N * (D1 * D2) := by rw [Nat.mul_assoc, Nat.mul_comm D2]
 have e2 : N2 * D * D1 = N2 * D1 * D := by rw [Nat.mul_assoc, Nat.mul_comm D, ← Nat.mul_assoc]
 rw [e1, hc, e2] at h1
 omega
theorem cmp_sign {a b : Int} (h : (0 < a ∧ 0 < b) ∨ (a < 0 ∧ b < 0)) : cmpI' a 0 = cmpI' b 0 := by
 unfold cmpI'
 rcases h with ⟨h1, h2⟩ | ⟨h1, h2⟩
 · rw [if_neg (by omega), if_neg (by omega), if_neg (by omega), if_neg (by omega)]
 · rw [if_pos h1, if_pos h2]
theorem mod_facts {q1 q2 : Rt} (h1 : RtOk q1) (h2 : RtOk q2) (hE : modE q1 q2 = 0) :
   RtOk (modR q1 q2) ∧ (topI (modR q1 q2) = 0 ∨ (topI (modR q1 q2) ≠ 0 ∧ cmpI' (topI (modR q1 q2)) 0 = cmpI' (topI q2) 0 ∧
     cmpI' (topI (absR (modR q1 q2)) * lowI (absR q2)) (topI (absR q2) * lowI (absR (modR q1 q2))) < 0)) := by
 have h0 : topI q2 ≠ 0 := fun h => by unfold modE at hE; rw [if_pos h] at hE; omega
 unfold modE at hE
 rw [if_neg h0] at hE
 have hR : modR q1 q2 = mkR (flr (topI q1 * lowI q2) (topI q2 * lowI q1)) (lowI q1 * lowI q2) := by unfold modR; rw [if_neg h0]
 rw [hR]
 have hl1 : 0 < lowI q1 := by have := h1.1; unfold lowI; omega
 have hl2 : 0 < lowI q2 := by have := h2.1; unfold lowI; omega
 have hy0 : topI q2 * lowI q1 ≠ 0 := Int.mul_ne_zero h0 (by omega)
 have hs := flr_sign (x := topI q1 * lowI q2) hy0
 have hab := flr_abs (x := topI q1 * lowI q2) hy0
 have hyp : 0 < topI q2 * lowI q1 → 0 < topI q2 := fun h => by
   refine Int.lt_of_not_ge fun h3 => ?_
   have := Int.mul_nonpos_of_nonpos_of_nonneg (show topI q2 ≤ 0 from h3) (show 0 ≤ lowI q1 by omega)
   omega
 have hyn : topI q2 * lowI q1 < 0 → topI q2 < 0 := fun h => by
   refine Int.lt_of_not_ge fun h3 => ?_
   have := Int.mul_nonneg h3 (show 0 ≤ lowI q1 by omega)
   omega
 have hya : (topI q2 * lowI q1).natAbs = q2.num * q1.den := by
   rw [Int.natAbs_mul]
   unfold topI lowI
   rw [sI_abs, Int.natAbs_natCast]
 have hz : (lowI q1 * lowI q2).natAbs = q1.den * q2.den := by rw [Int.natAbs_mul]; rfl
 have hzb : zb (lowI q1 * lowI q2) = false := by
   have := Int.mul_pos hl1 hl2
   unfold zb
   exact decide_eq_false (by omega)
 rw [hya] at hab
 obtain ⟨hok, _, he⟩ := mk_ok hE
 have hcr := mk_cross (flr (topI q1 * lowI q2) (topI q2 * lowI q1)) (lowI q1 * lowI q2)
 rw [hz] at hcr
 refine ⟨hok, ?_⟩
 rw [he] at hok ⊢
 have hD := hok.1
 rw [hzb]
 generalize flr (topI q1 * lowI q2) (topI q2 * lowI q1) = R at *
 generalize mkN R (lowI q1 * lowI q2) = N at *
 generalize mkD R (lowI q1 * lowI q2) = D at *
 have hD : D ≠ 0 := hD
 by_cases hr : R = 0
 · left
   subst hr
   have hN : N = 0 := by
     rw [Int.natAbs_zero, Nat.zero_mul] at hcr
     rcases Nat.mul_eq_zero.1 hcr with h | h
     · exact h
     · exact absurd h (Nat.mul_ne_zero h1.1 h2.1)
   rw [hN]
   exact (sI_zero_iff _ 0).2 rfl
 · right
   have hN : N ≠ 0 := fun h => by
     rw [h, Nat.zero_mul] at hcr
     rcases Nat.mul_eq_zero.1 hcr.symm with h3 | h3
     · omega
     · exact hD h3
   rw [decide_eq_true hN, Bool.bne_false, Bool.and_true]
   have ht : topI ⟨zb R, N, D⟩ = sI (zb R) N := rfl
   have hsg : (0 < topI ⟨zb R, N, D⟩ ∧ 0 < topI q2) ∨ (topI ⟨zb R, N, D⟩ < 0 ∧ topI q2 < 0) := by
     rw [ht]
     rcases hs with h | ⟨h, h3⟩ | ⟨h, h3⟩
     · exact absurd h hr
     · left
       refine ⟨?_, hyp h3⟩
       rw [show zb R = false from decide_eq_false (by omega)]
       show (0 : Int) < (N : Int)
       omega
     · right
       refine ⟨?_, hyn h3⟩
       rw [show zb R = true from decide_eq_true h]
       show -(N : Int) < 0
       omega
   refine ⟨by omega, cmp_sign hsg, cmpI_lt ?_⟩
   have := amount_lt hcr hab hD
   show (N : Int) * (q2.den : Int) < (q2.num : Int) * (D : Int)
   rw [← Int.natCast_mul, ← Int.natCast_mul]
   omega
theorem sq_pos (x : Int) : 0 ≤ x * x := by
 rcases Int.le_total 0 x with h | h
 · exact Int.mul_nonneg h h
 · exact Int.mul_nonneg_of_nonpos_of_nonpos h h
theorem sq_facts {q : Rt} (h : RtOk q) (hE : mkE (topI q * topI q) (lowI q * lowI q) = 0) :
   RtOk (mkR (topI q * topI q) (lowI q * lowI q)) ∧ rootR (mkR (topI q * topI q) (lowI q * lowI q)) = absR q ∧ rootOkB (mkR (topI q * topI q) (lowI q * lowI q)) = true := by
 obtain ⟨hok, _, he⟩ := mk_ok hE
 refine ⟨hok, ?_⟩
 have hg := sq_one h.2.1
 have ta : (topI q * topI q).natAbs = q.num * q.num := by rw [Int.natAbs_mul]; unfold topI; rw [sI_abs]
 have la : (lowI q * lowI q).natAbs = q.den * q.den := by rw [Int.natAbs_mul]; rfl
 have hN : mkN (topI q * topI q) (lowI q * lowI q) = q.num * q.num := by unfold mkN; rw [ta, la, hg, Nat.div_one]
 have hD : mkD (topI q * topI q) (lowI q * lowI q) = q.den * q.den := by unfold mkD; rw [ta, la, hg, Nat.div_one]
 have z1 : zb (topI q * topI q) = false := by
   have := sq_pos (topI q)
   exact decide_eq_false (by omega)
 have z2 : zb (lowI q * lowI q) = false := by
   have := sq_pos (lowI q)
   exact decide_eq_false (by omega)
 rw [he, hN, hD, z1, z2]
 have hr : ∀ v : Nat, Nt.rt (v * v) = v := fun v => by
   have h1 := (Nt.rt_is (v * v)).1
   have h2 := (Nt.rt_is (v * v)).2
   generalize Nt.rt (v * v) = r at *
   rcases Nat.lt_trichotomy r v with h3 | h3 | h3
   · exact absurd (Nat.lt_of_lt_of_le h2 (Nat.mul_self_le_mul_self (show r + 1 ≤ v from h3))) (Nat.lt_irrefl _)
   · exact h3
   · exact absurd (Nat.lt_of_lt_of_le (Nat.mul_self_lt_mul_self h3) h1) (Nat.lt_irrefl _)
 have hy : rootOkB ⟨(false != false) && decide (q.num * q.num ≠ 0), q.num * q.num, q.den * q.den⟩ = true := by
   unfold rootOkB
   rw [decide_eq_true_iff]
   show ((false != false) && decide (q.num * q.num ≠ 0)) = false ∧ Nt.rt (q.num * q.num) * Nt.rt (q.num * q.num) = q.num * q.num ∧ Nt.rt (q.den * q.den) * Nt.rt (q.den * q.den) = q.den * q.den
   rw [hr, hr]
   exact ⟨rfl, rfl, rfl⟩
 refine ⟨?_, hy⟩
 rw [root_yes hy]
 show (⟨false, Nt.rt (q.num * q.num), Nt.rt (q.den * q.den)⟩ : Rt) = ⟨false, q.num, q.den⟩
 rw [hr, hr]
end Go.Proofs.YtbgmnpabclfjaaaGreatDoor
