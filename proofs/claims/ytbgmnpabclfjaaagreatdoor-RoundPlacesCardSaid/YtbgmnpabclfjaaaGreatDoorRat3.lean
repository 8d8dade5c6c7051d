/-
  WHOLE NUMBERS, DIVIDED: rounded down, and what is left; the program's and the document's.
-/
import Derived.Test.YtbgmnpabclfjaaaGreatDoorRat2
namespace Go.Proofs.YtbgmnpabclfjaaaGreatDoor
open Go.RowKit Go.Shelf
set_option linter.unusedSimpArgs false
set_option linter.unusedVariables false

def flq (x y : Int) : Int := if 0 ≤ y then x / y else (-x) / (-y)
def flr (x y : Int) : Int := x - y * flq x y
theorem fl_unique {x y q r : Int} (h : x = y * q + r) (hr : (0 ≤ r ∧ r < y) ∨ (y < r ∧ r ≤ 0)) : flq x y = q ∧ flr x y = r := by
  have key : flq x y = q := by
    unfold flq
    rcases hr with hr | hr
    · rw [if_pos (by omega)]
      exact ((Int.ediv_emod_unique (by omega)).2 ⟨by rw [h]; omega, hr.1, hr.2⟩).1
    · rw [if_neg (by omega)]
      exact ((Int.ediv_emod_unique (r := -r) (by omega)).2 ⟨by rw [h, Int.neg_mul]; omega, by omega, by omega⟩).1
  refine ⟨key, ?_⟩
  unfold flr
  rw [key, h]; omega
theorem fl_ways (n1 n2 : Bool) (A B q r : Nat) (hB : B ≠ 0) (hd : B * q + r = A) (hl : r < B) :
    ((n1 = n2 ∨ r = 0) → flq (sI n1 A) (sI n2 B) = sI (n1 != n2) q ∧ flr (sI n1 A) (sI n2 B) = sI n2 r) ∧
    ((n1 ≠ n2 ∧ r ≠ 0) → flq (sI n1 A) (sI n2 B) = sI true (q + 1) ∧ flr (sI n1 A) (sI n2 B) = sI n2 (B - r)) := by
  have hd2 : (B : Int) * (q : Int) + (r : Int) = (A : Int) := by rw [← hd]; simp
  refine ⟨fun h => fl_unique ?_ ?_, fun h => fl_unique ?_ ?_⟩
  all_goals unfold sI
  all_goals cases n1 <;> cases n2
  all_goals simp at h
  all_goals simp [Int.neg_mul, Int.mul_neg, Int.mul_add]
  all_goals omega

set_option maxRecDepth 100000 in
set_option maxHeartbeats 8000000 in
theorem wholeFloor_zero (n1 n2 : Bool) (m1 m2 : ByteArray) (w : World) (h1 : m1.size ≤ 1000) (h2 : m2.size ≤ 1000) (h0 : Nt.V m2 = 0) :
    Calls Tryz.prog 41 #[.agg #[.bool n1, .string m1], .agg #[.bool n2, .string m2]] w fun e w' => e = .returned (.tuple #[.agg #[.bool false, .string ⟨#[]⟩], .agg #[.bool false, .string ⟨#[]⟩], .int .i64 5]) ∧ Below w.heap.size w w' := by
  have hdm := fun w => divMod_ok m1 m2 w (by omega) (by omega)
  rw [divOut, if_pos h0] at hdm
  have HD := Lib.hid hdm
  clear hdm h0 h1 h2
  go_enter Tryz.func41, Tryz.ntmps41
  go_wp2_with fail
  obtain ⟨s1, hws⟩ : ∃ s, s = ((((w.alloc (.cells #[.bool n1, .string m1] 44)).alloc (.cells #[.bool n2, .string m2] 44)).alloc (.cells #[.bool false, .string ⟨#[]⟩] 44)).alloc (.cells #[.bool false, .string ⟨#[]⟩] 44)) := ⟨_, rfl⟩
  have hBs : Below w.heap.size w s1 := by rw [hws]; exact (((((Below.refl w.heap.size w).alloc (by simp) _).alloc (by simp) _).alloc (by simp; omega) _).alloc (by simp; omega) _)
  obtain ⟨A, hdA⟩ : ∃ b, b = w.heap.size := ⟨_, rfl⟩
  obtain ⟨B, hdB⟩ : ∃ b, b = w.heap.size + 1 := ⟨_, rfl⟩
  obtain ⟨C, hdC⟩ : ∃ b, b = w.heap.size + 1 + 1 := ⟨_, rfl⟩
  obtain ⟨D, hdD⟩ : ∃ b, b = w.heap.size + 1 + 1 + 1 := ⟨_, rfl⟩
  have hsz : s1.heap.size = w.heap.size + 1 + 1 + 1 + 1 := by rw [hws]; simp
  have dCA : C ≠ A := by omega
  have dCB : C ≠ B := by omega
  have dCD : C ≠ D := by omega
  have dDA : D ≠ A := by omega
  have dDB : D ≠ B := by omega
  have dDC : D ≠ C := by omega
  have kA0 : s1.cell? ⟨A, 0, none⟩ = some (.bool n1) := by rw [hws]; simp [go_sem, hdA, hdB, hdC, hdD]
  have kA1 : s1.cell? ⟨A, 1, none⟩ = some (.string m1) := by rw [hws]; simp [go_sem, hdA, hdB, hdC, hdD]
  have zA : A < s1.heap.size := by omega
  have lA : w.heap.size ≤ A := by have := Nat.le_refl w.heap.size; omega
  have kB0 : s1.cell? ⟨B, 0, none⟩ = some (.bool n2) := by rw [hws]; simp [go_sem, hdA, hdB, hdC, hdD]
  have kB1 : s1.cell? ⟨B, 1, none⟩ = some (.string m2) := by rw [hws]; simp [go_sem, hdA, hdB, hdC, hdD]
  have zB : B < s1.heap.size := by omega
  have lB : w.heap.size ≤ B := by have := Nat.le_refl w.heap.size; omega
  have kC0 : s1.cell? ⟨C, 0, none⟩ = some (.bool false) := by rw [hws]; simp [go_sem, hdA, hdB, hdC, hdD]
  have fC0 : s1.frozen? ⟨C, 0, none⟩ = false := by rw [hws]; simp [go_sem, hdA, hdB, hdC, hdD]
  have kC1 : s1.cell? ⟨C, 1, none⟩ = some (.string ⟨#[]⟩) := by rw [hws]; simp [go_sem, hdA, hdB, hdC, hdD]
  have fC1 : s1.frozen? ⟨C, 1, none⟩ = false := by rw [hws]; simp [go_sem, hdA, hdB, hdC, hdD]
  have zC : C < s1.heap.size := by omega
  have lC : w.heap.size ≤ C := by have := Nat.le_refl w.heap.size; omega
  have kD0 : s1.cell? ⟨D, 0, none⟩ = some (.bool false) := by rw [hws]; simp [go_sem, hdA, hdB, hdC, hdD]
  have fD0 : s1.frozen? ⟨D, 0, none⟩ = false := by rw [hws]; simp [go_sem, hdA, hdB, hdC, hdD]
  have kD1 : s1.cell? ⟨D, 1, none⟩ = some (.string ⟨#[]⟩) := by rw [hws]; simp [go_sem, hdA, hdB, hdC, hdD]
  have fD1 : s1.frozen? ⟨D, 1, none⟩ = false := by rw [hws]; simp [go_sem, hdA, hdB, hdC, hdD]
  have zD : D < s1.heap.size := by omega
  have lD : w.heap.size ≤ D := by have := Nat.le_refl w.heap.size; omega
  rw [← hws]
  try rw [← hdD]
  try rw [← hdC]
  try rw [← hdB]
  try rw [← hdA]
  clear hws hsz hdA hdB hdC hdD
  have hBo := hBs; clear hBs
  refine (HD.out _).mono ?_; rintro e s2 ⟨rfl, hb⟩
  replace kA0 := belK hb kA0 zA; replace kA1 := belK hb kA1 zA; replace zA := Nat.lt_of_lt_of_le zA hb.size
  replace kB0 := belK hb kB0 zB; replace kB1 := belK hb kB1 zB; replace zB := Nat.lt_of_lt_of_le zB hb.size
  replace kC0 := belK hb kC0 zC; replace fC0 := belF hb fC0 zC; replace kC1 := belK hb kC1 zC; replace fC1 := belF hb fC1 zC; replace zC := Nat.lt_of_lt_of_le zC hb.size
  replace kD0 := belK hb kD0 zD; replace fD0 := belF hb fD0 zD; replace kD1 := belK hb kD1 zD; replace fD1 := belF hb fD1 zD; replace zD := Nat.lt_of_lt_of_le zD hb.size
  replace hBo := hBo.trans (hb.mono hBo.size)
  clear hb
  all_goals go_wp2_with fail
  all_goals refine bodyPost_ret (v := .tuple #[.agg #[.bool false, .string ⟨#[]⟩], .agg #[.bool false, .string ⟨#[]⟩], .int .i64 5]) (by simp [results, Tryz.results41, go_sem, kC0, kC1, kD0, kD1, zC, zD]) rfl ⟨rfl, ?_⟩
  all_goals exact ((((hBo.setCell lC _).setCell lC _).setCell lD _).setCell lD _)

set_option maxRecDepth 100000 in
set_option maxHeartbeats 16000000 in
theorem wholeFloor_any (n1 n2 : Bool) (m1 m2 : ByteArray) (q r : Int) (w : World) (h1 : m1.size ≤ 1000) (h2 : m2.size ≤ 1000) (h0 : Nt.V m2 ≠ 0)
    (hq : flq (sI n1 (Nt.V m1)) (sI n2 (Nt.V m2)) = q) (hr : flr (sI n1 (Nt.V m1)) (sI n2 (Nt.V m2)) = r) :
    Calls Tryz.prog 41 #[.agg #[.bool n1, .string m1], .agg #[.bool n2, .string m2]] w fun e w' => e = .returned (.tuple #[.agg #[.bool (zb q), .string (zt q)], .agg #[.bool (zb r), .string (zt r)], .int .i64 0]) ∧ Below w.heap.size w w' := by
  have hdm := fun w => divMod_ok m1 m2 w (by omega) (by omega)
  rw [divOut, if_neg h0] at hdm
  have hsa := Nt.E_size_V m1
  have hqs := Nat.le_trans (Nt.E_size_le (Nat.div_le_self (Nt.V m1) (Nt.V m2))) hsa
  have hms := Nat.le_trans (Nt.E_size_le (Nat.mod_le (Nt.V m1) (Nt.V m2))) hsa
  obtain ⟨hw1, hw2⟩ := fl_ways n1 n2 (Nt.V m1) (Nt.V m2) (Nt.V m1 / Nt.V m2) (Nt.V m1 % Nt.V m2) h0 (Nat.div_add_mod _ _) (Nat.mod_lt _ (Nat.pos_of_ne_zero h0))
  rw [hq, hr] at hw1 hw2
  have hO := fun w => natOf_any 1 w (by omega)
  have hA := fun w => natAdd_any (Nt.E (Nt.V m1 / Nt.V m2)) (Nt.E 1) w (by omega) (by decide)
  have hS := fun w => natSub_any m2 (Nt.E (Nt.V m1 % Nt.V m2)) w (by omega) (by omega)
  rw [Nt.V_E, Nt.V_E] at hA
  rw [Nt.V_E] at hS
  have hne : Nt.V m1 % Nt.V m2 ≠ 0 → ¬ (Nt.E (Nt.V m1 % Nt.V m2)).toList = [] := fun h => E_toList_ne _ h
  have hnil : Nt.V m1 % Nt.V m2 = 0 → Nt.E (Nt.V m1 % Nt.V m2) = ⟨#[]⟩ := fun h => by rw [h]; rfl
  have v1 := Nt.V_E (Nt.V m1 / Nt.V m2)
  have v2 := Nt.V_E (Nt.V m1 % Nt.V m2)
  have v3 := Nt.V_E (Nt.V m1 / Nt.V m2 + 1)
  have v4 := Nt.V_E (Nt.V m2 - Nt.V m1 % Nt.V m2)
  clear hq hr hqs hms hsa h1 h2 h0
  generalize Nt.E (Nt.V m1 / Nt.V m2 + 1) = t3 at *
  generalize Nt.E (Nt.V m2 - Nt.V m1 % Nt.V m2) = t4 at *
  generalize Nt.V m2 - Nt.V m1 % Nt.V m2 = v at *
  generalize Nt.E (Nt.V m1 / Nt.V m2) = t1 at *
  generalize Nt.E (Nt.V m1 % Nt.V m2) = t2 at *
  generalize Nt.V m1 / Nt.V m2 = u at *
  generalize Nt.V m1 % Nt.V m2 = s at *
  generalize Nt.E 1 = o at *
  have HD := Lib.hid hdm
  have HO := Lib.hid hO
  have HA := Lib.hid hA
  have HS := Lib.hid hS
  have HM : Hid (∀ (b : Bool) (t : ByteArray) (w : World), Calls Tryz.prog 64 #[.bool b, .string t] w fun e w' => e = .returned (.agg #[.bool (zb (sI b (Nt.V t))), .string (zt (sI b (Nt.V t)))]) ∧ Below w.heap.size w w') := fun b t w => wholeMake_z b t _ w rfl
  clear hdm hO hA hS
  by_cases hc : n1 = n2 ∨ s = 0
  · obtain ⟨e1, e2⟩ := hw1 hc
    rw [← v1] at e1
    rw [← v2] at e2
    have E1 := Lib.hid e1.symm
    have E2 := Lib.hid e2.symm
    clear e1 e2 hw1 hw2 v3 v4 hne v1
    cases n1 <;> cases n2
    case false.false =>
      clear hnil hc v2
      simp only [bne_self_eq_false] at E1
      go_enter Tryz.func41, Tryz.ntmps41
      go_wp2_with fail
      obtain ⟨s3, hws⟩ : ∃ s, s = ((((w.alloc (.cells #[.bool false, .string m1] 44)).alloc (.cells #[.bool false, .string m2] 44)).alloc (.cells #[.bool false, .string ⟨#[]⟩] 44)).alloc (.cells #[.bool false, .string ⟨#[]⟩] 44)) := ⟨_, rfl⟩
      have hBs : Below w.heap.size w s3 := by rw [hws]; exact (((((Below.refl w.heap.size w).alloc (by simp) _).alloc (by simp) _).alloc (by simp; omega) _).alloc (by simp; omega) _)
      obtain ⟨A, hdA⟩ : ∃ b, b = w.heap.size := ⟨_, rfl⟩
      obtain ⟨B, hdB⟩ : ∃ b, b = w.heap.size + 1 := ⟨_, rfl⟩
      obtain ⟨C, hdC⟩ : ∃ b, b = w.heap.size + 1 + 1 := ⟨_, rfl⟩
      obtain ⟨D, hdD⟩ : ∃ b, b = w.heap.size + 1 + 1 + 1 := ⟨_, rfl⟩
      have hsz : s3.heap.size = w.heap.size + 1 + 1 + 1 + 1 := by rw [hws]; simp
      have dCA : C ≠ A := by omega
      have dCB : C ≠ B := by omega
      have dCD : C ≠ D := by omega
      have dDA : D ≠ A := by omega
      have dDB : D ≠ B := by omega
      have dDC : D ≠ C := by omega
      have kA0 : s3.cell? ⟨A, 0, none⟩ = some (.bool false) := by rw [hws]; simp [go_sem, hdA, hdB, hdC, hdD]
      have kA1 : s3.cell? ⟨A, 1, none⟩ = some (.string m1) := by rw [hws]; simp [go_sem, hdA, hdB, hdC, hdD]
      have zA : A < s3.heap.size := by omega
      have lA : w.heap.size ≤ A := by have := Nat.le_refl w.heap.size; omega
      have kB0 : s3.cell? ⟨B, 0, none⟩ = some (.bool false) := by rw [hws]; simp [go_sem, hdA, hdB, hdC, hdD]
      have kB1 : s3.cell? ⟨B, 1, none⟩ = some (.string m2) := by rw [hws]; simp [go_sem, hdA, hdB, hdC, hdD]
      have zB : B < s3.heap.size := by omega
      have lB : w.heap.size ≤ B := by have := Nat.le_refl w.heap.size; omega
      have kC0 : s3.cell? ⟨C, 0, none⟩ = some (.bool false) := by rw [hws]; simp [go_sem, hdA, hdB, hdC, hdD]
      have fC0 : s3.frozen? ⟨C, 0, none⟩ = false := by rw [hws]; simp [go_sem, hdA, hdB, hdC, hdD]
      have kC1 : s3.cell? ⟨C, 1, none⟩ = some (.string ⟨#[]⟩) := by rw [hws]; simp [go_sem, hdA, hdB, hdC, hdD]
      have fC1 : s3.frozen? ⟨C, 1, none⟩ = false := by rw [hws]; simp [go_sem, hdA, hdB, hdC, hdD]
      have zC : C < s3.heap.size := by omega
      have lC : w.heap.size ≤ C := by have := Nat.le_refl w.heap.size; omega
      have kD0 : s3.cell? ⟨D, 0, none⟩ = some (.bool false) := by rw [hws]; simp [go_sem, hdA, hdB, hdC, hdD]
      have fD0 : s3.frozen? ⟨D, 0, none⟩ = false := by rw [hws]; simp [go_sem, hdA, hdB, hdC, hdD]
      have kD1 : s3.cell? ⟨D, 1, none⟩ = some (.string ⟨#[]⟩) := by rw [hws]; simp [go_sem, hdA, hdB, hdC, hdD]
      have fD1 : s3.frozen? ⟨D, 1, none⟩ = false := by rw [hws]; simp [go_sem, hdA, hdB, hdC, hdD]
      have zD : D < s3.heap.size := by omega
      have lD : w.heap.size ≤ D := by have := Nat.le_refl w.heap.size; omega
      rw [← hws]
      try rw [← hdD]
      try rw [← hdC]
      try rw [← hdB]
      try rw [← hdA]
      clear hws hsz hdA hdB hdC hdD
      have hBo := hBs; clear hBs
      refine (HD.out _).mono ?_; rintro e s4 ⟨rfl, hb⟩
      replace kA0 := belK hb kA0 zA; replace kA1 := belK hb kA1 zA; replace zA := Nat.lt_of_lt_of_le zA hb.size
      replace kB0 := belK hb kB0 zB; replace kB1 := belK hb kB1 zB; replace zB := Nat.lt_of_lt_of_le zB hb.size
      replace kC0 := belK hb kC0 zC; replace fC0 := belF hb fC0 zC; replace kC1 := belK hb kC1 zC; replace fC1 := belF hb fC1 zC; replace zC := Nat.lt_of_lt_of_le zC hb.size
      replace kD0 := belK hb kD0 zD; replace fD0 := belF hb fD0 zD; replace kD1 := belK hb kD1 zD; replace fD1 := belF hb fD1 zD; replace zD := Nat.lt_of_lt_of_le zD hb.size
      replace hBo := hBo.trans (hb.mono hBo.size)
      clear hb
      go_wp2_with fail
      have HF : Hid (∀ W, Below s4.heap.size s4 W → Below w.heap.size w W) := fun W hW => hBo.trans (hW.mono hBo.size)
      clear hBo
      first | (go_region_held3 (fun w' => w'.cell? ⟨A, 0, none⟩ = some (.bool false) ∧ w'.cell? ⟨A, 1, none⟩ = some (.string m1) ∧ w'.cell? ⟨B, 0, none⟩ = some (.bool false) ∧ w'.cell? ⟨B, 1, none⟩ = some (.string m2))
        (go_keep) (first
        | (go_at_call 64; refine (HM.out _ _ _).mono ?_; rintro e x5 ⟨he, hbx⟩; (first | rw [E1.out] at he | rw [E2.out] at he); subst he; have hTx : Below s4.heap.size s4 x5 := (by first | exact (Below.refl _ _).drew.trans hbx | exact Below.trans (by assumption) (hbx.mono (Below.size (by assumption))) | exact (Below.refl _ _).trans hbx); obtain ⟨hcx, hfx⟩ := bcell hTx))) | fail
      all_goals go_wp2_with fail
      all_goals refine bodyPost_ret (v := .tuple #[.agg #[.bool (zb q), .string (zt q)], .agg #[.bool (zb r), .string (zt r)], .int .i64 0]) (by simp [results, Tryz.results41, go_sem, hcx, kC0, kC1, kD0, kD1, zC, zD]) rfl ⟨rfl, ?_⟩
      all_goals exact (((((HF.out _ (by assumption)).setCell lC _).setCell lC _).setCell lD _).setCell lD _)
    case true.true =>
      clear hnil hc v2
      simp only [bne_self_eq_false] at E1
      go_enter Tryz.func41, Tryz.ntmps41
      go_wp2_with fail
      obtain ⟨s6, hws⟩ : ∃ s, s = ((((w.alloc (.cells #[.bool true, .string m1] 44)).alloc (.cells #[.bool true, .string m2] 44)).alloc (.cells #[.bool false, .string ⟨#[]⟩] 44)).alloc (.cells #[.bool false, .string ⟨#[]⟩] 44)) := ⟨_, rfl⟩
      have hBs : Below w.heap.size w s6 := by rw [hws]; exact (((((Below.refl w.heap.size w).alloc (by simp) _).alloc (by simp) _).alloc (by simp; omega) _).alloc (by simp; omega) _)
      obtain ⟨A, hdA⟩ : ∃ b, b = w.heap.size := ⟨_, rfl⟩
      obtain ⟨B, hdB⟩ : ∃ b, b = w.heap.size + 1 := ⟨_, rfl⟩
      obtain ⟨C, hdC⟩ : ∃ b, b = w.heap.size + 1 + 1 := ⟨_, rfl⟩
      obtain ⟨D, hdD⟩ : ∃ b, b = w.heap.size + 1 + 1 + 1 := ⟨_, rfl⟩
      have hsz : s6.heap.size = w.heap.size + 1 + 1 + 1 + 1 := by rw [hws]; simp
      have dCA : C ≠ A := by omega
      have dCB : C ≠ B := by omega
      have dCD : C ≠ D := by omega
      have dDA : D ≠ A := by omega
      have dDB : D ≠ B := by omega
      have dDC : D ≠ C := by omega
      have kA0 : s6.cell? ⟨A, 0, none⟩ = some (.bool true) := by rw [hws]; simp [go_sem, hdA, hdB, hdC, hdD]
      have kA1 : s6.cell? ⟨A, 1, none⟩ = some (.string m1) := by rw [hws]; simp [go_sem, hdA, hdB, hdC, hdD]
      have zA : A < s6.heap.size := by omega
      have lA : w.heap.size ≤ A := by have := Nat.le_refl w.heap.size; omega
      have kB0 : s6.cell? ⟨B, 0, none⟩ = some (.bool true) := by rw [hws]; simp [go_sem, hdA, hdB, hdC, hdD]
      have kB1 : s6.cell? ⟨B, 1, none⟩ = some (.string m2) := by rw [hws]; simp [go_sem, hdA, hdB, hdC, hdD]
      have zB : B < s6.heap.size := by omega
      have lB : w.heap.size ≤ B := by have := Nat.le_refl w.heap.size; omega
      have kC0 : s6.cell? ⟨C, 0, none⟩ = some (.bool false) := by rw [hws]; simp [go_sem, hdA, hdB, hdC, hdD]
      have fC0 : s6.frozen? ⟨C, 0, none⟩ = false := by rw [hws]; simp [go_sem, hdA, hdB, hdC, hdD]
      have kC1 : s6.cell? ⟨C, 1, none⟩ = some (.string ⟨#[]⟩) := by rw [hws]; simp [go_sem, hdA, hdB, hdC, hdD]
      have fC1 : s6.frozen? ⟨C, 1, none⟩ = false := by rw [hws]; simp [go_sem, hdA, hdB, hdC, hdD]
      have zC : C < s6.heap.size := by omega
      have lC : w.heap.size ≤ C := by have := Nat.le_refl w.heap.size; omega
      have kD0 : s6.cell? ⟨D, 0, none⟩ = some (.bool false) := by rw [hws]; simp [go_sem, hdA, hdB, hdC, hdD]
      have fD0 : s6.frozen? ⟨D, 0, none⟩ = false := by rw [hws]; simp [go_sem, hdA, hdB, hdC, hdD]
      have kD1 : s6.cell? ⟨D, 1, none⟩ = some (.string ⟨#[]⟩) := by rw [hws]; simp [go_sem, hdA, hdB, hdC, hdD]
      have fD1 : s6.frozen? ⟨D, 1, none⟩ = false := by rw [hws]; simp [go_sem, hdA, hdB, hdC, hdD]
      have zD : D < s6.heap.size := by omega
      have lD : w.heap.size ≤ D := by have := Nat.le_refl w.heap.size; omega
      rw [← hws]
      try rw [← hdD]
      try rw [← hdC]
      try rw [← hdB]
      try rw [← hdA]
      clear hws hsz hdA hdB hdC hdD
      have hBo := hBs; clear hBs
      refine (HD.out _).mono ?_; rintro e s7 ⟨rfl, hb⟩
      replace kA0 := belK hb kA0 zA; replace kA1 := belK hb kA1 zA; replace zA := Nat.lt_of_lt_of_le zA hb.size
      replace kB0 := belK hb kB0 zB; replace kB1 := belK hb kB1 zB; replace zB := Nat.lt_of_lt_of_le zB hb.size
      replace kC0 := belK hb kC0 zC; replace fC0 := belF hb fC0 zC; replace kC1 := belK hb kC1 zC; replace fC1 := belF hb fC1 zC; replace zC := Nat.lt_of_lt_of_le zC hb.size
      replace kD0 := belK hb kD0 zD; replace fD0 := belF hb fD0 zD; replace kD1 := belK hb kD1 zD; replace fD1 := belF hb fD1 zD; replace zD := Nat.lt_of_lt_of_le zD hb.size
      replace hBo := hBo.trans (hb.mono hBo.size)
      clear hb
      go_wp2_with fail
      have HF : Hid (∀ W, Below s7.heap.size s7 W → Below w.heap.size w W) := fun W hW => hBo.trans (hW.mono hBo.size)
      clear hBo
      first | (go_region_held3 (fun w' => w'.cell? ⟨A, 0, none⟩ = some (.bool true) ∧ w'.cell? ⟨A, 1, none⟩ = some (.string m1) ∧ w'.cell? ⟨B, 0, none⟩ = some (.bool true) ∧ w'.cell? ⟨B, 1, none⟩ = some (.string m2))
        (go_keep) (first
        | (go_at_call 64; refine (HM.out _ _ _).mono ?_; rintro e x8 ⟨he, hbx⟩; (first | rw [E1.out] at he | rw [E2.out] at he); subst he; have hTx : Below s7.heap.size s7 x8 := (by first | exact (Below.refl _ _).drew.trans hbx | exact Below.trans (by assumption) (hbx.mono (Below.size (by assumption))) | exact (Below.refl _ _).trans hbx); obtain ⟨hcx, hfx⟩ := bcell hTx))) | fail
      all_goals go_wp2_with fail
      all_goals refine bodyPost_ret (v := .tuple #[.agg #[.bool (zb q), .string (zt q)], .agg #[.bool (zb r), .string (zt r)], .int .i64 0]) (by simp [results, Tryz.results41, go_sem, hcx, kC0, kC1, kD0, kD1, zC, zD]) rfl ⟨rfl, ?_⟩
      all_goals exact (((((HF.out _ (by assumption)).setCell lC _).setCell lC _).setCell lD _).setCell lD _)
    case false.true =>
      have ht2 := hnil (by simpa using hc)
      subst ht2
      clear hnil hc v2
      simp only [Bool.false_bne, Bool.true_bne, Bool.not_false, Bool.not_true] at E1
      go_enter Tryz.func41, Tryz.ntmps41
      go_wp2_with fail
      obtain ⟨s9, hws⟩ : ∃ s, s = ((((w.alloc (.cells #[.bool false, .string m1] 44)).alloc (.cells #[.bool true, .string m2] 44)).alloc (.cells #[.bool false, .string ⟨#[]⟩] 44)).alloc (.cells #[.bool false, .string ⟨#[]⟩] 44)) := ⟨_, rfl⟩
      have hBs : Below w.heap.size w s9 := by rw [hws]; exact (((((Below.refl w.heap.size w).alloc (by simp) _).alloc (by simp) _).alloc (by simp; omega) _).alloc (by simp; omega) _)
      obtain ⟨A, hdA⟩ : ∃ b, b = w.heap.size := ⟨_, rfl⟩
      obtain ⟨B, hdB⟩ : ∃ b, b = w.heap.size + 1 := ⟨_, rfl⟩
      obtain ⟨C, hdC⟩ : ∃ b, b = w.heap.size + 1 + 1 := ⟨_, rfl⟩
      obtain ⟨D, hdD⟩ : ∃ b, b = w.heap.size + 1 + 1 + 1 := ⟨_, rfl⟩
      have hsz : s9.heap.size = w.heap.size + 1 + 1 + 1 + 1 := by rw [hws]; simp
      have dCA : C ≠ A := by omega
      have dCB : C ≠ B := by omega
      have dCD : C ≠ D := by omega
      have dDA : D ≠ A := by omega
      have dDB : D ≠ B := by omega
      have dDC : D ≠ C := by omega
      have kA0 : s9.cell? ⟨A, 0, none⟩ = some (.bool false) := by rw [hws]; simp [go_sem, hdA, hdB, hdC, hdD]
      have kA1 : s9.cell? ⟨A, 1, none⟩ = some (.string m1) := by rw [hws]; simp [go_sem, hdA, hdB, hdC, hdD]
      have zA : A < s9.heap.size := by omega
      have lA : w.heap.size ≤ A := by have := Nat.le_refl w.heap.size; omega
      have kB0 : s9.cell? ⟨B, 0, none⟩ = some (.bool true) := by rw [hws]; simp [go_sem, hdA, hdB, hdC, hdD]
      have kB1 : s9.cell? ⟨B, 1, none⟩ = some (.string m2) := by rw [hws]; simp [go_sem, hdA, hdB, hdC, hdD]
      have zB : B < s9.heap.size := by omega
      have lB : w.heap.size ≤ B := by have := Nat.le_refl w.heap.size; omega
      have kC0 : s9.cell? ⟨C, 0, none⟩ = some (.bool false) := by rw [hws]; simp [go_sem, hdA, hdB, hdC, hdD]
      have fC0 : s9.frozen? ⟨C, 0, none⟩ = false := by rw [hws]; simp [go_sem, hdA, hdB, hdC, hdD]
      have kC1 : s9.cell? ⟨C, 1, none⟩ = some (.string ⟨#[]⟩) := by rw [hws]; simp [go_sem, hdA, hdB, hdC, hdD]
      have fC1 : s9.frozen? ⟨C, 1, none⟩ = false := by rw [hws]; simp [go_sem, hdA, hdB, hdC, hdD]
      have zC : C < s9.heap.size := by omega
      have lC : w.heap.size ≤ C := by have := Nat.le_refl w.heap.size; omega
      have kD0 : s9.cell? ⟨D, 0, none⟩ = some (.bool false) := by rw [hws]; simp [go_sem, hdA, hdB, hdC, hdD]
      have fD0 : s9.frozen? ⟨D, 0, none⟩ = false := by rw [hws]; simp [go_sem, hdA, hdB, hdC, hdD]
      have kD1 : s9.cell? ⟨D, 1, none⟩ = some (.string ⟨#[]⟩) := by rw [hws]; simp [go_sem, hdA, hdB, hdC, hdD]
      have fD1 : s9.frozen? ⟨D, 1, none⟩ = false := by rw [hws]; simp [go_sem, hdA, hdB, hdC, hdD]
      have zD : D < s9.heap.size := by omega
      have lD : w.heap.size ≤ D := by have := Nat.le_refl w.heap.size; omega
      rw [← hws]
      try rw [← hdD]
      try rw [← hdC]
      try rw [← hdB]
      try rw [← hdA]
      clear hws hsz hdA hdB hdC hdD
      have hBo := hBs; clear hBs
      refine (HD.out _).mono ?_; rintro e s10 ⟨rfl, hb⟩
      replace kA0 := belK hb kA0 zA; replace kA1 := belK hb kA1 zA; replace zA := Nat.lt_of_lt_of_le zA hb.size
      replace kB0 := belK hb kB0 zB; replace kB1 := belK hb kB1 zB; replace zB := Nat.lt_of_lt_of_le zB hb.size
      replace kC0 := belK hb kC0 zC; replace fC0 := belF hb fC0 zC; replace kC1 := belK hb kC1 zC; replace fC1 := belF hb fC1 zC; replace zC := Nat.lt_of_lt_of_le zC hb.size
      replace kD0 := belK hb kD0 zD; replace fD0 := belF hb fD0 zD; replace kD1 := belK hb kD1 zD; replace fD1 := belF hb fD1 zD; replace zD := Nat.lt_of_lt_of_le zD hb.size
      replace hBo := hBo.trans (hb.mono hBo.size)
      clear hb
      go_wp2_with fail
      have HF : Hid (∀ W, Below s10.heap.size s10 W → Below w.heap.size w W) := fun W hW => hBo.trans (hW.mono hBo.size)
      clear hBo
      first | (go_region_held3 (fun w' => w'.cell? ⟨A, 0, none⟩ = some (.bool false) ∧ w'.cell? ⟨A, 1, none⟩ = some (.string m1) ∧ w'.cell? ⟨B, 0, none⟩ = some (.bool true) ∧ w'.cell? ⟨B, 1, none⟩ = some (.string m2))
        (go_keep) (first
        | (go_at_call 64; refine (HM.out _ _ _).mono ?_; rintro e x11 ⟨he, hbx⟩; (first | rw [E1.out] at he | rw [E2.out] at he); subst he; have hTx : Below s10.heap.size s10 x11 := (by first | exact (Below.refl _ _).drew.trans hbx | exact Below.trans (by assumption) (hbx.mono (Below.size (by assumption))) | exact (Below.refl _ _).trans hbx); obtain ⟨hcx, hfx⟩ := bcell hTx))) | fail
      all_goals go_wp2_with fail
      all_goals refine bodyPost_ret (v := .tuple #[.agg #[.bool (zb q), .string (zt q)], .agg #[.bool (zb r), .string (zt r)], .int .i64 0]) (by simp [results, Tryz.results41, go_sem, hcx, kC0, kC1, kD0, kD1, zC, zD]) rfl ⟨rfl, ?_⟩
      all_goals exact (((((HF.out _ (by assumption)).setCell lC _).setCell lC _).setCell lD _).setCell lD _)
    case true.false =>
      have ht2 := hnil (by simpa using hc)
      subst ht2
      clear hnil hc v2
      simp only [Bool.false_bne, Bool.true_bne, Bool.not_false, Bool.not_true] at E1
      go_enter Tryz.func41, Tryz.ntmps41
      go_wp2_with fail
      obtain ⟨s12, hws⟩ : ∃ s, s = ((((w.alloc (.cells #[.bool true, .string m1] 44)).alloc (.cells #[.bool false, .string m2] 44)).alloc (.cells #[.bool false, .string ⟨#[]⟩] 44)).alloc (.cells #[.bool false, .string ⟨#[]⟩] 44)) := ⟨_, rfl⟩
      have hBs : Below w.heap.size w s12 := by rw [hws]; exact (((((Below.refl w.heap.size w).alloc (by simp) _).alloc (by simp) _).alloc (by simp; omega) _).alloc (by simp; omega) _)
      obtain ⟨A, hdA⟩ : ∃ b, b = w.heap.size := ⟨_, rfl⟩
      obtain ⟨B, hdB⟩ : ∃ b, b = w.heap.size + 1 := ⟨_, rfl⟩
      obtain ⟨C, hdC⟩ : ∃ b, b = w.heap.size + 1 + 1 := ⟨_, rfl⟩
      obtain ⟨D, hdD⟩ : ∃ b, b = w.heap.size + 1 + 1 + 1 := ⟨_, rfl⟩
      have hsz : s12.heap.size = w.heap.size + 1 + 1 + 1 + 1 := by rw [hws]; simp
      have dCA : C ≠ A := by omega
      have dCB : C ≠ B := by omega
      have dCD : C ≠ D := by omega
      have dDA : D ≠ A := by omega
      have dDB : D ≠ B := by omega
      have dDC : D ≠ C := by omega
      have kA0 : s12.cell? ⟨A, 0, none⟩ = some (.bool true) := by rw [hws]; simp [go_sem, hdA, hdB, hdC, hdD]
      have kA1 : s12.cell? ⟨A, 1, none⟩ = some (.string m1) := by rw [hws]; simp [go_sem, hdA, hdB, hdC, hdD]
      have zA : A < s12.heap.size := by omega
      have lA : w.heap.size ≤ A := by have := Nat.le_refl w.heap.size; omega
      have kB0 : s12.cell? ⟨B, 0, none⟩ = some (.bool false) := by rw [hws]; simp [go_sem, hdA, hdB, hdC, hdD]
      have kB1 : s12.cell? ⟨B, 1, none⟩ = some (.string m2) := by rw [hws]; simp [go_sem, hdA, hdB, hdC, hdD]
      have zB : B < s12.heap.size := by omega
      have lB : w.heap.size ≤ B := by have := Nat.le_refl w.heap.size; omega
      have kC0 : s12.cell? ⟨C, 0, none⟩ = some (.bool false) := by rw [hws]; simp [go_sem, hdA, hdB, hdC, hdD]
      have fC0 : s12.frozen? ⟨C, 0, none⟩ = false := by rw [hws]; simp [go_sem, hdA, hdB, hdC, hdD]
      have kC1 : s12.cell? ⟨C, 1, none⟩ = some (.string ⟨#[]⟩) := by rw [hws]; simp [go_sem, hdA, hdB, hdC, hdD]
      have fC1 : s12.frozen? ⟨C, 1, none⟩ = false := by rw [hws]; simp [go_sem, hdA, hdB, hdC, hdD]
      have zC : C < s12.heap.size := by omega
      have lC : w.heap.size ≤ C := by have := Nat.le_refl w.heap.size; omega
      have kD0 : s12.cell? ⟨D, 0, none⟩ = some (.bool false) := by rw [hws]; simp [go_sem, hdA, hdB, hdC, hdD]
      have fD0 : s12.frozen? ⟨D, 0, none⟩ = false := by rw [hws]; simp [go_sem, hdA, hdB, hdC, hdD]
      have kD1 : s12.cell? ⟨D, 1, none⟩ = some (.string ⟨#[]⟩) := by rw [hws]; simp [go_sem, hdA, hdB, hdC, hdD]
      have fD1 : s12.frozen? ⟨D, 1, none⟩ = false := by rw [hws]; simp [go_sem, hdA, hdB, hdC, hdD]
      have zD : D < s12.heap.size := by omega
      have lD : w.heap.size ≤ D := by have := Nat.le_refl w.heap.size; omega
      rw [← hws]
      try rw [← hdD]
      try rw [← hdC]
      try rw [← hdB]
      try rw [← hdA]
      clear hws hsz hdA hdB hdC hdD
      have hBo := hBs; clear hBs
      refine (HD.out _).mono ?_; rintro e s13 ⟨rfl, hb⟩
      replace kA0 := belK hb kA0 zA; replace kA1 := belK hb kA1 zA; replace zA := Nat.lt_of_lt_of_le zA hb.size
      replace kB0 := belK hb kB0 zB; replace kB1 := belK hb kB1 zB; replace zB := Nat.lt_of_lt_of_le zB hb.size
      replace kC0 := belK hb kC0 zC; replace fC0 := belF hb fC0 zC; replace kC1 := belK hb kC1 zC; replace fC1 := belF hb fC1 zC; replace zC := Nat.lt_of_lt_of_le zC hb.size
      replace kD0 := belK hb kD0 zD; replace fD0 := belF hb fD0 zD; replace kD1 := belK hb kD1 zD; replace fD1 := belF hb fD1 zD; replace zD := Nat.lt_of_lt_of_le zD hb.size
      replace hBo := hBo.trans (hb.mono hBo.size)
      clear hb
      go_wp2_with fail
      have HF : Hid (∀ W, Below s13.heap.size s13 W → Below w.heap.size w W) := fun W hW => hBo.trans (hW.mono hBo.size)
      clear hBo
      first | (go_region_held3 (fun w' => w'.cell? ⟨A, 0, none⟩ = some (.bool true) ∧ w'.cell? ⟨A, 1, none⟩ = some (.string m1) ∧ w'.cell? ⟨B, 0, none⟩ = some (.bool false) ∧ w'.cell? ⟨B, 1, none⟩ = some (.string m2))
        (go_keep) (first
        | (go_at_call 64; refine (HM.out _ _ _).mono ?_; rintro e x14 ⟨he, hbx⟩; (first | rw [E1.out] at he | rw [E2.out] at he); subst he; have hTx : Below s13.heap.size s13 x14 := (by first | exact (Below.refl _ _).drew.trans hbx | exact Below.trans (by assumption) (hbx.mono (Below.size (by assumption))) | exact (Below.refl _ _).trans hbx); obtain ⟨hcx, hfx⟩ := bcell hTx))) | fail
      all_goals go_wp2_with fail
      all_goals refine bodyPost_ret (v := .tuple #[.agg #[.bool (zb q), .string (zt q)], .agg #[.bool (zb r), .string (zt r)], .int .i64 0]) (by simp [results, Tryz.results41, go_sem, hcx, kC0, kC1, kD0, kD1, zC, zD]) rfl ⟨rfl, ?_⟩
      all_goals exact (((((HF.out _ (by assumption)).setCell lC _).setCell lC _).setCell lD _).setCell lD _)
  · obtain ⟨e1, e2⟩ := hw2 (by simpa using hc)
    have hs0 : s ≠ 0 := by simp at hc; exact hc.2
    have hn := hne hs0
    have hn2 : t2.toList.isEmpty = false := by simpa using hn
    rw [← v3] at e1
    rw [← v4] at e2
    have E1 := Lib.hid e1.symm
    have E2 := Lib.hid e2.symm
    clear e1 e2 hw1 hw2 v3 v4 hne v1 v2 hnil hs0
    cases n1 <;> cases n2
    case false.false => exact absurd (Or.inl rfl) hc
    case true.true => exact absurd (Or.inl rfl) hc
    case false.true =>
      clear hc
      go_enter Tryz.func41, Tryz.ntmps41
      go_wp2_with fail
      obtain ⟨s15, hws⟩ : ∃ s, s = ((((w.alloc (.cells #[.bool false, .string m1] 44)).alloc (.cells #[.bool true, .string m2] 44)).alloc (.cells #[.bool false, .string ⟨#[]⟩] 44)).alloc (.cells #[.bool false, .string ⟨#[]⟩] 44)) := ⟨_, rfl⟩
      have hBs : Below w.heap.size w s15 := by rw [hws]; exact (((((Below.refl w.heap.size w).alloc (by simp) _).alloc (by simp) _).alloc (by simp; omega) _).alloc (by simp; omega) _)
      obtain ⟨A, hdA⟩ : ∃ b, b = w.heap.size := ⟨_, rfl⟩
      obtain ⟨B, hdB⟩ : ∃ b, b = w.heap.size + 1 := ⟨_, rfl⟩
      obtain ⟨C, hdC⟩ : ∃ b, b = w.heap.size + 1 + 1 := ⟨_, rfl⟩
      obtain ⟨D, hdD⟩ : ∃ b, b = w.heap.size + 1 + 1 + 1 := ⟨_, rfl⟩
      have hsz : s15.heap.size = w.heap.size + 1 + 1 + 1 + 1 := by rw [hws]; simp
      have dCA : C ≠ A := by omega
      have dCB : C ≠ B := by omega
      have dCD : C ≠ D := by omega
      have dDA : D ≠ A := by omega
      have dDB : D ≠ B := by omega
      have dDC : D ≠ C := by omega
      have kA0 : s15.cell? ⟨A, 0, none⟩ = some (.bool false) := by rw [hws]; simp [go_sem, hdA, hdB, hdC, hdD]
      have kA1 : s15.cell? ⟨A, 1, none⟩ = some (.string m1) := by rw [hws]; simp [go_sem, hdA, hdB, hdC, hdD]
      have zA : A < s15.heap.size := by omega
      have lA : w.heap.size ≤ A := by have := Nat.le_refl w.heap.size; omega
      have kB0 : s15.cell? ⟨B, 0, none⟩ = some (.bool true) := by rw [hws]; simp [go_sem, hdA, hdB, hdC, hdD]
      have kB1 : s15.cell? ⟨B, 1, none⟩ = some (.string m2) := by rw [hws]; simp [go_sem, hdA, hdB, hdC, hdD]
      have zB : B < s15.heap.size := by omega
      have lB : w.heap.size ≤ B := by have := Nat.le_refl w.heap.size; omega
      have kC0 : s15.cell? ⟨C, 0, none⟩ = some (.bool false) := by rw [hws]; simp [go_sem, hdA, hdB, hdC, hdD]
      have fC0 : s15.frozen? ⟨C, 0, none⟩ = false := by rw [hws]; simp [go_sem, hdA, hdB, hdC, hdD]
      have kC1 : s15.cell? ⟨C, 1, none⟩ = some (.string ⟨#[]⟩) := by rw [hws]; simp [go_sem, hdA, hdB, hdC, hdD]
      have fC1 : s15.frozen? ⟨C, 1, none⟩ = false := by rw [hws]; simp [go_sem, hdA, hdB, hdC, hdD]
      have zC : C < s15.heap.size := by omega
      have lC : w.heap.size ≤ C := by have := Nat.le_refl w.heap.size; omega
      have kD0 : s15.cell? ⟨D, 0, none⟩ = some (.bool false) := by rw [hws]; simp [go_sem, hdA, hdB, hdC, hdD]
      have fD0 : s15.frozen? ⟨D, 0, none⟩ = false := by rw [hws]; simp [go_sem, hdA, hdB, hdC, hdD]
      have kD1 : s15.cell? ⟨D, 1, none⟩ = some (.string ⟨#[]⟩) := by rw [hws]; simp [go_sem, hdA, hdB, hdC, hdD]
      have fD1 : s15.frozen? ⟨D, 1, none⟩ = false := by rw [hws]; simp [go_sem, hdA, hdB, hdC, hdD]
      have zD : D < s15.heap.size := by omega
      have lD : w.heap.size ≤ D := by have := Nat.le_refl w.heap.size; omega
      rw [← hws]
      try rw [← hdD]
      try rw [← hdC]
      try rw [← hdB]
      try rw [← hdA]
      clear hws hsz hdA hdB hdC hdD
      have hBo := hBs; clear hBs
      refine (HD.out _).mono ?_; rintro e s16 ⟨rfl, hb⟩
      replace kA0 := belK hb kA0 zA; replace kA1 := belK hb kA1 zA; replace zA := Nat.lt_of_lt_of_le zA hb.size
      replace kB0 := belK hb kB0 zB; replace kB1 := belK hb kB1 zB; replace zB := Nat.lt_of_lt_of_le zB hb.size
      replace kC0 := belK hb kC0 zC; replace fC0 := belF hb fC0 zC; replace kC1 := belK hb kC1 zC; replace fC1 := belF hb fC1 zC; replace zC := Nat.lt_of_lt_of_le zC hb.size
      replace kD0 := belK hb kD0 zD; replace fD0 := belF hb fD0 zD; replace kD1 := belK hb kD1 zD; replace fD1 := belF hb fD1 zD; replace zD := Nat.lt_of_lt_of_le zD hb.size
      replace hBo := hBo.trans (hb.mono hBo.size)
      clear hb
      go_wp2_with fail
      have HF : Hid (∀ W, Below s16.heap.size s16 W → Below w.heap.size w W) := fun W hW => hBo.trans (hW.mono hBo.size)
      clear hBo
      first | (go_region_held3 (fun w' => w'.cell? ⟨A, 0, none⟩ = some (.bool false) ∧ w'.cell? ⟨A, 1, none⟩ = some (.string m1) ∧ w'.cell? ⟨B, 0, none⟩ = some (.bool true) ∧ w'.cell? ⟨B, 1, none⟩ = some (.string m2) ∧ w'.cell? ⟨C, 0, none⟩ = some (.bool false) ∧ w'.cell? ⟨C, 1, none⟩ = some (.string ⟨#[]⟩) ∧ w'.cell? ⟨D, 0, none⟩ = some (.bool false) ∧ w'.cell? ⟨D, 1, none⟩ = some (.string ⟨#[]⟩))
        (go_keep) (first
        | (go_at_call 78; refine (HO.out _).mono ?_; rintro e x17 ⟨rfl, hbx⟩; have hTx : Below s16.heap.size s16 x17 := (by first | exact (Below.refl _ _).drew.trans hbx | exact Below.trans (by assumption) (hbx.mono (Below.size (by assumption))) | exact (Below.refl _ _).trans hbx); obtain ⟨hcx, hfx⟩ := bcell hTx)
        | (go_at_call 59; refine (HA.out _).mono ?_; rintro e x17 ⟨rfl, hbx⟩; have hTx : Below s16.heap.size s16 x17 := (by first | exact (Below.refl _ _).drew.trans hbx | exact Below.trans (by assumption) (hbx.mono (Below.size (by assumption))) | exact (Below.refl _ _).trans hbx); obtain ⟨hcx, hfx⟩ := bcell hTx)
        | (go_at_call 79; refine (HS.out _).mono ?_; rintro e x17 ⟨rfl, hbx⟩; have hTx : Below s16.heap.size s16 x17 := (by first | exact (Below.refl _ _).drew.trans hbx | exact Below.trans (by assumption) (hbx.mono (Below.size (by assumption))) | exact (Below.refl _ _).trans hbx); obtain ⟨hcx, hfx⟩ := bcell hTx))) | fail
      go_wp2_with fail
      replace kA0 := (hcx A 0 zA).trans kA0
      replace kA1 := (hcx A 1 zA).trans kA1
      replace zA := Nat.lt_of_lt_of_le zA hTx.size
      replace kB0 := (hcx B 0 zB).trans kB0
      replace kB1 := (hcx B 1 zB).trans kB1
      replace zB := Nat.lt_of_lt_of_le zB hTx.size
      replace kC0 := (hcx C 0 zC).trans kC0
      replace fC0 := (hfx C 0 zC).trans fC0
      replace kC1 := (hcx C 1 zC).trans kC1
      replace fC1 := (hfx C 1 zC).trans fC1
      replace zC := Nat.lt_of_lt_of_le zC hTx.size
      replace kD0 := (hcx D 0 zD).trans kD0
      replace fD0 := (hfx D 0 zD).trans fD0
      replace kD1 := (hcx D 1 zD).trans kD1
      replace fD1 := (hfx D 1 zD).trans fD1
      replace zD := Nat.lt_of_lt_of_le zD hTx.size
      have hBo := HF.out _ hTx
      clear HF hcx hfx hTx
      have HF : Hid (∀ W, Below x17.heap.size x17 W → Below w.heap.size w W) := fun W hW => hBo.trans (hW.mono hBo.size)
      clear hBo
      first | (go_region_held3 (fun w' => w'.cell? ⟨A, 0, none⟩ = some (.bool false) ∧ w'.cell? ⟨A, 1, none⟩ = some (.string m1) ∧ w'.cell? ⟨B, 0, none⟩ = some (.bool true) ∧ w'.cell? ⟨B, 1, none⟩ = some (.string m2))
        (go_keep) (first
        | (go_at_call 64; refine (HM.out _ _ _).mono ?_; rintro e x18 ⟨he, hbx⟩; (first | rw [E1.out] at he | rw [E2.out] at he); subst he; have hTx : Below x17.heap.size x17 x18 := (by first | exact (Below.refl _ _).drew.trans hbx | exact Below.trans (by assumption) (hbx.mono (Below.size (by assumption))) | exact (Below.refl _ _).trans hbx); obtain ⟨hcx, hfx⟩ := bcell hTx))) | fail
      all_goals go_wp2_with fail
      all_goals refine bodyPost_ret (v := .tuple #[.agg #[.bool (zb q), .string (zt q)], .agg #[.bool (zb r), .string (zt r)], .int .i64 0]) (by simp [results, Tryz.results41, go_sem, hcx, kC0, kC1, kD0, kD1, zC, zD]) rfl ⟨rfl, ?_⟩
      all_goals exact (((((HF.out _ (by assumption)).setCell lC _).setCell lC _).setCell lD _).setCell lD _)
    case true.false =>
      clear hc
      go_enter Tryz.func41, Tryz.ntmps41
      go_wp2_with fail
      obtain ⟨s19, hws⟩ : ∃ s, s = ((((w.alloc (.cells #[.bool true, .string m1] 44)).alloc (.cells #[.bool false, .string m2] 44)).alloc (.cells #[.bool false, .string ⟨#[]⟩] 44)).alloc (.cells #[.bool false, .string ⟨#[]⟩] 44)) := ⟨_, rfl⟩
      have hBs : Below w.heap.size w s19 := by rw [hws]; exact (((((Below.refl w.heap.size w).alloc (by simp) _).alloc (by simp) _).alloc (by simp; omega) _).alloc (by simp; omega) _)
      obtain ⟨A, hdA⟩ : ∃ b, b = w.heap.size := ⟨_, rfl⟩
      obtain ⟨B, hdB⟩ : ∃ b, b = w.heap.size + 1 := ⟨_, rfl⟩
      obtain ⟨C, hdC⟩ : ∃ b, b = w.heap.size + 1 + 1 := ⟨_, rfl⟩
      obtain ⟨D, hdD⟩ : ∃ b, b = w.heap.size + 1 + 1 + 1 := ⟨_, rfl⟩
      have hsz : s19.heap.size = w.heap.size + 1 + 1 + 1 + 1 := by rw [hws]; simp
      have dCA : C ≠ A := by omega
      have dCB : C ≠ B := by omega
      have dCD : C ≠ D := by omega
      have dDA : D ≠ A := by omega
      have dDB : D ≠ B := by omega
      have dDC : D ≠ C := by omega
      have kA0 : s19.cell? ⟨A, 0, none⟩ = some (.bool true) := by rw [hws]; simp [go_sem, hdA, hdB, hdC, hdD]
      have kA1 : s19.cell? ⟨A, 1, none⟩ = some (.string m1) := by rw [hws]; simp [go_sem, hdA, hdB, hdC, hdD]
      have zA : A < s19.heap.size := by omega
      have lA : w.heap.size ≤ A := by have := Nat.le_refl w.heap.size; omega
      have kB0 : s19.cell? ⟨B, 0, none⟩ = some (.bool false) := by rw [hws]; simp [go_sem, hdA, hdB, hdC, hdD]
      have kB1 : s19.cell? ⟨B, 1, none⟩ = some (.string m2) := by rw [hws]; simp [go_sem, hdA, hdB, hdC, hdD]
      have zB : B < s19.heap.size := by omega
      have lB : w.heap.size ≤ B := by have := Nat.le_refl w.heap.size; omega
      have kC0 : s19.cell? ⟨C, 0, none⟩ = some (.bool false) := by rw [hws]; simp [go_sem, hdA, hdB, hdC, hdD]
      have fC0 : s19.frozen? ⟨C, 0, none⟩ = false := by rw [hws]; simp [go_sem, hdA, hdB, hdC, hdD]
      have kC1 : s19.cell? ⟨C, 1, none⟩ = some (.string ⟨#[]⟩) := by rw [hws]; simp [go_sem, hdA, hdB, hdC, hdD]
      have fC1 : s19.frozen? ⟨C, 1, none⟩ = false := by rw [hws]; simp [go_sem, hdA, hdB, hdC, hdD]
      have zC : C < s19.heap.size := by omega
      have lC : w.heap.size ≤ C := by have := Nat.le_refl w.heap.size; omega
      have kD0 : s19.cell? ⟨D, 0, none⟩ = some (.bool false) := by rw [hws]; simp [go_sem, hdA, hdB, hdC, hdD]
      have fD0 : s19.frozen? ⟨D, 0, none⟩ = false := by rw [hws]; simp [go_sem, hdA, hdB, hdC, hdD]
      have kD1 : s19.cell? ⟨D, 1, none⟩ = some (.string ⟨#[]⟩) := by rw [hws]; simp [go_sem, hdA, hdB, hdC, hdD]
      have fD1 : s19.frozen? ⟨D, 1, none⟩ = false := by rw [hws]; simp [go_sem, hdA, hdB, hdC, hdD]
      have zD : D < s19.heap.size := by omega
      have lD : w.heap.size ≤ D := by have := Nat.le_refl w.heap.size; omega
      rw [← hws]
      try rw [← hdD]
      try rw [← hdC]
      try rw [← hdB]
      try rw [← hdA]
      clear hws hsz hdA hdB hdC hdD
      have hBo := hBs; clear hBs
      refine (HD.out _).mono ?_; rintro e s20 ⟨rfl, hb⟩
      replace kA0 := belK hb kA0 zA; replace kA1 := belK hb kA1 zA; replace zA := Nat.lt_of_lt_of_le zA hb.size
      replace kB0 := belK hb kB0 zB; replace kB1 := belK hb kB1 zB; replace zB := Nat.lt_of_lt_of_le zB hb.size
      replace kC0 := belK hb kC0 zC; replace fC0 := belF hb fC0 zC; replace kC1 := belK hb kC1 zC; replace fC1 := belF hb fC1 zC; replace zC := Nat.lt_of_lt_of_le zC hb.size
      replace kD0 := belK hb kD0 zD; replace fD0 := belF hb fD0 zD; replace kD1 := belK hb kD1 zD; replace fD1 := belF hb fD1 zD; replace zD := Nat.lt_of_lt_of_le zD hb.size
      replace hBo := hBo.trans (hb.mono hBo.size)
      clear hb
      go_wp2_with fail
      have HF : Hid (∀ W, Below s20.heap.size s20 W → Below w.heap.size w W) := fun W hW => hBo.trans (hW.mono hBo.size)
      clear hBo
      first | (go_region_held3 (fun w' => w'.cell? ⟨A, 0, none⟩ = some (.bool true) ∧ w'.cell? ⟨A, 1, none⟩ = some (.string m1) ∧ w'.cell? ⟨B, 0, none⟩ = some (.bool false) ∧ w'.cell? ⟨B, 1, none⟩ = some (.string m2) ∧ w'.cell? ⟨C, 0, none⟩ = some (.bool false) ∧ w'.cell? ⟨C, 1, none⟩ = some (.string ⟨#[]⟩) ∧ w'.cell? ⟨D, 0, none⟩ = some (.bool false) ∧ w'.cell? ⟨D, 1, none⟩ = some (.string ⟨#[]⟩))
        (go_keep) (first
        | (go_at_call 78; refine (HO.out _).mono ?_; rintro e x21 ⟨rfl, hbx⟩; have hTx : Below s20.heap.size s20 x21 := (by first | exact (Below.refl _ _).drew.trans hbx | exact Below.trans (by assumption) (hbx.mono (Below.size (by assumption))) | exact (Below.refl _ _).trans hbx); obtain ⟨hcx, hfx⟩ := bcell hTx)
        | (go_at_call 59; refine (HA.out _).mono ?_; rintro e x21 ⟨rfl, hbx⟩; have hTx : Below s20.heap.size s20 x21 := (by first | exact (Below.refl _ _).drew.trans hbx | exact Below.trans (by assumption) (hbx.mono (Below.size (by assumption))) | exact (Below.refl _ _).trans hbx); obtain ⟨hcx, hfx⟩ := bcell hTx)
        | (go_at_call 79; refine (HS.out _).mono ?_; rintro e x21 ⟨rfl, hbx⟩; have hTx : Below s20.heap.size s20 x21 := (by first | exact (Below.refl _ _).drew.trans hbx | exact Below.trans (by assumption) (hbx.mono (Below.size (by assumption))) | exact (Below.refl _ _).trans hbx); obtain ⟨hcx, hfx⟩ := bcell hTx))) | fail
      go_wp2_with fail
      replace kA0 := (hcx A 0 zA).trans kA0
      replace kA1 := (hcx A 1 zA).trans kA1
      replace zA := Nat.lt_of_lt_of_le zA hTx.size
      replace kB0 := (hcx B 0 zB).trans kB0
      replace kB1 := (hcx B 1 zB).trans kB1
      replace zB := Nat.lt_of_lt_of_le zB hTx.size
      replace kC0 := (hcx C 0 zC).trans kC0
      replace fC0 := (hfx C 0 zC).trans fC0
      replace kC1 := (hcx C 1 zC).trans kC1
      replace fC1 := (hfx C 1 zC).trans fC1
      replace zC := Nat.lt_of_lt_of_le zC hTx.size
      replace kD0 := (hcx D 0 zD).trans kD0
      replace fD0 := (hfx D 0 zD).trans fD0
      replace kD1 := (hcx D 1 zD).trans kD1
      replace fD1 := (hfx D 1 zD).trans fD1
      replace zD := Nat.lt_of_lt_of_le zD hTx.size
      have hBo := HF.out _ hTx
      clear HF hcx hfx hTx
      have HF : Hid (∀ W, Below x21.heap.size x21 W → Below w.heap.size w W) := fun W hW => hBo.trans (hW.mono hBo.size)
      clear hBo
      first | (go_region_held3 (fun w' => w'.cell? ⟨A, 0, none⟩ = some (.bool true) ∧ w'.cell? ⟨A, 1, none⟩ = some (.string m1) ∧ w'.cell? ⟨B, 0, none⟩ = some (.bool false) ∧ w'.cell? ⟨B, 1, none⟩ = some (.string m2))
        (go_keep) (first
        | (go_at_call 64; refine (HM.out _ _ _).mono ?_; rintro e x22 ⟨he, hbx⟩; (first | rw [E1.out] at he | rw [E2.out] at he); subst he; have hTx : Below x21.heap.size x21 x22 := (by first | exact (Below.refl _ _).drew.trans hbx | exact Below.trans (by assumption) (hbx.mono (Below.size (by assumption))) | exact (Below.refl _ _).trans hbx); obtain ⟨hcx, hfx⟩ := bcell hTx))) | fail
      all_goals go_wp2_with fail
      all_goals refine bodyPost_ret (v := .tuple #[.agg #[.bool (zb q), .string (zt q)], .agg #[.bool (zb r), .string (zt r)], .int .i64 0]) (by simp [results, Tryz.results41, go_sem, hcx, kC0, kC1, kD0, kD1, zC, zD]) rfl ⟨rfl, ?_⟩
      all_goals exact (((((HF.out _ (by assumption)).setCell lC _).setCell lC _).setCell lD _).setCell lD _)
end Go.Proofs.YtbgmnpabclfjaaaGreatDoor
