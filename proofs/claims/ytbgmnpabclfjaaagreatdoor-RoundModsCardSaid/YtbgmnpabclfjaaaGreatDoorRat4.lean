/-
  WHOLE NUMBERS, DIVIDED: the document's.
-/
import Derived.Test.YtbgmnpabclfjaaaGreatDoorRat3
namespace Go.Proofs.YtbgmnpabclfjaaaGreatDoor
open Go.RowKit Go.Shelf
set_option linter.unusedSimpArgs false
set_option linter.unusedVariables false

theorem zt_lt (z : Int) : z.natAbs < 256 ^ (zt z).size := Nt.enc_lt z.natAbs
theorem zt_le {z : Int} {k : Nat} (h : z.natAbs < 256 ^ k) : (zt z).size ≤ k := Nt.enc_length_le h
theorem zt_mono {a b : Int} (h : a.natAbs ≤ b.natAbs) : (zt a).size ≤ (zt b).size := Nt.enc_length_mono h
theorem zt_mul_size (a b : Int) : (zt (a * b)).size ≤ (zt a).size + (zt b).size := zt_le (by rw [Int.natAbs_mul]; exact mul_lt (zt_lt a) (zt_lt b))
theorem zt_add_size {a b : Int} {k : Nat} (ha : (zt a).size ≤ k) (hb : (zt b).size ≤ k) : (zt (a + b)).size ≤ k + 1 := by
  have h1 : a.natAbs < 256 ^ k := Nat.lt_of_lt_of_le (zt_lt a) (Nat.pow_le_pow_right (by omega) ha)
  have h2 : b.natAbs < 256 ^ k := Nat.lt_of_lt_of_le (zt_lt b) (Nat.pow_le_pow_right (by omega) hb)
  exact zt_le (Nat.lt_of_le_of_lt (Int.natAbs_add_le a b) (add_lt h1 h2))
theorem sI_za (z : Int) : sI (zb z) z.natAbs = z := by have := sI_z z; rwa [V_zt] at this

set_option maxRecDepth 100000 in
set_option maxHeartbeats 16000000 in
theorem refFloor_any (n1 n2 : Bool) (m1 m2 : ByteArray) (q r : Int) (w : World) (h1 : m1.size ≤ 300) (h2 : m2.size ≤ 300) (h0 : Nt.V m2 ≠ 0)
    (hq : flq (sI n1 (Nt.V m1)) (sI n2 (Nt.V m2)) = q) (hr : flr (sI n1 (Nt.V m1)) (sI n2 (Nt.V m2)) = r) :
    Calls Tryz.prog 67 #[.agg #[.bool n1, .string m1], .agg #[.bool n2, .string m2]] w fun e w' => e = .returned (.tuple #[.agg #[.bool (zb q), .string (zt q)], .agg #[.bool (zb r), .string (zt r)], .int .i64 0]) ∧ Below w.heap.size w w' := by
  obtain ⟨x, hx⟩ : ∃ x, sI n1 (Nt.V m1) = x := ⟨_, rfl⟩
  obtain ⟨y, hy⟩ : ∃ y, sI n2 (Nt.V m2) = y := ⟨_, rfl⟩
  rw [hx, hy] at hq hr
  have zx := zt_size hx h1
  have zy := zt_size hy h2
  have hy0 : y.natAbs ≠ 0 := by rw [← hy, sI_abs]; exact h0
  have HX := Lib.hid (fun w => refWell_z n1 m1 x w hx)
  have HY := Lib.hid (fun w => refWell_z n2 m2 y w hy)
  have hdm := fun w => refDivMod_any (zt x) (zt y) w (by omega) (by omega)
  rw [divOut, V_zt, V_zt, if_neg hy0] at hdm
  obtain ⟨hw1, hw2⟩ := fl_ways (zb x) (zb y) x.natAbs y.natAbs (x.natAbs / y.natAbs) (x.natAbs % y.natAbs) hy0 (Nat.div_add_mod _ _) (Nat.mod_lt _ (Nat.pos_of_ne_zero hy0))
  rw [sI_za, sI_za, hq, hr] at hw1 hw2
  have hr2 : x - y * q = r := by rw [← hr, ← hq]; rfl
  have hu : x.natAbs / y.natAbs ≤ x.natAbs := Nat.div_le_self _ _
  have hne : x.natAbs % y.natAbs ≠ 0 → ¬ (Nt.E (x.natAbs % y.natAbs)).toList = [] := fun h => E_toList_ne _ h
  have hnil : x.natAbs % y.natAbs = 0 → Nt.E (x.natAbs % y.natAbs) = ⟨#[]⟩ := fun h => by rw [h]; rfl
  have v1 := Nt.V_E (x.natAbs / y.natAbs)
  generalize Nt.E (x.natAbs / y.natAbs) = t1 at *
  generalize Nt.E (x.natAbs % y.natAbs) = t2 at *
  generalize x.natAbs / y.natAbs = u at *
  generalize x.natAbs % y.natAbs = s at *
  have zq : (zt q).size ≤ 301 := by
    obtain ⟨k, hk⟩ : ∃ k, k = 300 := ⟨_, rfl⟩
    have hu2 : u < 256 ^ k := Nat.lt_of_le_of_lt hu (Nat.lt_of_lt_of_le (zt_lt x) (Nat.pow_le_pow_right (by omega) (by omega)))
    have hq1 : q.natAbs ≤ u + 1 := by
      by_cases hc : zb x = zb y ∨ s = 0
      · rw [(hw1 hc).1, sI_abs]; omega
      · rw [(hw2 (by simpa using hc)).1, sI_abs]
        exact Nat.le_refl _
    have : (zt q).size ≤ k + 1 := zt_le (Nat.lt_of_le_of_lt hq1 (by rw [Nat.pow_succ]; omega))
    omega
  have zyq := Nat.le_trans (zt_mul_size y q) (by omega : _ ≤ 700)
  obtain ⟨p, hp⟩ : ∃ p, y * q = p := ⟨_, rfl⟩
  rw [hp] at hr2 zyq
  have HML := Lib.hid (fun w => refMul4_any (zb y) (zb q) (zt y) (zt q) p w (by omega) (by omega) (by rw [sI_z, sI_z, hp]))
  have HSB := Lib.hid (fun w => refSub4_any (zb x) (zb p) (zt x) (zt p) r w (by omega) (by omega) (by rw [sI_z, sI_z, hr2]))
  have HO := Lib.hid (fun w => refOf_z 1 w (by omega) (by omega))
  have HD := Lib.hid hdm
  have HMk : Hid (∀ (b : Bool) (z : Int) (w : World), sI b (Nt.V t1) = z → Calls Tryz.prog 70 #[.bool b, .string t1] w fun e w' => e = .returned (.agg #[.bool (zb z), .string (zt z)]) ∧ Below w.heap.size w w') := fun b z w h => refMake_z b t1 z w h
  have HS1 : Hid (∀ (z : Int) (w : World), z - 1 = q → (zt z).size ≤ 1000 → Calls Tryz.prog 104 #[.agg #[.bool (zb z), .string (zt z)], .agg #[.bool (zb 1), .string (zt 1)]] w fun e w' => e = .returned (.agg #[.bool (zb q), .string (zt q)]) ∧ Below w.heap.size w w') := fun z w h hz => refSub4_any (zb z) (zb 1) (zt z) (zt 1) q w hz (by decide) (by rw [sI_z, sI_z, h])
  have hu3 : ∀ b, (zt (sI b u)).size ≤ 1000 := fun b => Nat.le_trans (zt_mono (b := x) (by rw [sI_abs]; exact hu)) (by omega)
  clear hdm h0 h1 h2 hx hy zyq zq hp hr2 hq hr hy0
  by_cases hc : zb x = zb y ∨ s = 0
  · have e1 := (hw1 hc).1.symm
    have HM1 : Hid (∀ (b : Bool) (w : World), b = (zb x != zb y) → Calls Tryz.prog 70 #[.bool b, .string t1] w fun e w' => e = .returned (.agg #[.bool (zb q), .string (zt q)]) ∧ Below w.heap.size w w') := fun b w hb => HMk.out b q w (by rw [hb, v1]; exact e1)
    clear HMk HS1 hw1 hw2 hne e1 v1 hu hu3 HO
    generalize zb x = bx at *
    generalize zb y = by' at *
    generalize zt x = tx at *
    generalize zt y = ty at *
    generalize zb q = bq at *
    generalize zt q = tq at *
    generalize zb p = bp at *
    generalize zt p = tp at *
    clear zx zy
    cases bx <;> cases by'
    case false.false =>
      clear hnil hc
      have HM2 := Lib.hid (fun w => HM1.out false w rfl)
      clear HM1
      go_enter Tryz.func67, Tryz.ntmps67
      go_wp2_with fail
      obtain ⟨s7, hws⟩ : ∃ s, s = ((((w.alloc (.cells #[.bool n1, .string m1] 44)).alloc (.cells #[.bool n2, .string m2] 44)).alloc (.cells #[.bool false, .string ⟨#[]⟩] 44)).alloc (.cells #[.bool false, .string ⟨#[]⟩] 44)) := ⟨_, rfl⟩
      have hBs : Below w.heap.size w s7 := by rw [hws]; exact (((((Below.refl w.heap.size w).alloc (by simp) _).alloc (by simp) _).alloc (by simp; omega) _).alloc (by simp; omega) _)
      obtain ⟨A, hdA⟩ : ∃ b, b = w.heap.size := ⟨_, rfl⟩
      obtain ⟨B, hdB⟩ : ∃ b, b = w.heap.size + 1 := ⟨_, rfl⟩
      obtain ⟨C, hdC⟩ : ∃ b, b = w.heap.size + 1 + 1 := ⟨_, rfl⟩
      obtain ⟨D, hdD⟩ : ∃ b, b = w.heap.size + 1 + 1 + 1 := ⟨_, rfl⟩
      have hsz : s7.heap.size = w.heap.size + 1 + 1 + 1 + 1 := by rw [hws]; simp
      have dAB : A ≠ B := by omega
      have dAC : A ≠ C := by omega
      have dAD : A ≠ D := by omega
      have dBA : B ≠ A := by omega
      have dBC : B ≠ C := by omega
      have dBD : B ≠ D := by omega
      have dCA : C ≠ A := by omega
      have dCB : C ≠ B := by omega
      have dCD : C ≠ D := by omega
      have dDA : D ≠ A := by omega
      have dDB : D ≠ B := by omega
      have dDC : D ≠ C := by omega
      have kA0 : s7.cell? ⟨A, 0, none⟩ = some (.bool n1) := by rw [hws]; simp [go_sem, hdA, hdB, hdC, hdD]
      have fA0 : s7.frozen? ⟨A, 0, none⟩ = false := by rw [hws]; simp [go_sem, hdA, hdB, hdC, hdD]
      have kA1 : s7.cell? ⟨A, 1, none⟩ = some (.string m1) := by rw [hws]; simp [go_sem, hdA, hdB, hdC, hdD]
      have fA1 : s7.frozen? ⟨A, 1, none⟩ = false := by rw [hws]; simp [go_sem, hdA, hdB, hdC, hdD]
      have zA : A < s7.heap.size := by omega
      have lA : w.heap.size ≤ A := by have := Nat.le_refl w.heap.size; omega
      have kB0 : s7.cell? ⟨B, 0, none⟩ = some (.bool n2) := by rw [hws]; simp [go_sem, hdA, hdB, hdC, hdD]
      have fB0 : s7.frozen? ⟨B, 0, none⟩ = false := by rw [hws]; simp [go_sem, hdA, hdB, hdC, hdD]
      have kB1 : s7.cell? ⟨B, 1, none⟩ = some (.string m2) := by rw [hws]; simp [go_sem, hdA, hdB, hdC, hdD]
      have fB1 : s7.frozen? ⟨B, 1, none⟩ = false := by rw [hws]; simp [go_sem, hdA, hdB, hdC, hdD]
      have zB : B < s7.heap.size := by omega
      have lB : w.heap.size ≤ B := by have := Nat.le_refl w.heap.size; omega
      have kC0 : s7.cell? ⟨C, 0, none⟩ = some (.bool false) := by rw [hws]; simp [go_sem, hdA, hdB, hdC, hdD]
      have fC0 : s7.frozen? ⟨C, 0, none⟩ = false := by rw [hws]; simp [go_sem, hdA, hdB, hdC, hdD]
      have kC1 : s7.cell? ⟨C, 1, none⟩ = some (.string ⟨#[]⟩) := by rw [hws]; simp [go_sem, hdA, hdB, hdC, hdD]
      have fC1 : s7.frozen? ⟨C, 1, none⟩ = false := by rw [hws]; simp [go_sem, hdA, hdB, hdC, hdD]
      have zC : C < s7.heap.size := by omega
      have lC : w.heap.size ≤ C := by have := Nat.le_refl w.heap.size; omega
      have kD0 : s7.cell? ⟨D, 0, none⟩ = some (.bool false) := by rw [hws]; simp [go_sem, hdA, hdB, hdC, hdD]
      have fD0 : s7.frozen? ⟨D, 0, none⟩ = false := by rw [hws]; simp [go_sem, hdA, hdB, hdC, hdD]
      have kD1 : s7.cell? ⟨D, 1, none⟩ = some (.string ⟨#[]⟩) := by rw [hws]; simp [go_sem, hdA, hdB, hdC, hdD]
      have fD1 : s7.frozen? ⟨D, 1, none⟩ = false := by rw [hws]; simp [go_sem, hdA, hdB, hdC, hdD]
      have zD : D < s7.heap.size := by omega
      have lD : w.heap.size ≤ D := by have := Nat.le_refl w.heap.size; omega
      rw [← hws]
      try rw [← hdD]
      try rw [← hdC]
      try rw [← hdB]
      try rw [← hdA]
      clear hws hsz hdA hdB hdC hdD
      have hBo := hBs; clear hBs
      refine (HX.out _).mono ?_; rintro e s8 ⟨rfl, hb⟩
      replace kA0 := belK hb kA0 zA; replace fA0 := belF hb fA0 zA; replace kA1 := belK hb kA1 zA; replace fA1 := belF hb fA1 zA; replace zA := Nat.lt_of_lt_of_le zA hb.size
      replace kB0 := belK hb kB0 zB; replace fB0 := belF hb fB0 zB; replace kB1 := belK hb kB1 zB; replace fB1 := belF hb fB1 zB; replace zB := Nat.lt_of_lt_of_le zB hb.size
      replace kC0 := belK hb kC0 zC; replace fC0 := belF hb fC0 zC; replace kC1 := belK hb kC1 zC; replace fC1 := belF hb fC1 zC; replace zC := Nat.lt_of_lt_of_le zC hb.size
      replace kD0 := belK hb kD0 zD; replace fD0 := belF hb fD0 zD; replace kD1 := belK hb kD1 zD; replace fD1 := belF hb fD1 zD; replace zD := Nat.lt_of_lt_of_le zD hb.size
      replace hBo := hBo.trans (hb.mono hBo.size)
      clear hb
      go_wp2_with fail
      obtain ⟨s9, hws⟩ : ∃ s, s = ((s8.setCell ⟨A, 0, none⟩ (.bool false)).setCell ⟨A, 1, none⟩ (.string tx)) := ⟨_, rfl⟩
      have hBs : Below w.heap.size w s9 := by rw [hws]; exact (((hBo).setCell lA _).setCell lA _)
      have hsz : s9.heap.size = s8.heap.size := by rw [hws]; simp
      have hQC : ∀ b j v, s8.cell? ⟨b, j, none⟩ = some v → A ≠ b → s9.cell? ⟨b, j, none⟩ = some v := fun b j v h dA => by rw [hws]; exact (stK (stK h dA) dA)
      replace kB0 := hQC _ _ _ kB0 dAB; replace kB1 := hQC _ _ _ kB1 dAB
      replace kC0 := hQC _ _ _ kC0 dAC; replace kC1 := hQC _ _ _ kC1 dAC
      replace kD0 := hQC _ _ _ kD0 dAD; replace kD1 := hQC _ _ _ kD1 dAD
      clear hQC
      have kA0_ : s9.cell? ⟨A, 0, none⟩ = some (.bool false) := by rw [hws]; simp [go_sem, kA0, kA1, fA0, fA1]
      have kA1_ : s9.cell? ⟨A, 1, none⟩ = some (.string tx) := by rw [hws]; simp [go_sem, kA0, kA1, fA0, fA1]
      replace kA0 := kA0_; clear kA0_; replace kA1 := kA1_; clear kA1_
      have hQF : ∀ p, s9.frozen? p = s8.frozen? p := fun p => by rw [hws]; simp [go_sem]
      replace fA0 := (hQF _).trans fA0; replace fA1 := (hQF _).trans fA1
      replace fB0 := (hQF _).trans fB0; replace fB1 := (hQF _).trans fB1
      replace fC0 := (hQF _).trans fC0; replace fC1 := (hQF _).trans fC1
      replace fD0 := (hQF _).trans fD0; replace fD1 := (hQF _).trans fD1
      clear hQF
      replace zA : A < s9.heap.size := by omega
      replace zB : B < s9.heap.size := by omega
      replace zC : C < s9.heap.size := by omega
      replace zD : D < s9.heap.size := by omega
      rw [← hws]
      clear hBo hws hsz
      have hBo := hBs; clear hBs
      refine (HY.out _).mono ?_; rintro e s10 ⟨rfl, hb⟩
      replace kA0 := belK hb kA0 zA; replace fA0 := belF hb fA0 zA; replace kA1 := belK hb kA1 zA; replace fA1 := belF hb fA1 zA; replace zA := Nat.lt_of_lt_of_le zA hb.size
      replace kB0 := belK hb kB0 zB; replace fB0 := belF hb fB0 zB; replace kB1 := belK hb kB1 zB; replace fB1 := belF hb fB1 zB; replace zB := Nat.lt_of_lt_of_le zB hb.size
      replace kC0 := belK hb kC0 zC; replace fC0 := belF hb fC0 zC; replace kC1 := belK hb kC1 zC; replace fC1 := belF hb fC1 zC; replace zC := Nat.lt_of_lt_of_le zC hb.size
      replace kD0 := belK hb kD0 zD; replace fD0 := belF hb fD0 zD; replace kD1 := belK hb kD1 zD; replace fD1 := belF hb fD1 zD; replace zD := Nat.lt_of_lt_of_le zD hb.size
      replace hBo := hBo.trans (hb.mono hBo.size)
      clear hb
      go_wp2_with fail
      obtain ⟨s11, hws⟩ : ∃ s, s = ((s10.setCell ⟨B, 0, none⟩ (.bool false)).setCell ⟨B, 1, none⟩ (.string ty)) := ⟨_, rfl⟩
      have hBs : Below w.heap.size w s11 := by rw [hws]; exact (((hBo).setCell lB _).setCell lB _)
      have hsz : s11.heap.size = s10.heap.size := by rw [hws]; simp
      have hQC : ∀ b j v, s10.cell? ⟨b, j, none⟩ = some v → B ≠ b → s11.cell? ⟨b, j, none⟩ = some v := fun b j v h dB => by rw [hws]; exact (stK (stK h dB) dB)
      replace kA0 := hQC _ _ _ kA0 dBA; replace kA1 := hQC _ _ _ kA1 dBA
      replace kC0 := hQC _ _ _ kC0 dBC; replace kC1 := hQC _ _ _ kC1 dBC
      replace kD0 := hQC _ _ _ kD0 dBD; replace kD1 := hQC _ _ _ kD1 dBD
      clear hQC
      have kB0_ : s11.cell? ⟨B, 0, none⟩ = some (.bool false) := by rw [hws]; simp [go_sem, kB0, kB1, fB0, fB1]
      have kB1_ : s11.cell? ⟨B, 1, none⟩ = some (.string ty) := by rw [hws]; simp [go_sem, kB0, kB1, fB0, fB1]
      replace kB0 := kB0_; clear kB0_; replace kB1 := kB1_; clear kB1_
      have hQF : ∀ p, s11.frozen? p = s10.frozen? p := fun p => by rw [hws]; simp [go_sem]
      replace fA0 := (hQF _).trans fA0; replace fA1 := (hQF _).trans fA1
      replace fB0 := (hQF _).trans fB0; replace fB1 := (hQF _).trans fB1
      replace fC0 := (hQF _).trans fC0; replace fC1 := (hQF _).trans fC1
      replace fD0 := (hQF _).trans fD0; replace fD1 := (hQF _).trans fD1
      clear hQF
      replace zA : A < s11.heap.size := by omega
      replace zB : B < s11.heap.size := by omega
      replace zC : C < s11.heap.size := by omega
      replace zD : D < s11.heap.size := by omega
      rw [← hws]
      clear hBo hws hsz
      have hBo := hBs; clear hBs
      refine (HD.out _).mono ?_; rintro e s12 ⟨rfl, hb⟩
      replace kA0 := belK hb kA0 zA; replace fA0 := belF hb fA0 zA; replace kA1 := belK hb kA1 zA; replace fA1 := belF hb fA1 zA; replace zA := Nat.lt_of_lt_of_le zA hb.size
      replace kB0 := belK hb kB0 zB; replace fB0 := belF hb fB0 zB; replace kB1 := belK hb kB1 zB; replace fB1 := belF hb fB1 zB; replace zB := Nat.lt_of_lt_of_le zB hb.size
      replace kC0 := belK hb kC0 zC; replace fC0 := belF hb fC0 zC; replace kC1 := belK hb kC1 zC; replace fC1 := belF hb fC1 zC; replace zC := Nat.lt_of_lt_of_le zC hb.size
      replace kD0 := belK hb kD0 zD; replace fD0 := belF hb fD0 zD; replace kD1 := belK hb kD1 zD; replace fD1 := belF hb fD1 zD; replace zD := Nat.lt_of_lt_of_le zD hb.size
      replace hBo := hBo.trans (hb.mono hBo.size)
      clear hb
      go_wp2_with fail
      refine (HM2.out _).mono ?_; rintro e s13 ⟨rfl, hb⟩
      replace kA0 := belK hb kA0 zA; replace fA0 := belF hb fA0 zA; replace kA1 := belK hb kA1 zA; replace fA1 := belF hb fA1 zA; replace zA := Nat.lt_of_lt_of_le zA hb.size
      replace kB0 := belK hb kB0 zB; replace fB0 := belF hb fB0 zB; replace kB1 := belK hb kB1 zB; replace fB1 := belF hb fB1 zB; replace zB := Nat.lt_of_lt_of_le zB hb.size
      replace kC0 := belK hb kC0 zC; replace fC0 := belF hb fC0 zC; replace kC1 := belK hb kC1 zC; replace fC1 := belF hb fC1 zC; replace zC := Nat.lt_of_lt_of_le zC hb.size
      replace kD0 := belK hb kD0 zD; replace fD0 := belF hb fD0 zD; replace kD1 := belK hb kD1 zD; replace fD1 := belF hb fD1 zD; replace zD := Nat.lt_of_lt_of_le zD hb.size
      replace hBo := hBo.trans (hb.mono hBo.size)
      clear hb
      go_wp2_with fail
      obtain ⟨s14, hws⟩ : ∃ s, s = (s13.alloc (.cells #[.bool bq, .string tq] 44)) := ⟨_, rfl⟩
      have hBs : Below w.heap.size w s14 := by rw [hws]; exact ((hBo).alloc (by exact hBo.size) _)
      obtain ⟨X, hdX⟩ : ∃ b, b = s13.heap.size := ⟨_, rfl⟩
      have hsz : s14.heap.size = s13.heap.size + 1 := by rw [hws]; simp
      have dAX : A ≠ X := by omega
      have dBX : B ≠ X := by omega
      have dCX : C ≠ X := by omega
      have dDX : D ≠ X := by omega
      have hQC : ∀ p v, s13.cell? p = some v → s14.cell? p = some v := fun p v h => by rw [hws]; exact (alK h)
      have hQZ : ∀ b, b < s13.heap.size → b < s14.heap.size := fun b h => by omega
      have hQF : ∀ b j, b < s13.heap.size → s13.frozen? ⟨b, j, none⟩ = false → s14.frozen? ⟨b, j, none⟩ = false := fun b j z h => by rw [hws]; exact (alF z h)
      replace kA0 := hQC _ _ kA0; replace fA0 := hQF _ _ zA fA0; replace kA1 := hQC _ _ kA1; replace fA1 := hQF _ _ zA fA1; replace zA := hQZ _ zA
      replace kB0 := hQC _ _ kB0; replace fB0 := hQF _ _ zB fB0; replace kB1 := hQC _ _ kB1; replace fB1 := hQF _ _ zB fB1; replace zB := hQZ _ zB
      replace kC0 := hQC _ _ kC0; replace fC0 := hQF _ _ zC fC0; replace kC1 := hQC _ _ kC1; replace fC1 := hQF _ _ zC fC1; replace zC := hQZ _ zC
      replace kD0 := hQC _ _ kD0; replace fD0 := hQF _ _ zD fD0; replace kD1 := hQC _ _ kD1; replace fD1 := hQF _ _ zD fD1; replace zD := hQZ _ zD
      clear hQC hQZ hQF
      have kX0 : s14.cell? ⟨X, 0, none⟩ = some (.bool bq) := by rw [hws]; simp [go_sem, hdX]
      have kX1 : s14.cell? ⟨X, 1, none⟩ = some (.string tq) := by rw [hws]; simp [go_sem, hdX]
      have zX : X < s14.heap.size := by omega
      have lX : w.heap.size ≤ X := by have := hBo.size; omega
      rw [← hws]
      try rw [← hdX]
      clear hBo
      clear hws hsz hdX
      have hBo := hBs; clear hBs
      have HF : Hid (∀ W, Below s14.heap.size s14 W → Below w.heap.size w W) := fun W hW => hBo.trans (hW.mono hBo.size)
      clear hBo
      first | (go_region_held3 (fun w' => w'.cell? ⟨A, 0, none⟩ = some (.bool false) ∧ w'.cell? ⟨A, 1, none⟩ = some (.string tx) ∧ w'.cell? ⟨B, 0, none⟩ = some (.bool false) ∧ w'.cell? ⟨B, 1, none⟩ = some (.string ty) ∧ w'.cell? ⟨X, 0, none⟩ = some (.bool bq) ∧ w'.cell? ⟨X, 1, none⟩ = some (.string tq))
        (go_keep) (first
        | (go_at_call 53; refine (HML.out _).mono ?_; rintro e x15 ⟨rfl, hbx⟩; have hTx : Below s14.heap.size s14 x15 := (by first | exact (Below.refl _ _).drew.trans hbx | exact Below.trans (by assumption) (hbx.mono (Below.size (by assumption))) | exact (Below.refl _ _).trans hbx); obtain ⟨hcx, hfx⟩ := bcell hTx)
        | (go_at_call 104; refine (HSB.out _).mono ?_; rintro e x15 ⟨rfl, hbx⟩; have hTx : Below s14.heap.size s14 x15 := (by first | exact (Below.refl _ _).drew.trans hbx | exact Below.trans (by assumption) (hbx.mono (Below.size (by assumption))) | exact (Below.refl _ _).trans hbx); obtain ⟨hcx, hfx⟩ := bcell hTx))) | fail
      all_goals go_wp2_with fail
      all_goals refine bodyPost_ret (v := .tuple #[.agg #[.bool bq, .string tq], .agg #[.bool (zb r), .string (zt r)], .int .i64 0]) (by simp [results, Tryz.results67, go_sem, hcx, kC0, kC1, kD0, kD1, zC, zD]) rfl ⟨rfl, ?_⟩
      all_goals exact (((((HF.out _ (by assumption)).setCell lC _).setCell lC _).setCell lD _).setCell lD _)
    case true.true =>
      clear hnil hc
      have HM2 := Lib.hid (fun w => HM1.out false w rfl)
      clear HM1
      go_enter Tryz.func67, Tryz.ntmps67
      go_wp2_with fail
      obtain ⟨s16, hws⟩ : ∃ s, s = ((((w.alloc (.cells #[.bool n1, .string m1] 44)).alloc (.cells #[.bool n2, .string m2] 44)).alloc (.cells #[.bool false, .string ⟨#[]⟩] 44)).alloc (.cells #[.bool false, .string ⟨#[]⟩] 44)) := ⟨_, rfl⟩
      have hBs : Below w.heap.size w s16 := by rw [hws]; exact (((((Below.refl w.heap.size w).alloc (by simp) _).alloc (by simp) _).alloc (by simp; omega) _).alloc (by simp; omega) _)
      obtain ⟨A, hdA⟩ : ∃ b, b = w.heap.size := ⟨_, rfl⟩
      obtain ⟨B, hdB⟩ : ∃ b, b = w.heap.size + 1 := ⟨_, rfl⟩
      obtain ⟨C, hdC⟩ : ∃ b, b = w.heap.size + 1 + 1 := ⟨_, rfl⟩
      obtain ⟨D, hdD⟩ : ∃ b, b = w.heap.size + 1 + 1 + 1 := ⟨_, rfl⟩
      have hsz : s16.heap.size = w.heap.size + 1 + 1 + 1 + 1 := by rw [hws]; simp
      have dAB : A ≠ B := by omega
      have dAC : A ≠ C := by omega
      have dAD : A ≠ D := by omega
      have dBA : B ≠ A := by omega
      have dBC : B ≠ C := by omega
      have dBD : B ≠ D := by omega
      have dCA : C ≠ A := by omega
      have dCB : C ≠ B := by omega
      have dCD : C ≠ D := by omega
      have dDA : D ≠ A := by omega
      have dDB : D ≠ B := by omega
      have dDC : D ≠ C := by omega
      have kA0 : s16.cell? ⟨A, 0, none⟩ = some (.bool n1) := by rw [hws]; simp [go_sem, hdA, hdB, hdC, hdD]
      have fA0 : s16.frozen? ⟨A, 0, none⟩ = false := by rw [hws]; simp [go_sem, hdA, hdB, hdC, hdD]
      have kA1 : s16.cell? ⟨A, 1, none⟩ = some (.string m1) := by rw [hws]; simp [go_sem, hdA, hdB, hdC, hdD]
      have fA1 : s16.frozen? ⟨A, 1, none⟩ = false := by rw [hws]; simp [go_sem, hdA, hdB, hdC, hdD]
      have zA : A < s16.heap.size := by omega
      have lA : w.heap.size ≤ A := by have := Nat.le_refl w.heap.size; omega
      have kB0 : s16.cell? ⟨B, 0, none⟩ = some (.bool n2) := by rw [hws]; simp [go_sem, hdA, hdB, hdC, hdD]
      have fB0 : s16.frozen? ⟨B, 0, none⟩ = false := by rw [hws]; simp [go_sem, hdA, hdB, hdC, hdD]
      have kB1 : s16.cell? ⟨B, 1, none⟩ = some (.string m2) := by rw [hws]; simp [go_sem, hdA, hdB, hdC, hdD]
      have fB1 : s16.frozen? ⟨B, 1, none⟩ = false := by rw [hws]; simp [go_sem, hdA, hdB, hdC, hdD]
      have zB : B < s16.heap.size := by omega
      have lB : w.heap.size ≤ B := by have := Nat.le_refl w.heap.size; omega
      have kC0 : s16.cell? ⟨C, 0, none⟩ = some (.bool false) := by rw [hws]; simp [go_sem, hdA, hdB, hdC, hdD]
      have fC0 : s16.frozen? ⟨C, 0, none⟩ = false := by rw [hws]; simp [go_sem, hdA, hdB, hdC, hdD]
      have kC1 : s16.cell? ⟨C, 1, none⟩ = some (.string ⟨#[]⟩) := by rw [hws]; simp [go_sem, hdA, hdB, hdC, hdD]
      have fC1 : s16.frozen? ⟨C, 1, none⟩ = false := by rw [hws]; simp [go_sem, hdA, hdB, hdC, hdD]
      have zC : C < s16.heap.size := by omega
      have lC : w.heap.size ≤ C := by have := Nat.le_refl w.heap.size; omega
      have kD0 : s16.cell? ⟨D, 0, none⟩ = some (.bool false) := by rw [hws]; simp [go_sem, hdA, hdB, hdC, hdD]
      have fD0 : s16.frozen? ⟨D, 0, none⟩ = false := by rw [hws]; simp [go_sem, hdA, hdB, hdC, hdD]
      have kD1 : s16.cell? ⟨D, 1, none⟩ = some (.string ⟨#[]⟩) := by rw [hws]; simp [go_sem, hdA, hdB, hdC, hdD]
      have fD1 : s16.frozen? ⟨D, 1, none⟩ = false := by rw [hws]; simp [go_sem, hdA, hdB, hdC, hdD]
      have zD : D < s16.heap.size := by omega
      have lD : w.heap.size ≤ D := by have := Nat.le_refl w.heap.size; omega
      rw [← hws]
      try rw [← hdD]
      try rw [← hdC]
      try rw [← hdB]
      try rw [← hdA]
      clear hws hsz hdA hdB hdC hdD
      have hBo := hBs; clear hBs
      refine (HX.out _).mono ?_; rintro e s17 ⟨rfl, hb⟩
      replace kA0 := belK hb kA0 zA; replace fA0 := belF hb fA0 zA; replace kA1 := belK hb kA1 zA; replace fA1 := belF hb fA1 zA; replace zA := Nat.lt_of_lt_of_le zA hb.size
      replace kB0 := belK hb kB0 zB; replace fB0 := belF hb fB0 zB; replace kB1 := belK hb kB1 zB; replace fB1 := belF hb fB1 zB; replace zB := Nat.lt_of_lt_of_le zB hb.size
      replace kC0 := belK hb kC0 zC; replace fC0 := belF hb fC0 zC; replace kC1 := belK hb kC1 zC; replace fC1 := belF hb fC1 zC; replace zC := Nat.lt_of_lt_of_le zC hb.size
      replace kD0 := belK hb kD0 zD; replace fD0 := belF hb fD0 zD; replace kD1 := belK hb kD1 zD; replace fD1 := belF hb fD1 zD; replace zD := Nat.lt_of_lt_of_le zD hb.size
      replace hBo := hBo.trans (hb.mono hBo.size)
      clear hb
      go_wp2_with fail
      obtain ⟨s18, hws⟩ : ∃ s, s = ((s17.setCell ⟨A, 0, none⟩ (.bool true)).setCell ⟨A, 1, none⟩ (.string tx)) := ⟨_, rfl⟩
      have hBs : Below w.heap.size w s18 := by rw [hws]; exact (((hBo).setCell lA _).setCell lA _)
      have hsz : s18.heap.size = s17.heap.size := by rw [hws]; simp
      have hQC : ∀ b j v, s17.cell? ⟨b, j, none⟩ = some v → A ≠ b → s18.cell? ⟨b, j, none⟩ = some v := fun b j v h dA => by rw [hws]; exact (stK (stK h dA) dA)
      replace kB0 := hQC _ _ _ kB0 dAB; replace kB1 := hQC _ _ _ kB1 dAB
      replace kC0 := hQC _ _ _ kC0 dAC; replace kC1 := hQC _ _ _ kC1 dAC
      replace kD0 := hQC _ _ _ kD0 dAD; replace kD1 := hQC _ _ _ kD1 dAD
      clear hQC
      have kA0_ : s18.cell? ⟨A, 0, none⟩ = some (.bool true) := by rw [hws]; simp [go_sem, kA0, kA1, fA0, fA1]
      have kA1_ : s18.cell? ⟨A, 1, none⟩ = some (.string tx) := by rw [hws]; simp [go_sem, kA0, kA1, fA0, fA1]
      replace kA0 := kA0_; clear kA0_; replace kA1 := kA1_; clear kA1_
      have hQF : ∀ p, s18.frozen? p = s17.frozen? p := fun p => by rw [hws]; simp [go_sem]
      replace fA0 := (hQF _).trans fA0; replace fA1 := (hQF _).trans fA1
      replace fB0 := (hQF _).trans fB0; replace fB1 := (hQF _).trans fB1
      replace fC0 := (hQF _).trans fC0; replace fC1 := (hQF _).trans fC1
      replace fD0 := (hQF _).trans fD0; replace fD1 := (hQF _).trans fD1
      clear hQF
      replace zA : A < s18.heap.size := by omega
      replace zB : B < s18.heap.size := by omega
      replace zC : C < s18.heap.size := by omega
      replace zD : D < s18.heap.size := by omega
      rw [← hws]
      clear hBo hws hsz
      have hBo := hBs; clear hBs
      refine (HY.out _).mono ?_; rintro e s19 ⟨rfl, hb⟩
      replace kA0 := belK hb kA0 zA; replace fA0 := belF hb fA0 zA; replace kA1 := belK hb kA1 zA; replace fA1 := belF hb fA1 zA; replace zA := Nat.lt_of_lt_of_le zA hb.size
      replace kB0 := belK hb kB0 zB; replace fB0 := belF hb fB0 zB; replace kB1 := belK hb kB1 zB; replace fB1 := belF hb fB1 zB; replace zB := Nat.lt_of_lt_of_le zB hb.size
      replace kC0 := belK hb kC0 zC; replace fC0 := belF hb fC0 zC; replace kC1 := belK hb kC1 zC; replace fC1 := belF hb fC1 zC; replace zC := Nat.lt_of_lt_of_le zC hb.size
      replace kD0 := belK hb kD0 zD; replace fD0 := belF hb fD0 zD; replace kD1 := belK hb kD1 zD; replace fD1 := belF hb fD1 zD; replace zD := Nat.lt_of_lt_of_le zD hb.size
      replace hBo := hBo.trans (hb.mono hBo.size)
      clear hb
      go_wp2_with fail
      obtain ⟨s20, hws⟩ : ∃ s, s = ((s19.setCell ⟨B, 0, none⟩ (.bool true)).setCell ⟨B, 1, none⟩ (.string ty)) := ⟨_, rfl⟩
      have hBs : Below w.heap.size w s20 := by rw [hws]; exact (((hBo).setCell lB _).setCell lB _)
      have hsz : s20.heap.size = s19.heap.size := by rw [hws]; simp
      have hQC : ∀ b j v, s19.cell? ⟨b, j, none⟩ = some v → B ≠ b → s20.cell? ⟨b, j, none⟩ = some v := fun b j v h dB => by rw [hws]; exact (stK (stK h dB) dB)
      replace kA0 := hQC _ _ _ kA0 dBA; replace kA1 := hQC _ _ _ kA1 dBA
      replace kC0 := hQC _ _ _ kC0 dBC; replace kC1 := hQC _ _ _ kC1 dBC
      replace kD0 := hQC _ _ _ kD0 dBD; replace kD1 := hQC _ _ _ kD1 dBD
      clear hQC
      have kB0_ : s20.cell? ⟨B, 0, none⟩ = some (.bool true) := by rw [hws]; simp [go_sem, kB0, kB1, fB0, fB1]
      have kB1_ : s20.cell? ⟨B, 1, none⟩ = some (.string ty) := by rw [hws]; simp [go_sem, kB0, kB1, fB0, fB1]
      replace kB0 := kB0_; clear kB0_; replace kB1 := kB1_; clear kB1_
      have hQF : ∀ p, s20.frozen? p = s19.frozen? p := fun p => by rw [hws]; simp [go_sem]
      replace fA0 := (hQF _).trans fA0; replace fA1 := (hQF _).trans fA1
      replace fB0 := (hQF _).trans fB0; replace fB1 := (hQF _).trans fB1
      replace fC0 := (hQF _).trans fC0; replace fC1 := (hQF _).trans fC1
      replace fD0 := (hQF _).trans fD0; replace fD1 := (hQF _).trans fD1
      clear hQF
      replace zA : A < s20.heap.size := by omega
      replace zB : B < s20.heap.size := by omega
      replace zC : C < s20.heap.size := by omega
      replace zD : D < s20.heap.size := by omega
      rw [← hws]
      clear hBo hws hsz
      have hBo := hBs; clear hBs
      refine (HD.out _).mono ?_; rintro e s21 ⟨rfl, hb⟩
      replace kA0 := belK hb kA0 zA; replace fA0 := belF hb fA0 zA; replace kA1 := belK hb kA1 zA; replace fA1 := belF hb fA1 zA; replace zA := Nat.lt_of_lt_of_le zA hb.size
      replace kB0 := belK hb kB0 zB; replace fB0 := belF hb fB0 zB; replace kB1 := belK hb kB1 zB; replace fB1 := belF hb fB1 zB; replace zB := Nat.lt_of_lt_of_le zB hb.size
      replace kC0 := belK hb kC0 zC; replace fC0 := belF hb fC0 zC; replace kC1 := belK hb kC1 zC; replace fC1 := belF hb fC1 zC; replace zC := Nat.lt_of_lt_of_le zC hb.size
      replace kD0 := belK hb kD0 zD; replace fD0 := belF hb fD0 zD; replace kD1 := belK hb kD1 zD; replace fD1 := belF hb fD1 zD; replace zD := Nat.lt_of_lt_of_le zD hb.size
      replace hBo := hBo.trans (hb.mono hBo.size)
      clear hb
      go_wp2_with fail
      refine (HM2.out _).mono ?_; rintro e s22 ⟨rfl, hb⟩
      replace kA0 := belK hb kA0 zA; replace fA0 := belF hb fA0 zA; replace kA1 := belK hb kA1 zA; replace fA1 := belF hb fA1 zA; replace zA := Nat.lt_of_lt_of_le zA hb.size
      replace kB0 := belK hb kB0 zB; replace fB0 := belF hb fB0 zB; replace kB1 := belK hb kB1 zB; replace fB1 := belF hb fB1 zB; replace zB := Nat.lt_of_lt_of_le zB hb.size
      replace kC0 := belK hb kC0 zC; replace fC0 := belF hb fC0 zC; replace kC1 := belK hb kC1 zC; replace fC1 := belF hb fC1 zC; replace zC := Nat.lt_of_lt_of_le zC hb.size
      replace kD0 := belK hb kD0 zD; replace fD0 := belF hb fD0 zD; replace kD1 := belK hb kD1 zD; replace fD1 := belF hb fD1 zD; replace zD := Nat.lt_of_lt_of_le zD hb.size
      replace hBo := hBo.trans (hb.mono hBo.size)
      clear hb
      go_wp2_with fail
      obtain ⟨s23, hws⟩ : ∃ s, s = (s22.alloc (.cells #[.bool bq, .string tq] 44)) := ⟨_, rfl⟩
      have hBs : Below w.heap.size w s23 := by rw [hws]; exact ((hBo).alloc (by exact hBo.size) _)
      obtain ⟨X, hdX⟩ : ∃ b, b = s22.heap.size := ⟨_, rfl⟩
      have hsz : s23.heap.size = s22.heap.size + 1 := by rw [hws]; simp
      have dAX : A ≠ X := by omega
      have dBX : B ≠ X := by omega
      have dCX : C ≠ X := by omega
      have dDX : D ≠ X := by omega
      have hQC : ∀ p v, s22.cell? p = some v → s23.cell? p = some v := fun p v h => by rw [hws]; exact (alK h)
      have hQZ : ∀ b, b < s22.heap.size → b < s23.heap.size := fun b h => by omega
      have hQF : ∀ b j, b < s22.heap.size → s22.frozen? ⟨b, j, none⟩ = false → s23.frozen? ⟨b, j, none⟩ = false := fun b j z h => by rw [hws]; exact (alF z h)
      replace kA0 := hQC _ _ kA0; replace fA0 := hQF _ _ zA fA0; replace kA1 := hQC _ _ kA1; replace fA1 := hQF _ _ zA fA1; replace zA := hQZ _ zA
      replace kB0 := hQC _ _ kB0; replace fB0 := hQF _ _ zB fB0; replace kB1 := hQC _ _ kB1; replace fB1 := hQF _ _ zB fB1; replace zB := hQZ _ zB
      replace kC0 := hQC _ _ kC0; replace fC0 := hQF _ _ zC fC0; replace kC1 := hQC _ _ kC1; replace fC1 := hQF _ _ zC fC1; replace zC := hQZ _ zC
      replace kD0 := hQC _ _ kD0; replace fD0 := hQF _ _ zD fD0; replace kD1 := hQC _ _ kD1; replace fD1 := hQF _ _ zD fD1; replace zD := hQZ _ zD
      clear hQC hQZ hQF
      have kX0 : s23.cell? ⟨X, 0, none⟩ = some (.bool bq) := by rw [hws]; simp [go_sem, hdX]
      have kX1 : s23.cell? ⟨X, 1, none⟩ = some (.string tq) := by rw [hws]; simp [go_sem, hdX]
      have zX : X < s23.heap.size := by omega
      have lX : w.heap.size ≤ X := by have := hBo.size; omega
      rw [← hws]
      try rw [← hdX]
      clear hBo
      clear hws hsz hdX
      have hBo := hBs; clear hBs
      have HF : Hid (∀ W, Below s23.heap.size s23 W → Below w.heap.size w W) := fun W hW => hBo.trans (hW.mono hBo.size)
      clear hBo
      first | (go_region_held3 (fun w' => w'.cell? ⟨A, 0, none⟩ = some (.bool true) ∧ w'.cell? ⟨A, 1, none⟩ = some (.string tx) ∧ w'.cell? ⟨B, 0, none⟩ = some (.bool true) ∧ w'.cell? ⟨B, 1, none⟩ = some (.string ty) ∧ w'.cell? ⟨X, 0, none⟩ = some (.bool bq) ∧ w'.cell? ⟨X, 1, none⟩ = some (.string tq))
        (go_keep) (first
        | (go_at_call 53; refine (HML.out _).mono ?_; rintro e x24 ⟨rfl, hbx⟩; have hTx : Below s23.heap.size s23 x24 := (by first | exact (Below.refl _ _).drew.trans hbx | exact Below.trans (by assumption) (hbx.mono (Below.size (by assumption))) | exact (Below.refl _ _).trans hbx); obtain ⟨hcx, hfx⟩ := bcell hTx)
        | (go_at_call 104; refine (HSB.out _).mono ?_; rintro e x24 ⟨rfl, hbx⟩; have hTx : Below s23.heap.size s23 x24 := (by first | exact (Below.refl _ _).drew.trans hbx | exact Below.trans (by assumption) (hbx.mono (Below.size (by assumption))) | exact (Below.refl _ _).trans hbx); obtain ⟨hcx, hfx⟩ := bcell hTx))) | fail
      all_goals go_wp2_with fail
      all_goals refine bodyPost_ret (v := .tuple #[.agg #[.bool bq, .string tq], .agg #[.bool (zb r), .string (zt r)], .int .i64 0]) (by simp [results, Tryz.results67, go_sem, hcx, kC0, kC1, kD0, kD1, zC, zD]) rfl ⟨rfl, ?_⟩
      all_goals exact (((((HF.out _ (by assumption)).setCell lC _).setCell lC _).setCell lD _).setCell lD _)
    case false.true =>
      have ht2 := hnil (by simpa using hc)
      subst ht2
      clear hnil hc
      have HM2 := Lib.hid (fun w => HM1.out true w rfl)
      clear HM1
      go_enter Tryz.func67, Tryz.ntmps67
      go_wp2_with fail
      obtain ⟨s25, hws⟩ : ∃ s, s = ((((w.alloc (.cells #[.bool n1, .string m1] 44)).alloc (.cells #[.bool n2, .string m2] 44)).alloc (.cells #[.bool false, .string ⟨#[]⟩] 44)).alloc (.cells #[.bool false, .string ⟨#[]⟩] 44)) := ⟨_, rfl⟩
      have hBs : Below w.heap.size w s25 := by rw [hws]; exact (((((Below.refl w.heap.size w).alloc (by simp) _).alloc (by simp) _).alloc (by simp; omega) _).alloc (by simp; omega) _)
      obtain ⟨A, hdA⟩ : ∃ b, b = w.heap.size := ⟨_, rfl⟩
      obtain ⟨B, hdB⟩ : ∃ b, b = w.heap.size + 1 := ⟨_, rfl⟩
      obtain ⟨C, hdC⟩ : ∃ b, b = w.heap.size + 1 + 1 := ⟨_, rfl⟩
      obtain ⟨D, hdD⟩ : ∃ b, b = w.heap.size + 1 + 1 + 1 := ⟨_, rfl⟩
      have hsz : s25.heap.size = w.heap.size + 1 + 1 + 1 + 1 := by rw [hws]; simp
      have dAB : A ≠ B := by omega
      have dAC : A ≠ C := by omega
      have dAD : A ≠ D := by omega
      have dBA : B ≠ A := by omega
      have dBC : B ≠ C := by omega
      have dBD : B ≠ D := by omega
      have dCA : C ≠ A := by omega
      have dCB : C ≠ B := by omega
      have dCD : C ≠ D := by omega
      have dDA : D ≠ A := by omega
      have dDB : D ≠ B := by omega
      have dDC : D ≠ C := by omega
      have kA0 : s25.cell? ⟨A, 0, none⟩ = some (.bool n1) := by rw [hws]; simp [go_sem, hdA, hdB, hdC, hdD]
      have fA0 : s25.frozen? ⟨A, 0, none⟩ = false := by rw [hws]; simp [go_sem, hdA, hdB, hdC, hdD]
      have kA1 : s25.cell? ⟨A, 1, none⟩ = some (.string m1) := by rw [hws]; simp [go_sem, hdA, hdB, hdC, hdD]
      have fA1 : s25.frozen? ⟨A, 1, none⟩ = false := by rw [hws]; simp [go_sem, hdA, hdB, hdC, hdD]
      have zA : A < s25.heap.size := by omega
      have lA : w.heap.size ≤ A := by have := Nat.le_refl w.heap.size; omega
      have kB0 : s25.cell? ⟨B, 0, none⟩ = some (.bool n2) := by rw [hws]; simp [go_sem, hdA, hdB, hdC, hdD]
      have fB0 : s25.frozen? ⟨B, 0, none⟩ = false := by rw [hws]; simp [go_sem, hdA, hdB, hdC, hdD]
      have kB1 : s25.cell? ⟨B, 1, none⟩ = some (.string m2) := by rw [hws]; simp [go_sem, hdA, hdB, hdC, hdD]
      have fB1 : s25.frozen? ⟨B, 1, none⟩ = false := by rw [hws]; simp [go_sem, hdA, hdB, hdC, hdD]
      have zB : B < s25.heap.size := by omega
      have lB : w.heap.size ≤ B := by have := Nat.le_refl w.heap.size; omega
      have kC0 : s25.cell? ⟨C, 0, none⟩ = some (.bool false) := by rw [hws]; simp [go_sem, hdA, hdB, hdC, hdD]
      have fC0 : s25.frozen? ⟨C, 0, none⟩ = false := by rw [hws]; simp [go_sem, hdA, hdB, hdC, hdD]
      have kC1 : s25.cell? ⟨C, 1, none⟩ = some (.string ⟨#[]⟩) := by rw [hws]; simp [go_sem, hdA, hdB, hdC, hdD]
      have fC1 : s25.frozen? ⟨C, 1, none⟩ = false := by rw [hws]; simp [go_sem, hdA, hdB, hdC, hdD]
      have zC : C < s25.heap.size := by omega
      have lC : w.heap.size ≤ C := by have := Nat.le_refl w.heap.size; omega
      have kD0 : s25.cell? ⟨D, 0, none⟩ = some (.bool false) := by rw [hws]; simp [go_sem, hdA, hdB, hdC, hdD]
      have fD0 : s25.frozen? ⟨D, 0, none⟩ = false := by rw [hws]; simp [go_sem, hdA, hdB, hdC, hdD]
      have kD1 : s25.cell? ⟨D, 1, none⟩ = some (.string ⟨#[]⟩) := by rw [hws]; simp [go_sem, hdA, hdB, hdC, hdD]
      have fD1 : s25.frozen? ⟨D, 1, none⟩ = false := by rw [hws]; simp [go_sem, hdA, hdB, hdC, hdD]
      have zD : D < s25.heap.size := by omega
      have lD : w.heap.size ≤ D := by have := Nat.le_refl w.heap.size; omega
      rw [← hws]
      try rw [← hdD]
      try rw [← hdC]
      try rw [← hdB]
      try rw [← hdA]
      clear hws hsz hdA hdB hdC hdD
      have hBo := hBs; clear hBs
      refine (HX.out _).mono ?_; rintro e s26 ⟨rfl, hb⟩
      replace kA0 := belK hb kA0 zA; replace fA0 := belF hb fA0 zA; replace kA1 := belK hb kA1 zA; replace fA1 := belF hb fA1 zA; replace zA := Nat.lt_of_lt_of_le zA hb.size
      replace kB0 := belK hb kB0 zB; replace fB0 := belF hb fB0 zB; replace kB1 := belK hb kB1 zB; replace fB1 := belF hb fB1 zB; replace zB := Nat.lt_of_lt_of_le zB hb.size
      replace kC0 := belK hb kC0 zC; replace fC0 := belF hb fC0 zC; replace kC1 := belK hb kC1 zC; replace fC1 := belF hb fC1 zC; replace zC := Nat.lt_of_lt_of_le zC hb.size
      replace kD0 := belK hb kD0 zD; replace fD0 := belF hb fD0 zD; replace kD1 := belK hb kD1 zD; replace fD1 := belF hb fD1 zD; replace zD := Nat.lt_of_lt_of_le zD hb.size
      replace hBo := hBo.trans (hb.mono hBo.size)
      clear hb
      go_wp2_with fail
      obtain ⟨s27, hws⟩ : ∃ s, s = ((s26.setCell ⟨A, 0, none⟩ (.bool false)).setCell ⟨A, 1, none⟩ (.string tx)) := ⟨_, rfl⟩
      have hBs : Below w.heap.size w s27 := by rw [hws]; exact (((hBo).setCell lA _).setCell lA _)
      have hsz : s27.heap.size = s26.heap.size := by rw [hws]; simp
      have hQC : ∀ b j v, s26.cell? ⟨b, j, none⟩ = some v → A ≠ b → s27.cell? ⟨b, j, none⟩ = some v := fun b j v h dA => by rw [hws]; exact (stK (stK h dA) dA)
      replace kB0 := hQC _ _ _ kB0 dAB; replace kB1 := hQC _ _ _ kB1 dAB
      replace kC0 := hQC _ _ _ kC0 dAC; replace kC1 := hQC _ _ _ kC1 dAC
      replace kD0 := hQC _ _ _ kD0 dAD; replace kD1 := hQC _ _ _ kD1 dAD
      clear hQC
      have kA0_ : s27.cell? ⟨A, 0, none⟩ = some (.bool false) := by rw [hws]; simp [go_sem, kA0, kA1, fA0, fA1]
      have kA1_ : s27.cell? ⟨A, 1, none⟩ = some (.string tx) := by rw [hws]; simp [go_sem, kA0, kA1, fA0, fA1]
      replace kA0 := kA0_; clear kA0_; replace kA1 := kA1_; clear kA1_
      have hQF : ∀ p, s27.frozen? p = s26.frozen? p := fun p => by rw [hws]; simp [go_sem]
      replace fA0 := (hQF _).trans fA0; replace fA1 := (hQF _).trans fA1
      replace fB0 := (hQF _).trans fB0; replace fB1 := (hQF _).trans fB1
      replace fC0 := (hQF _).trans fC0; replace fC1 := (hQF _).trans fC1
      replace fD0 := (hQF _).trans fD0; replace fD1 := (hQF _).trans fD1
      clear hQF
      replace zA : A < s27.heap.size := by omega
      replace zB : B < s27.heap.size := by omega
      replace zC : C < s27.heap.size := by omega
      replace zD : D < s27.heap.size := by omega
      rw [← hws]
      clear hBo hws hsz
      have hBo := hBs; clear hBs
      refine (HY.out _).mono ?_; rintro e s28 ⟨rfl, hb⟩
      replace kA0 := belK hb kA0 zA; replace fA0 := belF hb fA0 zA; replace kA1 := belK hb kA1 zA; replace fA1 := belF hb fA1 zA; replace zA := Nat.lt_of_lt_of_le zA hb.size
      replace kB0 := belK hb kB0 zB; replace fB0 := belF hb fB0 zB; replace kB1 := belK hb kB1 zB; replace fB1 := belF hb fB1 zB; replace zB := Nat.lt_of_lt_of_le zB hb.size
      replace kC0 := belK hb kC0 zC; replace fC0 := belF hb fC0 zC; replace kC1 := belK hb kC1 zC; replace fC1 := belF hb fC1 zC; replace zC := Nat.lt_of_lt_of_le zC hb.size
      replace kD0 := belK hb kD0 zD; replace fD0 := belF hb fD0 zD; replace kD1 := belK hb kD1 zD; replace fD1 := belF hb fD1 zD; replace zD := Nat.lt_of_lt_of_le zD hb.size
      replace hBo := hBo.trans (hb.mono hBo.size)
      clear hb
      go_wp2_with fail
      obtain ⟨s29, hws⟩ : ∃ s, s = ((s28.setCell ⟨B, 0, none⟩ (.bool true)).setCell ⟨B, 1, none⟩ (.string ty)) := ⟨_, rfl⟩
      have hBs : Below w.heap.size w s29 := by rw [hws]; exact (((hBo).setCell lB _).setCell lB _)
      have hsz : s29.heap.size = s28.heap.size := by rw [hws]; simp
      have hQC : ∀ b j v, s28.cell? ⟨b, j, none⟩ = some v → B ≠ b → s29.cell? ⟨b, j, none⟩ = some v := fun b j v h dB => by rw [hws]; exact (stK (stK h dB) dB)
      replace kA0 := hQC _ _ _ kA0 dBA; replace kA1 := hQC _ _ _ kA1 dBA
      replace kC0 := hQC _ _ _ kC0 dBC; replace kC1 := hQC _ _ _ kC1 dBC
      replace kD0 := hQC _ _ _ kD0 dBD; replace kD1 := hQC _ _ _ kD1 dBD
      clear hQC
      have kB0_ : s29.cell? ⟨B, 0, none⟩ = some (.bool true) := by rw [hws]; simp [go_sem, kB0, kB1, fB0, fB1]
      have kB1_ : s29.cell? ⟨B, 1, none⟩ = some (.string ty) := by rw [hws]; simp [go_sem, kB0, kB1, fB0, fB1]
      replace kB0 := kB0_; clear kB0_; replace kB1 := kB1_; clear kB1_
      have hQF : ∀ p, s29.frozen? p = s28.frozen? p := fun p => by rw [hws]; simp [go_sem]
      replace fA0 := (hQF _).trans fA0; replace fA1 := (hQF _).trans fA1
      replace fB0 := (hQF _).trans fB0; replace fB1 := (hQF _).trans fB1
      replace fC0 := (hQF _).trans fC0; replace fC1 := (hQF _).trans fC1
      replace fD0 := (hQF _).trans fD0; replace fD1 := (hQF _).trans fD1
      clear hQF
      replace zA : A < s29.heap.size := by omega
      replace zB : B < s29.heap.size := by omega
      replace zC : C < s29.heap.size := by omega
      replace zD : D < s29.heap.size := by omega
      rw [← hws]
      clear hBo hws hsz
      have hBo := hBs; clear hBs
      refine (HD.out _).mono ?_; rintro e s30 ⟨rfl, hb⟩
      replace kA0 := belK hb kA0 zA; replace fA0 := belF hb fA0 zA; replace kA1 := belK hb kA1 zA; replace fA1 := belF hb fA1 zA; replace zA := Nat.lt_of_lt_of_le zA hb.size
      replace kB0 := belK hb kB0 zB; replace fB0 := belF hb fB0 zB; replace kB1 := belK hb kB1 zB; replace fB1 := belF hb fB1 zB; replace zB := Nat.lt_of_lt_of_le zB hb.size
      replace kC0 := belK hb kC0 zC; replace fC0 := belF hb fC0 zC; replace kC1 := belK hb kC1 zC; replace fC1 := belF hb fC1 zC; replace zC := Nat.lt_of_lt_of_le zC hb.size
      replace kD0 := belK hb kD0 zD; replace fD0 := belF hb fD0 zD; replace kD1 := belK hb kD1 zD; replace fD1 := belF hb fD1 zD; replace zD := Nat.lt_of_lt_of_le zD hb.size
      replace hBo := hBo.trans (hb.mono hBo.size)
      clear hb
      go_wp2_with fail
      refine (HM2.out _).mono ?_; rintro e s31 ⟨rfl, hb⟩
      replace kA0 := belK hb kA0 zA; replace fA0 := belF hb fA0 zA; replace kA1 := belK hb kA1 zA; replace fA1 := belF hb fA1 zA; replace zA := Nat.lt_of_lt_of_le zA hb.size
      replace kB0 := belK hb kB0 zB; replace fB0 := belF hb fB0 zB; replace kB1 := belK hb kB1 zB; replace fB1 := belF hb fB1 zB; replace zB := Nat.lt_of_lt_of_le zB hb.size
      replace kC0 := belK hb kC0 zC; replace fC0 := belF hb fC0 zC; replace kC1 := belK hb kC1 zC; replace fC1 := belF hb fC1 zC; replace zC := Nat.lt_of_lt_of_le zC hb.size
      replace kD0 := belK hb kD0 zD; replace fD0 := belF hb fD0 zD; replace kD1 := belK hb kD1 zD; replace fD1 := belF hb fD1 zD; replace zD := Nat.lt_of_lt_of_le zD hb.size
      replace hBo := hBo.trans (hb.mono hBo.size)
      clear hb
      go_wp2_with fail
      obtain ⟨s32, hws⟩ : ∃ s, s = (s31.alloc (.cells #[.bool bq, .string tq] 44)) := ⟨_, rfl⟩
      have hBs : Below w.heap.size w s32 := by rw [hws]; exact ((hBo).alloc (by exact hBo.size) _)
      obtain ⟨X, hdX⟩ : ∃ b, b = s31.heap.size := ⟨_, rfl⟩
      have hsz : s32.heap.size = s31.heap.size + 1 := by rw [hws]; simp
      have dAX : A ≠ X := by omega
      have dBX : B ≠ X := by omega
      have dCX : C ≠ X := by omega
      have dDX : D ≠ X := by omega
      have hQC : ∀ p v, s31.cell? p = some v → s32.cell? p = some v := fun p v h => by rw [hws]; exact (alK h)
      have hQZ : ∀ b, b < s31.heap.size → b < s32.heap.size := fun b h => by omega
      have hQF : ∀ b j, b < s31.heap.size → s31.frozen? ⟨b, j, none⟩ = false → s32.frozen? ⟨b, j, none⟩ = false := fun b j z h => by rw [hws]; exact (alF z h)
      replace kA0 := hQC _ _ kA0; replace fA0 := hQF _ _ zA fA0; replace kA1 := hQC _ _ kA1; replace fA1 := hQF _ _ zA fA1; replace zA := hQZ _ zA
      replace kB0 := hQC _ _ kB0; replace fB0 := hQF _ _ zB fB0; replace kB1 := hQC _ _ kB1; replace fB1 := hQF _ _ zB fB1; replace zB := hQZ _ zB
      replace kC0 := hQC _ _ kC0; replace fC0 := hQF _ _ zC fC0; replace kC1 := hQC _ _ kC1; replace fC1 := hQF _ _ zC fC1; replace zC := hQZ _ zC
      replace kD0 := hQC _ _ kD0; replace fD0 := hQF _ _ zD fD0; replace kD1 := hQC _ _ kD1; replace fD1 := hQF _ _ zD fD1; replace zD := hQZ _ zD
      clear hQC hQZ hQF
      have kX0 : s32.cell? ⟨X, 0, none⟩ = some (.bool bq) := by rw [hws]; simp [go_sem, hdX]
      have kX1 : s32.cell? ⟨X, 1, none⟩ = some (.string tq) := by rw [hws]; simp [go_sem, hdX]
      have zX : X < s32.heap.size := by omega
      have lX : w.heap.size ≤ X := by have := hBo.size; omega
      rw [← hws]
      try rw [← hdX]
      clear hBo
      clear hws hsz hdX
      have hBo := hBs; clear hBs
      have HF : Hid (∀ W, Below s32.heap.size s32 W → Below w.heap.size w W) := fun W hW => hBo.trans (hW.mono hBo.size)
      clear hBo
      first | (go_region_held3 (fun w' => w'.cell? ⟨A, 0, none⟩ = some (.bool false) ∧ w'.cell? ⟨A, 1, none⟩ = some (.string tx) ∧ w'.cell? ⟨B, 0, none⟩ = some (.bool true) ∧ w'.cell? ⟨B, 1, none⟩ = some (.string ty) ∧ w'.cell? ⟨X, 0, none⟩ = some (.bool bq) ∧ w'.cell? ⟨X, 1, none⟩ = some (.string tq))
        (go_keep) (first
        | (go_at_call 53; refine (HML.out _).mono ?_; rintro e x33 ⟨rfl, hbx⟩; have hTx : Below s32.heap.size s32 x33 := (by first | exact (Below.refl _ _).drew.trans hbx | exact Below.trans (by assumption) (hbx.mono (Below.size (by assumption))) | exact (Below.refl _ _).trans hbx); obtain ⟨hcx, hfx⟩ := bcell hTx)
        | (go_at_call 104; refine (HSB.out _).mono ?_; rintro e x33 ⟨rfl, hbx⟩; have hTx : Below s32.heap.size s32 x33 := (by first | exact (Below.refl _ _).drew.trans hbx | exact Below.trans (by assumption) (hbx.mono (Below.size (by assumption))) | exact (Below.refl _ _).trans hbx); obtain ⟨hcx, hfx⟩ := bcell hTx))) | fail
      all_goals go_wp2_with fail
      all_goals refine bodyPost_ret (v := .tuple #[.agg #[.bool bq, .string tq], .agg #[.bool (zb r), .string (zt r)], .int .i64 0]) (by simp [results, Tryz.results67, go_sem, hcx, kC0, kC1, kD0, kD1, zC, zD]) rfl ⟨rfl, ?_⟩
      all_goals exact (((((HF.out _ (by assumption)).setCell lC _).setCell lC _).setCell lD _).setCell lD _)
    case true.false =>
      have ht2 := hnil (by simpa using hc)
      subst ht2
      clear hnil hc
      have HM2 := Lib.hid (fun w => HM1.out true w rfl)
      clear HM1
      go_enter Tryz.func67, Tryz.ntmps67
      go_wp2_with fail
      obtain ⟨s34, hws⟩ : ∃ s, s = ((((w.alloc (.cells #[.bool n1, .string m1] 44)).alloc (.cells #[.bool n2, .string m2] 44)).alloc (.cells #[.bool false, .string ⟨#[]⟩] 44)).alloc (.cells #[.bool false, .string ⟨#[]⟩] 44)) := ⟨_, rfl⟩
      have hBs : Below w.heap.size w s34 := by rw [hws]; exact (((((Below.refl w.heap.size w).alloc (by simp) _).alloc (by simp) _).alloc (by simp; omega) _).alloc (by simp; omega) _)
      obtain ⟨A, hdA⟩ : ∃ b, b = w.heap.size := ⟨_, rfl⟩
      obtain ⟨B, hdB⟩ : ∃ b, b = w.heap.size + 1 := ⟨_, rfl⟩
      obtain ⟨C, hdC⟩ : ∃ b, b = w.heap.size + 1 + 1 := ⟨_, rfl⟩
      obtain ⟨D, hdD⟩ : ∃ b, b = w.heap.size + 1 + 1 + 1 := ⟨_, rfl⟩
      have hsz : s34.heap.size = w.heap.size + 1 + 1 + 1 + 1 := by rw [hws]; simp
      have dAB : A ≠ B := by omega
      have dAC : A ≠ C := by omega
      have dAD : A ≠ D := by omega
      have dBA : B ≠ A := by omega
      have dBC : B ≠ C := by omega
      have dBD : B ≠ D := by omega
      have dCA : C ≠ A := by omega
      have dCB : C ≠ B := by omega
      have dCD : C ≠ D := by omega
      have dDA : D ≠ A := by omega
      have dDB : D ≠ B := by omega
      have dDC : D ≠ C := by omega
      have kA0 : s34.cell? ⟨A, 0, none⟩ = some (.bool n1) := by rw [hws]; simp [go_sem, hdA, hdB, hdC, hdD]
      have fA0 : s34.frozen? ⟨A, 0, none⟩ = false := by rw [hws]; simp [go_sem, hdA, hdB, hdC, hdD]
      have kA1 : s34.cell? ⟨A, 1, none⟩ = some (.string m1) := by rw [hws]; simp [go_sem, hdA, hdB, hdC, hdD]
      have fA1 : s34.frozen? ⟨A, 1, none⟩ = false := by rw [hws]; simp [go_sem, hdA, hdB, hdC, hdD]
      have zA : A < s34.heap.size := by omega
      have lA : w.heap.size ≤ A := by have := Nat.le_refl w.heap.size; omega
      have kB0 : s34.cell? ⟨B, 0, none⟩ = some (.bool n2) := by rw [hws]; simp [go_sem, hdA, hdB, hdC, hdD]
      have fB0 : s34.frozen? ⟨B, 0, none⟩ = false := by rw [hws]; simp [go_sem, hdA, hdB, hdC, hdD]
      have kB1 : s34.cell? ⟨B, 1, none⟩ = some (.string m2) := by rw [hws]; simp [go_sem, hdA, hdB, hdC, hdD]
      have fB1 : s34.frozen? ⟨B, 1, none⟩ = false := by rw [hws]; simp [go_sem, hdA, hdB, hdC, hdD]
      have zB : B < s34.heap.size := by omega
      have lB : w.heap.size ≤ B := by have := Nat.le_refl w.heap.size; omega
      have kC0 : s34.cell? ⟨C, 0, none⟩ = some (.bool false) := by rw [hws]; simp [go_sem, hdA, hdB, hdC, hdD]
      have fC0 : s34.frozen? ⟨C, 0, none⟩ = false := by rw [hws]; simp [go_sem, hdA, hdB, hdC, hdD]
      have kC1 : s34.cell? ⟨C, 1, none⟩ = some (.string ⟨#[]⟩) := by rw [hws]; simp [go_sem, hdA, hdB, hdC, hdD]
      have fC1 : s34.frozen? ⟨C, 1, none⟩ = false := by rw [hws]; simp [go_sem, hdA, hdB, hdC, hdD]
      have zC : C < s34.heap.size := by omega
      have lC : w.heap.size ≤ C := by have := Nat.le_refl w.heap.size; omega
      have kD0 : s34.cell? ⟨D, 0, none⟩ = some (.bool false) := by rw [hws]; simp [go_sem, hdA, hdB, hdC, hdD]
      have fD0 : s34.frozen? ⟨D, 0, none⟩ = false := by rw [hws]; simp [go_sem, hdA, hdB, hdC, hdD]
      have kD1 : s34.cell? ⟨D, 1, none⟩ = some (.string ⟨#[]⟩) := by rw [hws]; simp [go_sem, hdA, hdB, hdC, hdD]
      have fD1 : s34.frozen? ⟨D, 1, none⟩ = false := by rw [hws]; simp [go_sem, hdA, hdB, hdC, hdD]
      have zD : D < s34.heap.size := by omega
      have lD : w.heap.size ≤ D := by have := Nat.le_refl w.heap.size; omega
      rw [← hws]
      try rw [← hdD]
      try rw [← hdC]
      try rw [← hdB]
      try rw [← hdA]
      clear hws hsz hdA hdB hdC hdD
      have hBo := hBs; clear hBs
      refine (HX.out _).mono ?_; rintro e s35 ⟨rfl, hb⟩
      replace kA0 := belK hb kA0 zA; replace fA0 := belF hb fA0 zA; replace kA1 := belK hb kA1 zA; replace fA1 := belF hb fA1 zA; replace zA := Nat.lt_of_lt_of_le zA hb.size
      replace kB0 := belK hb kB0 zB; replace fB0 := belF hb fB0 zB; replace kB1 := belK hb kB1 zB; replace fB1 := belF hb fB1 zB; replace zB := Nat.lt_of_lt_of_le zB hb.size
      replace kC0 := belK hb kC0 zC; replace fC0 := belF hb fC0 zC; replace kC1 := belK hb kC1 zC; replace fC1 := belF hb fC1 zC; replace zC := Nat.lt_of_lt_of_le zC hb.size
      replace kD0 := belK hb kD0 zD; replace fD0 := belF hb fD0 zD; replace kD1 := belK hb kD1 zD; replace fD1 := belF hb fD1 zD; replace zD := Nat.lt_of_lt_of_le zD hb.size
      replace hBo := hBo.trans (hb.mono hBo.size)
      clear hb
      go_wp2_with fail
      obtain ⟨s36, hws⟩ : ∃ s, s = ((s35.setCell ⟨A, 0, none⟩ (.bool true)).setCell ⟨A, 1, none⟩ (.string tx)) := ⟨_, rfl⟩
      have hBs : Below w.heap.size w s36 := by rw [hws]; exact (((hBo).setCell lA _).setCell lA _)
      have hsz : s36.heap.size = s35.heap.size := by rw [hws]; simp
      have hQC : ∀ b j v, s35.cell? ⟨b, j, none⟩ = some v → A ≠ b → s36.cell? ⟨b, j, none⟩ = some v := fun b j v h dA => by rw [hws]; exact (stK (stK h dA) dA)
      replace kB0 := hQC _ _ _ kB0 dAB; replace kB1 := hQC _ _ _ kB1 dAB
      replace kC0 := hQC _ _ _ kC0 dAC; replace kC1 := hQC _ _ _ kC1 dAC
      replace kD0 := hQC _ _ _ kD0 dAD; replace kD1 := hQC _ _ _ kD1 dAD
      clear hQC
      have kA0_ : s36.cell? ⟨A, 0, none⟩ = some (.bool true) := by rw [hws]; simp [go_sem, kA0, kA1, fA0, fA1]
      have kA1_ : s36.cell? ⟨A, 1, none⟩ = some (.string tx) := by rw [hws]; simp [go_sem, kA0, kA1, fA0, fA1]
      replace kA0 := kA0_; clear kA0_; replace kA1 := kA1_; clear kA1_
      have hQF : ∀ p, s36.frozen? p = s35.frozen? p := fun p => by rw [hws]; simp [go_sem]
      replace fA0 := (hQF _).trans fA0; replace fA1 := (hQF _).trans fA1
      replace fB0 := (hQF _).trans fB0; replace fB1 := (hQF _).trans fB1
      replace fC0 := (hQF _).trans fC0; replace fC1 := (hQF _).trans fC1
      replace fD0 := (hQF _).trans fD0; replace fD1 := (hQF _).trans fD1
      clear hQF
      replace zA : A < s36.heap.size := by omega
      replace zB : B < s36.heap.size := by omega
      replace zC : C < s36.heap.size := by omega
      replace zD : D < s36.heap.size := by omega
      rw [← hws]
      clear hBo hws hsz
      have hBo := hBs; clear hBs
      refine (HY.out _).mono ?_; rintro e s37 ⟨rfl, hb⟩
      replace kA0 := belK hb kA0 zA; replace fA0 := belF hb fA0 zA; replace kA1 := belK hb kA1 zA; replace fA1 := belF hb fA1 zA; replace zA := Nat.lt_of_lt_of_le zA hb.size
      replace kB0 := belK hb kB0 zB; replace fB0 := belF hb fB0 zB; replace kB1 := belK hb kB1 zB; replace fB1 := belF hb fB1 zB; replace zB := Nat.lt_of_lt_of_le zB hb.size
      replace kC0 := belK hb kC0 zC; replace fC0 := belF hb fC0 zC; replace kC1 := belK hb kC1 zC; replace fC1 := belF hb fC1 zC; replace zC := Nat.lt_of_lt_of_le zC hb.size
      replace kD0 := belK hb kD0 zD; replace fD0 := belF hb fD0 zD; replace kD1 := belK hb kD1 zD; replace fD1 := belF hb fD1 zD; replace zD := Nat.lt_of_lt_of_le zD hb.size
      replace hBo := hBo.trans (hb.mono hBo.size)
      clear hb
      go_wp2_with fail
      obtain ⟨s38, hws⟩ : ∃ s, s = ((s37.setCell ⟨B, 0, none⟩ (.bool false)).setCell ⟨B, 1, none⟩ (.string ty)) := ⟨_, rfl⟩
      have hBs : Below w.heap.size w s38 := by rw [hws]; exact (((hBo).setCell lB _).setCell lB _)
      have hsz : s38.heap.size = s37.heap.size := by rw [hws]; simp
      have hQC : ∀ b j v, s37.cell? ⟨b, j, none⟩ = some v → B ≠ b → s38.cell? ⟨b, j, none⟩ = some v := fun b j v h dB => by rw [hws]; exact (stK (stK h dB) dB)
      replace kA0 := hQC _ _ _ kA0 dBA; replace kA1 := hQC _ _ _ kA1 dBA
      replace kC0 := hQC _ _ _ kC0 dBC; replace kC1 := hQC _ _ _ kC1 dBC
      replace kD0 := hQC _ _ _ kD0 dBD; replace kD1 := hQC _ _ _ kD1 dBD
      clear hQC
      have kB0_ : s38.cell? ⟨B, 0, none⟩ = some (.bool false) := by rw [hws]; simp [go_sem, kB0, kB1, fB0, fB1]
      have kB1_ : s38.cell? ⟨B, 1, none⟩ = some (.string ty) := by rw [hws]; simp [go_sem, kB0, kB1, fB0, fB1]
      replace kB0 := kB0_; clear kB0_; replace kB1 := kB1_; clear kB1_
      have hQF : ∀ p, s38.frozen? p = s37.frozen? p := fun p => by rw [hws]; simp [go_sem]
      replace fA0 := (hQF _).trans fA0; replace fA1 := (hQF _).trans fA1
      replace fB0 := (hQF _).trans fB0; replace fB1 := (hQF _).trans fB1
      replace fC0 := (hQF _).trans fC0; replace fC1 := (hQF _).trans fC1
      replace fD0 := (hQF _).trans fD0; replace fD1 := (hQF _).trans fD1
      clear hQF
      replace zA : A < s38.heap.size := by omega
      replace zB : B < s38.heap.size := by omega
      replace zC : C < s38.heap.size := by omega
      replace zD : D < s38.heap.size := by omega
      rw [← hws]
      clear hBo hws hsz
      have hBo := hBs; clear hBs
      refine (HD.out _).mono ?_; rintro e s39 ⟨rfl, hb⟩
      replace kA0 := belK hb kA0 zA; replace fA0 := belF hb fA0 zA; replace kA1 := belK hb kA1 zA; replace fA1 := belF hb fA1 zA; replace zA := Nat.lt_of_lt_of_le zA hb.size
      replace kB0 := belK hb kB0 zB; replace fB0 := belF hb fB0 zB; replace kB1 := belK hb kB1 zB; replace fB1 := belF hb fB1 zB; replace zB := Nat.lt_of_lt_of_le zB hb.size
      replace kC0 := belK hb kC0 zC; replace fC0 := belF hb fC0 zC; replace kC1 := belK hb kC1 zC; replace fC1 := belF hb fC1 zC; replace zC := Nat.lt_of_lt_of_le zC hb.size
      replace kD0 := belK hb kD0 zD; replace fD0 := belF hb fD0 zD; replace kD1 := belK hb kD1 zD; replace fD1 := belF hb fD1 zD; replace zD := Nat.lt_of_lt_of_le zD hb.size
      replace hBo := hBo.trans (hb.mono hBo.size)
      clear hb
      go_wp2_with fail
      refine (HM2.out _).mono ?_; rintro e s40 ⟨rfl, hb⟩
      replace kA0 := belK hb kA0 zA; replace fA0 := belF hb fA0 zA; replace kA1 := belK hb kA1 zA; replace fA1 := belF hb fA1 zA; replace zA := Nat.lt_of_lt_of_le zA hb.size
      replace kB0 := belK hb kB0 zB; replace fB0 := belF hb fB0 zB; replace kB1 := belK hb kB1 zB; replace fB1 := belF hb fB1 zB; replace zB := Nat.lt_of_lt_of_le zB hb.size
      replace kC0 := belK hb kC0 zC; replace fC0 := belF hb fC0 zC; replace kC1 := belK hb kC1 zC; replace fC1 := belF hb fC1 zC; replace zC := Nat.lt_of_lt_of_le zC hb.size
      replace kD0 := belK hb kD0 zD; replace fD0 := belF hb fD0 zD; replace kD1 := belK hb kD1 zD; replace fD1 := belF hb fD1 zD; replace zD := Nat.lt_of_lt_of_le zD hb.size
      replace hBo := hBo.trans (hb.mono hBo.size)
      clear hb
      go_wp2_with fail
      obtain ⟨s41, hws⟩ : ∃ s, s = (s40.alloc (.cells #[.bool bq, .string tq] 44)) := ⟨_, rfl⟩
      have hBs : Below w.heap.size w s41 := by rw [hws]; exact ((hBo).alloc (by exact hBo.size) _)
      obtain ⟨X, hdX⟩ : ∃ b, b = s40.heap.size := ⟨_, rfl⟩
      have hsz : s41.heap.size = s40.heap.size + 1 := by rw [hws]; simp
      have dAX : A ≠ X := by omega
      have dBX : B ≠ X := by omega
      have dCX : C ≠ X := by omega
      have dDX : D ≠ X := by omega
      have hQC : ∀ p v, s40.cell? p = some v → s41.cell? p = some v := fun p v h => by rw [hws]; exact (alK h)
      have hQZ : ∀ b, b < s40.heap.size → b < s41.heap.size := fun b h => by omega
      have hQF : ∀ b j, b < s40.heap.size → s40.frozen? ⟨b, j, none⟩ = false → s41.frozen? ⟨b, j, none⟩ = false := fun b j z h => by rw [hws]; exact (alF z h)
      replace kA0 := hQC _ _ kA0; replace fA0 := hQF _ _ zA fA0; replace kA1 := hQC _ _ kA1; replace fA1 := hQF _ _ zA fA1; replace zA := hQZ _ zA
      replace kB0 := hQC _ _ kB0; replace fB0 := hQF _ _ zB fB0; replace kB1 := hQC _ _ kB1; replace fB1 := hQF _ _ zB fB1; replace zB := hQZ _ zB
      replace kC0 := hQC _ _ kC0; replace fC0 := hQF _ _ zC fC0; replace kC1 := hQC _ _ kC1; replace fC1 := hQF _ _ zC fC1; replace zC := hQZ _ zC
      replace kD0 := hQC _ _ kD0; replace fD0 := hQF _ _ zD fD0; replace kD1 := hQC _ _ kD1; replace fD1 := hQF _ _ zD fD1; replace zD := hQZ _ zD
      clear hQC hQZ hQF
      have kX0 : s41.cell? ⟨X, 0, none⟩ = some (.bool bq) := by rw [hws]; simp [go_sem, hdX]
      have kX1 : s41.cell? ⟨X, 1, none⟩ = some (.string tq) := by rw [hws]; simp [go_sem, hdX]
      have zX : X < s41.heap.size := by omega
      have lX : w.heap.size ≤ X := by have := hBo.size; omega
      rw [← hws]
      try rw [← hdX]
      clear hBo
      clear hws hsz hdX
      have hBo := hBs; clear hBs
      have HF : Hid (∀ W, Below s41.heap.size s41 W → Below w.heap.size w W) := fun W hW => hBo.trans (hW.mono hBo.size)
      clear hBo
      first | (go_region_held3 (fun w' => w'.cell? ⟨A, 0, none⟩ = some (.bool true) ∧ w'.cell? ⟨A, 1, none⟩ = some (.string tx) ∧ w'.cell? ⟨B, 0, none⟩ = some (.bool false) ∧ w'.cell? ⟨B, 1, none⟩ = some (.string ty) ∧ w'.cell? ⟨X, 0, none⟩ = some (.bool bq) ∧ w'.cell? ⟨X, 1, none⟩ = some (.string tq))
        (go_keep) (first
        | (go_at_call 53; refine (HML.out _).mono ?_; rintro e x42 ⟨rfl, hbx⟩; have hTx : Below s41.heap.size s41 x42 := (by first | exact (Below.refl _ _).drew.trans hbx | exact Below.trans (by assumption) (hbx.mono (Below.size (by assumption))) | exact (Below.refl _ _).trans hbx); obtain ⟨hcx, hfx⟩ := bcell hTx)
        | (go_at_call 104; refine (HSB.out _).mono ?_; rintro e x42 ⟨rfl, hbx⟩; have hTx : Below s41.heap.size s41 x42 := (by first | exact (Below.refl _ _).drew.trans hbx | exact Below.trans (by assumption) (hbx.mono (Below.size (by assumption))) | exact (Below.refl _ _).trans hbx); obtain ⟨hcx, hfx⟩ := bcell hTx))) | fail
      all_goals go_wp2_with fail
      all_goals refine bodyPost_ret (v := .tuple #[.agg #[.bool bq, .string tq], .agg #[.bool (zb r), .string (zt r)], .int .i64 0]) (by simp [results, Tryz.results67, go_sem, hcx, kC0, kC1, kD0, kD1, zC, zD]) rfl ⟨rfl, ?_⟩
      all_goals exact (((((HF.out _ (by assumption)).setCell lC _).setCell lC _).setCell lD _).setCell lD _)
  · have e1 := (hw2 (by simpa using hc)).1
    have hs0 : s ≠ 0 := by simp at hc; exact hc.2
    have hn := hne hs0
    have hn2 : t2.toList.isEmpty = false := by simpa using hn
    obtain ⟨z, hz⟩ : ∃ z, sI true u = z := ⟨_, rfl⟩
    have HM1 := Lib.hid (fun w => HMk.out true z w (by rw [v1]; exact hz))
    have hz1 : z - 1 = q := by rw [e1, ← hz]; unfold sI; simp; omega
    have HS2 := Lib.hid (fun w => HS1.out z w hz1 (by rw [← hz]; exact hu3 true))
    clear HMk HS1 hw1 hw2 hne e1 v1 hu hu3 hz hz1 hs0 hnil
    rw [zb_one, zt_one] at HO HS2
    generalize zb x = bx at *
    generalize zb y = by' at *
    generalize zt x = tx at *
    generalize zt y = ty at *
    generalize zb q = bq at *
    generalize zt q = tq at *
    generalize zb p = bp at *
    generalize zt p = tp at *
    generalize zb z = bz at *
    generalize zt z = tz at *
    clear zx zy
    cases bx <;> cases by'
    case false.false => exact absurd (Or.inl rfl) hc
    case true.true => exact absurd (Or.inl rfl) hc
    case false.true =>
      clear hc
      go_enter Tryz.func67, Tryz.ntmps67
      go_wp2_with fail
      obtain ⟨s43, hws⟩ : ∃ s, s = ((((w.alloc (.cells #[.bool n1, .string m1] 44)).alloc (.cells #[.bool n2, .string m2] 44)).alloc (.cells #[.bool false, .string ⟨#[]⟩] 44)).alloc (.cells #[.bool false, .string ⟨#[]⟩] 44)) := ⟨_, rfl⟩
      have hBs : Below w.heap.size w s43 := by rw [hws]; exact (((((Below.refl w.heap.size w).alloc (by simp) _).alloc (by simp) _).alloc (by simp; omega) _).alloc (by simp; omega) _)
      obtain ⟨A, hdA⟩ : ∃ b, b = w.heap.size := ⟨_, rfl⟩
      obtain ⟨B, hdB⟩ : ∃ b, b = w.heap.size + 1 := ⟨_, rfl⟩
      obtain ⟨C, hdC⟩ : ∃ b, b = w.heap.size + 1 + 1 := ⟨_, rfl⟩
      obtain ⟨D, hdD⟩ : ∃ b, b = w.heap.size + 1 + 1 + 1 := ⟨_, rfl⟩
      have hsz : s43.heap.size = w.heap.size + 1 + 1 + 1 + 1 := by rw [hws]; simp
      have dAB : A ≠ B := by omega
      have dAC : A ≠ C := by omega
      have dAD : A ≠ D := by omega
      have dBA : B ≠ A := by omega
      have dBC : B ≠ C := by omega
      have dBD : B ≠ D := by omega
      have dCA : C ≠ A := by omega
      have dCB : C ≠ B := by omega
      have dCD : C ≠ D := by omega
      have dDA : D ≠ A := by omega
      have dDB : D ≠ B := by omega
      have dDC : D ≠ C := by omega
      have kA0 : s43.cell? ⟨A, 0, none⟩ = some (.bool n1) := by rw [hws]; simp [go_sem, hdA, hdB, hdC, hdD]
      have fA0 : s43.frozen? ⟨A, 0, none⟩ = false := by rw [hws]; simp [go_sem, hdA, hdB, hdC, hdD]
      have kA1 : s43.cell? ⟨A, 1, none⟩ = some (.string m1) := by rw [hws]; simp [go_sem, hdA, hdB, hdC, hdD]
      have fA1 : s43.frozen? ⟨A, 1, none⟩ = false := by rw [hws]; simp [go_sem, hdA, hdB, hdC, hdD]
      have zA : A < s43.heap.size := by omega
      have lA : w.heap.size ≤ A := by have := Nat.le_refl w.heap.size; omega
      have kB0 : s43.cell? ⟨B, 0, none⟩ = some (.bool n2) := by rw [hws]; simp [go_sem, hdA, hdB, hdC, hdD]
      have fB0 : s43.frozen? ⟨B, 0, none⟩ = false := by rw [hws]; simp [go_sem, hdA, hdB, hdC, hdD]
      have kB1 : s43.cell? ⟨B, 1, none⟩ = some (.string m2) := by rw [hws]; simp [go_sem, hdA, hdB, hdC, hdD]
      have fB1 : s43.frozen? ⟨B, 1, none⟩ = false := by rw [hws]; simp [go_sem, hdA, hdB, hdC, hdD]
      have zB : B < s43.heap.size := by omega
      have lB : w.heap.size ≤ B := by have := Nat.le_refl w.heap.size; omega
      have kC0 : s43.cell? ⟨C, 0, none⟩ = some (.bool false) := by rw [hws]; simp [go_sem, hdA, hdB, hdC, hdD]
      have fC0 : s43.frozen? ⟨C, 0, none⟩ = false := by rw [hws]; simp [go_sem, hdA, hdB, hdC, hdD]
      have kC1 : s43.cell? ⟨C, 1, none⟩ = some (.string ⟨#[]⟩) := by rw [hws]; simp [go_sem, hdA, hdB, hdC, hdD]
      have fC1 : s43.frozen? ⟨C, 1, none⟩ = false := by rw [hws]; simp [go_sem, hdA, hdB, hdC, hdD]
      have zC : C < s43.heap.size := by omega
      have lC : w.heap.size ≤ C := by have := Nat.le_refl w.heap.size; omega
      have kD0 : s43.cell? ⟨D, 0, none⟩ = some (.bool false) := by rw [hws]; simp [go_sem, hdA, hdB, hdC, hdD]
      have fD0 : s43.frozen? ⟨D, 0, none⟩ = false := by rw [hws]; simp [go_sem, hdA, hdB, hdC, hdD]
      have kD1 : s43.cell? ⟨D, 1, none⟩ = some (.string ⟨#[]⟩) := by rw [hws]; simp [go_sem, hdA, hdB, hdC, hdD]
      have fD1 : s43.frozen? ⟨D, 1, none⟩ = false := by rw [hws]; simp [go_sem, hdA, hdB, hdC, hdD]
      have zD : D < s43.heap.size := by omega
      have lD : w.heap.size ≤ D := by have := Nat.le_refl w.heap.size; omega
      rw [← hws]
      try rw [← hdD]
      try rw [← hdC]
      try rw [← hdB]
      try rw [← hdA]
      clear hws hsz hdA hdB hdC hdD
      have hBo := hBs; clear hBs
      refine (HX.out _).mono ?_; rintro e s44 ⟨rfl, hb⟩
      replace kA0 := belK hb kA0 zA; replace fA0 := belF hb fA0 zA; replace kA1 := belK hb kA1 zA; replace fA1 := belF hb fA1 zA; replace zA := Nat.lt_of_lt_of_le zA hb.size
      replace kB0 := belK hb kB0 zB; replace fB0 := belF hb fB0 zB; replace kB1 := belK hb kB1 zB; replace fB1 := belF hb fB1 zB; replace zB := Nat.lt_of_lt_of_le zB hb.size
      replace kC0 := belK hb kC0 zC; replace fC0 := belF hb fC0 zC; replace kC1 := belK hb kC1 zC; replace fC1 := belF hb fC1 zC; replace zC := Nat.lt_of_lt_of_le zC hb.size
      replace kD0 := belK hb kD0 zD; replace fD0 := belF hb fD0 zD; replace kD1 := belK hb kD1 zD; replace fD1 := belF hb fD1 zD; replace zD := Nat.lt_of_lt_of_le zD hb.size
      replace hBo := hBo.trans (hb.mono hBo.size)
      clear hb
      go_wp2_with fail
      obtain ⟨s45, hws⟩ : ∃ s, s = ((s44.setCell ⟨A, 0, none⟩ (.bool false)).setCell ⟨A, 1, none⟩ (.string tx)) := ⟨_, rfl⟩
      have hBs : Below w.heap.size w s45 := by rw [hws]; exact (((hBo).setCell lA _).setCell lA _)
      have hsz : s45.heap.size = s44.heap.size := by rw [hws]; simp
      have hQC : ∀ b j v, s44.cell? ⟨b, j, none⟩ = some v → A ≠ b → s45.cell? ⟨b, j, none⟩ = some v := fun b j v h dA => by rw [hws]; exact (stK (stK h dA) dA)
      replace kB0 := hQC _ _ _ kB0 dAB; replace kB1 := hQC _ _ _ kB1 dAB
      replace kC0 := hQC _ _ _ kC0 dAC; replace kC1 := hQC _ _ _ kC1 dAC
      replace kD0 := hQC _ _ _ kD0 dAD; replace kD1 := hQC _ _ _ kD1 dAD
      clear hQC
      have kA0_ : s45.cell? ⟨A, 0, none⟩ = some (.bool false) := by rw [hws]; simp [go_sem, kA0, kA1, fA0, fA1]
      have kA1_ : s45.cell? ⟨A, 1, none⟩ = some (.string tx) := by rw [hws]; simp [go_sem, kA0, kA1, fA0, fA1]
      replace kA0 := kA0_; clear kA0_; replace kA1 := kA1_; clear kA1_
      have hQF : ∀ p, s45.frozen? p = s44.frozen? p := fun p => by rw [hws]; simp [go_sem]
      replace fA0 := (hQF _).trans fA0; replace fA1 := (hQF _).trans fA1
      replace fB0 := (hQF _).trans fB0; replace fB1 := (hQF _).trans fB1
      replace fC0 := (hQF _).trans fC0; replace fC1 := (hQF _).trans fC1
      replace fD0 := (hQF _).trans fD0; replace fD1 := (hQF _).trans fD1
      clear hQF
      replace zA : A < s45.heap.size := by omega
      replace zB : B < s45.heap.size := by omega
      replace zC : C < s45.heap.size := by omega
      replace zD : D < s45.heap.size := by omega
      rw [← hws]
      clear hBo hws hsz
      have hBo := hBs; clear hBs
      refine (HY.out _).mono ?_; rintro e s46 ⟨rfl, hb⟩
      replace kA0 := belK hb kA0 zA; replace fA0 := belF hb fA0 zA; replace kA1 := belK hb kA1 zA; replace fA1 := belF hb fA1 zA; replace zA := Nat.lt_of_lt_of_le zA hb.size
      replace kB0 := belK hb kB0 zB; replace fB0 := belF hb fB0 zB; replace kB1 := belK hb kB1 zB; replace fB1 := belF hb fB1 zB; replace zB := Nat.lt_of_lt_of_le zB hb.size
      replace kC0 := belK hb kC0 zC; replace fC0 := belF hb fC0 zC; replace kC1 := belK hb kC1 zC; replace fC1 := belF hb fC1 zC; replace zC := Nat.lt_of_lt_of_le zC hb.size
      replace kD0 := belK hb kD0 zD; replace fD0 := belF hb fD0 zD; replace kD1 := belK hb kD1 zD; replace fD1 := belF hb fD1 zD; replace zD := Nat.lt_of_lt_of_le zD hb.size
      replace hBo := hBo.trans (hb.mono hBo.size)
      clear hb
      go_wp2_with fail
      obtain ⟨s47, hws⟩ : ∃ s, s = ((s46.setCell ⟨B, 0, none⟩ (.bool true)).setCell ⟨B, 1, none⟩ (.string ty)) := ⟨_, rfl⟩
      have hBs : Below w.heap.size w s47 := by rw [hws]; exact (((hBo).setCell lB _).setCell lB _)
      have hsz : s47.heap.size = s46.heap.size := by rw [hws]; simp
      have hQC : ∀ b j v, s46.cell? ⟨b, j, none⟩ = some v → B ≠ b → s47.cell? ⟨b, j, none⟩ = some v := fun b j v h dB => by rw [hws]; exact (stK (stK h dB) dB)
      replace kA0 := hQC _ _ _ kA0 dBA; replace kA1 := hQC _ _ _ kA1 dBA
      replace kC0 := hQC _ _ _ kC0 dBC; replace kC1 := hQC _ _ _ kC1 dBC
      replace kD0 := hQC _ _ _ kD0 dBD; replace kD1 := hQC _ _ _ kD1 dBD
      clear hQC
      have kB0_ : s47.cell? ⟨B, 0, none⟩ = some (.bool true) := by rw [hws]; simp [go_sem, kB0, kB1, fB0, fB1]
      have kB1_ : s47.cell? ⟨B, 1, none⟩ = some (.string ty) := by rw [hws]; simp [go_sem, kB0, kB1, fB0, fB1]
      replace kB0 := kB0_; clear kB0_; replace kB1 := kB1_; clear kB1_
      have hQF : ∀ p, s47.frozen? p = s46.frozen? p := fun p => by rw [hws]; simp [go_sem]
      replace fA0 := (hQF _).trans fA0; replace fA1 := (hQF _).trans fA1
      replace fB0 := (hQF _).trans fB0; replace fB1 := (hQF _).trans fB1
      replace fC0 := (hQF _).trans fC0; replace fC1 := (hQF _).trans fC1
      replace fD0 := (hQF _).trans fD0; replace fD1 := (hQF _).trans fD1
      clear hQF
      replace zA : A < s47.heap.size := by omega
      replace zB : B < s47.heap.size := by omega
      replace zC : C < s47.heap.size := by omega
      replace zD : D < s47.heap.size := by omega
      rw [← hws]
      clear hBo hws hsz
      have hBo := hBs; clear hBs
      refine (HD.out _).mono ?_; rintro e s48 ⟨rfl, hb⟩
      replace kA0 := belK hb kA0 zA; replace fA0 := belF hb fA0 zA; replace kA1 := belK hb kA1 zA; replace fA1 := belF hb fA1 zA; replace zA := Nat.lt_of_lt_of_le zA hb.size
      replace kB0 := belK hb kB0 zB; replace fB0 := belF hb fB0 zB; replace kB1 := belK hb kB1 zB; replace fB1 := belF hb fB1 zB; replace zB := Nat.lt_of_lt_of_le zB hb.size
      replace kC0 := belK hb kC0 zC; replace fC0 := belF hb fC0 zC; replace kC1 := belK hb kC1 zC; replace fC1 := belF hb fC1 zC; replace zC := Nat.lt_of_lt_of_le zC hb.size
      replace kD0 := belK hb kD0 zD; replace fD0 := belF hb fD0 zD; replace kD1 := belK hb kD1 zD; replace fD1 := belF hb fD1 zD; replace zD := Nat.lt_of_lt_of_le zD hb.size
      replace hBo := hBo.trans (hb.mono hBo.size)
      clear hb
      go_wp2_with fail
      refine (HM1.out _).mono ?_; rintro e s49 ⟨rfl, hb⟩
      replace kA0 := belK hb kA0 zA; replace fA0 := belF hb fA0 zA; replace kA1 := belK hb kA1 zA; replace fA1 := belF hb fA1 zA; replace zA := Nat.lt_of_lt_of_le zA hb.size
      replace kB0 := belK hb kB0 zB; replace fB0 := belF hb fB0 zB; replace kB1 := belK hb kB1 zB; replace fB1 := belF hb fB1 zB; replace zB := Nat.lt_of_lt_of_le zB hb.size
      replace kC0 := belK hb kC0 zC; replace fC0 := belF hb fC0 zC; replace kC1 := belK hb kC1 zC; replace fC1 := belF hb fC1 zC; replace zC := Nat.lt_of_lt_of_le zC hb.size
      replace kD0 := belK hb kD0 zD; replace fD0 := belF hb fD0 zD; replace kD1 := belK hb kD1 zD; replace fD1 := belF hb fD1 zD; replace zD := Nat.lt_of_lt_of_le zD hb.size
      replace hBo := hBo.trans (hb.mono hBo.size)
      clear hb
      go_wp2_with fail
      obtain ⟨s50, hws⟩ : ∃ s, s = (s49.alloc (.cells #[.bool bz, .string tz] 44)) := ⟨_, rfl⟩
      have hBs : Below w.heap.size w s50 := by rw [hws]; exact ((hBo).alloc (by exact hBo.size) _)
      obtain ⟨X, hdX⟩ : ∃ b, b = s49.heap.size := ⟨_, rfl⟩
      have hsz : s50.heap.size = s49.heap.size + 1 := by rw [hws]; simp
      have dAX : A ≠ X := by omega
      have dBX : B ≠ X := by omega
      have dCX : C ≠ X := by omega
      have dDX : D ≠ X := by omega
      have dXA : X ≠ A := by omega
      have dXB : X ≠ B := by omega
      have dXC : X ≠ C := by omega
      have dXD : X ≠ D := by omega
      have hQC : ∀ p v, s49.cell? p = some v → s50.cell? p = some v := fun p v h => by rw [hws]; exact (alK h)
      have hQZ : ∀ b, b < s49.heap.size → b < s50.heap.size := fun b h => by omega
      have hQF : ∀ b j, b < s49.heap.size → s49.frozen? ⟨b, j, none⟩ = false → s50.frozen? ⟨b, j, none⟩ = false := fun b j z h => by rw [hws]; exact (alF z h)
      replace kA0 := hQC _ _ kA0; replace fA0 := hQF _ _ zA fA0; replace kA1 := hQC _ _ kA1; replace fA1 := hQF _ _ zA fA1; replace zA := hQZ _ zA
      replace kB0 := hQC _ _ kB0; replace fB0 := hQF _ _ zB fB0; replace kB1 := hQC _ _ kB1; replace fB1 := hQF _ _ zB fB1; replace zB := hQZ _ zB
      replace kC0 := hQC _ _ kC0; replace fC0 := hQF _ _ zC fC0; replace kC1 := hQC _ _ kC1; replace fC1 := hQF _ _ zC fC1; replace zC := hQZ _ zC
      replace kD0 := hQC _ _ kD0; replace fD0 := hQF _ _ zD fD0; replace kD1 := hQC _ _ kD1; replace fD1 := hQF _ _ zD fD1; replace zD := hQZ _ zD
      clear hQC hQZ hQF
      have kX0 : s50.cell? ⟨X, 0, none⟩ = some (.bool bz) := by rw [hws]; simp [go_sem, hdX]
      have fX0 : s50.frozen? ⟨X, 0, none⟩ = false := by rw [hws]; simp [go_sem, hdX]
      have kX1 : s50.cell? ⟨X, 1, none⟩ = some (.string tz) := by rw [hws]; simp [go_sem, hdX]
      have fX1 : s50.frozen? ⟨X, 1, none⟩ = false := by rw [hws]; simp [go_sem, hdX]
      have zX : X < s50.heap.size := by omega
      have lX : w.heap.size ≤ X := by have := hBo.size; omega
      rw [← hws]
      try rw [← hdX]
      clear hBo
      clear hws hsz hdX
      have hBo := hBs; clear hBs
      have HF : Hid (∀ W, Below s50.heap.size s50 W → Below w.heap.size w W) := fun W hW => hBo.trans (hW.mono hBo.size)
      clear hBo
      first | (go_region_with (first
        | (go_at_call 54; refine (HO.out _).mono ?_; rintro e x51 ⟨rfl, hbx⟩; have hTx : Below s50.heap.size s50 x51 := (by first | exact (Below.refl _ _).drew.trans hbx | exact Below.trans (by assumption) (hbx.mono (Below.size (by assumption))) | exact (Below.refl _ _).trans hbx); obtain ⟨hcx, hfx⟩ := bcell hTx)
        | (go_at_call 104; refine (HS2.out _).mono ?_; rintro e x51 ⟨rfl, hbx⟩; have hTx : Below s50.heap.size s50 x51 := (by first | exact (Below.refl _ _).drew.trans hbx | exact Below.trans (by assumption) (hbx.mono (Below.size (by assumption))) | exact (Below.refl _ _).trans hbx); obtain ⟨hcx, hfx⟩ := bcell hTx))) | fail
      all_goals
        replace kA0 := (hcx A 0 zA).trans kA0
        replace fA0 := (hfx A 0 zA).trans fA0
        replace kA1 := (hcx A 1 zA).trans kA1
        replace fA1 := (hfx A 1 zA).trans fA1
        replace zA := Nat.lt_of_lt_of_le zA hTx.size
        replace kB0 := (hcx B 0 zB).trans kB0
        replace fB0 := (hfx B 0 zB).trans fB0
        replace kB1 := (hcx B 1 zB).trans kB1
        replace fB1 := (hfx B 1 zB).trans fB1
        replace zB := Nat.lt_of_lt_of_le zB hTx.size
        replace kC0 := (hcx C 0 zC).trans kC0
        replace fC0 := (hfx C 0 zC).trans fC0
        replace kC1 := (hcx C 1 zC).trans kC1
        replace fC1 := (hfx C 1 zC).trans fC1
        replace zC := Nat.lt_of_lt_of_le zC hTx.size
        replace kD0 := (hcx D 0 zD).trans kD0
        replace fD0 := (hfx D 0 zD).trans fD0
        replace kD1 := (hcx D 1 zD).trans kD1
        replace fD1 := (hfx D 1 zD).trans fD1
        replace zD := Nat.lt_of_lt_of_le zD hTx.size
        replace kX0 := (hcx X 0 zX).trans kX0
        replace fX0 := (hfx X 0 zX).trans fX0
        replace kX1 := (hcx X 1 zX).trans kX1
        replace fX1 := (hfx X 1 zX).trans fX1
        replace zX := Nat.lt_of_lt_of_le zX hTx.size
        have hBo := HF.out _ hTx
        clear HF hcx hfx hTx
        go_wp2_with fail
        obtain ⟨s52, hws⟩ : ∃ s, s = ((x51.setCell ⟨X, 0, none⟩ (.bool bq)).setCell ⟨X, 1, none⟩ (.string tq)) := ⟨_, rfl⟩
        have hBs : Below w.heap.size w s52 := by rw [hws]; exact (((hBo).setCell lX _).setCell lX _)
        have hsz : s52.heap.size = x51.heap.size := by rw [hws]; simp
        have hQC : ∀ b j v, x51.cell? ⟨b, j, none⟩ = some v → X ≠ b → s52.cell? ⟨b, j, none⟩ = some v := fun b j v h dX => by rw [hws]; exact (stK (stK h dX) dX)
        replace kA0 := hQC _ _ _ kA0 dXA; replace kA1 := hQC _ _ _ kA1 dXA
        replace kB0 := hQC _ _ _ kB0 dXB; replace kB1 := hQC _ _ _ kB1 dXB
        replace kC0 := hQC _ _ _ kC0 dXC; replace kC1 := hQC _ _ _ kC1 dXC
        replace kD0 := hQC _ _ _ kD0 dXD; replace kD1 := hQC _ _ _ kD1 dXD
        clear hQC
        have kX0_ : s52.cell? ⟨X, 0, none⟩ = some (.bool bq) := by rw [hws]; simp [go_sem, kX0, kX1, fX0, fX1]
        have kX1_ : s52.cell? ⟨X, 1, none⟩ = some (.string tq) := by rw [hws]; simp [go_sem, kX0, kX1, fX0, fX1]
        replace kX0 := kX0_; clear kX0_; replace kX1 := kX1_; clear kX1_
        have hQF : ∀ p, s52.frozen? p = x51.frozen? p := fun p => by rw [hws]; simp [go_sem]
        replace fA0 := (hQF _).trans fA0; replace fA1 := (hQF _).trans fA1
        replace fB0 := (hQF _).trans fB0; replace fB1 := (hQF _).trans fB1
        replace fC0 := (hQF _).trans fC0; replace fC1 := (hQF _).trans fC1
        replace fD0 := (hQF _).trans fD0; replace fD1 := (hQF _).trans fD1
        replace fX0 := (hQF _).trans fX0; replace fX1 := (hQF _).trans fX1
        clear hQF
        replace zA : A < s52.heap.size := by omega
        replace zB : B < s52.heap.size := by omega
        replace zC : C < s52.heap.size := by omega
        replace zD : D < s52.heap.size := by omega
        replace zX : X < s52.heap.size := by omega
        rw [← hws]
        clear hBo hws hsz
        have hBo := hBs; clear hBs
        have HF : Hid (∀ W, Below s52.heap.size s52 W → Below w.heap.size w W) := fun W hW => hBo.trans (hW.mono hBo.size)
        clear hBo
        first | (go_region_held3 (fun w' => w'.cell? ⟨A, 0, none⟩ = some (.bool false) ∧ w'.cell? ⟨A, 1, none⟩ = some (.string tx) ∧ w'.cell? ⟨B, 0, none⟩ = some (.bool true) ∧ w'.cell? ⟨B, 1, none⟩ = some (.string ty) ∧ w'.cell? ⟨X, 0, none⟩ = some (.bool bq) ∧ w'.cell? ⟨X, 1, none⟩ = some (.string tq))
          (go_keep) (first
          | (go_at_call 53; refine (HML.out _).mono ?_; rintro e x53 ⟨rfl, hbx⟩; have hTx : Below s52.heap.size s52 x53 := (by first | exact (Below.refl _ _).drew.trans hbx | exact Below.trans (by assumption) (hbx.mono (Below.size (by assumption))) | exact (Below.refl _ _).trans hbx); obtain ⟨hcx, hfx⟩ := bcell hTx)
          | (go_at_call 104; refine (HSB.out _).mono ?_; rintro e x53 ⟨rfl, hbx⟩; have hTx : Below s52.heap.size s52 x53 := (by first | exact (Below.refl _ _).drew.trans hbx | exact Below.trans (by assumption) (hbx.mono (Below.size (by assumption))) | exact (Below.refl _ _).trans hbx); obtain ⟨hcx, hfx⟩ := bcell hTx))) | fail
        all_goals go_wp2_with fail
        all_goals refine bodyPost_ret (v := .tuple #[.agg #[.bool bq, .string tq], .agg #[.bool (zb r), .string (zt r)], .int .i64 0]) (by simp [results, Tryz.results67, go_sem, hcx, kC0, kC1, kD0, kD1, zC, zD]) rfl ⟨rfl, ?_⟩
        all_goals exact (((((HF.out _ (by assumption)).setCell lC _).setCell lC _).setCell lD _).setCell lD _)
    case true.false =>
      clear hc
      go_enter Tryz.func67, Tryz.ntmps67
      go_wp2_with fail
      obtain ⟨s54, hws⟩ : ∃ s, s = ((((w.alloc (.cells #[.bool n1, .string m1] 44)).alloc (.cells #[.bool n2, .string m2] 44)).alloc (.cells #[.bool false, .string ⟨#[]⟩] 44)).alloc (.cells #[.bool false, .string ⟨#[]⟩] 44)) := ⟨_, rfl⟩
      have hBs : Below w.heap.size w s54 := by rw [hws]; exact (((((Below.refl w.heap.size w).alloc (by simp) _).alloc (by simp) _).alloc (by simp; omega) _).alloc (by simp; omega) _)
      obtain ⟨A, hdA⟩ : ∃ b, b = w.heap.size := ⟨_, rfl⟩
      obtain ⟨B, hdB⟩ : ∃ b, b = w.heap.size + 1 := ⟨_, rfl⟩
      obtain ⟨C, hdC⟩ : ∃ b, b = w.heap.size + 1 + 1 := ⟨_, rfl⟩
      obtain ⟨D, hdD⟩ : ∃ b, b = w.heap.size + 1 + 1 + 1 := ⟨_, rfl⟩
      have hsz : s54.heap.size = w.heap.size + 1 + 1 + 1 + 1 := by rw [hws]; simp
      have dAB : A ≠ B := by omega
      have dAC : A ≠ C := by omega
      have dAD : A ≠ D := by omega
      have dBA : B ≠ A := by omega
      have dBC : B ≠ C := by omega
      have dBD : B ≠ D := by omega
      have dCA : C ≠ A := by omega
      have dCB : C ≠ B := by omega
      have dCD : C ≠ D := by omega
      have dDA : D ≠ A := by omega
      have dDB : D ≠ B := by omega
      have dDC : D ≠ C := by omega
      have kA0 : s54.cell? ⟨A, 0, none⟩ = some (.bool n1) := by rw [hws]; simp [go_sem, hdA, hdB, hdC, hdD]
      have fA0 : s54.frozen? ⟨A, 0, none⟩ = false := by rw [hws]; simp [go_sem, hdA, hdB, hdC, hdD]
      have kA1 : s54.cell? ⟨A, 1, none⟩ = some (.string m1) := by rw [hws]; simp [go_sem, hdA, hdB, hdC, hdD]
      have fA1 : s54.frozen? ⟨A, 1, none⟩ = false := by rw [hws]; simp [go_sem, hdA, hdB, hdC, hdD]
      have zA : A < s54.heap.size := by omega
      have lA : w.heap.size ≤ A := by have := Nat.le_refl w.heap.size; omega
      have kB0 : s54.cell? ⟨B, 0, none⟩ = some (.bool n2) := by rw [hws]; simp [go_sem, hdA, hdB, hdC, hdD]
      have fB0 : s54.frozen? ⟨B, 0, none⟩ = false := by rw [hws]; simp [go_sem, hdA, hdB, hdC, hdD]
      have kB1 : s54.cell? ⟨B, 1, none⟩ = some (.string m2) := by rw [hws]; simp [go_sem, hdA, hdB, hdC, hdD]
      have fB1 : s54.frozen? ⟨B, 1, none⟩ = false := by rw [hws]; simp [go_sem, hdA, hdB, hdC, hdD]
      have zB : B < s54.heap.size := by omega
      have lB : w.heap.size ≤ B := by have := Nat.le_refl w.heap.size; omega
      have kC0 : s54.cell? ⟨C, 0, none⟩ = some (.bool false) := by rw [hws]; simp [go_sem, hdA, hdB, hdC, hdD]
      have fC0 : s54.frozen? ⟨C, 0, none⟩ = false := by rw [hws]; simp [go_sem, hdA, hdB, hdC, hdD]
      have kC1 : s54.cell? ⟨C, 1, none⟩ = some (.string ⟨#[]⟩) := by rw [hws]; simp [go_sem, hdA, hdB, hdC, hdD]
      have fC1 : s54.frozen? ⟨C, 1, none⟩ = false := by rw [hws]; simp [go_sem, hdA, hdB, hdC, hdD]
      have zC : C < s54.heap.size := by omega
      have lC : w.heap.size ≤ C := by have := Nat.le_refl w.heap.size; omega
      have kD0 : s54.cell? ⟨D, 0, none⟩ = some (.bool false) := by rw [hws]; simp [go_sem, hdA, hdB, hdC, hdD]
      have fD0 : s54.frozen? ⟨D, 0, none⟩ = false := by rw [hws]; simp [go_sem, hdA, hdB, hdC, hdD]
      have kD1 : s54.cell? ⟨D, 1, none⟩ = some (.string ⟨#[]⟩) := by rw [hws]; simp [go_sem, hdA, hdB, hdC, hdD]
      have fD1 : s54.frozen? ⟨D, 1, none⟩ = false := by rw [hws]; simp [go_sem, hdA, hdB, hdC, hdD]
      have zD : D < s54.heap.size := by omega
      have lD : w.heap.size ≤ D := by have := Nat.le_refl w.heap.size; omega
      rw [← hws]
      try rw [← hdD]
      try rw [← hdC]
      try rw [← hdB]
      try rw [← hdA]
      clear hws hsz hdA hdB hdC hdD
      have hBo := hBs; clear hBs
      refine (HX.out _).mono ?_; rintro e s55 ⟨rfl, hb⟩
      replace kA0 := belK hb kA0 zA; replace fA0 := belF hb fA0 zA; replace kA1 := belK hb kA1 zA; replace fA1 := belF hb fA1 zA; replace zA := Nat.lt_of_lt_of_le zA hb.size
      replace kB0 := belK hb kB0 zB; replace fB0 := belF hb fB0 zB; replace kB1 := belK hb kB1 zB; replace fB1 := belF hb fB1 zB; replace zB := Nat.lt_of_lt_of_le zB hb.size
      replace kC0 := belK hb kC0 zC; replace fC0 := belF hb fC0 zC; replace kC1 := belK hb kC1 zC; replace fC1 := belF hb fC1 zC; replace zC := Nat.lt_of_lt_of_le zC hb.size
      replace kD0 := belK hb kD0 zD; replace fD0 := belF hb fD0 zD; replace kD1 := belK hb kD1 zD; replace fD1 := belF hb fD1 zD; replace zD := Nat.lt_of_lt_of_le zD hb.size
      replace hBo := hBo.trans (hb.mono hBo.size)
      clear hb
      go_wp2_with fail
      obtain ⟨s56, hws⟩ : ∃ s, s = ((s55.setCell ⟨A, 0, none⟩ (.bool true)).setCell ⟨A, 1, none⟩ (.string tx)) := ⟨_, rfl⟩
      have hBs : Below w.heap.size w s56 := by rw [hws]; exact (((hBo).setCell lA _).setCell lA _)
      have hsz : s56.heap.size = s55.heap.size := by rw [hws]; simp
      have hQC : ∀ b j v, s55.cell? ⟨b, j, none⟩ = some v → A ≠ b → s56.cell? ⟨b, j, none⟩ = some v := fun b j v h dA => by rw [hws]; exact (stK (stK h dA) dA)
      replace kB0 := hQC _ _ _ kB0 dAB; replace kB1 := hQC _ _ _ kB1 dAB
      replace kC0 := hQC _ _ _ kC0 dAC; replace kC1 := hQC _ _ _ kC1 dAC
      replace kD0 := hQC _ _ _ kD0 dAD; replace kD1 := hQC _ _ _ kD1 dAD
      clear hQC
      have kA0_ : s56.cell? ⟨A, 0, none⟩ = some (.bool true) := by rw [hws]; simp [go_sem, kA0, kA1, fA0, fA1]
      have kA1_ : s56.cell? ⟨A, 1, none⟩ = some (.string tx) := by rw [hws]; simp [go_sem, kA0, kA1, fA0, fA1]
      replace kA0 := kA0_; clear kA0_; replace kA1 := kA1_; clear kA1_
      have hQF : ∀ p, s56.frozen? p = s55.frozen? p := fun p => by rw [hws]; simp [go_sem]
      replace fA0 := (hQF _).trans fA0; replace fA1 := (hQF _).trans fA1
      replace fB0 := (hQF _).trans fB0; replace fB1 := (hQF _).trans fB1
      replace fC0 := (hQF _).trans fC0; replace fC1 := (hQF _).trans fC1
      replace fD0 := (hQF _).trans fD0; replace fD1 := (hQF _).trans fD1
      clear hQF
      replace zA : A < s56.heap.size := by omega
      replace zB : B < s56.heap.size := by omega
      replace zC : C < s56.heap.size := by omega
      replace zD : D < s56.heap.size := by omega
      rw [← hws]
      clear hBo hws hsz
      have hBo := hBs; clear hBs
      refine (HY.out _).mono ?_; rintro e s57 ⟨rfl, hb⟩
      replace kA0 := belK hb kA0 zA; replace fA0 := belF hb fA0 zA; replace kA1 := belK hb kA1 zA; replace fA1 := belF hb fA1 zA; replace zA := Nat.lt_of_lt_of_le zA hb.size
      replace kB0 := belK hb kB0 zB; replace fB0 := belF hb fB0 zB; replace kB1 := belK hb kB1 zB; replace fB1 := belF hb fB1 zB; replace zB := Nat.lt_of_lt_of_le zB hb.size
      replace kC0 := belK hb kC0 zC; replace fC0 := belF hb fC0 zC; replace kC1 := belK hb kC1 zC; replace fC1 := belF hb fC1 zC; replace zC := Nat.lt_of_lt_of_le zC hb.size
      replace kD0 := belK hb kD0 zD; replace fD0 := belF hb fD0 zD; replace kD1 := belK hb kD1 zD; replace fD1 := belF hb fD1 zD; replace zD := Nat.lt_of_lt_of_le zD hb.size
      replace hBo := hBo.trans (hb.mono hBo.size)
      clear hb
      go_wp2_with fail
      obtain ⟨s58, hws⟩ : ∃ s, s = ((s57.setCell ⟨B, 0, none⟩ (.bool false)).setCell ⟨B, 1, none⟩ (.string ty)) := ⟨_, rfl⟩
      have hBs : Below w.heap.size w s58 := by rw [hws]; exact (((hBo).setCell lB _).setCell lB _)
      have hsz : s58.heap.size = s57.heap.size := by rw [hws]; simp
      have hQC : ∀ b j v, s57.cell? ⟨b, j, none⟩ = some v → B ≠ b → s58.cell? ⟨b, j, none⟩ = some v := fun b j v h dB => by rw [hws]; exact (stK (stK h dB) dB)
      replace kA0 := hQC _ _ _ kA0 dBA; replace kA1 := hQC _ _ _ kA1 dBA
      replace kC0 := hQC _ _ _ kC0 dBC; replace kC1 := hQC _ _ _ kC1 dBC
      replace kD0 := hQC _ _ _ kD0 dBD; replace kD1 := hQC _ _ _ kD1 dBD
      clear hQC
      have kB0_ : s58.cell? ⟨B, 0, none⟩ = some (.bool false) := by rw [hws]; simp [go_sem, kB0, kB1, fB0, fB1]
      have kB1_ : s58.cell? ⟨B, 1, none⟩ = some (.string ty) := by rw [hws]; simp [go_sem, kB0, kB1, fB0, fB1]
      replace kB0 := kB0_; clear kB0_; replace kB1 := kB1_; clear kB1_
      have hQF : ∀ p, s58.frozen? p = s57.frozen? p := fun p => by rw [hws]; simp [go_sem]
      replace fA0 := (hQF _).trans fA0; replace fA1 := (hQF _).trans fA1
      replace fB0 := (hQF _).trans fB0; replace fB1 := (hQF _).trans fB1
      replace fC0 := (hQF _).trans fC0; replace fC1 := (hQF _).trans fC1
      replace fD0 := (hQF _).trans fD0; replace fD1 := (hQF _).trans fD1
      clear hQF
      replace zA : A < s58.heap.size := by omega
      replace zB : B < s58.heap.size := by omega
      replace zC : C < s58.heap.size := by omega
      replace zD : D < s58.heap.size := by omega
      rw [← hws]
      clear hBo hws hsz
      have hBo := hBs; clear hBs
      refine (HD.out _).mono ?_; rintro e s59 ⟨rfl, hb⟩
      replace kA0 := belK hb kA0 zA; replace fA0 := belF hb fA0 zA; replace kA1 := belK hb kA1 zA; replace fA1 := belF hb fA1 zA; replace zA := Nat.lt_of_lt_of_le zA hb.size
      replace kB0 := belK hb kB0 zB; replace fB0 := belF hb fB0 zB; replace kB1 := belK hb kB1 zB; replace fB1 := belF hb fB1 zB; replace zB := Nat.lt_of_lt_of_le zB hb.size
      replace kC0 := belK hb kC0 zC; replace fC0 := belF hb fC0 zC; replace kC1 := belK hb kC1 zC; replace fC1 := belF hb fC1 zC; replace zC := Nat.lt_of_lt_of_le zC hb.size
      replace kD0 := belK hb kD0 zD; replace fD0 := belF hb fD0 zD; replace kD1 := belK hb kD1 zD; replace fD1 := belF hb fD1 zD; replace zD := Nat.lt_of_lt_of_le zD hb.size
      replace hBo := hBo.trans (hb.mono hBo.size)
      clear hb
      go_wp2_with fail
      refine (HM1.out _).mono ?_; rintro e s60 ⟨rfl, hb⟩
      replace kA0 := belK hb kA0 zA; replace fA0 := belF hb fA0 zA; replace kA1 := belK hb kA1 zA; replace fA1 := belF hb fA1 zA; replace zA := Nat.lt_of_lt_of_le zA hb.size
      replace kB0 := belK hb kB0 zB; replace fB0 := belF hb fB0 zB; replace kB1 := belK hb kB1 zB; replace fB1 := belF hb fB1 zB; replace zB := Nat.lt_of_lt_of_le zB hb.size
      replace kC0 := belK hb kC0 zC; replace fC0 := belF hb fC0 zC; replace kC1 := belK hb kC1 zC; replace fC1 := belF hb fC1 zC; replace zC := Nat.lt_of_lt_of_le zC hb.size
      replace kD0 := belK hb kD0 zD; replace fD0 := belF hb fD0 zD; replace kD1 := belK hb kD1 zD; replace fD1 := belF hb fD1 zD; replace zD := Nat.lt_of_lt_of_le zD hb.size
      replace hBo := hBo.trans (hb.mono hBo.size)
      clear hb
      go_wp2_with fail
      obtain ⟨s61, hws⟩ : ∃ s, s = (s60.alloc (.cells #[.bool bz, .string tz] 44)) := ⟨_, rfl⟩
      have hBs : Below w.heap.size w s61 := by rw [hws]; exact ((hBo).alloc (by exact hBo.size) _)
      obtain ⟨X, hdX⟩ : ∃ b, b = s60.heap.size := ⟨_, rfl⟩
      have hsz : s61.heap.size = s60.heap.size + 1 := by rw [hws]; simp
      have dAX : A ≠ X := by omega
      have dBX : B ≠ X := by omega
      have dCX : C ≠ X := by omega
      have dDX : D ≠ X := by omega
      have dXA : X ≠ A := by omega
      have dXB : X ≠ B := by omega
      have dXC : X ≠ C := by omega
      have dXD : X ≠ D := by omega
      have hQC : ∀ p v, s60.cell? p = some v → s61.cell? p = some v := fun p v h => by rw [hws]; exact (alK h)
      have hQZ : ∀ b, b < s60.heap.size → b < s61.heap.size := fun b h => by omega
      have hQF : ∀ b j, b < s60.heap.size → s60.frozen? ⟨b, j, none⟩ = false → s61.frozen? ⟨b, j, none⟩ = false := fun b j z h => by rw [hws]; exact (alF z h)
      replace kA0 := hQC _ _ kA0; replace fA0 := hQF _ _ zA fA0; replace kA1 := hQC _ _ kA1; replace fA1 := hQF _ _ zA fA1; replace zA := hQZ _ zA
      replace kB0 := hQC _ _ kB0; replace fB0 := hQF _ _ zB fB0; replace kB1 := hQC _ _ kB1; replace fB1 := hQF _ _ zB fB1; replace zB := hQZ _ zB
      replace kC0 := hQC _ _ kC0; replace fC0 := hQF _ _ zC fC0; replace kC1 := hQC _ _ kC1; replace fC1 := hQF _ _ zC fC1; replace zC := hQZ _ zC
      replace kD0 := hQC _ _ kD0; replace fD0 := hQF _ _ zD fD0; replace kD1 := hQC _ _ kD1; replace fD1 := hQF _ _ zD fD1; replace zD := hQZ _ zD
      clear hQC hQZ hQF
      have kX0 : s61.cell? ⟨X, 0, none⟩ = some (.bool bz) := by rw [hws]; simp [go_sem, hdX]
      have fX0 : s61.frozen? ⟨X, 0, none⟩ = false := by rw [hws]; simp [go_sem, hdX]
      have kX1 : s61.cell? ⟨X, 1, none⟩ = some (.string tz) := by rw [hws]; simp [go_sem, hdX]
      have fX1 : s61.frozen? ⟨X, 1, none⟩ = false := by rw [hws]; simp [go_sem, hdX]
      have zX : X < s61.heap.size := by omega
      have lX : w.heap.size ≤ X := by have := hBo.size; omega
      rw [← hws]
      try rw [← hdX]
      clear hBo
      clear hws hsz hdX
      have hBo := hBs; clear hBs
      have HF : Hid (∀ W, Below s61.heap.size s61 W → Below w.heap.size w W) := fun W hW => hBo.trans (hW.mono hBo.size)
      clear hBo
      first | (go_region_with (first
        | (go_at_call 54; refine (HO.out _).mono ?_; rintro e x62 ⟨rfl, hbx⟩; have hTx : Below s61.heap.size s61 x62 := (by first | exact (Below.refl _ _).drew.trans hbx | exact Below.trans (by assumption) (hbx.mono (Below.size (by assumption))) | exact (Below.refl _ _).trans hbx); obtain ⟨hcx, hfx⟩ := bcell hTx)
        | (go_at_call 104; refine (HS2.out _).mono ?_; rintro e x62 ⟨rfl, hbx⟩; have hTx : Below s61.heap.size s61 x62 := (by first | exact (Below.refl _ _).drew.trans hbx | exact Below.trans (by assumption) (hbx.mono (Below.size (by assumption))) | exact (Below.refl _ _).trans hbx); obtain ⟨hcx, hfx⟩ := bcell hTx))) | fail
      all_goals
        replace kA0 := (hcx A 0 zA).trans kA0
        replace fA0 := (hfx A 0 zA).trans fA0
        replace kA1 := (hcx A 1 zA).trans kA1
        replace fA1 := (hfx A 1 zA).trans fA1
        replace zA := Nat.lt_of_lt_of_le zA hTx.size
        replace kB0 := (hcx B 0 zB).trans kB0
        replace fB0 := (hfx B 0 zB).trans fB0
        replace kB1 := (hcx B 1 zB).trans kB1
        replace fB1 := (hfx B 1 zB).trans fB1
        replace zB := Nat.lt_of_lt_of_le zB hTx.size
        replace kC0 := (hcx C 0 zC).trans kC0
        replace fC0 := (hfx C 0 zC).trans fC0
        replace kC1 := (hcx C 1 zC).trans kC1
        replace fC1 := (hfx C 1 zC).trans fC1
        replace zC := Nat.lt_of_lt_of_le zC hTx.size
        replace kD0 := (hcx D 0 zD).trans kD0
        replace fD0 := (hfx D 0 zD).trans fD0
        replace kD1 := (hcx D 1 zD).trans kD1
        replace fD1 := (hfx D 1 zD).trans fD1
        replace zD := Nat.lt_of_lt_of_le zD hTx.size
        replace kX0 := (hcx X 0 zX).trans kX0
        replace fX0 := (hfx X 0 zX).trans fX0
        replace kX1 := (hcx X 1 zX).trans kX1
        replace fX1 := (hfx X 1 zX).trans fX1
        replace zX := Nat.lt_of_lt_of_le zX hTx.size
        have hBo := HF.out _ hTx
        clear HF hcx hfx hTx
        go_wp2_with fail
        obtain ⟨s63, hws⟩ : ∃ s, s = ((x62.setCell ⟨X, 0, none⟩ (.bool bq)).setCell ⟨X, 1, none⟩ (.string tq)) := ⟨_, rfl⟩
        have hBs : Below w.heap.size w s63 := by rw [hws]; exact (((hBo).setCell lX _).setCell lX _)
        have hsz : s63.heap.size = x62.heap.size := by rw [hws]; simp
        have hQC : ∀ b j v, x62.cell? ⟨b, j, none⟩ = some v → X ≠ b → s63.cell? ⟨b, j, none⟩ = some v := fun b j v h dX => by rw [hws]; exact (stK (stK h dX) dX)
        replace kA0 := hQC _ _ _ kA0 dXA; replace kA1 := hQC _ _ _ kA1 dXA
        replace kB0 := hQC _ _ _ kB0 dXB; replace kB1 := hQC _ _ _ kB1 dXB
        replace kC0 := hQC _ _ _ kC0 dXC; replace kC1 := hQC _ _ _ kC1 dXC
        replace kD0 := hQC _ _ _ kD0 dXD; replace kD1 := hQC _ _ _ kD1 dXD
        clear hQC
        have kX0_ : s63.cell? ⟨X, 0, none⟩ = some (.bool bq) := by rw [hws]; simp [go_sem, kX0, kX1, fX0, fX1]
        have kX1_ : s63.cell? ⟨X, 1, none⟩ = some (.string tq) := by rw [hws]; simp [go_sem, kX0, kX1, fX0, fX1]
        replace kX0 := kX0_; clear kX0_; replace kX1 := kX1_; clear kX1_
        have hQF : ∀ p, s63.frozen? p = x62.frozen? p := fun p => by rw [hws]; simp [go_sem]
        replace fA0 := (hQF _).trans fA0; replace fA1 := (hQF _).trans fA1
        replace fB0 := (hQF _).trans fB0; replace fB1 := (hQF _).trans fB1
        replace fC0 := (hQF _).trans fC0; replace fC1 := (hQF _).trans fC1
        replace fD0 := (hQF _).trans fD0; replace fD1 := (hQF _).trans fD1
        replace fX0 := (hQF _).trans fX0; replace fX1 := (hQF _).trans fX1
        clear hQF
        replace zA : A < s63.heap.size := by omega
        replace zB : B < s63.heap.size := by omega
        replace zC : C < s63.heap.size := by omega
        replace zD : D < s63.heap.size := by omega
        replace zX : X < s63.heap.size := by omega
        rw [← hws]
        clear hBo hws hsz
        have hBo := hBs; clear hBs
        have HF : Hid (∀ W, Below s63.heap.size s63 W → Below w.heap.size w W) := fun W hW => hBo.trans (hW.mono hBo.size)
        clear hBo
        first | (go_region_held3 (fun w' => w'.cell? ⟨A, 0, none⟩ = some (.bool true) ∧ w'.cell? ⟨A, 1, none⟩ = some (.string tx) ∧ w'.cell? ⟨B, 0, none⟩ = some (.bool false) ∧ w'.cell? ⟨B, 1, none⟩ = some (.string ty) ∧ w'.cell? ⟨X, 0, none⟩ = some (.bool bq) ∧ w'.cell? ⟨X, 1, none⟩ = some (.string tq))
          (go_keep) (first
          | (go_at_call 53; refine (HML.out _).mono ?_; rintro e x64 ⟨rfl, hbx⟩; have hTx : Below s63.heap.size s63 x64 := (by first | exact (Below.refl _ _).drew.trans hbx | exact Below.trans (by assumption) (hbx.mono (Below.size (by assumption))) | exact (Below.refl _ _).trans hbx); obtain ⟨hcx, hfx⟩ := bcell hTx)
          | (go_at_call 104; refine (HSB.out _).mono ?_; rintro e x64 ⟨rfl, hbx⟩; have hTx : Below s63.heap.size s63 x64 := (by first | exact (Below.refl _ _).drew.trans hbx | exact Below.trans (by assumption) (hbx.mono (Below.size (by assumption))) | exact (Below.refl _ _).trans hbx); obtain ⟨hcx, hfx⟩ := bcell hTx))) | fail
        all_goals go_wp2_with fail
        all_goals refine bodyPost_ret (v := .tuple #[.agg #[.bool bq, .string tq], .agg #[.bool (zb r), .string (zt r)], .int .i64 0]) (by simp [results, Tryz.results67, go_sem, hcx, kC0, kC1, kD0, kD1, zC, zD]) rfl ⟨rfl, ?_⟩
        all_goals exact (((((HF.out _ (by assumption)).setCell lC _).setCell lC _).setCell lD _).setCell lD _)
end Go.Proofs.YtbgmnpabclfjaaaGreatDoor
