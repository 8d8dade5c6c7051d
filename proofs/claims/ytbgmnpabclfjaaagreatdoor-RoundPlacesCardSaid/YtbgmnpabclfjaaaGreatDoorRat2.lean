/-
  WHOLE NUMBERS IN THE DOCUMENT: products, sums, differences, held against each other.
-/
import Derived.Test.YtbgmnpabclfjaaaGreatDoorRat1
namespace Go.Proofs.YtbgmnpabclfjaaaGreatDoor
open Go.RowKit Go.Shelf
set_option linter.unusedSimpArgs false
set_option linter.unusedVariables false

theorem zt_size {neg : Bool} {m : ByteArray} {x : Int} {k : Nat} (hx : sI neg (Nt.V m) = x) (h : m.size ≤ k) : (zt x).size ≤ k := by
  unfold zt
  rw [← hx, sI_abs]
  exact Nat.le_trans (Nt.E_size_V m) h

set_option maxRecDepth 100000 in
set_option maxHeartbeats 4000000 in
theorem refMul4_any (n1 n2 : Bool) (m1 m2 : ByteArray) (p : Int) (w : World) (h1 : m1.size ≤ 1000) (h2 : m2.size ≤ 1000) (hp : sI n1 (Nt.V m1) * sI n2 (Nt.V m2) = p) :
    Calls Tryz.prog 53 #[.agg #[.bool n1, .string m1], .agg #[.bool n2, .string m2]] w fun e w' => e = .returned (.agg #[.bool (zb p), .string (zt p)]) ∧ Below w.heap.size w w' := by
  obtain ⟨x, hx⟩ : ∃ x, sI n1 (Nt.V m1) = x := ⟨_, rfl⟩
  obtain ⟨y, hy⟩ : ∃ y, sI n2 (Nt.V m2) = y := ⟨_, rfl⟩
  rw [hx, hy] at hp
  have zx := zt_size hx h1
  have zy := zt_size hy h2
  have HX := Lib.hid (fun w => refWell_z n1 m1 x w hx)
  have HY := Lib.hid (fun w => refWell_z n2 m2 y w hy)
  have hm := fun w => refMul_any (zt x) (zt y) w (by omega) (by omega)
  have hk : ∀ (b : Bool) (w : World), b = (zb x != zb y) → Calls Tryz.prog 70 #[.bool b, .string (Nt.E (Nt.V (zt x) * Nt.V (zt y)))] w fun e w' => e = .returned (.agg #[.bool (zb p), .string (zt p)]) ∧ Below w.heap.size w w' :=
    fun b w hb => refMake_z b _ p w (by rw [Nt.V_E, hb, sI_mul, sI_z, sI_z, hp])
  generalize Nt.E (Nt.V (zt x) * Nt.V (zt y)) = t at *
  generalize zb x = bx at *
  generalize zb y = by' at *
  generalize zt x = tx at *
  generalize zt y = ty at *
  have HM := Lib.hid hm
  have HK := Lib.hid hk
  clear hm hk hp hx hy h1 h2 zx zy
  go_enter Tryz.func53, Tryz.ntmps53
  go_wp2_with fail
  obtain ⟨s1, hws⟩ : ∃ s, s = (((w.alloc (.cells #[.bool n1, .string m1] 44)).alloc (.cells #[.bool n2, .string m2] 44)).alloc (.cells #[.bool false, .string ⟨#[]⟩] 44)) := ⟨_, rfl⟩
  have hBs : Below w.heap.size w s1 := by rw [hws]; exact ((((Below.refl w.heap.size w).alloc (by simp) _).alloc (by simp) _).alloc (by simp; omega) _)
  obtain ⟨A, hdA⟩ : ∃ b, b = w.heap.size := ⟨_, rfl⟩
  obtain ⟨B, hdB⟩ : ∃ b, b = w.heap.size + 1 := ⟨_, rfl⟩
  obtain ⟨C, hdC⟩ : ∃ b, b = w.heap.size + 1 + 1 := ⟨_, rfl⟩
  have hsz : s1.heap.size = w.heap.size + 1 + 1 + 1 := by rw [hws]; simp
  have dAB : A ≠ B := by omega
  have dAC : A ≠ C := by omega
  have dBA : B ≠ A := by omega
  have dBC : B ≠ C := by omega
  have dCA : C ≠ A := by omega
  have dCB : C ≠ B := by omega
  have kA0 : s1.cell? ⟨A, 0, none⟩ = some (.bool n1) := by rw [hws]; simp [go_sem, hdA, hdB, hdC]
  have fA0 : s1.frozen? ⟨A, 0, none⟩ = false := by rw [hws]; simp [go_sem, hdA, hdB, hdC]
  have kA1 : s1.cell? ⟨A, 1, none⟩ = some (.string m1) := by rw [hws]; simp [go_sem, hdA, hdB, hdC]
  have fA1 : s1.frozen? ⟨A, 1, none⟩ = false := by rw [hws]; simp [go_sem, hdA, hdB, hdC]
  have zA : A < s1.heap.size := by omega
  have lA : w.heap.size ≤ A := by have := Nat.le_refl w.heap.size; omega
  have kB0 : s1.cell? ⟨B, 0, none⟩ = some (.bool n2) := by rw [hws]; simp [go_sem, hdA, hdB, hdC]
  have fB0 : s1.frozen? ⟨B, 0, none⟩ = false := by rw [hws]; simp [go_sem, hdA, hdB, hdC]
  have kB1 : s1.cell? ⟨B, 1, none⟩ = some (.string m2) := by rw [hws]; simp [go_sem, hdA, hdB, hdC]
  have fB1 : s1.frozen? ⟨B, 1, none⟩ = false := by rw [hws]; simp [go_sem, hdA, hdB, hdC]
  have zB : B < s1.heap.size := by omega
  have lB : w.heap.size ≤ B := by have := Nat.le_refl w.heap.size; omega
  have kC0 : s1.cell? ⟨C, 0, none⟩ = some (.bool false) := by rw [hws]; simp [go_sem, hdA, hdB, hdC]
  have fC0 : s1.frozen? ⟨C, 0, none⟩ = false := by rw [hws]; simp [go_sem, hdA, hdB, hdC]
  have kC1 : s1.cell? ⟨C, 1, none⟩ = some (.string ⟨#[]⟩) := by rw [hws]; simp [go_sem, hdA, hdB, hdC]
  have fC1 : s1.frozen? ⟨C, 1, none⟩ = false := by rw [hws]; simp [go_sem, hdA, hdB, hdC]
  have zC : C < s1.heap.size := by omega
  have lC : w.heap.size ≤ C := by have := Nat.le_refl w.heap.size; omega
  rw [← hws]
  try rw [← hdC]
  try rw [← hdB]
  try rw [← hdA]
  clear hws hsz hdA hdB hdC
  have hBo := hBs; clear hBs
  refine (HX.out _).mono ?_; rintro e s2 ⟨rfl, hb⟩
  replace kA0 := belK hb kA0 zA; replace fA0 := belF hb fA0 zA; replace kA1 := belK hb kA1 zA; replace fA1 := belF hb fA1 zA; replace zA := Nat.lt_of_lt_of_le zA hb.size
  replace kB0 := belK hb kB0 zB; replace fB0 := belF hb fB0 zB; replace kB1 := belK hb kB1 zB; replace fB1 := belF hb fB1 zB; replace zB := Nat.lt_of_lt_of_le zB hb.size
  replace kC0 := belK hb kC0 zC; replace fC0 := belF hb fC0 zC; replace kC1 := belK hb kC1 zC; replace fC1 := belF hb fC1 zC; replace zC := Nat.lt_of_lt_of_le zC hb.size
  replace hBo := hBo.trans (hb.mono hBo.size)
  clear hb
  go_wp2_with fail
  obtain ⟨s3, hws⟩ : ∃ s, s = ((s2.setCell ⟨A, 0, none⟩ (.bool bx)).setCell ⟨A, 1, none⟩ (.string tx)) := ⟨_, rfl⟩
  have hBs : Below w.heap.size w s3 := by rw [hws]; exact (((hBo).setCell lA _).setCell lA _)
  have hsz : s3.heap.size = s2.heap.size := by rw [hws]; simp
  have hQC : ∀ b j v, s2.cell? ⟨b, j, none⟩ = some v → A ≠ b → s3.cell? ⟨b, j, none⟩ = some v := fun b j v h dA => by rw [hws]; exact (stK (stK h dA) dA)
  replace kB0 := hQC _ _ _ kB0 dAB; replace kB1 := hQC _ _ _ kB1 dAB
  replace kC0 := hQC _ _ _ kC0 dAC; replace kC1 := hQC _ _ _ kC1 dAC
  clear hQC
  have kA0_ : s3.cell? ⟨A, 0, none⟩ = some (.bool bx) := by rw [hws]; simp [go_sem, kA0, kA1, fA0, fA1]
  have kA1_ : s3.cell? ⟨A, 1, none⟩ = some (.string tx) := by rw [hws]; simp [go_sem, kA0, kA1, fA0, fA1]
  replace kA0 := kA0_; clear kA0_; replace kA1 := kA1_; clear kA1_
  have hQF : ∀ p, s3.frozen? p = s2.frozen? p := fun p => by rw [hws]; simp [go_sem]
  replace fA0 := (hQF _).trans fA0; replace fA1 := (hQF _).trans fA1
  replace fB0 := (hQF _).trans fB0; replace fB1 := (hQF _).trans fB1
  replace fC0 := (hQF _).trans fC0; replace fC1 := (hQF _).trans fC1
  clear hQF
  replace zA : A < s3.heap.size := by omega
  replace zB : B < s3.heap.size := by omega
  replace zC : C < s3.heap.size := by omega
  rw [← hws]
  clear hBo hws hsz
  have hBo := hBs; clear hBs
  refine (HY.out _).mono ?_; rintro e s4 ⟨rfl, hb⟩
  replace kA0 := belK hb kA0 zA; replace fA0 := belF hb fA0 zA; replace kA1 := belK hb kA1 zA; replace fA1 := belF hb fA1 zA; replace zA := Nat.lt_of_lt_of_le zA hb.size
  replace kB0 := belK hb kB0 zB; replace fB0 := belF hb fB0 zB; replace kB1 := belK hb kB1 zB; replace fB1 := belF hb fB1 zB; replace zB := Nat.lt_of_lt_of_le zB hb.size
  replace kC0 := belK hb kC0 zC; replace fC0 := belF hb fC0 zC; replace kC1 := belK hb kC1 zC; replace fC1 := belF hb fC1 zC; replace zC := Nat.lt_of_lt_of_le zC hb.size
  replace hBo := hBo.trans (hb.mono hBo.size)
  clear hb
  go_wp2_with fail
  obtain ⟨s5, hws⟩ : ∃ s, s = ((s4.setCell ⟨B, 0, none⟩ (.bool by')).setCell ⟨B, 1, none⟩ (.string ty)) := ⟨_, rfl⟩
  have hBs : Below w.heap.size w s5 := by rw [hws]; exact (((hBo).setCell lB _).setCell lB _)
  have hsz : s5.heap.size = s4.heap.size := by rw [hws]; simp
  have hQC : ∀ b j v, s4.cell? ⟨b, j, none⟩ = some v → B ≠ b → s5.cell? ⟨b, j, none⟩ = some v := fun b j v h dB => by rw [hws]; exact (stK (stK h dB) dB)
  replace kA0 := hQC _ _ _ kA0 dBA; replace kA1 := hQC _ _ _ kA1 dBA
  replace kC0 := hQC _ _ _ kC0 dBC; replace kC1 := hQC _ _ _ kC1 dBC
  clear hQC
  have kB0_ : s5.cell? ⟨B, 0, none⟩ = some (.bool by') := by rw [hws]; simp [go_sem, kB0, kB1, fB0, fB1]
  have kB1_ : s5.cell? ⟨B, 1, none⟩ = some (.string ty) := by rw [hws]; simp [go_sem, kB0, kB1, fB0, fB1]
  replace kB0 := kB0_; clear kB0_; replace kB1 := kB1_; clear kB1_
  have hQF : ∀ p, s5.frozen? p = s4.frozen? p := fun p => by rw [hws]; simp [go_sem]
  replace fA0 := (hQF _).trans fA0; replace fA1 := (hQF _).trans fA1
  replace fB0 := (hQF _).trans fB0; replace fB1 := (hQF _).trans fB1
  replace fC0 := (hQF _).trans fC0; replace fC1 := (hQF _).trans fC1
  clear hQF
  replace zA : A < s5.heap.size := by omega
  replace zB : B < s5.heap.size := by omega
  replace zC : C < s5.heap.size := by omega
  rw [← hws]
  clear hBo hws hsz
  have hBo := hBs; clear hBs
  have HF : Hid (∀ W, Below s5.heap.size s5 W → Below w.heap.size w W) := fun W hW => hBo.trans (hW.mono hBo.size)
  clear hBo
  first | (go_region_held3 (fun w' => w'.cell? ⟨A, 0, none⟩ = some (.bool bx) ∧ w'.cell? ⟨A, 1, none⟩ = some (.string tx) ∧ w'.cell? ⟨B, 0, none⟩ = some (.bool by') ∧ w'.cell? ⟨B, 1, none⟩ = some (.string ty))
    (go_keep) (first
    | (go_at_call 90; refine (HM.out _).mono ?_; rintro e x6 ⟨rfl, hbx⟩; have hTx : Below s5.heap.size s5 x6 := (by first | exact (Below.refl _ _).drew.trans hbx | exact Below.trans (by assumption) (hbx.mono (Below.size (by assumption))) | exact (Below.refl _ _).trans hbx); obtain ⟨hcx, hfx⟩ := bcell hTx)
    | (go_at_call 70; refine (HK.out _ _ (by cases bx <;> cases by' <;> rfl)).mono ?_; rintro e x6 ⟨rfl, hbx⟩; have hTx : Below s5.heap.size s5 x6 := (by first | exact (Below.refl _ _).drew.trans hbx | exact Below.trans (by assumption) (hbx.mono (Below.size (by assumption))) | exact (Below.refl _ _).trans hbx); obtain ⟨hcx, hfx⟩ := bcell hTx))) | fail
  all_goals go_wp2_with fail
  all_goals refine bodyPost_ret (v := .agg #[.bool (zb p), .string (zt p)]) (by simp [results, Tryz.results53, go_sem, hcx, kC0, kC1, zC]) rfl ⟨rfl, ?_⟩
  all_goals exact (((HF.out _ (by assumption)).setCell lC _).setCell lC _)

theorem cmpZ_ge {a b : Nat} (h : b ≤ a) : 0 ≤ Nt.cmpZ a b := by unfold Nt.cmpZ; rw [if_neg (by omega)]; split <;> omega
theorem cmpZ_lt {a b : Nat} (h : a < b) : Nt.cmpZ a b < 0 := by unfold Nt.cmpZ; rw [if_pos h]; omega
theorem zb_iff (x : Int) : zb x = true ↔ x < 0 := by unfold zb; simp
theorem add_ways (x y p : Int) (hp : x + y = p) :
    (zb x = zb y ∧ sI (zb x) (x.natAbs + y.natAbs) = p) ∨ (zb y = !zb x ∧ y.natAbs ≤ x.natAbs ∧ sI (zb x) (x.natAbs - y.natAbs) = p) ∨ (zb y = !zb x ∧ x.natAbs < y.natAbs ∧ sI (zb y) (y.natAbs - x.natAbs) = p) := by
  have hx := zb_iff x
  have hy := zb_iff y
  generalize zb x = bx at *
  generalize zb y = by' at *
  unfold sI
  cases bx <;> cases by' <;> simp at hx hy <;> simp <;> omega
set_option maxRecDepth 100000 in
set_option maxHeartbeats 8000000 in
theorem refAdd4_any (n1 n2 : Bool) (m1 m2 : ByteArray) (p : Int) (w : World) (h1 : m1.size ≤ 1000) (h2 : m2.size ≤ 1000) (hp : sI n1 (Nt.V m1) + sI n2 (Nt.V m2) = p) :
    Calls Tryz.prog 52 #[.agg #[.bool n1, .string m1], .agg #[.bool n2, .string m2]] w fun e w' => e = .returned (.agg #[.bool (zb p), .string (zt p)]) ∧ Below w.heap.size w w' := by
  obtain ⟨x, hx⟩ : ∃ x, sI n1 (Nt.V m1) = x := ⟨_, rfl⟩
  obtain ⟨y, hy⟩ : ∃ y, sI n2 (Nt.V m2) = y := ⟨_, rfl⟩
  rw [hx, hy] at hp
  have zx := zt_size hx h1
  have zy := zt_size hy h2
  have HX := Lib.hid (fun w => refWell_z n1 m1 x w hx)
  have HY := Lib.hid (fun w => refWell_z n2 m2 y w hy)
  rcases add_ways x y p hp with ⟨e, hq⟩ | ⟨e, hc, hq⟩ | ⟨e, hc, hq⟩
  · have hm := fun w => refAdd_any (zt x) (zt y) w (by omega) (by omega)
    have hk := fun w => refMake_z (zb x) (Nt.E (Nt.V (zt x) + Nt.V (zt y))) p w (by rw [Nt.V_E, V_zt, V_zt, hq])
    generalize Nt.E (Nt.V (zt x) + Nt.V (zt y)) = t at *
    rw [← e] at HY
    generalize zb x = bx at *
    generalize zt x = tx at *
    generalize zt y = ty at *
    have HM := Lib.hid hm
    have HK := Lib.hid hk
    clear hm hk hp hx hy h1 h2 zx zy e hq
    go_enter Tryz.func52, Tryz.ntmps52
    go_wp2_with fail
    obtain ⟨s7, hws⟩ : ∃ s, s = (((w.alloc (.cells #[.bool n1, .string m1] 44)).alloc (.cells #[.bool n2, .string m2] 44)).alloc (.cells #[.bool false, .string ⟨#[]⟩] 44)) := ⟨_, rfl⟩
    have hBs : Below w.heap.size w s7 := by rw [hws]; exact ((((Below.refl w.heap.size w).alloc (by simp) _).alloc (by simp) _).alloc (by simp; omega) _)
    obtain ⟨A, hdA⟩ : ∃ b, b = w.heap.size := ⟨_, rfl⟩
    obtain ⟨B, hdB⟩ : ∃ b, b = w.heap.size + 1 := ⟨_, rfl⟩
    obtain ⟨C, hdC⟩ : ∃ b, b = w.heap.size + 1 + 1 := ⟨_, rfl⟩
    have hsz : s7.heap.size = w.heap.size + 1 + 1 + 1 := by rw [hws]; simp
    have dAB : A ≠ B := by omega
    have dAC : A ≠ C := by omega
    have dBA : B ≠ A := by omega
    have dBC : B ≠ C := by omega
    have dCA : C ≠ A := by omega
    have dCB : C ≠ B := by omega
    have kA0 : s7.cell? ⟨A, 0, none⟩ = some (.bool n1) := by rw [hws]; simp [go_sem, hdA, hdB, hdC]
    have fA0 : s7.frozen? ⟨A, 0, none⟩ = false := by rw [hws]; simp [go_sem, hdA, hdB, hdC]
    have kA1 : s7.cell? ⟨A, 1, none⟩ = some (.string m1) := by rw [hws]; simp [go_sem, hdA, hdB, hdC]
    have fA1 : s7.frozen? ⟨A, 1, none⟩ = false := by rw [hws]; simp [go_sem, hdA, hdB, hdC]
    have zA : A < s7.heap.size := by omega
    have lA : w.heap.size ≤ A := by have := Nat.le_refl w.heap.size; omega
    have kB0 : s7.cell? ⟨B, 0, none⟩ = some (.bool n2) := by rw [hws]; simp [go_sem, hdA, hdB, hdC]
    have fB0 : s7.frozen? ⟨B, 0, none⟩ = false := by rw [hws]; simp [go_sem, hdA, hdB, hdC]
    have kB1 : s7.cell? ⟨B, 1, none⟩ = some (.string m2) := by rw [hws]; simp [go_sem, hdA, hdB, hdC]
    have fB1 : s7.frozen? ⟨B, 1, none⟩ = false := by rw [hws]; simp [go_sem, hdA, hdB, hdC]
    have zB : B < s7.heap.size := by omega
    have lB : w.heap.size ≤ B := by have := Nat.le_refl w.heap.size; omega
    have kC0 : s7.cell? ⟨C, 0, none⟩ = some (.bool false) := by rw [hws]; simp [go_sem, hdA, hdB, hdC]
    have fC0 : s7.frozen? ⟨C, 0, none⟩ = false := by rw [hws]; simp [go_sem, hdA, hdB, hdC]
    have kC1 : s7.cell? ⟨C, 1, none⟩ = some (.string ⟨#[]⟩) := by rw [hws]; simp [go_sem, hdA, hdB, hdC]
    have fC1 : s7.frozen? ⟨C, 1, none⟩ = false := by rw [hws]; simp [go_sem, hdA, hdB, hdC]
    have zC : C < s7.heap.size := by omega
    have lC : w.heap.size ≤ C := by have := Nat.le_refl w.heap.size; omega
    rw [← hws]
    try rw [← hdC]
    try rw [← hdB]
    try rw [← hdA]
    clear hws hsz hdA hdB hdC
    have hBo := hBs; clear hBs
    refine (HX.out _).mono ?_; rintro e s8 ⟨rfl, hb⟩
    replace kA0 := belK hb kA0 zA; replace fA0 := belF hb fA0 zA; replace kA1 := belK hb kA1 zA; replace fA1 := belF hb fA1 zA; replace zA := Nat.lt_of_lt_of_le zA hb.size
    replace kB0 := belK hb kB0 zB; replace fB0 := belF hb fB0 zB; replace kB1 := belK hb kB1 zB; replace fB1 := belF hb fB1 zB; replace zB := Nat.lt_of_lt_of_le zB hb.size
    replace kC0 := belK hb kC0 zC; replace fC0 := belF hb fC0 zC; replace kC1 := belK hb kC1 zC; replace fC1 := belF hb fC1 zC; replace zC := Nat.lt_of_lt_of_le zC hb.size
    replace hBo := hBo.trans (hb.mono hBo.size)
    clear hb
    go_wp2_with fail
    obtain ⟨s9, hws⟩ : ∃ s, s = ((s8.setCell ⟨A, 0, none⟩ (.bool bx)).setCell ⟨A, 1, none⟩ (.string tx)) := ⟨_, rfl⟩
    have hBs : Below w.heap.size w s9 := by rw [hws]; exact (((hBo).setCell lA _).setCell lA _)
    have hsz : s9.heap.size = s8.heap.size := by rw [hws]; simp
    have hQC : ∀ b j v, s8.cell? ⟨b, j, none⟩ = some v → A ≠ b → s9.cell? ⟨b, j, none⟩ = some v := fun b j v h dA => by rw [hws]; exact (stK (stK h dA) dA)
    replace kB0 := hQC _ _ _ kB0 dAB; replace kB1 := hQC _ _ _ kB1 dAB
    replace kC0 := hQC _ _ _ kC0 dAC; replace kC1 := hQC _ _ _ kC1 dAC
    clear hQC
    have kA0_ : s9.cell? ⟨A, 0, none⟩ = some (.bool bx) := by rw [hws]; simp [go_sem, kA0, kA1, fA0, fA1]
    have kA1_ : s9.cell? ⟨A, 1, none⟩ = some (.string tx) := by rw [hws]; simp [go_sem, kA0, kA1, fA0, fA1]
    replace kA0 := kA0_; clear kA0_; replace kA1 := kA1_; clear kA1_
    have hQF : ∀ p, s9.frozen? p = s8.frozen? p := fun p => by rw [hws]; simp [go_sem]
    replace fA0 := (hQF _).trans fA0; replace fA1 := (hQF _).trans fA1
    replace fB0 := (hQF _).trans fB0; replace fB1 := (hQF _).trans fB1
    replace fC0 := (hQF _).trans fC0; replace fC1 := (hQF _).trans fC1
    clear hQF
    replace zA : A < s9.heap.size := by omega
    replace zB : B < s9.heap.size := by omega
    replace zC : C < s9.heap.size := by omega
    rw [← hws]
    clear hBo hws hsz
    have hBo := hBs; clear hBs
    refine (HY.out _).mono ?_; rintro e s10 ⟨rfl, hb⟩
    replace kA0 := belK hb kA0 zA; replace fA0 := belF hb fA0 zA; replace kA1 := belK hb kA1 zA; replace fA1 := belF hb fA1 zA; replace zA := Nat.lt_of_lt_of_le zA hb.size
    replace kB0 := belK hb kB0 zB; replace fB0 := belF hb fB0 zB; replace kB1 := belK hb kB1 zB; replace fB1 := belF hb fB1 zB; replace zB := Nat.lt_of_lt_of_le zB hb.size
    replace kC0 := belK hb kC0 zC; replace fC0 := belF hb fC0 zC; replace kC1 := belK hb kC1 zC; replace fC1 := belF hb fC1 zC; replace zC := Nat.lt_of_lt_of_le zC hb.size
    replace hBo := hBo.trans (hb.mono hBo.size)
    clear hb
    go_wp2_with fail
    obtain ⟨s11, hws⟩ : ∃ s, s = ((s10.setCell ⟨B, 0, none⟩ (.bool bx)).setCell ⟨B, 1, none⟩ (.string ty)) := ⟨_, rfl⟩
    have hBs : Below w.heap.size w s11 := by rw [hws]; exact (((hBo).setCell lB _).setCell lB _)
    have hsz : s11.heap.size = s10.heap.size := by rw [hws]; simp
    have hQC : ∀ b j v, s10.cell? ⟨b, j, none⟩ = some v → B ≠ b → s11.cell? ⟨b, j, none⟩ = some v := fun b j v h dB => by rw [hws]; exact (stK (stK h dB) dB)
    replace kA0 := hQC _ _ _ kA0 dBA; replace kA1 := hQC _ _ _ kA1 dBA
    replace kC0 := hQC _ _ _ kC0 dBC; replace kC1 := hQC _ _ _ kC1 dBC
    clear hQC
    have kB0_ : s11.cell? ⟨B, 0, none⟩ = some (.bool bx) := by rw [hws]; simp [go_sem, kB0, kB1, fB0, fB1]
    have kB1_ : s11.cell? ⟨B, 1, none⟩ = some (.string ty) := by rw [hws]; simp [go_sem, kB0, kB1, fB0, fB1]
    replace kB0 := kB0_; clear kB0_; replace kB1 := kB1_; clear kB1_
    have hQF : ∀ p, s11.frozen? p = s10.frozen? p := fun p => by rw [hws]; simp [go_sem]
    replace fA0 := (hQF _).trans fA0; replace fA1 := (hQF _).trans fA1
    replace fB0 := (hQF _).trans fB0; replace fB1 := (hQF _).trans fB1
    replace fC0 := (hQF _).trans fC0; replace fC1 := (hQF _).trans fC1
    clear hQF
    replace zA : A < s11.heap.size := by omega
    replace zB : B < s11.heap.size := by omega
    replace zC : C < s11.heap.size := by omega
    rw [← hws]
    clear hBo hws hsz
    have hBo := hBs; clear hBs
    have HF : Hid (∀ W, Below s11.heap.size s11 W → Below w.heap.size w W) := fun W hW => hBo.trans (hW.mono hBo.size)
    clear hBo
    first | (go_region_held3 (fun w' => w'.cell? ⟨A, 0, none⟩ = some (.bool bx) ∧ w'.cell? ⟨A, 1, none⟩ = some (.string tx) ∧ w'.cell? ⟨B, 0, none⟩ = some (.bool bx) ∧ w'.cell? ⟨B, 1, none⟩ = some (.string ty))
      (go_keep) (first
      | (go_at_call 87; refine (HM.out _).mono ?_; rintro e x12 ⟨rfl, hbx⟩; have hTx : Below s11.heap.size s11 x12 := (by first | exact (Below.refl _ _).drew.trans hbx | exact Below.trans (by assumption) (hbx.mono (Below.size (by assumption))) | exact (Below.refl _ _).trans hbx); obtain ⟨hcx, hfx⟩ := bcell hTx)
      | (go_at_call 70; refine (HK.out _).mono ?_; rintro e x12 ⟨rfl, hbx⟩; have hTx : Below s11.heap.size s11 x12 := (by first | exact (Below.refl _ _).drew.trans hbx | exact Below.trans (by assumption) (hbx.mono (Below.size (by assumption))) | exact (Below.refl _ _).trans hbx); obtain ⟨hcx, hfx⟩ := bcell hTx))) | fail
    all_goals go_wp2_with fail
    all_goals refine bodyPost_ret (v := .agg #[.bool (zb p), .string (zt p)]) (by simp [results, Tryz.results52, go_sem, hcx, kC0, kC1, zC]) rfl ⟨rfl, ?_⟩
    all_goals exact (((HF.out _ (by assumption)).setCell lC _).setCell lC _)
  · have hm := fun w => refSub_any (zt x) (zt y) w (by omega) (by omega)
    have hk := fun w => refMake_z (zb x) (Nt.E (Nt.V (zt x) - Nt.V (zt y))) p w (by rw [Nt.V_E, V_zt, V_zt, hq])
    have hcm := fun w => refCmp_any (zt x) (zt y) w (by omega) (by omega)
    have hc0 := cmpZ_ge hc
    rw [V_zt, V_zt] at hcm
    generalize Nt.cmpZ x.natAbs y.natAbs = c at *
    generalize Nt.E (Nt.V (zt x) - Nt.V (zt y)) = t at *
    rw [e] at HY
    generalize zb x = bx at *
    generalize zt x = tx at *
    generalize zt y = ty at *
    have HM := Lib.hid hm
    have HK := Lib.hid hk
    have HC := Lib.hid hcm
    clear hm hk hp hx hy h1 h2 zx zy e hq hcm hc
    cases bx
    case false =>
      simp only [Bool.not_true, Bool.not_false] at HY
      go_enter Tryz.func52, Tryz.ntmps52
      go_wp2_with fail
      obtain ⟨s13, hws⟩ : ∃ s, s = (((w.alloc (.cells #[.bool n1, .string m1] 44)).alloc (.cells #[.bool n2, .string m2] 44)).alloc (.cells #[.bool false, .string ⟨#[]⟩] 44)) := ⟨_, rfl⟩
      have hBs : Below w.heap.size w s13 := by rw [hws]; exact ((((Below.refl w.heap.size w).alloc (by simp) _).alloc (by simp) _).alloc (by simp; omega) _)
      obtain ⟨A, hdA⟩ : ∃ b, b = w.heap.size := ⟨_, rfl⟩
      obtain ⟨B, hdB⟩ : ∃ b, b = w.heap.size + 1 := ⟨_, rfl⟩
      obtain ⟨C, hdC⟩ : ∃ b, b = w.heap.size + 1 + 1 := ⟨_, rfl⟩
      have hsz : s13.heap.size = w.heap.size + 1 + 1 + 1 := by rw [hws]; simp
      have dAB : A ≠ B := by omega
      have dAC : A ≠ C := by omega
      have dBA : B ≠ A := by omega
      have dBC : B ≠ C := by omega
      have dCA : C ≠ A := by omega
      have dCB : C ≠ B := by omega
      have kA0 : s13.cell? ⟨A, 0, none⟩ = some (.bool n1) := by rw [hws]; simp [go_sem, hdA, hdB, hdC]
      have fA0 : s13.frozen? ⟨A, 0, none⟩ = false := by rw [hws]; simp [go_sem, hdA, hdB, hdC]
      have kA1 : s13.cell? ⟨A, 1, none⟩ = some (.string m1) := by rw [hws]; simp [go_sem, hdA, hdB, hdC]
      have fA1 : s13.frozen? ⟨A, 1, none⟩ = false := by rw [hws]; simp [go_sem, hdA, hdB, hdC]
      have zA : A < s13.heap.size := by omega
      have lA : w.heap.size ≤ A := by have := Nat.le_refl w.heap.size; omega
      have kB0 : s13.cell? ⟨B, 0, none⟩ = some (.bool n2) := by rw [hws]; simp [go_sem, hdA, hdB, hdC]
      have fB0 : s13.frozen? ⟨B, 0, none⟩ = false := by rw [hws]; simp [go_sem, hdA, hdB, hdC]
      have kB1 : s13.cell? ⟨B, 1, none⟩ = some (.string m2) := by rw [hws]; simp [go_sem, hdA, hdB, hdC]
      have fB1 : s13.frozen? ⟨B, 1, none⟩ = false := by rw [hws]; simp [go_sem, hdA, hdB, hdC]
      have zB : B < s13.heap.size := by omega
      have lB : w.heap.size ≤ B := by have := Nat.le_refl w.heap.size; omega
      have kC0 : s13.cell? ⟨C, 0, none⟩ = some (.bool false) := by rw [hws]; simp [go_sem, hdA, hdB, hdC]
      have fC0 : s13.frozen? ⟨C, 0, none⟩ = false := by rw [hws]; simp [go_sem, hdA, hdB, hdC]
      have kC1 : s13.cell? ⟨C, 1, none⟩ = some (.string ⟨#[]⟩) := by rw [hws]; simp [go_sem, hdA, hdB, hdC]
      have fC1 : s13.frozen? ⟨C, 1, none⟩ = false := by rw [hws]; simp [go_sem, hdA, hdB, hdC]
      have zC : C < s13.heap.size := by omega
      have lC : w.heap.size ≤ C := by have := Nat.le_refl w.heap.size; omega
      rw [← hws]
      try rw [← hdC]
      try rw [← hdB]
      try rw [← hdA]
      clear hws hsz hdA hdB hdC
      have hBo := hBs; clear hBs
      refine (HX.out _).mono ?_; rintro e s14 ⟨rfl, hb⟩
      replace kA0 := belK hb kA0 zA; replace fA0 := belF hb fA0 zA; replace kA1 := belK hb kA1 zA; replace fA1 := belF hb fA1 zA; replace zA := Nat.lt_of_lt_of_le zA hb.size
      replace kB0 := belK hb kB0 zB; replace fB0 := belF hb fB0 zB; replace kB1 := belK hb kB1 zB; replace fB1 := belF hb fB1 zB; replace zB := Nat.lt_of_lt_of_le zB hb.size
      replace kC0 := belK hb kC0 zC; replace fC0 := belF hb fC0 zC; replace kC1 := belK hb kC1 zC; replace fC1 := belF hb fC1 zC; replace zC := Nat.lt_of_lt_of_le zC hb.size
      replace hBo := hBo.trans (hb.mono hBo.size)
      clear hb
      go_wp2_with fail
      obtain ⟨s15, hws⟩ : ∃ s, s = ((s14.setCell ⟨A, 0, none⟩ (.bool false)).setCell ⟨A, 1, none⟩ (.string tx)) := ⟨_, rfl⟩
      have hBs : Below w.heap.size w s15 := by rw [hws]; exact (((hBo).setCell lA _).setCell lA _)
      have hsz : s15.heap.size = s14.heap.size := by rw [hws]; simp
      have hQC : ∀ b j v, s14.cell? ⟨b, j, none⟩ = some v → A ≠ b → s15.cell? ⟨b, j, none⟩ = some v := fun b j v h dA => by rw [hws]; exact (stK (stK h dA) dA)
      replace kB0 := hQC _ _ _ kB0 dAB; replace kB1 := hQC _ _ _ kB1 dAB
      replace kC0 := hQC _ _ _ kC0 dAC; replace kC1 := hQC _ _ _ kC1 dAC
      clear hQC
      have kA0_ : s15.cell? ⟨A, 0, none⟩ = some (.bool false) := by rw [hws]; simp [go_sem, kA0, kA1, fA0, fA1]
      have kA1_ : s15.cell? ⟨A, 1, none⟩ = some (.string tx) := by rw [hws]; simp [go_sem, kA0, kA1, fA0, fA1]
      replace kA0 := kA0_; clear kA0_; replace kA1 := kA1_; clear kA1_
      have hQF : ∀ p, s15.frozen? p = s14.frozen? p := fun p => by rw [hws]; simp [go_sem]
      replace fA0 := (hQF _).trans fA0; replace fA1 := (hQF _).trans fA1
      replace fB0 := (hQF _).trans fB0; replace fB1 := (hQF _).trans fB1
      replace fC0 := (hQF _).trans fC0; replace fC1 := (hQF _).trans fC1
      clear hQF
      replace zA : A < s15.heap.size := by omega
      replace zB : B < s15.heap.size := by omega
      replace zC : C < s15.heap.size := by omega
      rw [← hws]
      clear hBo hws hsz
      have hBo := hBs; clear hBs
      refine (HY.out _).mono ?_; rintro e s16 ⟨rfl, hb⟩
      replace kA0 := belK hb kA0 zA; replace fA0 := belF hb fA0 zA; replace kA1 := belK hb kA1 zA; replace fA1 := belF hb fA1 zA; replace zA := Nat.lt_of_lt_of_le zA hb.size
      replace kB0 := belK hb kB0 zB; replace fB0 := belF hb fB0 zB; replace kB1 := belK hb kB1 zB; replace fB1 := belF hb fB1 zB; replace zB := Nat.lt_of_lt_of_le zB hb.size
      replace kC0 := belK hb kC0 zC; replace fC0 := belF hb fC0 zC; replace kC1 := belK hb kC1 zC; replace fC1 := belF hb fC1 zC; replace zC := Nat.lt_of_lt_of_le zC hb.size
      replace hBo := hBo.trans (hb.mono hBo.size)
      clear hb
      go_wp2_with fail
      obtain ⟨s17, hws⟩ : ∃ s, s = ((s16.setCell ⟨B, 0, none⟩ (.bool true)).setCell ⟨B, 1, none⟩ (.string ty)) := ⟨_, rfl⟩
      have hBs : Below w.heap.size w s17 := by rw [hws]; exact (((hBo).setCell lB _).setCell lB _)
      have hsz : s17.heap.size = s16.heap.size := by rw [hws]; simp
      have hQC : ∀ b j v, s16.cell? ⟨b, j, none⟩ = some v → B ≠ b → s17.cell? ⟨b, j, none⟩ = some v := fun b j v h dB => by rw [hws]; exact (stK (stK h dB) dB)
      replace kA0 := hQC _ _ _ kA0 dBA; replace kA1 := hQC _ _ _ kA1 dBA
      replace kC0 := hQC _ _ _ kC0 dBC; replace kC1 := hQC _ _ _ kC1 dBC
      clear hQC
      have kB0_ : s17.cell? ⟨B, 0, none⟩ = some (.bool true) := by rw [hws]; simp [go_sem, kB0, kB1, fB0, fB1]
      have kB1_ : s17.cell? ⟨B, 1, none⟩ = some (.string ty) := by rw [hws]; simp [go_sem, kB0, kB1, fB0, fB1]
      replace kB0 := kB0_; clear kB0_; replace kB1 := kB1_; clear kB1_
      have hQF : ∀ p, s17.frozen? p = s16.frozen? p := fun p => by rw [hws]; simp [go_sem]
      replace fA0 := (hQF _).trans fA0; replace fA1 := (hQF _).trans fA1
      replace fB0 := (hQF _).trans fB0; replace fB1 := (hQF _).trans fB1
      replace fC0 := (hQF _).trans fC0; replace fC1 := (hQF _).trans fC1
      clear hQF
      replace zA : A < s17.heap.size := by omega
      replace zB : B < s17.heap.size := by omega
      replace zC : C < s17.heap.size := by omega
      rw [← hws]
      clear hBo hws hsz
      have hBo := hBs; clear hBs
      refine (HC.out _).mono ?_; rintro e wq ⟨rfl, rfl⟩
      go_wp2_with fail
      have HF : Hid (∀ W, Below s17.heap.size s17 W → Below w.heap.size w W) := fun W hW => hBo.trans (hW.mono hBo.size)
      clear hBo
      first | (go_region_held3 (fun w' => w'.cell? ⟨A, 0, none⟩ = some (.bool false) ∧ w'.cell? ⟨A, 1, none⟩ = some (.string tx) ∧ w'.cell? ⟨B, 0, none⟩ = some (.bool true) ∧ w'.cell? ⟨B, 1, none⟩ = some (.string ty))
        (go_keep) (first
        | (go_at_call 89; refine (HM.out _).mono ?_; rintro e x18 ⟨rfl, hbx⟩; have hTx : Below s17.heap.size s17 x18 := (by first | exact (Below.refl _ _).drew.trans hbx | exact Below.trans (by assumption) (hbx.mono (Below.size (by assumption))) | exact (Below.refl _ _).trans hbx); obtain ⟨hcx, hfx⟩ := bcell hTx)
        | (go_at_call 70; refine (HK.out _).mono ?_; rintro e x18 ⟨rfl, hbx⟩; have hTx : Below s17.heap.size s17 x18 := (by first | exact (Below.refl _ _).drew.trans hbx | exact Below.trans (by assumption) (hbx.mono (Below.size (by assumption))) | exact (Below.refl _ _).trans hbx); obtain ⟨hcx, hfx⟩ := bcell hTx))) | fail
      all_goals go_wp2_with fail
      all_goals refine bodyPost_ret (v := .agg #[.bool (zb p), .string (zt p)]) (by simp [results, Tryz.results52, go_sem, hcx, kC0, kC1, zC]) rfl ⟨rfl, ?_⟩
      all_goals exact (((HF.out _ (by assumption)).setCell lC _).setCell lC _)
    case true =>
      simp only [Bool.not_true, Bool.not_false] at HY
      go_enter Tryz.func52, Tryz.ntmps52
      go_wp2_with fail
      obtain ⟨s19, hws⟩ : ∃ s, s = (((w.alloc (.cells #[.bool n1, .string m1] 44)).alloc (.cells #[.bool n2, .string m2] 44)).alloc (.cells #[.bool false, .string ⟨#[]⟩] 44)) := ⟨_, rfl⟩
      have hBs : Below w.heap.size w s19 := by rw [hws]; exact ((((Below.refl w.heap.size w).alloc (by simp) _).alloc (by simp) _).alloc (by simp; omega) _)
      obtain ⟨A, hdA⟩ : ∃ b, b = w.heap.size := ⟨_, rfl⟩
      obtain ⟨B, hdB⟩ : ∃ b, b = w.heap.size + 1 := ⟨_, rfl⟩
      obtain ⟨C, hdC⟩ : ∃ b, b = w.heap.size + 1 + 1 := ⟨_, rfl⟩
      have hsz : s19.heap.size = w.heap.size + 1 + 1 + 1 := by rw [hws]; simp
      have dAB : A ≠ B := by omega
      have dAC : A ≠ C := by omega
      have dBA : B ≠ A := by omega
      have dBC : B ≠ C := by omega
      have dCA : C ≠ A := by omega
      have dCB : C ≠ B := by omega
      have kA0 : s19.cell? ⟨A, 0, none⟩ = some (.bool n1) := by rw [hws]; simp [go_sem, hdA, hdB, hdC]
      have fA0 : s19.frozen? ⟨A, 0, none⟩ = false := by rw [hws]; simp [go_sem, hdA, hdB, hdC]
      have kA1 : s19.cell? ⟨A, 1, none⟩ = some (.string m1) := by rw [hws]; simp [go_sem, hdA, hdB, hdC]
      have fA1 : s19.frozen? ⟨A, 1, none⟩ = false := by rw [hws]; simp [go_sem, hdA, hdB, hdC]
      have zA : A < s19.heap.size := by omega
      have lA : w.heap.size ≤ A := by have := Nat.le_refl w.heap.size; omega
      have kB0 : s19.cell? ⟨B, 0, none⟩ = some (.bool n2) := by rw [hws]; simp [go_sem, hdA, hdB, hdC]
      have fB0 : s19.frozen? ⟨B, 0, none⟩ = false := by rw [hws]; simp [go_sem, hdA, hdB, hdC]
      have kB1 : s19.cell? ⟨B, 1, none⟩ = some (.string m2) := by rw [hws]; simp [go_sem, hdA, hdB, hdC]
      have fB1 : s19.frozen? ⟨B, 1, none⟩ = false := by rw [hws]; simp [go_sem, hdA, hdB, hdC]
      have zB : B < s19.heap.size := by omega
      have lB : w.heap.size ≤ B := by have := Nat.le_refl w.heap.size; omega
      have kC0 : s19.cell? ⟨C, 0, none⟩ = some (.bool false) := by rw [hws]; simp [go_sem, hdA, hdB, hdC]
      have fC0 : s19.frozen? ⟨C, 0, none⟩ = false := by rw [hws]; simp [go_sem, hdA, hdB, hdC]
      have kC1 : s19.cell? ⟨C, 1, none⟩ = some (.string ⟨#[]⟩) := by rw [hws]; simp [go_sem, hdA, hdB, hdC]
      have fC1 : s19.frozen? ⟨C, 1, none⟩ = false := by rw [hws]; simp [go_sem, hdA, hdB, hdC]
      have zC : C < s19.heap.size := by omega
      have lC : w.heap.size ≤ C := by have := Nat.le_refl w.heap.size; omega
      rw [← hws]
      try rw [← hdC]
      try rw [← hdB]
      try rw [← hdA]
      clear hws hsz hdA hdB hdC
      have hBo := hBs; clear hBs
      refine (HX.out _).mono ?_; rintro e s20 ⟨rfl, hb⟩
      replace kA0 := belK hb kA0 zA; replace fA0 := belF hb fA0 zA; replace kA1 := belK hb kA1 zA; replace fA1 := belF hb fA1 zA; replace zA := Nat.lt_of_lt_of_le zA hb.size
      replace kB0 := belK hb kB0 zB; replace fB0 := belF hb fB0 zB; replace kB1 := belK hb kB1 zB; replace fB1 := belF hb fB1 zB; replace zB := Nat.lt_of_lt_of_le zB hb.size
      replace kC0 := belK hb kC0 zC; replace fC0 := belF hb fC0 zC; replace kC1 := belK hb kC1 zC; replace fC1 := belF hb fC1 zC; replace zC := Nat.lt_of_lt_of_le zC hb.size
      replace hBo := hBo.trans (hb.mono hBo.size)
      clear hb
      go_wp2_with fail
      obtain ⟨s21, hws⟩ : ∃ s, s = ((s20.setCell ⟨A, 0, none⟩ (.bool true)).setCell ⟨A, 1, none⟩ (.string tx)) := ⟨_, rfl⟩
      have hBs : Below w.heap.size w s21 := by rw [hws]; exact (((hBo).setCell lA _).setCell lA _)
      have hsz : s21.heap.size = s20.heap.size := by rw [hws]; simp
      have hQC : ∀ b j v, s20.cell? ⟨b, j, none⟩ = some v → A ≠ b → s21.cell? ⟨b, j, none⟩ = some v := fun b j v h dA => by rw [hws]; exact (stK (stK h dA) dA)
      replace kB0 := hQC _ _ _ kB0 dAB; replace kB1 := hQC _ _ _ kB1 dAB
      replace kC0 := hQC _ _ _ kC0 dAC; replace kC1 := hQC _ _ _ kC1 dAC
      clear hQC
      have kA0_ : s21.cell? ⟨A, 0, none⟩ = some (.bool true) := by rw [hws]; simp [go_sem, kA0, kA1, fA0, fA1]
      have kA1_ : s21.cell? ⟨A, 1, none⟩ = some (.string tx) := by rw [hws]; simp [go_sem, kA0, kA1, fA0, fA1]
      replace kA0 := kA0_; clear kA0_; replace kA1 := kA1_; clear kA1_
      have hQF : ∀ p, s21.frozen? p = s20.frozen? p := fun p => by rw [hws]; simp [go_sem]
      replace fA0 := (hQF _).trans fA0; replace fA1 := (hQF _).trans fA1
      replace fB0 := (hQF _).trans fB0; replace fB1 := (hQF _).trans fB1
      replace fC0 := (hQF _).trans fC0; replace fC1 := (hQF _).trans fC1
      clear hQF
      replace zA : A < s21.heap.size := by omega
      replace zB : B < s21.heap.size := by omega
      replace zC : C < s21.heap.size := by omega
      rw [← hws]
      clear hBo hws hsz
      have hBo := hBs; clear hBs
      refine (HY.out _).mono ?_; rintro e s22 ⟨rfl, hb⟩
      replace kA0 := belK hb kA0 zA; replace fA0 := belF hb fA0 zA; replace kA1 := belK hb kA1 zA; replace fA1 := belF hb fA1 zA; replace zA := Nat.lt_of_lt_of_le zA hb.size
      replace kB0 := belK hb kB0 zB; replace fB0 := belF hb fB0 zB; replace kB1 := belK hb kB1 zB; replace fB1 := belF hb fB1 zB; replace zB := Nat.lt_of_lt_of_le zB hb.size
      replace kC0 := belK hb kC0 zC; replace fC0 := belF hb fC0 zC; replace kC1 := belK hb kC1 zC; replace fC1 := belF hb fC1 zC; replace zC := Nat.lt_of_lt_of_le zC hb.size
      replace hBo := hBo.trans (hb.mono hBo.size)
      clear hb
      go_wp2_with fail
      obtain ⟨s23, hws⟩ : ∃ s, s = ((s22.setCell ⟨B, 0, none⟩ (.bool false)).setCell ⟨B, 1, none⟩ (.string ty)) := ⟨_, rfl⟩
      have hBs : Below w.heap.size w s23 := by rw [hws]; exact (((hBo).setCell lB _).setCell lB _)
      have hsz : s23.heap.size = s22.heap.size := by rw [hws]; simp
      have hQC : ∀ b j v, s22.cell? ⟨b, j, none⟩ = some v → B ≠ b → s23.cell? ⟨b, j, none⟩ = some v := fun b j v h dB => by rw [hws]; exact (stK (stK h dB) dB)
      replace kA0 := hQC _ _ _ kA0 dBA; replace kA1 := hQC _ _ _ kA1 dBA
      replace kC0 := hQC _ _ _ kC0 dBC; replace kC1 := hQC _ _ _ kC1 dBC
      clear hQC
      have kB0_ : s23.cell? ⟨B, 0, none⟩ = some (.bool false) := by rw [hws]; simp [go_sem, kB0, kB1, fB0, fB1]
      have kB1_ : s23.cell? ⟨B, 1, none⟩ = some (.string ty) := by rw [hws]; simp [go_sem, kB0, kB1, fB0, fB1]
      replace kB0 := kB0_; clear kB0_; replace kB1 := kB1_; clear kB1_
      have hQF : ∀ p, s23.frozen? p = s22.frozen? p := fun p => by rw [hws]; simp [go_sem]
      replace fA0 := (hQF _).trans fA0; replace fA1 := (hQF _).trans fA1
      replace fB0 := (hQF _).trans fB0; replace fB1 := (hQF _).trans fB1
      replace fC0 := (hQF _).trans fC0; replace fC1 := (hQF _).trans fC1
      clear hQF
      replace zA : A < s23.heap.size := by omega
      replace zB : B < s23.heap.size := by omega
      replace zC : C < s23.heap.size := by omega
      rw [← hws]
      clear hBo hws hsz
      have hBo := hBs; clear hBs
      refine (HC.out _).mono ?_; rintro e wq ⟨rfl, rfl⟩
      go_wp2_with fail
      have HF : Hid (∀ W, Below s23.heap.size s23 W → Below w.heap.size w W) := fun W hW => hBo.trans (hW.mono hBo.size)
      clear hBo
      first | (go_region_held3 (fun w' => w'.cell? ⟨A, 0, none⟩ = some (.bool true) ∧ w'.cell? ⟨A, 1, none⟩ = some (.string tx) ∧ w'.cell? ⟨B, 0, none⟩ = some (.bool false) ∧ w'.cell? ⟨B, 1, none⟩ = some (.string ty))
        (go_keep) (first
        | (go_at_call 89; refine (HM.out _).mono ?_; rintro e x24 ⟨rfl, hbx⟩; have hTx : Below s23.heap.size s23 x24 := (by first | exact (Below.refl _ _).drew.trans hbx | exact Below.trans (by assumption) (hbx.mono (Below.size (by assumption))) | exact (Below.refl _ _).trans hbx); obtain ⟨hcx, hfx⟩ := bcell hTx)
        | (go_at_call 70; refine (HK.out _).mono ?_; rintro e x24 ⟨rfl, hbx⟩; have hTx : Below s23.heap.size s23 x24 := (by first | exact (Below.refl _ _).drew.trans hbx | exact Below.trans (by assumption) (hbx.mono (Below.size (by assumption))) | exact (Below.refl _ _).trans hbx); obtain ⟨hcx, hfx⟩ := bcell hTx))) | fail
      all_goals go_wp2_with fail
      all_goals refine bodyPost_ret (v := .agg #[.bool (zb p), .string (zt p)]) (by simp [results, Tryz.results52, go_sem, hcx, kC0, kC1, zC]) rfl ⟨rfl, ?_⟩
      all_goals exact (((HF.out _ (by assumption)).setCell lC _).setCell lC _)
  · have hm := fun w => refSub_any (zt y) (zt x) w (by omega) (by omega)
    have hk := fun w => refMake_z (zb y) (Nt.E (Nt.V (zt y) - Nt.V (zt x))) p w (by rw [Nt.V_E, V_zt, V_zt, hq])
    have hcm := fun w => refCmp_any (zt x) (zt y) w (by omega) (by omega)
    have hc0 := cmpZ_lt hc
    rw [V_zt, V_zt] at hcm
    generalize Nt.cmpZ x.natAbs y.natAbs = c at *
    generalize Nt.E (Nt.V (zt y) - Nt.V (zt x)) = t at *
    rw [e] at HY hk
    generalize zb x = bx at *
    generalize zt x = tx at *
    generalize zt y = ty at *
    have HM := Lib.hid hm
    have HK := Lib.hid hk
    have HC := Lib.hid hcm
    clear hm hk hp hx hy h1 h2 zx zy e hq hcm hc
    cases bx
    case false =>
      simp only [Bool.not_true, Bool.not_false] at HY HK
      go_enter Tryz.func52, Tryz.ntmps52
      go_wp2_with fail
      obtain ⟨s25, hws⟩ : ∃ s, s = (((w.alloc (.cells #[.bool n1, .string m1] 44)).alloc (.cells #[.bool n2, .string m2] 44)).alloc (.cells #[.bool false, .string ⟨#[]⟩] 44)) := ⟨_, rfl⟩
      have hBs : Below w.heap.size w s25 := by rw [hws]; exact ((((Below.refl w.heap.size w).alloc (by simp) _).alloc (by simp) _).alloc (by simp; omega) _)
      obtain ⟨A, hdA⟩ : ∃ b, b = w.heap.size := ⟨_, rfl⟩
      obtain ⟨B, hdB⟩ : ∃ b, b = w.heap.size + 1 := ⟨_, rfl⟩
      obtain ⟨C, hdC⟩ : ∃ b, b = w.heap.size + 1 + 1 := ⟨_, rfl⟩
      have hsz : s25.heap.size = w.heap.size + 1 + 1 + 1 := by rw [hws]; simp
      have dAB : A ≠ B := by omega
      have dAC : A ≠ C := by omega
      have dBA : B ≠ A := by omega
      have dBC : B ≠ C := by omega
      have dCA : C ≠ A := by omega
      have dCB : C ≠ B := by omega
      have kA0 : s25.cell? ⟨A, 0, none⟩ = some (.bool n1) := by rw [hws]; simp [go_sem, hdA, hdB, hdC]
      have fA0 : s25.frozen? ⟨A, 0, none⟩ = false := by rw [hws]; simp [go_sem, hdA, hdB, hdC]
      have kA1 : s25.cell? ⟨A, 1, none⟩ = some (.string m1) := by rw [hws]; simp [go_sem, hdA, hdB, hdC]
      have fA1 : s25.frozen? ⟨A, 1, none⟩ = false := by rw [hws]; simp [go_sem, hdA, hdB, hdC]
      have zA : A < s25.heap.size := by omega
      have lA : w.heap.size ≤ A := by have := Nat.le_refl w.heap.size; omega
      have kB0 : s25.cell? ⟨B, 0, none⟩ = some (.bool n2) := by rw [hws]; simp [go_sem, hdA, hdB, hdC]
      have fB0 : s25.frozen? ⟨B, 0, none⟩ = false := by rw [hws]; simp [go_sem, hdA, hdB, hdC]
      have kB1 : s25.cell? ⟨B, 1, none⟩ = some (.string m2) := by rw [hws]; simp [go_sem, hdA, hdB, hdC]
      have fB1 : s25.frozen? ⟨B, 1, none⟩ = false := by rw [hws]; simp [go_sem, hdA, hdB, hdC]
      have zB : B < s25.heap.size := by omega
      have lB : w.heap.size ≤ B := by have := Nat.le_refl w.heap.size; omega
      have kC0 : s25.cell? ⟨C, 0, none⟩ = some (.bool false) := by rw [hws]; simp [go_sem, hdA, hdB, hdC]
      have fC0 : s25.frozen? ⟨C, 0, none⟩ = false := by rw [hws]; simp [go_sem, hdA, hdB, hdC]
      have kC1 : s25.cell? ⟨C, 1, none⟩ = some (.string ⟨#[]⟩) := by rw [hws]; simp [go_sem, hdA, hdB, hdC]
      have fC1 : s25.frozen? ⟨C, 1, none⟩ = false := by rw [hws]; simp [go_sem, hdA, hdB, hdC]
      have zC : C < s25.heap.size := by omega
      have lC : w.heap.size ≤ C := by have := Nat.le_refl w.heap.size; omega
      rw [← hws]
      try rw [← hdC]
      try rw [← hdB]
      try rw [← hdA]
      clear hws hsz hdA hdB hdC
      have hBo := hBs; clear hBs
      refine (HX.out _).mono ?_; rintro e s26 ⟨rfl, hb⟩
      replace kA0 := belK hb kA0 zA; replace fA0 := belF hb fA0 zA; replace kA1 := belK hb kA1 zA; replace fA1 := belF hb fA1 zA; replace zA := Nat.lt_of_lt_of_le zA hb.size
      replace kB0 := belK hb kB0 zB; replace fB0 := belF hb fB0 zB; replace kB1 := belK hb kB1 zB; replace fB1 := belF hb fB1 zB; replace zB := Nat.lt_of_lt_of_le zB hb.size
      replace kC0 := belK hb kC0 zC; replace fC0 := belF hb fC0 zC; replace kC1 := belK hb kC1 zC; replace fC1 := belF hb fC1 zC; replace zC := Nat.lt_of_lt_of_le zC hb.size
      replace hBo := hBo.trans (hb.mono hBo.size)
      clear hb
      go_wp2_with fail
      obtain ⟨s27, hws⟩ : ∃ s, s = ((s26.setCell ⟨A, 0, none⟩ (.bool false)).setCell ⟨A, 1, none⟩ (.string tx)) := ⟨_, rfl⟩
      have hBs : Below w.heap.size w s27 := by rw [hws]; exact (((hBo).setCell lA _).setCell lA _)
      have hsz : s27.heap.size = s26.heap.size := by rw [hws]; simp
      have hQC : ∀ b j v, s26.cell? ⟨b, j, none⟩ = some v → A ≠ b → s27.cell? ⟨b, j, none⟩ = some v := fun b j v h dA => by rw [hws]; exact (stK (stK h dA) dA)
      replace kB0 := hQC _ _ _ kB0 dAB; replace kB1 := hQC _ _ _ kB1 dAB
      replace kC0 := hQC _ _ _ kC0 dAC; replace kC1 := hQC _ _ _ kC1 dAC
      clear hQC
      have kA0_ : s27.cell? ⟨A, 0, none⟩ = some (.bool false) := by rw [hws]; simp [go_sem, kA0, kA1, fA0, fA1]
      have kA1_ : s27.cell? ⟨A, 1, none⟩ = some (.string tx) := by rw [hws]; simp [go_sem, kA0, kA1, fA0, fA1]
      replace kA0 := kA0_; clear kA0_; replace kA1 := kA1_; clear kA1_
      have hQF : ∀ p, s27.frozen? p = s26.frozen? p := fun p => by rw [hws]; simp [go_sem]
      replace fA0 := (hQF _).trans fA0; replace fA1 := (hQF _).trans fA1
      replace fB0 := (hQF _).trans fB0; replace fB1 := (hQF _).trans fB1
      replace fC0 := (hQF _).trans fC0; replace fC1 := (hQF _).trans fC1
      clear hQF
      replace zA : A < s27.heap.size := by omega
      replace zB : B < s27.heap.size := by omega
      replace zC : C < s27.heap.size := by omega
      rw [← hws]
      clear hBo hws hsz
      have hBo := hBs; clear hBs
      refine (HY.out _).mono ?_; rintro e s28 ⟨rfl, hb⟩
      replace kA0 := belK hb kA0 zA; replace fA0 := belF hb fA0 zA; replace kA1 := belK hb kA1 zA; replace fA1 := belF hb fA1 zA; replace zA := Nat.lt_of_lt_of_le zA hb.size
      replace kB0 := belK hb kB0 zB; replace fB0 := belF hb fB0 zB; replace kB1 := belK hb kB1 zB; replace fB1 := belF hb fB1 zB; replace zB := Nat.lt_of_lt_of_le zB hb.size
      replace kC0 := belK hb kC0 zC; replace fC0 := belF hb fC0 zC; replace kC1 := belK hb kC1 zC; replace fC1 := belF hb fC1 zC; replace zC := Nat.lt_of_lt_of_le zC hb.size
      replace hBo := hBo.trans (hb.mono hBo.size)
      clear hb
      go_wp2_with fail
      obtain ⟨s29, hws⟩ : ∃ s, s = ((s28.setCell ⟨B, 0, none⟩ (.bool true)).setCell ⟨B, 1, none⟩ (.string ty)) := ⟨_, rfl⟩
      have hBs : Below w.heap.size w s29 := by rw [hws]; exact (((hBo).setCell lB _).setCell lB _)
      have hsz : s29.heap.size = s28.heap.size := by rw [hws]; simp
      have hQC : ∀ b j v, s28.cell? ⟨b, j, none⟩ = some v → B ≠ b → s29.cell? ⟨b, j, none⟩ = some v := fun b j v h dB => by rw [hws]; exact (stK (stK h dB) dB)
      replace kA0 := hQC _ _ _ kA0 dBA; replace kA1 := hQC _ _ _ kA1 dBA
      replace kC0 := hQC _ _ _ kC0 dBC; replace kC1 := hQC _ _ _ kC1 dBC
      clear hQC
      have kB0_ : s29.cell? ⟨B, 0, none⟩ = some (.bool true) := by rw [hws]; simp [go_sem, kB0, kB1, fB0, fB1]
      have kB1_ : s29.cell? ⟨B, 1, none⟩ = some (.string ty) := by rw [hws]; simp [go_sem, kB0, kB1, fB0, fB1]
      replace kB0 := kB0_; clear kB0_; replace kB1 := kB1_; clear kB1_
      have hQF : ∀ p, s29.frozen? p = s28.frozen? p := fun p => by rw [hws]; simp [go_sem]
      replace fA0 := (hQF _).trans fA0; replace fA1 := (hQF _).trans fA1
      replace fB0 := (hQF _).trans fB0; replace fB1 := (hQF _).trans fB1
      replace fC0 := (hQF _).trans fC0; replace fC1 := (hQF _).trans fC1
      clear hQF
      replace zA : A < s29.heap.size := by omega
      replace zB : B < s29.heap.size := by omega
      replace zC : C < s29.heap.size := by omega
      rw [← hws]
      clear hBo hws hsz
      have hBo := hBs; clear hBs
      refine (HC.out _).mono ?_; rintro e wq ⟨rfl, rfl⟩
      go_wp2_with fail
      have HF : Hid (∀ W, Below s29.heap.size s29 W → Below w.heap.size w W) := fun W hW => hBo.trans (hW.mono hBo.size)
      clear hBo
      first | (go_region_held3 (fun w' => w'.cell? ⟨A, 0, none⟩ = some (.bool false) ∧ w'.cell? ⟨A, 1, none⟩ = some (.string tx) ∧ w'.cell? ⟨B, 0, none⟩ = some (.bool true) ∧ w'.cell? ⟨B, 1, none⟩ = some (.string ty))
        (go_keep) (first
        | (go_at_call 89; refine (HM.out _).mono ?_; rintro e x30 ⟨rfl, hbx⟩; have hTx : Below s29.heap.size s29 x30 := (by first | exact (Below.refl _ _).drew.trans hbx | exact Below.trans (by assumption) (hbx.mono (Below.size (by assumption))) | exact (Below.refl _ _).trans hbx); obtain ⟨hcx, hfx⟩ := bcell hTx)
        | (go_at_call 70; refine (HK.out _).mono ?_; rintro e x30 ⟨rfl, hbx⟩; have hTx : Below s29.heap.size s29 x30 := (by first | exact (Below.refl _ _).drew.trans hbx | exact Below.trans (by assumption) (hbx.mono (Below.size (by assumption))) | exact (Below.refl _ _).trans hbx); obtain ⟨hcx, hfx⟩ := bcell hTx))) | fail
      all_goals go_wp2_with fail
      all_goals refine bodyPost_ret (v := .agg #[.bool (zb p), .string (zt p)]) (by simp [results, Tryz.results52, go_sem, hcx, kC0, kC1, zC]) rfl ⟨rfl, ?_⟩
      all_goals exact (((HF.out _ (by assumption)).setCell lC _).setCell lC _)
    case true =>
      simp only [Bool.not_true, Bool.not_false] at HY HK
      go_enter Tryz.func52, Tryz.ntmps52
      go_wp2_with fail
      obtain ⟨s31, hws⟩ : ∃ s, s = (((w.alloc (.cells #[.bool n1, .string m1] 44)).alloc (.cells #[.bool n2, .string m2] 44)).alloc (.cells #[.bool false, .string ⟨#[]⟩] 44)) := ⟨_, rfl⟩
      have hBs : Below w.heap.size w s31 := by rw [hws]; exact ((((Below.refl w.heap.size w).alloc (by simp) _).alloc (by simp) _).alloc (by simp; omega) _)
      obtain ⟨A, hdA⟩ : ∃ b, b = w.heap.size := ⟨_, rfl⟩
      obtain ⟨B, hdB⟩ : ∃ b, b = w.heap.size + 1 := ⟨_, rfl⟩
      obtain ⟨C, hdC⟩ : ∃ b, b = w.heap.size + 1 + 1 := ⟨_, rfl⟩
      have hsz : s31.heap.size = w.heap.size + 1 + 1 + 1 := by rw [hws]; simp
      have dAB : A ≠ B := by omega
      have dAC : A ≠ C := by omega
      have dBA : B ≠ A := by omega
      have dBC : B ≠ C := by omega
      have dCA : C ≠ A := by omega
      have dCB : C ≠ B := by omega
      have kA0 : s31.cell? ⟨A, 0, none⟩ = some (.bool n1) := by rw [hws]; simp [go_sem, hdA, hdB, hdC]
      have fA0 : s31.frozen? ⟨A, 0, none⟩ = false := by rw [hws]; simp [go_sem, hdA, hdB, hdC]
      have kA1 : s31.cell? ⟨A, 1, none⟩ = some (.string m1) := by rw [hws]; simp [go_sem, hdA, hdB, hdC]
      have fA1 : s31.frozen? ⟨A, 1, none⟩ = false := by rw [hws]; simp [go_sem, hdA, hdB, hdC]
      have zA : A < s31.heap.size := by omega
      have lA : w.heap.size ≤ A := by have := Nat.le_refl w.heap.size; omega
      have kB0 : s31.cell? ⟨B, 0, none⟩ = some (.bool n2) := by rw [hws]; simp [go_sem, hdA, hdB, hdC]
      have fB0 : s31.frozen? ⟨B, 0, none⟩ = false := by rw [hws]; simp [go_sem, hdA, hdB, hdC]
      have kB1 : s31.cell? ⟨B, 1, none⟩ = some (.string m2) := by rw [hws]; simp [go_sem, hdA, hdB, hdC]
      have fB1 : s31.frozen? ⟨B, 1, none⟩ = false := by rw [hws]; simp [go_sem, hdA, hdB, hdC]
      have zB : B < s31.heap.size := by omega
      have lB : w.heap.size ≤ B := by have := Nat.le_refl w.heap.size; omega
      have kC0 : s31.cell? ⟨C, 0, none⟩ = some (.bool false) := by rw [hws]; simp [go_sem, hdA, hdB, hdC]
      have fC0 : s31.frozen? ⟨C, 0, none⟩ = false := by rw [hws]; simp [go_sem, hdA, hdB, hdC]
      have kC1 : s31.cell? ⟨C, 1, none⟩ = some (.string ⟨#[]⟩) := by rw [hws]; simp [go_sem, hdA, hdB, hdC]
      have fC1 : s31.frozen? ⟨C, 1, none⟩ = false := by rw [hws]; simp [go_sem, hdA, hdB, hdC]
      have zC : C < s31.heap.size := by omega
      have lC : w.heap.size ≤ C := by have := Nat.le_refl w.heap.size; omega
      rw [← hws]
      try rw [← hdC]
      try rw [← hdB]
      try rw [← hdA]
      clear hws hsz hdA hdB hdC
      have hBo := hBs; clear hBs
      refine (HX.out _).mono ?_; rintro e s32 ⟨rfl, hb⟩
      replace kA0 := belK hb kA0 zA; replace fA0 := belF hb fA0 zA; replace kA1 := belK hb kA1 zA; replace fA1 := belF hb fA1 zA; replace zA := Nat.lt_of_lt_of_le zA hb.size
      replace kB0 := belK hb kB0 zB; replace fB0 := belF hb fB0 zB; replace kB1 := belK hb kB1 zB; replace fB1 := belF hb fB1 zB; replace zB := Nat.lt_of_lt_of_le zB hb.size
      replace kC0 := belK hb kC0 zC; replace fC0 := belF hb fC0 zC; replace kC1 := belK hb kC1 zC; replace fC1 := belF hb fC1 zC; replace zC := Nat.lt_of_lt_of_le zC hb.size
      replace hBo := hBo.trans (hb.mono hBo.size)
      clear hb
      go_wp2_with fail
      obtain ⟨s33, hws⟩ : ∃ s, s = ((s32.setCell ⟨A, 0, none⟩ (.bool true)).setCell ⟨A, 1, none⟩ (.string tx)) := ⟨_, rfl⟩
      have hBs : Below w.heap.size w s33 := by rw [hws]; exact (((hBo).setCell lA _).setCell lA _)
      have hsz : s33.heap.size = s32.heap.size := by rw [hws]; simp
      have hQC : ∀ b j v, s32.cell? ⟨b, j, none⟩ = some v → A ≠ b → s33.cell? ⟨b, j, none⟩ = some v := fun b j v h dA => by rw [hws]; exact (stK (stK h dA) dA)
      replace kB0 := hQC _ _ _ kB0 dAB; replace kB1 := hQC _ _ _ kB1 dAB
      replace kC0 := hQC _ _ _ kC0 dAC; replace kC1 := hQC _ _ _ kC1 dAC
      clear hQC
      have kA0_ : s33.cell? ⟨A, 0, none⟩ = some (.bool true) := by rw [hws]; simp [go_sem, kA0, kA1, fA0, fA1]
      have kA1_ : s33.cell? ⟨A, 1, none⟩ = some (.string tx) := by rw [hws]; simp [go_sem, kA0, kA1, fA0, fA1]
      replace kA0 := kA0_; clear kA0_; replace kA1 := kA1_; clear kA1_
      have hQF : ∀ p, s33.frozen? p = s32.frozen? p := fun p => by rw [hws]; simp [go_sem]
      replace fA0 := (hQF _).trans fA0; replace fA1 := (hQF _).trans fA1
      replace fB0 := (hQF _).trans fB0; replace fB1 := (hQF _).trans fB1
      replace fC0 := (hQF _).trans fC0; replace fC1 := (hQF _).trans fC1
      clear hQF
      replace zA : A < s33.heap.size := by omega
      replace zB : B < s33.heap.size := by omega
      replace zC : C < s33.heap.size := by omega
      rw [← hws]
      clear hBo hws hsz
      have hBo := hBs; clear hBs
      refine (HY.out _).mono ?_; rintro e s34 ⟨rfl, hb⟩
      replace kA0 := belK hb kA0 zA; replace fA0 := belF hb fA0 zA; replace kA1 := belK hb kA1 zA; replace fA1 := belF hb fA1 zA; replace zA := Nat.lt_of_lt_of_le zA hb.size
      replace kB0 := belK hb kB0 zB; replace fB0 := belF hb fB0 zB; replace kB1 := belK hb kB1 zB; replace fB1 := belF hb fB1 zB; replace zB := Nat.lt_of_lt_of_le zB hb.size
      replace kC0 := belK hb kC0 zC; replace fC0 := belF hb fC0 zC; replace kC1 := belK hb kC1 zC; replace fC1 := belF hb fC1 zC; replace zC := Nat.lt_of_lt_of_le zC hb.size
      replace hBo := hBo.trans (hb.mono hBo.size)
      clear hb
      go_wp2_with fail
      obtain ⟨s35, hws⟩ : ∃ s, s = ((s34.setCell ⟨B, 0, none⟩ (.bool false)).setCell ⟨B, 1, none⟩ (.string ty)) := ⟨_, rfl⟩
      have hBs : Below w.heap.size w s35 := by rw [hws]; exact (((hBo).setCell lB _).setCell lB _)
      have hsz : s35.heap.size = s34.heap.size := by rw [hws]; simp
      have hQC : ∀ b j v, s34.cell? ⟨b, j, none⟩ = some v → B ≠ b → s35.cell? ⟨b, j, none⟩ = some v := fun b j v h dB => by rw [hws]; exact (stK (stK h dB) dB)
      replace kA0 := hQC _ _ _ kA0 dBA; replace kA1 := hQC _ _ _ kA1 dBA
      replace kC0 := hQC _ _ _ kC0 dBC; replace kC1 := hQC _ _ _ kC1 dBC
      clear hQC
      have kB0_ : s35.cell? ⟨B, 0, none⟩ = some (.bool false) := by rw [hws]; simp [go_sem, kB0, kB1, fB0, fB1]
      have kB1_ : s35.cell? ⟨B, 1, none⟩ = some (.string ty) := by rw [hws]; simp [go_sem, kB0, kB1, fB0, fB1]
      replace kB0 := kB0_; clear kB0_; replace kB1 := kB1_; clear kB1_
      have hQF : ∀ p, s35.frozen? p = s34.frozen? p := fun p => by rw [hws]; simp [go_sem]
      replace fA0 := (hQF _).trans fA0; replace fA1 := (hQF _).trans fA1
      replace fB0 := (hQF _).trans fB0; replace fB1 := (hQF _).trans fB1
      replace fC0 := (hQF _).trans fC0; replace fC1 := (hQF _).trans fC1
      clear hQF
      replace zA : A < s35.heap.size := by omega
      replace zB : B < s35.heap.size := by omega
      replace zC : C < s35.heap.size := by omega
      rw [← hws]
      clear hBo hws hsz
      have hBo := hBs; clear hBs
      refine (HC.out _).mono ?_; rintro e wq ⟨rfl, rfl⟩
      go_wp2_with fail
      have HF : Hid (∀ W, Below s35.heap.size s35 W → Below w.heap.size w W) := fun W hW => hBo.trans (hW.mono hBo.size)
      clear hBo
      first | (go_region_held3 (fun w' => w'.cell? ⟨A, 0, none⟩ = some (.bool true) ∧ w'.cell? ⟨A, 1, none⟩ = some (.string tx) ∧ w'.cell? ⟨B, 0, none⟩ = some (.bool false) ∧ w'.cell? ⟨B, 1, none⟩ = some (.string ty))
        (go_keep) (first
        | (go_at_call 89; refine (HM.out _).mono ?_; rintro e x36 ⟨rfl, hbx⟩; have hTx : Below s35.heap.size s35 x36 := (by first | exact (Below.refl _ _).drew.trans hbx | exact Below.trans (by assumption) (hbx.mono (Below.size (by assumption))) | exact (Below.refl _ _).trans hbx); obtain ⟨hcx, hfx⟩ := bcell hTx)
        | (go_at_call 70; refine (HK.out _).mono ?_; rintro e x36 ⟨rfl, hbx⟩; have hTx : Below s35.heap.size s35 x36 := (by first | exact (Below.refl _ _).drew.trans hbx | exact Below.trans (by assumption) (hbx.mono (Below.size (by assumption))) | exact (Below.refl _ _).trans hbx); obtain ⟨hcx, hfx⟩ := bcell hTx))) | fail
      all_goals go_wp2_with fail
      all_goals refine bodyPost_ret (v := .agg #[.bool (zb p), .string (zt p)]) (by simp [results, Tryz.results52, go_sem, hcx, kC0, kC1, zC]) rfl ⟨rfl, ?_⟩
      all_goals exact (((HF.out _ (by assumption)).setCell lC _).setCell lC _)

set_option maxRecDepth 100000 in
set_option maxHeartbeats 8000000 in
theorem refSub4_any (n1 n2 : Bool) (m1 m2 : ByteArray) (p : Int) (w : World) (h1 : m1.size ≤ 1000) (h2 : m2.size ≤ 1000) (hp : sI n1 (Nt.V m1) - sI n2 (Nt.V m2) = p) :
    Calls Tryz.prog 104 #[.agg #[.bool n1, .string m1], .agg #[.bool n2, .string m2]] w fun e w' => e = .returned (.agg #[.bool (zb p), .string (zt p)]) ∧ Below w.heap.size w w' := by
  obtain ⟨y, hy⟩ : ∃ y, -sI n2 (Nt.V m2) = y := ⟨_, rfl⟩
  have zy : (zt y).size ≤ 1000 := by
    rw [← sI_not] at hy
    exact zt_size hy h2
  have HN := Lib.hid (fun w => refNeg_z n2 m2 y w hy)
  have HA := Lib.hid (fun w => refAdd4_any n1 (zb y) m1 (zt y) p w h1 zy (by rw [sI_z]; omega))
  generalize zb y = by' at *
  generalize zt y = ty at *
  clear hp hy h1 h2 zy
  go_enter Tryz.func104, Tryz.ntmps104
  go_wp2_with fail
  obtain ⟨s37, hws⟩ : ∃ s, s = (((w.alloc (.cells #[.bool n1, .string m1] 44)).alloc (.cells #[.bool n2, .string m2] 44)).alloc (.cells #[.bool false, .string ⟨#[]⟩] 44)) := ⟨_, rfl⟩
  have hBs : Below w.heap.size w s37 := by rw [hws]; exact ((((Below.refl w.heap.size w).alloc (by simp) _).alloc (by simp) _).alloc (by simp; omega) _)
  obtain ⟨A, hdA⟩ : ∃ b, b = w.heap.size := ⟨_, rfl⟩
  obtain ⟨B, hdB⟩ : ∃ b, b = w.heap.size + 1 := ⟨_, rfl⟩
  obtain ⟨C, hdC⟩ : ∃ b, b = w.heap.size + 1 + 1 := ⟨_, rfl⟩
  have hsz : s37.heap.size = w.heap.size + 1 + 1 + 1 := by rw [hws]; simp
  have dCA : C ≠ A := by omega
  have dCB : C ≠ B := by omega
  have kA0 : s37.cell? ⟨A, 0, none⟩ = some (.bool n1) := by rw [hws]; simp [go_sem, hdA, hdB, hdC]
  have kA1 : s37.cell? ⟨A, 1, none⟩ = some (.string m1) := by rw [hws]; simp [go_sem, hdA, hdB, hdC]
  have zA : A < s37.heap.size := by omega
  have lA : w.heap.size ≤ A := by have := Nat.le_refl w.heap.size; omega
  have kB0 : s37.cell? ⟨B, 0, none⟩ = some (.bool n2) := by rw [hws]; simp [go_sem, hdA, hdB, hdC]
  have kB1 : s37.cell? ⟨B, 1, none⟩ = some (.string m2) := by rw [hws]; simp [go_sem, hdA, hdB, hdC]
  have zB : B < s37.heap.size := by omega
  have lB : w.heap.size ≤ B := by have := Nat.le_refl w.heap.size; omega
  have kC0 : s37.cell? ⟨C, 0, none⟩ = some (.bool false) := by rw [hws]; simp [go_sem, hdA, hdB, hdC]
  have fC0 : s37.frozen? ⟨C, 0, none⟩ = false := by rw [hws]; simp [go_sem, hdA, hdB, hdC]
  have kC1 : s37.cell? ⟨C, 1, none⟩ = some (.string ⟨#[]⟩) := by rw [hws]; simp [go_sem, hdA, hdB, hdC]
  have fC1 : s37.frozen? ⟨C, 1, none⟩ = false := by rw [hws]; simp [go_sem, hdA, hdB, hdC]
  have zC : C < s37.heap.size := by omega
  have lC : w.heap.size ≤ C := by have := Nat.le_refl w.heap.size; omega
  rw [← hws]
  try rw [← hdC]
  try rw [← hdB]
  try rw [← hdA]
  clear hws hsz hdA hdB hdC
  have hBo := hBs; clear hBs
  have HF : Hid (∀ W, Below s37.heap.size s37 W → Below w.heap.size w W) := fun W hW => hBo.trans (hW.mono hBo.size)
  clear hBo
  first | (go_region_held3 (fun w' => w'.cell? ⟨A, 0, none⟩ = some (.bool n1) ∧ w'.cell? ⟨A, 1, none⟩ = some (.string m1) ∧ w'.cell? ⟨B, 0, none⟩ = some (.bool n2) ∧ w'.cell? ⟨B, 1, none⟩ = some (.string m2))
    (go_keep) (first
    | (go_at_call 101; refine (HN.out _).mono ?_; rintro e x38 ⟨rfl, hbx⟩; have hTx : Below s37.heap.size s37 x38 := (by first | exact (Below.refl _ _).drew.trans hbx | exact Below.trans (by assumption) (hbx.mono (Below.size (by assumption))) | exact (Below.refl _ _).trans hbx); obtain ⟨hcx, hfx⟩ := bcell hTx)
    | (go_at_call 52; refine (HA.out _).mono ?_; rintro e x38 ⟨rfl, hbx⟩; have hTx : Below s37.heap.size s37 x38 := (by first | exact (Below.refl _ _).drew.trans hbx | exact Below.trans (by assumption) (hbx.mono (Below.size (by assumption))) | exact (Below.refl _ _).trans hbx); obtain ⟨hcx, hfx⟩ := bcell hTx))) | fail
  all_goals go_wp2_with fail
  all_goals refine bodyPost_ret (v := .agg #[.bool (zb p), .string (zt p)]) (by simp [results, Tryz.results104, go_sem, hcx, kC0, kC1, zC]) rfl ⟨rfl, ?_⟩
  all_goals exact (((HF.out _ (by assumption)).setCell lC _).setCell lC _)

/-- held against each other. -/
def cmpI' (x y : Int) : Int := if x < y then -1 else if x = y then 0 else 1
theorem cmpI_ways (x y : Int) : (zb x = true ∧ zb y = false ∧ cmpI' x y = -1) ∨ (zb x = false ∧ zb y = true ∧ cmpI' x y = 1) ∨
    (zb x = true ∧ zb y = true ∧ cmpI' x y = Nt.cmpZ y.natAbs x.natAbs) ∨ (zb x = false ∧ zb y = false ∧ cmpI' x y = Nt.cmpZ x.natAbs y.natAbs) := by
  have hx := zb_iff x
  have hy := zb_iff y
  generalize zb x = bx at *
  generalize zb y = by' at *
  unfold cmpI' Nt.cmpZ
  cases bx <;> cases by' <;> simp at hx hy
  · exact .inr (.inr (.inr ⟨rfl, rfl, by repeat' split <;> omega⟩))
  · exact .inr (.inl ⟨rfl, rfl, by repeat' split <;> omega⟩)
  · exact .inl ⟨rfl, rfl, by repeat' split <;> omega⟩
  · exact .inr (.inr (.inl ⟨rfl, rfl, by repeat' split <;> omega⟩))
set_option maxRecDepth 100000 in
set_option maxHeartbeats 8000000 in
theorem refCmp4_any (n1 n2 : Bool) (m1 m2 : ByteArray) (c : Int) (w : World) (h1 : m1.size ≤ 1000) (h2 : m2.size ≤ 1000) (hc : cmpI' (sI n1 (Nt.V m1)) (sI n2 (Nt.V m2)) = c) :
    Calls Tryz.prog 55 #[.agg #[.bool n1, .string m1], .agg #[.bool n2, .string m2]] w fun e w' => e = .returned (.int .i64 c) ∧ Below w.heap.size w w' := by
  obtain ⟨x, hx⟩ : ∃ x, sI n1 (Nt.V m1) = x := ⟨_, rfl⟩
  obtain ⟨y, hy⟩ : ∃ y, sI n2 (Nt.V m2) = y := ⟨_, rfl⟩
  rw [hx, hy] at hc
  have zx := zt_size hx h1
  have zy := zt_size hy h2
  have HX := Lib.hid (fun w => refWell_z n1 m1 x w hx)
  have HY := Lib.hid (fun w => refWell_z n2 m2 y w hy)
  have h3 := fun w => refCmp_any (zt x) (zt y) w (by omega) (by omega)
  have h4 := fun w => refCmp_any (zt y) (zt x) w (by omega) (by omega)
  rw [V_zt, V_zt] at h3 h4
  have hw := cmpI_ways x y
  rw [hc] at hw
  clear hc hx hy h1 h2 zx zy
  generalize Nt.cmpZ x.natAbs y.natAbs = c1 at *
  generalize Nt.cmpZ y.natAbs x.natAbs = c2 at *
  generalize zb x = bx at *
  generalize zb y = by' at *
  generalize zt x = tx at *
  generalize zt y = ty at *
  have H3 := Lib.hid h3
  have H4 := Lib.hid h4
  clear h3 h4
  cases bx <;> cases by' <;> simp at hw <;> subst hw
  · skip
    go_enter Tryz.func55, Tryz.ntmps55
    go_wp2_with fail
    obtain ⟨s39, hws⟩ : ∃ s, s = ((w.alloc (.cells #[.bool n1, .string m1] 44)).alloc (.cells #[.bool n2, .string m2] 44)) := ⟨_, rfl⟩
    have hBs : Below w.heap.size w s39 := by rw [hws]; exact (((Below.refl w.heap.size w).alloc (by simp) _).alloc (by simp) _)
    obtain ⟨A, hdA⟩ : ∃ b, b = w.heap.size := ⟨_, rfl⟩
    obtain ⟨B, hdB⟩ : ∃ b, b = w.heap.size + 1 := ⟨_, rfl⟩
    have hsz : s39.heap.size = w.heap.size + 1 + 1 := by rw [hws]; simp
    have dAB : A ≠ B := by omega
    have dBA : B ≠ A := by omega
    have kA0 : s39.cell? ⟨A, 0, none⟩ = some (.bool n1) := by rw [hws]; simp [go_sem, hdA, hdB]
    have fA0 : s39.frozen? ⟨A, 0, none⟩ = false := by rw [hws]; simp [go_sem, hdA, hdB]
    have kA1 : s39.cell? ⟨A, 1, none⟩ = some (.string m1) := by rw [hws]; simp [go_sem, hdA, hdB]
    have fA1 : s39.frozen? ⟨A, 1, none⟩ = false := by rw [hws]; simp [go_sem, hdA, hdB]
    have zA : A < s39.heap.size := by omega
    have lA : w.heap.size ≤ A := by have := Nat.le_refl w.heap.size; omega
    have kB0 : s39.cell? ⟨B, 0, none⟩ = some (.bool n2) := by rw [hws]; simp [go_sem, hdA, hdB]
    have fB0 : s39.frozen? ⟨B, 0, none⟩ = false := by rw [hws]; simp [go_sem, hdA, hdB]
    have kB1 : s39.cell? ⟨B, 1, none⟩ = some (.string m2) := by rw [hws]; simp [go_sem, hdA, hdB]
    have fB1 : s39.frozen? ⟨B, 1, none⟩ = false := by rw [hws]; simp [go_sem, hdA, hdB]
    have zB : B < s39.heap.size := by omega
    have lB : w.heap.size ≤ B := by have := Nat.le_refl w.heap.size; omega
    rw [← hws]
    try rw [← hdB]
    try rw [← hdA]
    clear hws hsz hdA hdB
    have hBo := hBs; clear hBs
    refine (HX.out _).mono ?_; rintro e s40 ⟨rfl, hb⟩
    replace kA0 := belK hb kA0 zA; replace fA0 := belF hb fA0 zA; replace kA1 := belK hb kA1 zA; replace fA1 := belF hb fA1 zA; replace zA := Nat.lt_of_lt_of_le zA hb.size
    replace kB0 := belK hb kB0 zB; replace fB0 := belF hb fB0 zB; replace kB1 := belK hb kB1 zB; replace fB1 := belF hb fB1 zB; replace zB := Nat.lt_of_lt_of_le zB hb.size
    replace hBo := hBo.trans (hb.mono hBo.size)
    clear hb
    go_wp2_with fail
    obtain ⟨s41, hws⟩ : ∃ s, s = ((s40.setCell ⟨A, 0, none⟩ (.bool false)).setCell ⟨A, 1, none⟩ (.string tx)) := ⟨_, rfl⟩
    have hBs : Below w.heap.size w s41 := by rw [hws]; exact (((hBo).setCell lA _).setCell lA _)
    have hsz : s41.heap.size = s40.heap.size := by rw [hws]; simp
    have hQC : ∀ b j v, s40.cell? ⟨b, j, none⟩ = some v → A ≠ b → s41.cell? ⟨b, j, none⟩ = some v := fun b j v h dA => by rw [hws]; exact (stK (stK h dA) dA)
    replace kB0 := hQC _ _ _ kB0 dAB; replace kB1 := hQC _ _ _ kB1 dAB
    clear hQC
    have kA0_ : s41.cell? ⟨A, 0, none⟩ = some (.bool false) := by rw [hws]; simp [go_sem, kA0, kA1, fA0, fA1]
    have kA1_ : s41.cell? ⟨A, 1, none⟩ = some (.string tx) := by rw [hws]; simp [go_sem, kA0, kA1, fA0, fA1]
    replace kA0 := kA0_; clear kA0_; replace kA1 := kA1_; clear kA1_
    have hQF : ∀ p, s41.frozen? p = s40.frozen? p := fun p => by rw [hws]; simp [go_sem]
    replace fA0 := (hQF _).trans fA0; replace fA1 := (hQF _).trans fA1
    replace fB0 := (hQF _).trans fB0; replace fB1 := (hQF _).trans fB1
    clear hQF
    replace zA : A < s41.heap.size := by omega
    replace zB : B < s41.heap.size := by omega
    rw [← hws]
    clear hBo hws hsz
    have hBo := hBs; clear hBs
    refine (HY.out _).mono ?_; rintro e s42 ⟨rfl, hb⟩
    replace kA0 := belK hb kA0 zA; replace fA0 := belF hb fA0 zA; replace kA1 := belK hb kA1 zA; replace fA1 := belF hb fA1 zA; replace zA := Nat.lt_of_lt_of_le zA hb.size
    replace kB0 := belK hb kB0 zB; replace fB0 := belF hb fB0 zB; replace kB1 := belK hb kB1 zB; replace fB1 := belF hb fB1 zB; replace zB := Nat.lt_of_lt_of_le zB hb.size
    replace hBo := hBo.trans (hb.mono hBo.size)
    clear hb
    go_wp2_with fail
    obtain ⟨s43, hws⟩ : ∃ s, s = ((s42.setCell ⟨B, 0, none⟩ (.bool false)).setCell ⟨B, 1, none⟩ (.string ty)) := ⟨_, rfl⟩
    have hBs : Below w.heap.size w s43 := by rw [hws]; exact (((hBo).setCell lB _).setCell lB _)
    have hsz : s43.heap.size = s42.heap.size := by rw [hws]; simp
    have hQC : ∀ b j v, s42.cell? ⟨b, j, none⟩ = some v → B ≠ b → s43.cell? ⟨b, j, none⟩ = some v := fun b j v h dB => by rw [hws]; exact (stK (stK h dB) dB)
    replace kA0 := hQC _ _ _ kA0 dBA; replace kA1 := hQC _ _ _ kA1 dBA
    clear hQC
    have kB0_ : s43.cell? ⟨B, 0, none⟩ = some (.bool false) := by rw [hws]; simp [go_sem, kB0, kB1, fB0, fB1]
    have kB1_ : s43.cell? ⟨B, 1, none⟩ = some (.string ty) := by rw [hws]; simp [go_sem, kB0, kB1, fB0, fB1]
    replace kB0 := kB0_; clear kB0_; replace kB1 := kB1_; clear kB1_
    have hQF : ∀ p, s43.frozen? p = s42.frozen? p := fun p => by rw [hws]; simp [go_sem]
    replace fA0 := (hQF _).trans fA0; replace fA1 := (hQF _).trans fA1
    replace fB0 := (hQF _).trans fB0; replace fB1 := (hQF _).trans fB1
    clear hQF
    replace zA : A < s43.heap.size := by omega
    replace zB : B < s43.heap.size := by omega
    rw [← hws]
    clear hBo hws hsz
    have hBo := hBs; clear hBs
    refine (H3.out _).mono ?_; rintro e wq ⟨rfl, rfl⟩
    all_goals go_wp2_with fail
    all_goals first | go_ret | go_ret2
    all_goals exact ⟨rfl, hBo⟩
  · skip
    go_enter Tryz.func55, Tryz.ntmps55
    go_wp2_with fail
    obtain ⟨s44, hws⟩ : ∃ s, s = ((w.alloc (.cells #[.bool n1, .string m1] 44)).alloc (.cells #[.bool n2, .string m2] 44)) := ⟨_, rfl⟩
    have hBs : Below w.heap.size w s44 := by rw [hws]; exact (((Below.refl w.heap.size w).alloc (by simp) _).alloc (by simp) _)
    obtain ⟨A, hdA⟩ : ∃ b, b = w.heap.size := ⟨_, rfl⟩
    obtain ⟨B, hdB⟩ : ∃ b, b = w.heap.size + 1 := ⟨_, rfl⟩
    have hsz : s44.heap.size = w.heap.size + 1 + 1 := by rw [hws]; simp
    have dAB : A ≠ B := by omega
    have dBA : B ≠ A := by omega
    have kA0 : s44.cell? ⟨A, 0, none⟩ = some (.bool n1) := by rw [hws]; simp [go_sem, hdA, hdB]
    have fA0 : s44.frozen? ⟨A, 0, none⟩ = false := by rw [hws]; simp [go_sem, hdA, hdB]
    have kA1 : s44.cell? ⟨A, 1, none⟩ = some (.string m1) := by rw [hws]; simp [go_sem, hdA, hdB]
    have fA1 : s44.frozen? ⟨A, 1, none⟩ = false := by rw [hws]; simp [go_sem, hdA, hdB]
    have zA : A < s44.heap.size := by omega
    have lA : w.heap.size ≤ A := by have := Nat.le_refl w.heap.size; omega
    have kB0 : s44.cell? ⟨B, 0, none⟩ = some (.bool n2) := by rw [hws]; simp [go_sem, hdA, hdB]
    have fB0 : s44.frozen? ⟨B, 0, none⟩ = false := by rw [hws]; simp [go_sem, hdA, hdB]
    have kB1 : s44.cell? ⟨B, 1, none⟩ = some (.string m2) := by rw [hws]; simp [go_sem, hdA, hdB]
    have fB1 : s44.frozen? ⟨B, 1, none⟩ = false := by rw [hws]; simp [go_sem, hdA, hdB]
    have zB : B < s44.heap.size := by omega
    have lB : w.heap.size ≤ B := by have := Nat.le_refl w.heap.size; omega
    rw [← hws]
    try rw [← hdB]
    try rw [← hdA]
    clear hws hsz hdA hdB
    have hBo := hBs; clear hBs
    refine (HX.out _).mono ?_; rintro e s45 ⟨rfl, hb⟩
    replace kA0 := belK hb kA0 zA; replace fA0 := belF hb fA0 zA; replace kA1 := belK hb kA1 zA; replace fA1 := belF hb fA1 zA; replace zA := Nat.lt_of_lt_of_le zA hb.size
    replace kB0 := belK hb kB0 zB; replace fB0 := belF hb fB0 zB; replace kB1 := belK hb kB1 zB; replace fB1 := belF hb fB1 zB; replace zB := Nat.lt_of_lt_of_le zB hb.size
    replace hBo := hBo.trans (hb.mono hBo.size)
    clear hb
    go_wp2_with fail
    obtain ⟨s46, hws⟩ : ∃ s, s = ((s45.setCell ⟨A, 0, none⟩ (.bool false)).setCell ⟨A, 1, none⟩ (.string tx)) := ⟨_, rfl⟩
    have hBs : Below w.heap.size w s46 := by rw [hws]; exact (((hBo).setCell lA _).setCell lA _)
    have hsz : s46.heap.size = s45.heap.size := by rw [hws]; simp
    have hQC : ∀ b j v, s45.cell? ⟨b, j, none⟩ = some v → A ≠ b → s46.cell? ⟨b, j, none⟩ = some v := fun b j v h dA => by rw [hws]; exact (stK (stK h dA) dA)
    replace kB0 := hQC _ _ _ kB0 dAB; replace kB1 := hQC _ _ _ kB1 dAB
    clear hQC
    have kA0_ : s46.cell? ⟨A, 0, none⟩ = some (.bool false) := by rw [hws]; simp [go_sem, kA0, kA1, fA0, fA1]
    have kA1_ : s46.cell? ⟨A, 1, none⟩ = some (.string tx) := by rw [hws]; simp [go_sem, kA0, kA1, fA0, fA1]
    replace kA0 := kA0_; clear kA0_; replace kA1 := kA1_; clear kA1_
    have hQF : ∀ p, s46.frozen? p = s45.frozen? p := fun p => by rw [hws]; simp [go_sem]
    replace fA0 := (hQF _).trans fA0; replace fA1 := (hQF _).trans fA1
    replace fB0 := (hQF _).trans fB0; replace fB1 := (hQF _).trans fB1
    clear hQF
    replace zA : A < s46.heap.size := by omega
    replace zB : B < s46.heap.size := by omega
    rw [← hws]
    clear hBo hws hsz
    have hBo := hBs; clear hBs
    refine (HY.out _).mono ?_; rintro e s47 ⟨rfl, hb⟩
    replace kA0 := belK hb kA0 zA; replace fA0 := belF hb fA0 zA; replace kA1 := belK hb kA1 zA; replace fA1 := belF hb fA1 zA; replace zA := Nat.lt_of_lt_of_le zA hb.size
    replace kB0 := belK hb kB0 zB; replace fB0 := belF hb fB0 zB; replace kB1 := belK hb kB1 zB; replace fB1 := belF hb fB1 zB; replace zB := Nat.lt_of_lt_of_le zB hb.size
    replace hBo := hBo.trans (hb.mono hBo.size)
    clear hb
    go_wp2_with fail
    obtain ⟨s48, hws⟩ : ∃ s, s = ((s47.setCell ⟨B, 0, none⟩ (.bool true)).setCell ⟨B, 1, none⟩ (.string ty)) := ⟨_, rfl⟩
    have hBs : Below w.heap.size w s48 := by rw [hws]; exact (((hBo).setCell lB _).setCell lB _)
    have hsz : s48.heap.size = s47.heap.size := by rw [hws]; simp
    have hQC : ∀ b j v, s47.cell? ⟨b, j, none⟩ = some v → B ≠ b → s48.cell? ⟨b, j, none⟩ = some v := fun b j v h dB => by rw [hws]; exact (stK (stK h dB) dB)
    replace kA0 := hQC _ _ _ kA0 dBA; replace kA1 := hQC _ _ _ kA1 dBA
    clear hQC
    have kB0_ : s48.cell? ⟨B, 0, none⟩ = some (.bool true) := by rw [hws]; simp [go_sem, kB0, kB1, fB0, fB1]
    have kB1_ : s48.cell? ⟨B, 1, none⟩ = some (.string ty) := by rw [hws]; simp [go_sem, kB0, kB1, fB0, fB1]
    replace kB0 := kB0_; clear kB0_; replace kB1 := kB1_; clear kB1_
    have hQF : ∀ p, s48.frozen? p = s47.frozen? p := fun p => by rw [hws]; simp [go_sem]
    replace fA0 := (hQF _).trans fA0; replace fA1 := (hQF _).trans fA1
    replace fB0 := (hQF _).trans fB0; replace fB1 := (hQF _).trans fB1
    clear hQF
    replace zA : A < s48.heap.size := by omega
    replace zB : B < s48.heap.size := by omega
    rw [← hws]
    clear hBo hws hsz
    have hBo := hBs; clear hBs
    all_goals go_wp2_with fail
    all_goals first | go_ret | go_ret2
    all_goals exact ⟨rfl, hBo⟩
  · skip
    go_enter Tryz.func55, Tryz.ntmps55
    go_wp2_with fail
    obtain ⟨s49, hws⟩ : ∃ s, s = ((w.alloc (.cells #[.bool n1, .string m1] 44)).alloc (.cells #[.bool n2, .string m2] 44)) := ⟨_, rfl⟩
    have hBs : Below w.heap.size w s49 := by rw [hws]; exact (((Below.refl w.heap.size w).alloc (by simp) _).alloc (by simp) _)
    obtain ⟨A, hdA⟩ : ∃ b, b = w.heap.size := ⟨_, rfl⟩
    obtain ⟨B, hdB⟩ : ∃ b, b = w.heap.size + 1 := ⟨_, rfl⟩
    have hsz : s49.heap.size = w.heap.size + 1 + 1 := by rw [hws]; simp
    have dAB : A ≠ B := by omega
    have dBA : B ≠ A := by omega
    have kA0 : s49.cell? ⟨A, 0, none⟩ = some (.bool n1) := by rw [hws]; simp [go_sem, hdA, hdB]
    have fA0 : s49.frozen? ⟨A, 0, none⟩ = false := by rw [hws]; simp [go_sem, hdA, hdB]
    have kA1 : s49.cell? ⟨A, 1, none⟩ = some (.string m1) := by rw [hws]; simp [go_sem, hdA, hdB]
    have fA1 : s49.frozen? ⟨A, 1, none⟩ = false := by rw [hws]; simp [go_sem, hdA, hdB]
    have zA : A < s49.heap.size := by omega
    have lA : w.heap.size ≤ A := by have := Nat.le_refl w.heap.size; omega
    have kB0 : s49.cell? ⟨B, 0, none⟩ = some (.bool n2) := by rw [hws]; simp [go_sem, hdA, hdB]
    have fB0 : s49.frozen? ⟨B, 0, none⟩ = false := by rw [hws]; simp [go_sem, hdA, hdB]
    have kB1 : s49.cell? ⟨B, 1, none⟩ = some (.string m2) := by rw [hws]; simp [go_sem, hdA, hdB]
    have fB1 : s49.frozen? ⟨B, 1, none⟩ = false := by rw [hws]; simp [go_sem, hdA, hdB]
    have zB : B < s49.heap.size := by omega
    have lB : w.heap.size ≤ B := by have := Nat.le_refl w.heap.size; omega
    rw [← hws]
    try rw [← hdB]
    try rw [← hdA]
    clear hws hsz hdA hdB
    have hBo := hBs; clear hBs
    refine (HX.out _).mono ?_; rintro e s50 ⟨rfl, hb⟩
    replace kA0 := belK hb kA0 zA; replace fA0 := belF hb fA0 zA; replace kA1 := belK hb kA1 zA; replace fA1 := belF hb fA1 zA; replace zA := Nat.lt_of_lt_of_le zA hb.size
    replace kB0 := belK hb kB0 zB; replace fB0 := belF hb fB0 zB; replace kB1 := belK hb kB1 zB; replace fB1 := belF hb fB1 zB; replace zB := Nat.lt_of_lt_of_le zB hb.size
    replace hBo := hBo.trans (hb.mono hBo.size)
    clear hb
    go_wp2_with fail
    obtain ⟨s51, hws⟩ : ∃ s, s = ((s50.setCell ⟨A, 0, none⟩ (.bool true)).setCell ⟨A, 1, none⟩ (.string tx)) := ⟨_, rfl⟩
    have hBs : Below w.heap.size w s51 := by rw [hws]; exact (((hBo).setCell lA _).setCell lA _)
    have hsz : s51.heap.size = s50.heap.size := by rw [hws]; simp
    have hQC : ∀ b j v, s50.cell? ⟨b, j, none⟩ = some v → A ≠ b → s51.cell? ⟨b, j, none⟩ = some v := fun b j v h dA => by rw [hws]; exact (stK (stK h dA) dA)
    replace kB0 := hQC _ _ _ kB0 dAB; replace kB1 := hQC _ _ _ kB1 dAB
    clear hQC
    have kA0_ : s51.cell? ⟨A, 0, none⟩ = some (.bool true) := by rw [hws]; simp [go_sem, kA0, kA1, fA0, fA1]
    have kA1_ : s51.cell? ⟨A, 1, none⟩ = some (.string tx) := by rw [hws]; simp [go_sem, kA0, kA1, fA0, fA1]
    replace kA0 := kA0_; clear kA0_; replace kA1 := kA1_; clear kA1_
    have hQF : ∀ p, s51.frozen? p = s50.frozen? p := fun p => by rw [hws]; simp [go_sem]
    replace fA0 := (hQF _).trans fA0; replace fA1 := (hQF _).trans fA1
    replace fB0 := (hQF _).trans fB0; replace fB1 := (hQF _).trans fB1
    clear hQF
    replace zA : A < s51.heap.size := by omega
    replace zB : B < s51.heap.size := by omega
    rw [← hws]
    clear hBo hws hsz
    have hBo := hBs; clear hBs
    refine (HY.out _).mono ?_; rintro e s52 ⟨rfl, hb⟩
    replace kA0 := belK hb kA0 zA; replace fA0 := belF hb fA0 zA; replace kA1 := belK hb kA1 zA; replace fA1 := belF hb fA1 zA; replace zA := Nat.lt_of_lt_of_le zA hb.size
    replace kB0 := belK hb kB0 zB; replace fB0 := belF hb fB0 zB; replace kB1 := belK hb kB1 zB; replace fB1 := belF hb fB1 zB; replace zB := Nat.lt_of_lt_of_le zB hb.size
    replace hBo := hBo.trans (hb.mono hBo.size)
    clear hb
    go_wp2_with fail
    obtain ⟨s53, hws⟩ : ∃ s, s = ((s52.setCell ⟨B, 0, none⟩ (.bool false)).setCell ⟨B, 1, none⟩ (.string ty)) := ⟨_, rfl⟩
    have hBs : Below w.heap.size w s53 := by rw [hws]; exact (((hBo).setCell lB _).setCell lB _)
    have hsz : s53.heap.size = s52.heap.size := by rw [hws]; simp
    have hQC : ∀ b j v, s52.cell? ⟨b, j, none⟩ = some v → B ≠ b → s53.cell? ⟨b, j, none⟩ = some v := fun b j v h dB => by rw [hws]; exact (stK (stK h dB) dB)
    replace kA0 := hQC _ _ _ kA0 dBA; replace kA1 := hQC _ _ _ kA1 dBA
    clear hQC
    have kB0_ : s53.cell? ⟨B, 0, none⟩ = some (.bool false) := by rw [hws]; simp [go_sem, kB0, kB1, fB0, fB1]
    have kB1_ : s53.cell? ⟨B, 1, none⟩ = some (.string ty) := by rw [hws]; simp [go_sem, kB0, kB1, fB0, fB1]
    replace kB0 := kB0_; clear kB0_; replace kB1 := kB1_; clear kB1_
    have hQF : ∀ p, s53.frozen? p = s52.frozen? p := fun p => by rw [hws]; simp [go_sem]
    replace fA0 := (hQF _).trans fA0; replace fA1 := (hQF _).trans fA1
    replace fB0 := (hQF _).trans fB0; replace fB1 := (hQF _).trans fB1
    clear hQF
    replace zA : A < s53.heap.size := by omega
    replace zB : B < s53.heap.size := by omega
    rw [← hws]
    clear hBo hws hsz
    have hBo := hBs; clear hBs
    all_goals go_wp2_with fail
    all_goals first | go_ret | go_ret2
    all_goals exact ⟨rfl, hBo⟩
  · skip
    go_enter Tryz.func55, Tryz.ntmps55
    go_wp2_with fail
    obtain ⟨s54, hws⟩ : ∃ s, s = ((w.alloc (.cells #[.bool n1, .string m1] 44)).alloc (.cells #[.bool n2, .string m2] 44)) := ⟨_, rfl⟩
    have hBs : Below w.heap.size w s54 := by rw [hws]; exact (((Below.refl w.heap.size w).alloc (by simp) _).alloc (by simp) _)
    obtain ⟨A, hdA⟩ : ∃ b, b = w.heap.size := ⟨_, rfl⟩
    obtain ⟨B, hdB⟩ : ∃ b, b = w.heap.size + 1 := ⟨_, rfl⟩
    have hsz : s54.heap.size = w.heap.size + 1 + 1 := by rw [hws]; simp
    have dAB : A ≠ B := by omega
    have dBA : B ≠ A := by omega
    have kA0 : s54.cell? ⟨A, 0, none⟩ = some (.bool n1) := by rw [hws]; simp [go_sem, hdA, hdB]
    have fA0 : s54.frozen? ⟨A, 0, none⟩ = false := by rw [hws]; simp [go_sem, hdA, hdB]
    have kA1 : s54.cell? ⟨A, 1, none⟩ = some (.string m1) := by rw [hws]; simp [go_sem, hdA, hdB]
    have fA1 : s54.frozen? ⟨A, 1, none⟩ = false := by rw [hws]; simp [go_sem, hdA, hdB]
    have zA : A < s54.heap.size := by omega
    have lA : w.heap.size ≤ A := by have := Nat.le_refl w.heap.size; omega
    have kB0 : s54.cell? ⟨B, 0, none⟩ = some (.bool n2) := by rw [hws]; simp [go_sem, hdA, hdB]
    have fB0 : s54.frozen? ⟨B, 0, none⟩ = false := by rw [hws]; simp [go_sem, hdA, hdB]
    have kB1 : s54.cell? ⟨B, 1, none⟩ = some (.string m2) := by rw [hws]; simp [go_sem, hdA, hdB]
    have fB1 : s54.frozen? ⟨B, 1, none⟩ = false := by rw [hws]; simp [go_sem, hdA, hdB]
    have zB : B < s54.heap.size := by omega
    have lB : w.heap.size ≤ B := by have := Nat.le_refl w.heap.size; omega
    rw [← hws]
    try rw [← hdB]
    try rw [← hdA]
    clear hws hsz hdA hdB
    have hBo := hBs; clear hBs
    refine (HX.out _).mono ?_; rintro e s55 ⟨rfl, hb⟩
    replace kA0 := belK hb kA0 zA; replace fA0 := belF hb fA0 zA; replace kA1 := belK hb kA1 zA; replace fA1 := belF hb fA1 zA; replace zA := Nat.lt_of_lt_of_le zA hb.size
    replace kB0 := belK hb kB0 zB; replace fB0 := belF hb fB0 zB; replace kB1 := belK hb kB1 zB; replace fB1 := belF hb fB1 zB; replace zB := Nat.lt_of_lt_of_le zB hb.size
    replace hBo := hBo.trans (hb.mono hBo.size)
    clear hb
    go_wp2_with fail
    obtain ⟨s56, hws⟩ : ∃ s, s = ((s55.setCell ⟨A, 0, none⟩ (.bool true)).setCell ⟨A, 1, none⟩ (.string tx)) := ⟨_, rfl⟩
    have hBs : Below w.heap.size w s56 := by rw [hws]; exact (((hBo).setCell lA _).setCell lA _)
    have hsz : s56.heap.size = s55.heap.size := by rw [hws]; simp
    have hQC : ∀ b j v, s55.cell? ⟨b, j, none⟩ = some v → A ≠ b → s56.cell? ⟨b, j, none⟩ = some v := fun b j v h dA => by rw [hws]; exact (stK (stK h dA) dA)
    replace kB0 := hQC _ _ _ kB0 dAB; replace kB1 := hQC _ _ _ kB1 dAB
    clear hQC
    have kA0_ : s56.cell? ⟨A, 0, none⟩ = some (.bool true) := by rw [hws]; simp [go_sem, kA0, kA1, fA0, fA1]
    have kA1_ : s56.cell? ⟨A, 1, none⟩ = some (.string tx) := by rw [hws]; simp [go_sem, kA0, kA1, fA0, fA1]
    replace kA0 := kA0_; clear kA0_; replace kA1 := kA1_; clear kA1_
    have hQF : ∀ p, s56.frozen? p = s55.frozen? p := fun p => by rw [hws]; simp [go_sem]
    replace fA0 := (hQF _).trans fA0; replace fA1 := (hQF _).trans fA1
    replace fB0 := (hQF _).trans fB0; replace fB1 := (hQF _).trans fB1
    clear hQF
    replace zA : A < s56.heap.size := by omega
    replace zB : B < s56.heap.size := by omega
    rw [← hws]
    clear hBo hws hsz
    have hBo := hBs; clear hBs
    refine (HY.out _).mono ?_; rintro e s57 ⟨rfl, hb⟩
    replace kA0 := belK hb kA0 zA; replace fA0 := belF hb fA0 zA; replace kA1 := belK hb kA1 zA; replace fA1 := belF hb fA1 zA; replace zA := Nat.lt_of_lt_of_le zA hb.size
    replace kB0 := belK hb kB0 zB; replace fB0 := belF hb fB0 zB; replace kB1 := belK hb kB1 zB; replace fB1 := belF hb fB1 zB; replace zB := Nat.lt_of_lt_of_le zB hb.size
    replace hBo := hBo.trans (hb.mono hBo.size)
    clear hb
    go_wp2_with fail
    obtain ⟨s58, hws⟩ : ∃ s, s = ((s57.setCell ⟨B, 0, none⟩ (.bool true)).setCell ⟨B, 1, none⟩ (.string ty)) := ⟨_, rfl⟩
    have hBs : Below w.heap.size w s58 := by rw [hws]; exact (((hBo).setCell lB _).setCell lB _)
    have hsz : s58.heap.size = s57.heap.size := by rw [hws]; simp
    have hQC : ∀ b j v, s57.cell? ⟨b, j, none⟩ = some v → B ≠ b → s58.cell? ⟨b, j, none⟩ = some v := fun b j v h dB => by rw [hws]; exact (stK (stK h dB) dB)
    replace kA0 := hQC _ _ _ kA0 dBA; replace kA1 := hQC _ _ _ kA1 dBA
    clear hQC
    have kB0_ : s58.cell? ⟨B, 0, none⟩ = some (.bool true) := by rw [hws]; simp [go_sem, kB0, kB1, fB0, fB1]
    have kB1_ : s58.cell? ⟨B, 1, none⟩ = some (.string ty) := by rw [hws]; simp [go_sem, kB0, kB1, fB0, fB1]
    replace kB0 := kB0_; clear kB0_; replace kB1 := kB1_; clear kB1_
    have hQF : ∀ p, s58.frozen? p = s57.frozen? p := fun p => by rw [hws]; simp [go_sem]
    replace fA0 := (hQF _).trans fA0; replace fA1 := (hQF _).trans fA1
    replace fB0 := (hQF _).trans fB0; replace fB1 := (hQF _).trans fB1
    clear hQF
    replace zA : A < s58.heap.size := by omega
    replace zB : B < s58.heap.size := by omega
    rw [← hws]
    clear hBo hws hsz
    have hBo := hBs; clear hBs
    refine (H4.out _).mono ?_; rintro e wq ⟨rfl, rfl⟩
    all_goals go_wp2_with fail
    all_goals first | go_ret | go_ret2
    all_goals exact ⟨rfl, hBo⟩
end Go.Proofs.YtbgmnpabclfjaaaGreatDoor
