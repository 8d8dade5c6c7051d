/-
  LAYER 6's STATEMENTS, WALKED: what every one of them asks.
-/
import Derived.Test.YtbgmnpabclfjaaaGreatDoorRound20
import Derived.Test.YtbgmnpabclfjaaaGreatDoorRound13
import Derived.Test.YtbgmnpabclfjaaaGreatDoorRound9
import Derived.Test.YtbgmnpabclfjaaaGreatDoorRound5
import Derived.Test.YtbgmnpabclfjaaaGreatDoorRound3
namespace Go.Proofs.YtbgmnpabclfjaaaGreatDoor
open Go.RowKit Go.Shelf
set_option linter.unusedSimpArgs false
set_option linter.unusedVariables false

def dq : Rt := mkR (topI (wl true ⟨#[5]⟩ ⟨#[1]⟩) * lowI (wl false ⟨#[2]⟩ ⟨#[1]⟩)) (lowI (wl true ⟨#[5]⟩ ⟨#[1]⟩) * topI (wl false ⟨#[2]⟩ ⟨#[1]⟩))
def dE : Int := mkE (topI (wl true ⟨#[5]⟩ ⟨#[1]⟩) * lowI (wl false ⟨#[2]⟩ ⟨#[1]⟩)) (lowI (wl true ⟨#[5]⟩ ⟨#[1]⟩) * topI (wl false ⟨#[2]⟩ ⟨#[1]⟩))
def mq : Rt := modR (wl true ⟨#[7]⟩ ⟨#[1]⟩) (wl false ⟨#[2]⟩ ⟨#[1]⟩)
def hq : Rt := rdR awayHalf (wl true ⟨#[5]⟩ ⟨#[2]⟩) 0
def tq : Rt := rdR awayDown (wl true ⟨#[5]⟩ ⟨#[2]⟩) 0
/-- a small number, as a value. -/
def ofR (n : Int) : Value := .agg #[.bool (rb (mkR n 1)), .string (rn (mkR n 1)), .string (rd (mkR n 1))]
theorem ofR_of {n : Int} {b : Bool} {t : ByteArray} (h : Nt.blen n.natAbs ≤ 256) (h1 : zb n = b) (h2 : Nt.E n.natAbs = t) : ofR n = .agg #[.bool b, .string t, .string ⟨#[1]⟩] := by
  unfold ofR
  rw [(mk_one h).1]
  show Value.agg #[.bool (zb n), .string (Nt.E n.natAbs), .string (Nt.E 1)] = _
  rw [h1, h2, E_one]
theorem refOf_g (n : Int) (w : World) (h1 : -9223372036854775808 ≤ n) (h2 : n ≤ 9223372036854775807) :
    Calls Tryz.prog 20 #[.int .i64 n] w fun e w' => e = .returned (ofR n) ∧ Below w.heap.size w w' := refOf5_any n _ w h1 h2 rfl
set_option maxRecDepth 100000 in
set_option maxHeartbeats 8000000 in
theorem half6_any (w : World) : Calls Tryz.prog 51 #[.int .i64 (-5)] w fun e w' => e = .returned (.agg #[.bool true, .string ⟨#[5]⟩, .string ⟨#[2]⟩]) ∧ Below w.heap.size w w' := by
  have h1 := fun w => refOf_g (-5) w (by decide) (by decide)
  have h2 := fun w => refOf_g 2 w (by decide) (by decide)
  rw [ofR_of (n := -5) (b := true) (t := ⟨#[5]⟩) (by decide) (by decide) (by decide)] at h1
  rw [ofR_of (n := 2) (b := false) (t := ⟨#[2]⟩) (by decide) (by decide) (by decide)] at h2
  have h3 := fun w => refDiv5_any true false ⟨#[5]⟩ ⟨#[1]⟩ ⟨#[2]⟩ ⟨#[1]⟩ dq dE w (by decide) (by decide) (by decide) (by decide) rfl rfl
  generalize dE = c at h3
  rw [show rb dq = true from by decide +kernel, show rn dq = ⟨#[5]⟩ from by decide +kernel, show rd dq = ⟨#[2]⟩ from by decide +kernel] at h3
  have H1 := Lib.hid h1
  have H2 := Lib.hid h2
  have H3 := Lib.hid h3
  clear h1 h2 h3
  go_enter Tryz.func51, Tryz.ntmps51
  go_wp2_with fail
  obtain ⟨s1, hws⟩ : ∃ s, s = (w.alloc (.cells #[.bool false, .string ⟨#[]⟩, .string ⟨#[]⟩] 23)) := ⟨_, rfl⟩
  have hBs : Below w.heap.size w s1 := by rw [hws]; exact ((Below.refl w.heap.size w).alloc (by simp) _)
  obtain ⟨C, hdC⟩ : ∃ b, b = w.heap.size := ⟨_, rfl⟩
  have hsz : s1.heap.size = w.heap.size + 1 := by rw [hws]; simp
  have kC0 : s1.cell? ⟨C, 0, none⟩ = some (.bool false) := by rw [hws]; simp [go_sem, hdC]
  have fC0 : s1.frozen? ⟨C, 0, none⟩ = false := by rw [hws]; simp [go_sem, hdC]
  have kC1 : s1.cell? ⟨C, 1, none⟩ = some (.string ⟨#[]⟩) := by rw [hws]; simp [go_sem, hdC]
  have fC1 : s1.frozen? ⟨C, 1, none⟩ = false := by rw [hws]; simp [go_sem, hdC]
  have kC2 : s1.cell? ⟨C, 2, none⟩ = some (.string ⟨#[]⟩) := by rw [hws]; simp [go_sem, hdC]
  have fC2 : s1.frozen? ⟨C, 2, none⟩ = false := by rw [hws]; simp [go_sem, hdC]
  have zC : C < s1.heap.size := by omega
  have lC : w.heap.size ≤ C := by have := Nat.le_refl w.heap.size; omega
  rw [← hws]
  try rw [← hdC]
  clear hws hsz hdC
  have hBo := hBs; clear hBs
  refine (H1.out _).mono ?_; rintro e s2 ⟨rfl, hb⟩
  replace kC0 := belK hb kC0 zC; replace fC0 := belF hb fC0 zC; replace kC1 := belK hb kC1 zC; replace fC1 := belF hb fC1 zC; replace kC2 := belK hb kC2 zC; replace fC2 := belF hb fC2 zC; replace zC := belZ zC hb
  replace hBo := hBo.trans (hb.mono hBo.size)
  clear hb
  go_wp2_with fail
  refine (H2.out _).mono ?_; rintro e s3 ⟨rfl, hb⟩
  replace kC0 := belK hb kC0 zC; replace fC0 := belF hb fC0 zC; replace kC1 := belK hb kC1 zC; replace fC1 := belF hb fC1 zC; replace kC2 := belK hb kC2 zC; replace fC2 := belF hb fC2 zC; replace zC := belZ zC hb
  replace hBo := hBo.trans (hb.mono hBo.size)
  clear hb
  go_wp2_with fail
  refine (H3.out _).mono ?_; rintro e s4 ⟨rfl, hb⟩
  replace kC0 := belK hb kC0 zC; replace fC0 := belF hb fC0 zC; replace kC1 := belK hb kC1 zC; replace fC1 := belF hb fC1 zC; replace kC2 := belK hb kC2 zC; replace fC2 := belF hb fC2 zC; replace zC := belZ zC hb
  replace hBo := hBo.trans (hb.mono hBo.size)
  clear hb
  all_goals go_wp2_with fail
  all_goals refine bodyPost_ret (v := .agg #[.bool true, .string ⟨#[5]⟩, .string ⟨#[2]⟩]) (by simp [results, Tryz.results51, go_sem, kC0, kC1, kC2, zC]) rfl ⟨rfl, ?_⟩
  all_goals exact ((((hBo.setCell lC _).setCell lC _).setCell lC _).alloc (by first | exact hBo.size | (have := hBo.size; simp; omega) | (have := (HF.out _ (by assumption)).size; simp; omega)) _)
set_option maxRecDepth 100000 in
set_option maxHeartbeats 16000000 in
theorem known6_any (w : World) : Calls Tryz.prog 18 #[] w fun e w' => e = .returned (.bool true) ∧ Below w.heap.size w w' := by
  have HH := Lib.hid half6_any
  have h1 := fun w => roundHalf_any true ⟨#[5]⟩ ⟨#[2]⟩ 0 hq _ w (by decide) (by decide) rfl rfl
  rw [show rdE awayHalf (wl true ⟨#[5]⟩ ⟨#[2]⟩) 0 = 0 from by decide +kernel, show rb hq = true from by decide +kernel, show rn hq = ⟨#[3]⟩ from by decide +kernel, show rd hq = ⟨#[1]⟩ from by decide +kernel] at h1
  have h2 := fun w => refOf_g (-7) w (by decide) (by decide)
  rw [ofR_of (n := -7) (b := true) (t := ⟨#[7]⟩) (by decide) (by decide) (by decide)] at h2
  have h3 := fun w => refOf_g 2 w (by decide) (by decide)
  rw [ofR_of (n := 2) (b := false) (t := ⟨#[2]⟩) (by decide) (by decide) (by decide)] at h3
  have h4 := fun w => roundMod_any true false ⟨#[7]⟩ ⟨#[1]⟩ ⟨#[2]⟩ ⟨#[1]⟩ mq _ w (by decide) (by decide) (by decide) (by decide) rfl rfl
  rw [show modE (wl true ⟨#[7]⟩ ⟨#[1]⟩) (wl false ⟨#[2]⟩ ⟨#[1]⟩) = 0 from by decide +kernel, show rb mq = false from by decide +kernel, show rn mq = ⟨#[1]⟩ from by decide +kernel, show rd mq = ⟨#[1]⟩ from by decide +kernel] at h4
  have h5 := fun w => refOf_g 49 w (by decide) (by decide)
  rw [ofR_of (n := 49) (b := false) (t := ⟨#[49]⟩) (by decide) (by decide) (by decide)] at h5
  have hrt : Nt.rt 49 = 7 := (Nt.rt_is 49).eq (by constructor <;> decide)
  have hrt1 : Nt.rt 1 = 1 := (Nt.rt_is 1).eq (by constructor <;> decide)
  have hw49 : wl false ⟨#[49]⟩ ⟨#[1]⟩ = ⟨false, 49, 1⟩ := wl_of_ok (q := ⟨false, 49, 1⟩) (by decide +kernel)
  have hok49 : rootOkB (wl false ⟨#[49]⟩ ⟨#[1]⟩) = true := by rw [hw49]; exact decide_eq_true ⟨rfl, by show Nt.rt 49 * Nt.rt 49 = 49; rw [hrt], by show Nt.rt 1 * Nt.rt 1 = 1; rw [hrt1]⟩
  have h6 := fun w => roundRoot_any false ⟨#[49]⟩ ⟨#[1]⟩ ⟨false, 7, 1⟩ true w (by decide) (by decide) (by rw [root_yes hok49, hw49]; show (⟨false, Nt.rt 49, Nt.rt 1⟩ : Rt) = _; rw [hrt, hrt1]) hok49
  rw [show rb ⟨false, 7, 1⟩ = false from rfl, show rn ⟨false, 7, 1⟩ = ⟨#[7]⟩ from by decide, show rd ⟨false, 7, 1⟩ = ⟨#[1]⟩ from by decide] at h6
  have h7 := fun w => refOf_g 0 w (by decide) (by decide)
  rw [ofR_of (n := 0) (b := false) (t := ⟨#[]⟩) (by decide) (by decide) (by decide)] at h7
  have hw0 : wl false ⟨#[]⟩ ⟨#[1]⟩ = ⟨false, 0, 1⟩ := by unfold wl; split <;> rfl
  have h8 := fun w => roundPow_any false ⟨#[]⟩ ⟨#[1]⟩ (-1) ⟨false, 0, 0⟩ 5 w (by decide) (by decide) (by decide) (by decide) (by rw [hw0]; exact (pow_zero_neg (by decide)).1) (by rw [hw0]; exact (pow_zero_neg (by decide)).2)
  rw [rz.1, rz.2.1, rz.2.2] at h8
  have h9 := fun w => roundTrunc_any true ⟨#[5]⟩ ⟨#[2]⟩ tq w (by decide) (by decide) rfl
  rw [show rb tq = true from by decide +kernel, show rn tq = ⟨#[2]⟩ from by decide +kernel, show rd tq = ⟨#[1]⟩ from by decide +kernel] at h9
  have HO : Hid (∀ (n : Int) (w : World), -9223372036854775808 ≤ n → n ≤ 9223372036854775807 → Calls Tryz.prog 20 #[.int .i64 n] w fun e w' => e = .returned (ofR n) ∧ Below w.heap.size w w') := fun n w a b => refOf_g n w a b
  have E1 : Hid (ofR (-3) = .agg #[.bool true, .string ⟨#[3]⟩, .string ⟨#[1]⟩]) := ofR_of (by decide) (by decide) (by decide)
  have E2 : Hid (ofR 1 = .agg #[.bool false, .string ⟨#[1]⟩, .string ⟨#[1]⟩]) := ofR_of (by decide) (by decide) (by decide)
  have E3 : Hid (ofR 7 = .agg #[.bool false, .string ⟨#[7]⟩, .string ⟨#[1]⟩]) := ofR_of (by decide) (by decide) (by decide)
  have E4 : Hid (ofR (-2) = .agg #[.bool true, .string ⟨#[2]⟩, .string ⟨#[1]⟩]) := ofR_of (by decide) (by decide) (by decide)
  have H1 := Lib.hid h1
  have H2 := Lib.hid h2
  have H3 := Lib.hid h3
  have H4 := Lib.hid h4
  have H5 := Lib.hid h5
  have H6 := Lib.hid h6
  have H7 := Lib.hid h7
  have H8 := Lib.hid h8
  have H9 := Lib.hid h9
  clear h1 h2 h3 h4 h5 h6 h7 h8 h9 hrt hrt1 hw49 hok49 hw0
  go_enter Tryz.func18, Tryz.ntmps18
  go_wp2_with fail
  refine (HH.out _).mono ?_; rintro e s5 ⟨rfl, hb⟩
  have hBo := hb
  skip
  go_wp2_with fail
  refine (H1.out _).mono ?_; rintro e s6 ⟨rfl, hb⟩
  replace hBo := hBo.trans (hb.mono hBo.size)
  clear hb
  go_wp2_with fail
  obtain ⟨s7, hws⟩ : ∃ s, s = (s6.alloc (.cells #[.bool true, .string ⟨#[3]⟩, .string ⟨#[1]⟩] 23)) := ⟨_, rfl⟩
  have hBs : Below w.heap.size w s7 := by rw [hws]; exact ((hBo).alloc (by exact hBo.size) _)
  obtain ⟨A, hdA⟩ : ∃ b, b = s6.heap.size := ⟨_, rfl⟩
  have hsz : s7.heap.size = s6.heap.size + 1 := by rw [hws]; simp
  have kA0 : s7.cell? ⟨A, 0, none⟩ = some (.bool true) := by rw [hws]; simp [go_sem, hdA]
  have kA1 : s7.cell? ⟨A, 1, none⟩ = some (.string ⟨#[3]⟩) := by rw [hws]; simp [go_sem, hdA]
  have kA2 : s7.cell? ⟨A, 2, none⟩ = some (.string ⟨#[1]⟩) := by rw [hws]; simp [go_sem, hdA]
  have zA : A < s7.heap.size := by omega
  have lA : w.heap.size ≤ A := by have := hBo.size; omega
  rw [← hws]
  try rw [← hdA]
  clear hBo
  clear hws hsz hdA
  have hBo := hBs; clear hBs
  refine (H2.out _).mono ?_; rintro e s8 ⟨rfl, hb⟩
  replace kA0 := belK hb kA0 zA; replace kA1 := belK hb kA1 zA; replace kA2 := belK hb kA2 zA; replace zA := belZ zA hb
  replace hBo := hBo.trans (hb.mono hBo.size)
  clear hb
  go_wp2_with fail
  refine (H3.out _).mono ?_; rintro e s9 ⟨rfl, hb⟩
  replace kA0 := belK hb kA0 zA; replace kA1 := belK hb kA1 zA; replace kA2 := belK hb kA2 zA; replace zA := belZ zA hb
  replace hBo := hBo.trans (hb.mono hBo.size)
  clear hb
  go_wp2_with fail
  refine (H4.out _).mono ?_; rintro e s10 ⟨rfl, hb⟩
  replace kA0 := belK hb kA0 zA; replace kA1 := belK hb kA1 zA; replace kA2 := belK hb kA2 zA; replace zA := belZ zA hb
  replace hBo := hBo.trans (hb.mono hBo.size)
  clear hb
  go_wp2_with fail
  obtain ⟨s11, hws⟩ : ∃ s, s = (s10.alloc (.cells #[.bool false, .string ⟨#[1]⟩, .string ⟨#[1]⟩] 23)) := ⟨_, rfl⟩
  have hBs : Below w.heap.size w s11 := by rw [hws]; exact ((hBo).alloc (by exact hBo.size) _)
  obtain ⟨B, hdB⟩ : ∃ b, b = s10.heap.size := ⟨_, rfl⟩
  have hsz : s11.heap.size = s10.heap.size + 1 := by rw [hws]; simp
  have hQC : ∀ p v, s10.cell? p = some v → s11.cell? p = some v := fun p v h => by rw [hws]; exact (alK h)
  have hQZ : ∀ b, b < s10.heap.size → b < s11.heap.size := fun b h => by omega
  replace kA0 := hQC _ _ kA0; replace kA1 := hQC _ _ kA1; replace kA2 := hQC _ _ kA2; replace zA := hQZ _ zA
  clear hQC hQZ
  have kB0 : s11.cell? ⟨B, 0, none⟩ = some (.bool false) := by rw [hws]; simp [go_sem, hdB]
  have kB1 : s11.cell? ⟨B, 1, none⟩ = some (.string ⟨#[1]⟩) := by rw [hws]; simp [go_sem, hdB]
  have kB2 : s11.cell? ⟨B, 2, none⟩ = some (.string ⟨#[1]⟩) := by rw [hws]; simp [go_sem, hdB]
  have zB : B < s11.heap.size := by omega
  have lB : w.heap.size ≤ B := by have := hBo.size; omega
  rw [← hws]
  try rw [← hdB]
  clear hBo
  clear hws hsz hdB
  have hBo := hBs; clear hBs
  refine (H5.out _).mono ?_; rintro e s12 ⟨rfl, hb⟩
  replace kA0 := belK hb kA0 zA; replace kA1 := belK hb kA1 zA; replace kA2 := belK hb kA2 zA; replace zA := belZ zA hb
  replace kB0 := belK hb kB0 zB; replace kB1 := belK hb kB1 zB; replace kB2 := belK hb kB2 zB; replace zB := belZ zB hb
  replace hBo := hBo.trans (hb.mono hBo.size)
  clear hb
  go_wp2_with fail
  refine (H6.out _).mono ?_; rintro e s13 ⟨rfl, hb⟩
  replace kA0 := belK hb kA0 zA; replace kA1 := belK hb kA1 zA; replace kA2 := belK hb kA2 zA; replace zA := belZ zA hb
  replace kB0 := belK hb kB0 zB; replace kB1 := belK hb kB1 zB; replace kB2 := belK hb kB2 zB; replace zB := belZ zB hb
  replace hBo := hBo.trans (hb.mono hBo.size)
  clear hb
  go_wp2_with fail
  obtain ⟨s14, hws⟩ : ∃ s, s = (s13.alloc (.cells #[.bool false, .string ⟨#[7]⟩, .string ⟨#[1]⟩] 23)) := ⟨_, rfl⟩
  have hBs : Below w.heap.size w s14 := by rw [hws]; exact ((hBo).alloc (by exact hBo.size) _)
  obtain ⟨C, hdC⟩ : ∃ b, b = s13.heap.size := ⟨_, rfl⟩
  have hsz : s14.heap.size = s13.heap.size + 1 := by rw [hws]; simp
  have hQC : ∀ p v, s13.cell? p = some v → s14.cell? p = some v := fun p v h => by rw [hws]; exact (alK h)
  have hQZ : ∀ b, b < s13.heap.size → b < s14.heap.size := fun b h => by omega
  replace kA0 := hQC _ _ kA0; replace kA1 := hQC _ _ kA1; replace kA2 := hQC _ _ kA2; replace zA := hQZ _ zA
  replace kB0 := hQC _ _ kB0; replace kB1 := hQC _ _ kB1; replace kB2 := hQC _ _ kB2; replace zB := hQZ _ zB
  clear hQC hQZ
  have kC0 : s14.cell? ⟨C, 0, none⟩ = some (.bool false) := by rw [hws]; simp [go_sem, hdC]
  have kC1 : s14.cell? ⟨C, 1, none⟩ = some (.string ⟨#[7]⟩) := by rw [hws]; simp [go_sem, hdC]
  have kC2 : s14.cell? ⟨C, 2, none⟩ = some (.string ⟨#[1]⟩) := by rw [hws]; simp [go_sem, hdC]
  have zC : C < s14.heap.size := by omega
  have lC : w.heap.size ≤ C := by have := hBo.size; omega
  rw [← hws]
  try rw [← hdC]
  clear hBo
  clear hws hsz hdC
  have hBo := hBs; clear hBs
  refine (H7.out _).mono ?_; rintro e s15 ⟨rfl, hb⟩
  replace kA0 := belK hb kA0 zA; replace kA1 := belK hb kA1 zA; replace kA2 := belK hb kA2 zA; replace zA := belZ zA hb
  replace kB0 := belK hb kB0 zB; replace kB1 := belK hb kB1 zB; replace kB2 := belK hb kB2 zB; replace zB := belZ zB hb
  replace kC0 := belK hb kC0 zC; replace kC1 := belK hb kC1 zC; replace kC2 := belK hb kC2 zC; replace zC := belZ zC hb
  replace hBo := hBo.trans (hb.mono hBo.size)
  clear hb
  go_wp2_with fail
  refine (H8.out _).mono ?_; rintro e s16 ⟨rfl, hb⟩
  replace kA0 := belK hb kA0 zA; replace kA1 := belK hb kA1 zA; replace kA2 := belK hb kA2 zA; replace zA := belZ zA hb
  replace kB0 := belK hb kB0 zB; replace kB1 := belK hb kB1 zB; replace kB2 := belK hb kB2 zB; replace zB := belZ zB hb
  replace kC0 := belK hb kC0 zC; replace kC1 := belK hb kC1 zC; replace kC2 := belK hb kC2 zC; replace zC := belZ zC hb
  replace hBo := hBo.trans (hb.mono hBo.size)
  clear hb
  go_wp2_with fail
  obtain ⟨s17, hws⟩ : ∃ s, s = (s16.alloc (.cells #[.bool false, .string ⟨#[]⟩, .string ⟨#[]⟩] 23)) := ⟨_, rfl⟩
  have hBs : Below w.heap.size w s17 := by rw [hws]; exact ((hBo).alloc (by exact hBo.size) _)
  obtain ⟨D, hdD⟩ : ∃ b, b = s16.heap.size := ⟨_, rfl⟩
  have hsz : s17.heap.size = s16.heap.size + 1 := by rw [hws]; simp
  have hQC : ∀ p v, s16.cell? p = some v → s17.cell? p = some v := fun p v h => by rw [hws]; exact (alK h)
  have hQZ : ∀ b, b < s16.heap.size → b < s17.heap.size := fun b h => by omega
  replace kA0 := hQC _ _ kA0; replace kA1 := hQC _ _ kA1; replace kA2 := hQC _ _ kA2; replace zA := hQZ _ zA
  replace kB0 := hQC _ _ kB0; replace kB1 := hQC _ _ kB1; replace kB2 := hQC _ _ kB2; replace zB := hQZ _ zB
  replace kC0 := hQC _ _ kC0; replace kC1 := hQC _ _ kC1; replace kC2 := hQC _ _ kC2; replace zC := hQZ _ zC
  clear hQC hQZ
  have kD0 : s17.cell? ⟨D, 0, none⟩ = some (.bool false) := by rw [hws]; simp [go_sem, hdD]
  have kD1 : s17.cell? ⟨D, 1, none⟩ = some (.string ⟨#[]⟩) := by rw [hws]; simp [go_sem, hdD]
  have kD2 : s17.cell? ⟨D, 2, none⟩ = some (.string ⟨#[]⟩) := by rw [hws]; simp [go_sem, hdD]
  have zD : D < s17.heap.size := by omega
  have lD : w.heap.size ≤ D := by have := hBo.size; omega
  rw [← hws]
  try rw [← hdD]
  clear hBo
  clear hws hsz hdD
  have hBo := hBs; clear hBs
  have HF : Hid (∀ W, Below s17.heap.size s17 W → Below w.heap.size w W) := fun W hW => hBo.trans (hW.mono hBo.size)
  clear hBo
  first | (go_region_held3 (fun w' => w'.cell? ⟨A, 0, none⟩ = some (.bool true) ∧ w'.cell? ⟨A, 1, none⟩ = some (.string ⟨#[3]⟩) ∧ w'.cell? ⟨A, 2, none⟩ = some (.string ⟨#[1]⟩) ∧ w'.cell? ⟨B, 0, none⟩ = some (.bool false) ∧ w'.cell? ⟨B, 1, none⟩ = some (.string ⟨#[1]⟩) ∧ w'.cell? ⟨B, 2, none⟩ = some (.string ⟨#[1]⟩) ∧ w'.cell? ⟨C, 0, none⟩ = some (.bool false) ∧ w'.cell? ⟨C, 1, none⟩ = some (.string ⟨#[7]⟩) ∧ w'.cell? ⟨C, 2, none⟩ = some (.string ⟨#[1]⟩) ∧ w'.cell? ⟨D, 0, none⟩ = some (.bool false) ∧ w'.cell? ⟨D, 1, none⟩ = some (.string ⟨#[]⟩) ∧ w'.cell? ⟨D, 2, none⟩ = some (.string ⟨#[]⟩))
    (go_keep) (first
    | (go_at_call 20; refine (HO.out _ _ (by decide) (by decide)).mono ?_; rintro e x18 ⟨he, hbx⟩; (first | rw [E1.out] at he | rw [E2.out] at he | rw [E3.out] at he | rw [E4.out] at he); subst he; have hTx : Below s17.heap.size s17 x18 := (by first | exact (Below.refl _ _).drew.trans hbx | exact Below.trans (by assumption) (hbx.mono (Below.size (by assumption))) | exact (Below.refl _ _).trans hbx); obtain ⟨hcx, hfx⟩ := bcell hTx)
    | (go_at_call 51; refine (HH.out _).mono ?_; rintro e x18 ⟨rfl, hbx⟩; have hTx : Below s17.heap.size s17 x18 := (by first | exact (Below.refl _ _).drew.trans hbx | exact Below.trans (by assumption) (hbx.mono (Below.size (by assumption))) | exact (Below.refl _ _).trans hbx); obtain ⟨hcx, hfx⟩ := bcell hTx)
    | (go_at_call 16; refine (H9.out _).mono ?_; rintro e x18 ⟨rfl, hbx⟩; have hTx : Below s17.heap.size s17 x18 := (by first | exact (Below.refl _ _).drew.trans hbx | exact Below.trans (by assumption) (hbx.mono (Below.size (by assumption))) | exact (Below.refl _ _).trans hbx); obtain ⟨hcx, hfx⟩ := bcell hTx))) | fail
  all_goals go_wp2_with fail
  all_goals first | go_ret | go_ret2
  all_goals exact ⟨rfl, HF.out _ (by assumption)⟩
end Go.Proofs.YtbgmnpabclfjaaaGreatDoor
