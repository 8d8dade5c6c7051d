/-
  WHAT IS LEFT, WALKED: the document's.
-/
import Derived.Test.YtbgmnpabclfjaaaGreatDoorRound4
import Derived.Test.YtbgmnpabclfjaaaGreatDoorRound3
namespace Go.Proofs.YtbgmnpabclfjaaaGreatDoor
open Go.RowKit Go.Shelf
set_option linter.unusedSimpArgs false
set_option linter.unusedVariables false

set_option maxRecDepth 100000 in
set_option maxHeartbeats 16000000 in
theorem refMod6_any (n1 n2 : Bool) (a1 d1 a2 d2 : ByteArray) (q : Rt) (c : Int) (w : World) (ha1 : a1.size ≤ 140737488351232) (hd1 : d1.size ≤ 140737488351232) (ha2 : a2.size ≤ 140737488351232) (hd2 : d2.size ≤ 140737488351232)
    (hq : modR (wl n1 a1 d1) (wl n2 a2 d2) = q) (hc : modE (wl n1 a1 d1) (wl n2 a2 d2) = c) :
    Calls Tryz.prog 31 #[.agg #[.bool n1, .string a1, .string d1], .agg #[.bool n2, .string a2, .string d2]] w fun e w' => e = .returned (.tuple #[.agg #[.bool (rb q), .string (rn q), .string (rd q)], .int .i64 c]) ∧ Below w.heap.size w w' := by
  have hS := fun w => refSign5_any n2 a2 d2 _ w ha2 hd2 rfl
  by_cases h0 : topI (wl n2 a2 d2) = 0
  · unfold modR at hq
    unfold modE at hc
    rw [if_pos h0] at hq hc
    subst hq hc
    rw [rz.1, rz.2.1, rz.2.2]
    rw [h0, show cmpI' 0 0 = 0 from by decide] at hS
    have HS := Lib.hid hS
    clear hS h0 ha1 hd1 ha2 hd2
    go_enter Tryz.func31, Tryz.ntmps31
    go_wp2_with fail
    obtain ⟨s1, hws⟩ : ∃ s, s = (((w.alloc (.cells #[.bool n1, .string a1, .string d1] 23)).alloc (.cells #[.bool n2, .string a2, .string d2] 23)).alloc (.cells #[.bool false, .string ⟨#[]⟩, .string ⟨#[]⟩] 23)) := ⟨_, rfl⟩
    have hBs : Below w.heap.size w s1 := by rw [hws]; exact ((((Below.refl w.heap.size w).alloc (by simp) _).alloc (by simp) _).alloc (by simp; omega) _)
    obtain ⟨A, hdA⟩ : ∃ b, b = w.heap.size := ⟨_, rfl⟩
    obtain ⟨B, hdB⟩ : ∃ b, b = w.heap.size + 1 := ⟨_, rfl⟩
    obtain ⟨C, hdC⟩ : ∃ b, b = w.heap.size + 1 + 1 := ⟨_, rfl⟩
    have hsz : s1.heap.size = w.heap.size + 1 + 1 + 1 := by rw [hws]; simp
    have dCA : C ≠ A := by omega
    have dCB : C ≠ B := by omega
    have kA0 : s1.cell? ⟨A, 0, none⟩ = some (.bool n1) := by rw [hws]; simp [go_sem, hdA, hdB, hdC]
    have kA1 : s1.cell? ⟨A, 1, none⟩ = some (.string a1) := by rw [hws]; simp [go_sem, hdA, hdB, hdC]
    have kA2 : s1.cell? ⟨A, 2, none⟩ = some (.string d1) := by rw [hws]; simp [go_sem, hdA, hdB, hdC]
    have zA : A < s1.heap.size := by omega
    have lA : w.heap.size ≤ A := by have := Nat.le_refl w.heap.size; omega
    have kB0 : s1.cell? ⟨B, 0, none⟩ = some (.bool n2) := by rw [hws]; simp [go_sem, hdA, hdB, hdC]
    have kB1 : s1.cell? ⟨B, 1, none⟩ = some (.string a2) := by rw [hws]; simp [go_sem, hdA, hdB, hdC]
    have kB2 : s1.cell? ⟨B, 2, none⟩ = some (.string d2) := by rw [hws]; simp [go_sem, hdA, hdB, hdC]
    have zB : B < s1.heap.size := by omega
    have lB : w.heap.size ≤ B := by have := Nat.le_refl w.heap.size; omega
    have kC0 : s1.cell? ⟨C, 0, none⟩ = some (.bool false) := by rw [hws]; simp [go_sem, hdA, hdB, hdC]
    have fC0 : s1.frozen? ⟨C, 0, none⟩ = false := by rw [hws]; simp [go_sem, hdA, hdB, hdC]
    have kC1 : s1.cell? ⟨C, 1, none⟩ = some (.string ⟨#[]⟩) := by rw [hws]; simp [go_sem, hdA, hdB, hdC]
    have fC1 : s1.frozen? ⟨C, 1, none⟩ = false := by rw [hws]; simp [go_sem, hdA, hdB, hdC]
    have kC2 : s1.cell? ⟨C, 2, none⟩ = some (.string ⟨#[]⟩) := by rw [hws]; simp [go_sem, hdA, hdB, hdC]
    have fC2 : s1.frozen? ⟨C, 2, none⟩ = false := by rw [hws]; simp [go_sem, hdA, hdB, hdC]
    have zC : C < s1.heap.size := by omega
    have lC : w.heap.size ≤ C := by have := Nat.le_refl w.heap.size; omega
    rw [← hws]
    try rw [← hdC]
    try rw [← hdB]
    try rw [← hdA]
    clear hws hsz hdA hdB hdC
    have hBo := hBs; clear hBs
    refine (HS.out _).mono ?_; rintro e s2 ⟨rfl, hb⟩
    replace kA0 := belK hb kA0 zA; replace kA1 := belK hb kA1 zA; replace kA2 := belK hb kA2 zA; replace zA := Nat.lt_of_lt_of_le zA hb.size
    replace kB0 := belK hb kB0 zB; replace kB1 := belK hb kB1 zB; replace kB2 := belK hb kB2 zB; replace zB := Nat.lt_of_lt_of_le zB hb.size
    replace kC0 := belK hb kC0 zC; replace fC0 := belF hb fC0 zC; replace kC1 := belK hb kC1 zC; replace fC1 := belF hb fC1 zC; replace kC2 := belK hb kC2 zC; replace fC2 := belF hb fC2 zC; replace zC := Nat.lt_of_lt_of_le zC hb.size
    replace hBo := hBo.trans (hb.mono hBo.size)
    clear hb
    all_goals go_wp2_with fail
    all_goals refine bodyPost_ret (v := .tuple #[.agg #[.bool false, .string ⟨#[]⟩, .string ⟨#[]⟩], .int .i64 5]) (by simp [results, Tryz.results31, go_sem, kC0, kC1, kC2, zC]) rfl ⟨rfl, ?_⟩
    all_goals exact (((hBo.setCell lC _).setCell lC _).setCell lC _)
  have hs0 : cmpI' (topI (wl n2 a2 d2)) 0 ≠ 0 := by
    unfold cmpI'
    split
    · omega
    · first | omega | (rw [if_neg h0]; omega)
  have hs1 : (cmpI' (topI (wl n2 a2 d2)) 0 == 0) = false := by simpa using hs0
  have HT := Lib.hid refTop_g
  have HL := Lib.hid refLow_g
  have HM := Lib.hid refMul_g
  have sT1 := top_size n1 a1 d1
  have sT2 := top_size n2 a2 d2
  have sL1 := low_size n1 a1 d1
  have sL2 := low_size n2 a2 d2
  have hl1 := low_ne n1 a1 d1
  unfold modR at hq
  unfold modE at hc
  rw [if_neg h0] at hq hc
  generalize hT1 : topI (wl n1 a1 d1) = T1 at *
  generalize hT2 : topI (wl n2 a2 d2) = T2 at *
  generalize hL1 : lowI (wl n1 a1 d1) = L1 at *
  generalize hL2 : lowI (wl n2 a2 d2) = L2 at *
  have sx := zt_mul_size T1 L2
  have sy := zt_mul_size T2 L1
  have sz := zt_mul_size L1 L2
  have hy0 : T2 * L1 ≠ 0 := Int.mul_ne_zero h0 hl1
  generalize hX : T1 * L2 = X at *
  generalize hY : T2 * L1 = Y at *
  generalize hZ : L1 * L2 = Z at *
  generalize hF : flq X Y = F at *
  generalize hR : flr X Y = R at *
  have sR : (zt R).size ≤ 64 := Nat.le_trans (zt_mono (Nat.le_of_lt (by rw [← hR]; exact flr_abs hy0))) (by omega)
  have HFL := Lib.hid (fun w => refFloor_zz X Y F R w (by omega) (by omega) hy0 hF hR)
  have HK := Lib.hid (fun w => refMake5_any (zb R) (zb Z) (zt R) (zt Z) q c w (by omega) (by omega) (by rw [sI_z, sI_z, hq]) (by rw [sI_z, sI_z, hc]))
  have t1 : (zt T1).size ≤ 1000 := by omega
  have t2 : (zt T2).size ≤ 1000 := by omega
  have t3 : (zt L1).size ≤ 1000 := by omega
  have t4 : (zt L2).size ≤ 1000 := by omega
  have ET1 := Lib.hid hT1
  have ET2 := Lib.hid hT2
  have EL1 := Lib.hid hL1
  have EL2 := Lib.hid hL2
  have EX : Hid (sI (zb T1) (Nt.V (zt T1)) * sI (zb L2) (Nt.V (zt L2)) = X) := by rw [Hid, sI_z, sI_z, hX]
  have EY : Hid (sI (zb T2) (Nt.V (zt T2)) * sI (zb L1) (Nt.V (zt L1)) = Y) := by rw [Hid, sI_z, sI_z, hY]
  have EZ : Hid (sI (zb L1) (Nt.V (zt L1)) * sI (zb L2) (Nt.V (zt L2)) = Z) := by rw [Hid, sI_z, sI_z, hZ]
  generalize cmpI' T2 0 = sg at *
  have HS := Lib.hid hS
  clear hS hq hc hT1 hT2 hL1 hL2 hX hY hZ hF hR h0 hl1 hy0 sR sx sy sz sT1 sT2 sL1 sL2
  go_enter Tryz.func31, Tryz.ntmps31
  go_wp2_with fail
  obtain ⟨s3, hws⟩ : ∃ s, s = (((w.alloc (.cells #[.bool n1, .string a1, .string d1] 23)).alloc (.cells #[.bool n2, .string a2, .string d2] 23)).alloc (.cells #[.bool false, .string ⟨#[]⟩, .string ⟨#[]⟩] 23)) := ⟨_, rfl⟩
  have hBs : Below w.heap.size w s3 := by rw [hws]; exact ((((Below.refl w.heap.size w).alloc (by simp) _).alloc (by simp) _).alloc (by simp; omega) _)
  obtain ⟨A, hdA⟩ : ∃ b, b = w.heap.size := ⟨_, rfl⟩
  obtain ⟨B, hdB⟩ : ∃ b, b = w.heap.size + 1 := ⟨_, rfl⟩
  obtain ⟨C, hdC⟩ : ∃ b, b = w.heap.size + 1 + 1 := ⟨_, rfl⟩
  have hsz : s3.heap.size = w.heap.size + 1 + 1 + 1 := by rw [hws]; simp
  have dCA : C ≠ A := by omega
  have dCB : C ≠ B := by omega
  have kA0 : s3.cell? ⟨A, 0, none⟩ = some (.bool n1) := by rw [hws]; simp [go_sem, hdA, hdB, hdC]
  have kA1 : s3.cell? ⟨A, 1, none⟩ = some (.string a1) := by rw [hws]; simp [go_sem, hdA, hdB, hdC]
  have kA2 : s3.cell? ⟨A, 2, none⟩ = some (.string d1) := by rw [hws]; simp [go_sem, hdA, hdB, hdC]
  have zA : A < s3.heap.size := by omega
  have lA : w.heap.size ≤ A := by have := Nat.le_refl w.heap.size; omega
  have kB0 : s3.cell? ⟨B, 0, none⟩ = some (.bool n2) := by rw [hws]; simp [go_sem, hdA, hdB, hdC]
  have kB1 : s3.cell? ⟨B, 1, none⟩ = some (.string a2) := by rw [hws]; simp [go_sem, hdA, hdB, hdC]
  have kB2 : s3.cell? ⟨B, 2, none⟩ = some (.string d2) := by rw [hws]; simp [go_sem, hdA, hdB, hdC]
  have zB : B < s3.heap.size := by omega
  have lB : w.heap.size ≤ B := by have := Nat.le_refl w.heap.size; omega
  have kC0 : s3.cell? ⟨C, 0, none⟩ = some (.bool false) := by rw [hws]; simp [go_sem, hdA, hdB, hdC]
  have fC0 : s3.frozen? ⟨C, 0, none⟩ = false := by rw [hws]; simp [go_sem, hdA, hdB, hdC]
  have kC1 : s3.cell? ⟨C, 1, none⟩ = some (.string ⟨#[]⟩) := by rw [hws]; simp [go_sem, hdA, hdB, hdC]
  have fC1 : s3.frozen? ⟨C, 1, none⟩ = false := by rw [hws]; simp [go_sem, hdA, hdB, hdC]
  have kC2 : s3.cell? ⟨C, 2, none⟩ = some (.string ⟨#[]⟩) := by rw [hws]; simp [go_sem, hdA, hdB, hdC]
  have fC2 : s3.frozen? ⟨C, 2, none⟩ = false := by rw [hws]; simp [go_sem, hdA, hdB, hdC]
  have zC : C < s3.heap.size := by omega
  have lC : w.heap.size ≤ C := by have := Nat.le_refl w.heap.size; omega
  rw [← hws]
  try rw [← hdC]
  try rw [← hdB]
  try rw [← hdA]
  clear hws hsz hdA hdB hdC
  have hBo := hBs; clear hBs
  refine (HS.out _).mono ?_; rintro e s4 ⟨rfl, hb⟩
  replace kA0 := belK hb kA0 zA; replace kA1 := belK hb kA1 zA; replace kA2 := belK hb kA2 zA; replace zA := Nat.lt_of_lt_of_le zA hb.size
  replace kB0 := belK hb kB0 zB; replace kB1 := belK hb kB1 zB; replace kB2 := belK hb kB2 zB; replace zB := Nat.lt_of_lt_of_le zB hb.size
  replace kC0 := belK hb kC0 zC; replace fC0 := belF hb fC0 zC; replace kC1 := belK hb kC1 zC; replace fC1 := belF hb fC1 zC; replace kC2 := belK hb kC2 zC; replace fC2 := belF hb fC2 zC; replace zC := Nat.lt_of_lt_of_le zC hb.size
  replace hBo := hBo.trans (hb.mono hBo.size)
  clear hb
  go_upto_region 3 with (fail)
  go_cut [6] (Cut1 s4 (.bool (zb X)) (.string (zt X)))
  case first =>
    have HF : Hid (∀ W, Below s4.heap.size s4 W → Below w.heap.size w W) := fun W hW => hBo.trans (hW.mono hBo.size)
    clear hBo
    first | (go_region_held3 (fun w' => w'.cell? ⟨A, 0, none⟩ = some (.bool n1) ∧ w'.cell? ⟨A, 1, none⟩ = some (.string a1) ∧ w'.cell? ⟨A, 2, none⟩ = some (.string d1) ∧ w'.cell? ⟨B, 0, none⟩ = some (.bool n2) ∧ w'.cell? ⟨B, 1, none⟩ = some (.string a2) ∧ w'.cell? ⟨B, 2, none⟩ = some (.string d2) ∧ w'.cell? ⟨C, 0, none⟩ = some (.bool false) ∧ w'.cell? ⟨C, 1, none⟩ = some (.string ⟨#[]⟩) ∧ w'.cell? ⟨C, 2, none⟩ = some (.string ⟨#[]⟩))
      (first | go_keep | ((repeat' apply And.intro) <;> ((repeat (with_reducible first | apply cell_al | apply cell_dr | refine cell_set ?_ (by (try dsimp only); omega))) <;> first | assumption | (rw [hcx _ _ (by assumption)]; assumption)))) (first
      | (go_at_call 40; refine (HT.out _ _ _ _ (by assumption) (by assumption)).mono ?_; rintro e x5 ⟨he, hbx⟩; (first | rw [ET1.out] at he); subst he; have hTx : Below s4.heap.size s4 x5 := (by first | exact (Below.refl _ _).drew.trans hbx | exact (Below.refl _ _).trans hbx | (rename_i hTp; exact hTp.trans (hbx.mono hTp.size)) | exact Below.trans (by assumption) (hbx.mono (Below.size (by assumption))) | exact Below.trans (by repeat (with_reducible first | assumption | exact Below.refl _ _ | apply al_below | apply Below.drew)) (hbx.mono (Below.size (by repeat (with_reducible first | assumption | exact Below.refl _ _ | apply al_below | apply Below.drew))))); obtain ⟨hcx, hfx⟩ := bcell hTx; have hzx := hbx.size; (try simp at hzx); (try have hQZ := Nat.lt_of_succ_le hzx); (try have hzm := Nat.lt_of_succ_lt (Nat.lt_of_succ_le hzx)); have hzq := hTx.size; (try have hzo : s4.heap.size < x5.heap.size := (by omega)); (try have hzp : s4.heap.size + 1 < x5.heap.size := (by omega)); have hzt : ∀ b, b < _ → b < _ := fun b h => Nat.lt_of_lt_of_le h hbx.size; obtain ⟨hcy, hfy⟩ := bcell hbx; clear hbx)
      | (go_at_call 46; refine (HL.out _ _ _ _ (by assumption) (by assumption)).mono ?_; rintro e x5 ⟨he, hbx⟩; (first | rw [EL2.out] at he); subst he; have hTx : Below s4.heap.size s4 x5 := (by first | exact (Below.refl _ _).drew.trans hbx | exact (Below.refl _ _).trans hbx | (rename_i hTp; exact hTp.trans (hbx.mono hTp.size)) | exact Below.trans (by assumption) (hbx.mono (Below.size (by assumption))) | exact Below.trans (by repeat (with_reducible first | assumption | exact Below.refl _ _ | apply al_below | apply Below.drew)) (hbx.mono (Below.size (by repeat (with_reducible first | assumption | exact Below.refl _ _ | apply al_below | apply Below.drew))))); obtain ⟨hcx, hfx⟩ := bcell hTx; have hzx := hbx.size; (try simp at hzx); (try have hQZ := Nat.lt_of_succ_le hzx); (try have hzm := Nat.lt_of_succ_lt (Nat.lt_of_succ_le hzx)); have hzq := hTx.size; (try have hzo : s4.heap.size < x5.heap.size := (by omega)); (try have hzp : s4.heap.size + 1 < x5.heap.size := (by omega)); have hzt : ∀ b, b < _ → b < _ := fun b h => Nat.lt_of_lt_of_le h hbx.size; obtain ⟨hcy, hfy⟩ := bcell hbx; clear hbx)
      | (go_at_call 53; refine (HM.out _ _ _ _ _ (by assumption) (by assumption)).mono ?_; rintro e x5 ⟨he, hbx⟩; (first | rw [EX.out] at he); subst he; have hTx : Below s4.heap.size s4 x5 := (by first | exact (Below.refl _ _).drew.trans hbx | exact (Below.refl _ _).trans hbx | (rename_i hTp; exact hTp.trans (hbx.mono hTp.size)) | exact Below.trans (by assumption) (hbx.mono (Below.size (by assumption))) | exact Below.trans (by repeat (with_reducible first | assumption | exact Below.refl _ _ | apply al_below | apply Below.drew)) (hbx.mono (Below.size (by repeat (with_reducible first | assumption | exact Below.refl _ _ | apply al_below | apply Below.drew))))); obtain ⟨hcx, hfx⟩ := bcell hTx; have hzx := hbx.size; (try simp at hzx); (try have hQZ := Nat.lt_of_succ_le hzx); (try have hzm := Nat.lt_of_succ_lt (Nat.lt_of_succ_le hzx)); have hzq := hTx.size; (try have hzo : s4.heap.size < x5.heap.size := (by omega)); (try have hzp : s4.heap.size + 1 < x5.heap.size := (by omega)); have hzt : ∀ b, b < _ → b < _ := fun b h => Nat.lt_of_lt_of_le h hbx.size; obtain ⟨hcy, hfy⟩ := bcell hbx; clear hbx))) | fail
    all_goals go_wp2_with fail
    all_goals go_meet
    all_goals refine ⟨_, rfl, ?_, ?_, ?_, ?_⟩
    all_goals first | omega | (simp [*, go_sem]; done) | ((repeat (with_reducible refine cell_set ?_ (by (try dsimp only); omega))); simp (maxDischargeDepth := 7) [*, go_sem]; done) | (repeat (with_reducible first | assumption | exact Below.refl _ _ | apply al_below | apply Below.drew | refine set_below ?_ (by (try dsimp only); omega)))
  case rest =>
    obtain ⟨U, rfl, hU, kU0, kU1, hT⟩ := hcut
    have dCU : C ≠ U := by omega
    obtain ⟨hcx, hfx⟩ := bcell hT
    replace kA0 := (hcx A 0 zA).trans kA0
    replace kA1 := (hcx A 1 zA).trans kA1
    replace kA2 := (hcx A 2 zA).trans kA2
    replace zA := Nat.lt_of_lt_of_le zA hT.size
    replace kB0 := (hcx B 0 zB).trans kB0
    replace kB1 := (hcx B 1 zB).trans kB1
    replace kB2 := (hcx B 2 zB).trans kB2
    replace zB := Nat.lt_of_lt_of_le zB hT.size
    replace kC0 := (hcx C 0 zC).trans kC0
    replace fC0 := (hfx C 0 zC).trans fC0
    replace kC1 := (hcx C 1 zC).trans kC1
    replace fC1 := (hfx C 1 zC).trans fC1
    replace kC2 := (hcx C 2 zC).trans kC2
    replace fC2 := (hfx C 2 zC).trans fC2
    replace zC := Nat.lt_of_lt_of_le zC hT.size
    have lU := Nat.le_trans hBo.size hU
    have zU := World.block_lt_of_cell? _ _ kU0
    replace hBo := hBo.trans (hT.mono hBo.size)
    clear hT hcx hfx hU
    go_upto_region 4 with (fail)
    go_cut [7] (Cut1 wc (.bool (zb Y)) (.string (zt Y)))
    case first =>
      have HF : Hid (∀ W, Below wc.heap.size wc W → Below w.heap.size w W) := fun W hW => hBo.trans (hW.mono hBo.size)
      clear hBo
      first | (go_region_held3 (fun w' => w'.cell? ⟨A, 0, none⟩ = some (.bool n1) ∧ w'.cell? ⟨A, 1, none⟩ = some (.string a1) ∧ w'.cell? ⟨A, 2, none⟩ = some (.string d1) ∧ w'.cell? ⟨B, 0, none⟩ = some (.bool n2) ∧ w'.cell? ⟨B, 1, none⟩ = some (.string a2) ∧ w'.cell? ⟨B, 2, none⟩ = some (.string d2) ∧ w'.cell? ⟨C, 0, none⟩ = some (.bool false) ∧ w'.cell? ⟨C, 1, none⟩ = some (.string ⟨#[]⟩) ∧ w'.cell? ⟨C, 2, none⟩ = some (.string ⟨#[]⟩) ∧ w'.cell? ⟨U, 0, none⟩ = some (.bool (zb X)) ∧ w'.cell? ⟨U, 1, none⟩ = some (.string (zt X)))
        (first | go_keep | ((repeat' apply And.intro) <;> ((repeat (with_reducible first | apply cell_al | apply cell_dr | refine cell_set ?_ (by (try dsimp only); omega))) <;> first | assumption | (rw [hcx _ _ (by assumption)]; assumption)))) (first
        | (go_at_call 40; refine (HT.out _ _ _ _ (by assumption) (by assumption)).mono ?_; rintro e x6 ⟨he, hbx⟩; (first | rw [ET2.out] at he); subst he; have hTx : Below wc.heap.size wc x6 := (by first | exact (Below.refl _ _).drew.trans hbx | exact (Below.refl _ _).trans hbx | (rename_i hTp; exact hTp.trans (hbx.mono hTp.size)) | exact Below.trans (by assumption) (hbx.mono (Below.size (by assumption))) | exact Below.trans (by repeat (with_reducible first | assumption | exact Below.refl _ _ | apply al_below | apply Below.drew)) (hbx.mono (Below.size (by repeat (with_reducible first | assumption | exact Below.refl _ _ | apply al_below | apply Below.drew))))); obtain ⟨hcx, hfx⟩ := bcell hTx; have hzx := hbx.size; (try simp at hzx); (try have hQZ := Nat.lt_of_succ_le hzx); (try have hzm := Nat.lt_of_succ_lt (Nat.lt_of_succ_le hzx)); have hzq := hTx.size; (try have hzo : wc.heap.size < x6.heap.size := (by omega)); (try have hzp : wc.heap.size + 1 < x6.heap.size := (by omega)); have hzt : ∀ b, b < _ → b < _ := fun b h => Nat.lt_of_lt_of_le h hbx.size; obtain ⟨hcy, hfy⟩ := bcell hbx; clear hbx)
        | (go_at_call 46; refine (HL.out _ _ _ _ (by assumption) (by assumption)).mono ?_; rintro e x6 ⟨he, hbx⟩; (first | rw [EL1.out] at he); subst he; have hTx : Below wc.heap.size wc x6 := (by first | exact (Below.refl _ _).drew.trans hbx | exact (Below.refl _ _).trans hbx | (rename_i hTp; exact hTp.trans (hbx.mono hTp.size)) | exact Below.trans (by assumption) (hbx.mono (Below.size (by assumption))) | exact Below.trans (by repeat (with_reducible first | assumption | exact Below.refl _ _ | apply al_below | apply Below.drew)) (hbx.mono (Below.size (by repeat (with_reducible first | assumption | exact Below.refl _ _ | apply al_below | apply Below.drew))))); obtain ⟨hcx, hfx⟩ := bcell hTx; have hzx := hbx.size; (try simp at hzx); (try have hQZ := Nat.lt_of_succ_le hzx); (try have hzm := Nat.lt_of_succ_lt (Nat.lt_of_succ_le hzx)); have hzq := hTx.size; (try have hzo : wc.heap.size < x6.heap.size := (by omega)); (try have hzp : wc.heap.size + 1 < x6.heap.size := (by omega)); have hzt : ∀ b, b < _ → b < _ := fun b h => Nat.lt_of_lt_of_le h hbx.size; obtain ⟨hcy, hfy⟩ := bcell hbx; clear hbx)
        | (go_at_call 53; refine (HM.out _ _ _ _ _ (by assumption) (by assumption)).mono ?_; rintro e x6 ⟨he, hbx⟩; (first | rw [EY.out] at he); subst he; have hTx : Below wc.heap.size wc x6 := (by first | exact (Below.refl _ _).drew.trans hbx | exact (Below.refl _ _).trans hbx | (rename_i hTp; exact hTp.trans (hbx.mono hTp.size)) | exact Below.trans (by assumption) (hbx.mono (Below.size (by assumption))) | exact Below.trans (by repeat (with_reducible first | assumption | exact Below.refl _ _ | apply al_below | apply Below.drew)) (hbx.mono (Below.size (by repeat (with_reducible first | assumption | exact Below.refl _ _ | apply al_below | apply Below.drew))))); obtain ⟨hcx, hfx⟩ := bcell hTx; have hzx := hbx.size; (try simp at hzx); (try have hQZ := Nat.lt_of_succ_le hzx); (try have hzm := Nat.lt_of_succ_lt (Nat.lt_of_succ_le hzx)); have hzq := hTx.size; (try have hzo : wc.heap.size < x6.heap.size := (by omega)); (try have hzp : wc.heap.size + 1 < x6.heap.size := (by omega)); have hzt : ∀ b, b < _ → b < _ := fun b h => Nat.lt_of_lt_of_le h hbx.size; obtain ⟨hcy, hfy⟩ := bcell hbx; clear hbx))) | fail
      all_goals go_wp2_with fail
      all_goals go_meet
      all_goals refine ⟨_, rfl, ?_, ?_, ?_, ?_⟩
      all_goals first | omega | (simp [*, go_sem]; done) | ((repeat (with_reducible refine cell_set ?_ (by (try dsimp only); omega))); simp (maxDischargeDepth := 7) [*, go_sem]; done) | (repeat (with_reducible first | assumption | exact Below.refl _ _ | apply al_below | apply Below.drew | refine set_below ?_ (by (try dsimp only); omega)))
    case rest =>
      obtain ⟨V, rfl, hV, kV0, kV1, hT⟩ := hcut
      have dCV : C ≠ V := by omega
      obtain ⟨hcx, hfx⟩ := bcell hT
      replace kA0 := (hcx A 0 zA).trans kA0
      replace kA1 := (hcx A 1 zA).trans kA1
      replace kA2 := (hcx A 2 zA).trans kA2
      replace zA := Nat.lt_of_lt_of_le zA hT.size
      replace kB0 := (hcx B 0 zB).trans kB0
      replace kB1 := (hcx B 1 zB).trans kB1
      replace kB2 := (hcx B 2 zB).trans kB2
      replace zB := Nat.lt_of_lt_of_le zB hT.size
      replace kC0 := (hcx C 0 zC).trans kC0
      replace fC0 := (hfx C 0 zC).trans fC0
      replace kC1 := (hcx C 1 zC).trans kC1
      replace fC1 := (hfx C 1 zC).trans fC1
      replace kC2 := (hcx C 2 zC).trans kC2
      replace fC2 := (hfx C 2 zC).trans fC2
      replace zC := Nat.lt_of_lt_of_le zC hT.size
      replace kU0 := (hcx U 0 zU).trans kU0
      replace kU1 := (hcx U 1 zU).trans kU1
      replace zU := Nat.lt_of_lt_of_le zU hT.size
      have lV := Nat.le_trans hBo.size hV
      have zV := World.block_lt_of_cell? _ _ kV0
      replace hBo := hBo.trans (hT.mono hBo.size)
      clear hT hcx hfx hV
      go_wp2_with fail
      refine (HFL.out _).mono ?_; rintro e s7 ⟨rfl, hb⟩
      replace kA0 := belK hb kA0 zA; replace kA1 := belK hb kA1 zA; replace kA2 := belK hb kA2 zA; replace zA := Nat.lt_of_lt_of_le zA hb.size
      replace kB0 := belK hb kB0 zB; replace kB1 := belK hb kB1 zB; replace kB2 := belK hb kB2 zB; replace zB := Nat.lt_of_lt_of_le zB hb.size
      replace kC0 := belK hb kC0 zC; replace fC0 := belF hb fC0 zC; replace kC1 := belK hb kC1 zC; replace fC1 := belF hb fC1 zC; replace kC2 := belK hb kC2 zC; replace fC2 := belF hb fC2 zC; replace zC := Nat.lt_of_lt_of_le zC hb.size
      replace kU0 := belK hb kU0 zU; replace kU1 := belK hb kU1 zU; replace zU := Nat.lt_of_lt_of_le zU hb.size
      replace kV0 := belK hb kV0 zV; replace kV1 := belK hb kV1 zV; replace zV := Nat.lt_of_lt_of_le zV hb.size
      replace hBo := hBo.trans (hb.mono hBo.size)
      clear hb
      go_wp2_with fail
      obtain ⟨s8, hws⟩ : ∃ s, s = ((s7.alloc (.cells #[.bool (zb F), .string (zt F)] 44)).alloc (.cells #[.bool (zb R), .string (zt R)] 44)) := ⟨_, rfl⟩
      have hBs : Below w.heap.size w s8 := by rw [hws]; exact (((hBo).alloc (by exact hBo.size) _).alloc (by have := hBo.size; simp; omega) _)
      obtain ⟨E, hdE⟩ : ∃ b, b = s7.heap.size := ⟨_, rfl⟩
      obtain ⟨O, hdO⟩ : ∃ b, b = s7.heap.size + 1 := ⟨_, rfl⟩
      have hsz : s8.heap.size = s7.heap.size + 1 + 1 := by rw [hws]; simp
      have dCE : C ≠ E := by omega
      have dCO : C ≠ O := by omega
      have hQC : ∀ p v, s7.cell? p = some v → s8.cell? p = some v := fun p v h => by rw [hws]; exact (alK (alK h))
      have hQZ : ∀ b, b < s7.heap.size → b < s8.heap.size := fun b h => by omega
      have hQF : ∀ b j, b < s7.heap.size → s7.frozen? ⟨b, j, none⟩ = false → s8.frozen? ⟨b, j, none⟩ = false := fun b j z h => by rw [hws]; exact (alF (alZ z) (alF z h))
      replace kA0 := hQC _ _ kA0; replace kA1 := hQC _ _ kA1; replace kA2 := hQC _ _ kA2; replace zA := hQZ _ zA
      replace kB0 := hQC _ _ kB0; replace kB1 := hQC _ _ kB1; replace kB2 := hQC _ _ kB2; replace zB := hQZ _ zB
      replace kC0 := hQC _ _ kC0; replace fC0 := hQF _ _ zC fC0; replace kC1 := hQC _ _ kC1; replace fC1 := hQF _ _ zC fC1; replace kC2 := hQC _ _ kC2; replace fC2 := hQF _ _ zC fC2; replace zC := hQZ _ zC
      replace kU0 := hQC _ _ kU0; replace kU1 := hQC _ _ kU1; replace zU := hQZ _ zU
      replace kV0 := hQC _ _ kV0; replace kV1 := hQC _ _ kV1; replace zV := hQZ _ zV
      clear hQC hQZ hQF
      have kE0 : s8.cell? ⟨E, 0, none⟩ = some (.bool (zb F)) := by rw [hws]; simp [go_sem, hdE, hdO]
      have kE1 : s8.cell? ⟨E, 1, none⟩ = some (.string (zt F)) := by rw [hws]; simp [go_sem, hdE, hdO]
      have zE : E < s8.heap.size := by omega
      have lE : w.heap.size ≤ E := by have := hBo.size; omega
      have kO0 : s8.cell? ⟨O, 0, none⟩ = some (.bool (zb R)) := by rw [hws]; simp [go_sem, hdE, hdO]
      have kO1 : s8.cell? ⟨O, 1, none⟩ = some (.string (zt R)) := by rw [hws]; simp [go_sem, hdE, hdO]
      have zO : O < s8.heap.size := by omega
      have lO : w.heap.size ≤ O := by have := hBo.size; omega
      rw [← hws]
      try rw [← hdO]
      try rw [← hdE]
      clear hBo
      clear hws hsz hdE hdO
      have hBo := hBs; clear hBs
      have HF : Hid (∀ W, Below s8.heap.size s8 W → Below w.heap.size w W) := fun W hW => hBo.trans (hW.mono hBo.size)
      clear hBo
      first | (go_region_held3 (fun w' => w'.cell? ⟨A, 0, none⟩ = some (.bool n1) ∧ w'.cell? ⟨A, 1, none⟩ = some (.string a1) ∧ w'.cell? ⟨A, 2, none⟩ = some (.string d1) ∧ w'.cell? ⟨B, 0, none⟩ = some (.bool n2) ∧ w'.cell? ⟨B, 1, none⟩ = some (.string a2) ∧ w'.cell? ⟨B, 2, none⟩ = some (.string d2) ∧ w'.cell? ⟨U, 0, none⟩ = some (.bool (zb X)) ∧ w'.cell? ⟨U, 1, none⟩ = some (.string (zt X)) ∧ w'.cell? ⟨V, 0, none⟩ = some (.bool (zb Y)) ∧ w'.cell? ⟨V, 1, none⟩ = some (.string (zt Y)) ∧ w'.cell? ⟨E, 0, none⟩ = some (.bool (zb F)) ∧ w'.cell? ⟨E, 1, none⟩ = some (.string (zt F)) ∧ w'.cell? ⟨O, 0, none⟩ = some (.bool (zb R)) ∧ w'.cell? ⟨O, 1, none⟩ = some (.string (zt R)))
        (go_keep) (first
        | (go_at_call 46; refine (HL.out _ _ _ _ (by assumption) (by assumption)).mono ?_; rintro e x9 ⟨he, hbx⟩; (first | rw [EL1.out] at he | rw [EL2.out] at he); subst he; have hTx : Below s8.heap.size s8 x9 := (by first | exact (Below.refl _ _).drew.trans hbx | exact Below.trans (by assumption) (hbx.mono (Below.size (by assumption))) | exact (Below.refl _ _).trans hbx); obtain ⟨hcx, hfx⟩ := bcell hTx)
        | (go_at_call 53; refine (HM.out _ _ _ _ _ (by assumption) (by assumption)).mono ?_; rintro e x9 ⟨he, hbx⟩; (first | rw [EZ.out] at he); subst he; have hTx : Below s8.heap.size s8 x9 := (by first | exact (Below.refl _ _).drew.trans hbx | exact Below.trans (by assumption) (hbx.mono (Below.size (by assumption))) | exact (Below.refl _ _).trans hbx); obtain ⟨hcx, hfx⟩ := bcell hTx)
        | (go_at_call 44; refine (HK.out _).mono ?_; rintro e x9 ⟨rfl, hbx⟩; have hTx : Below s8.heap.size s8 x9 := (by first | exact (Below.refl _ _).drew.trans hbx | exact Below.trans (by assumption) (hbx.mono (Below.size (by assumption))) | exact (Below.refl _ _).trans hbx); obtain ⟨hcx, hfx⟩ := bcell hTx))) | fail
      all_goals go_wp2_with fail
      all_goals refine bodyPost_ret (v := .tuple #[.agg #[.bool (rb q), .string (rn q), .string (rd q)], .int .i64 c]) (by simp [results, Tryz.results31, go_sem, hcx, kC0, kC1, kC2, zC]) rfl ⟨rfl, ?_⟩
      all_goals exact ((((HF.out _ (by assumption)).setCell lC _).setCell lC _).setCell lC _)
end Go.Proofs.YtbgmnpabclfjaaaGreatDoor
