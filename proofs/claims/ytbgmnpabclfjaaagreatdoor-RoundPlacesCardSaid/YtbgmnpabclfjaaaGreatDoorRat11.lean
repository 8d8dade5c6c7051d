/-
  NUMBERS IN THE DOCUMENT: held against each other; signs, opposites, amounts; of whole ones.
-/
import Derived.Test.YtbgmnpabclfjaaaGreatDoorRat10
namespace Go.Proofs.YtbgmnpabclfjaaaGreatDoor
open Go.RowKit Go.Shelf
set_option linter.unusedSimpArgs false
set_option linter.unusedVariables false

set_option maxRecDepth 100000 in
set_option maxHeartbeats 16000000 in
theorem refCmp5_any (n1 n2 : Bool) (a1 d1 a2 d2 : ByteArray) (c : Int) (w : World) (ha1 : a1.size ≤ 140737488351232) (hd1 : d1.size ≤ 140737488351232) (ha2 : a2.size ≤ 140737488351232) (hd2 : d2.size ≤ 140737488351232)
    (hc : cmpI' (topI (wl n1 a1 d1) * lowI (wl n2 a2 d2)) (topI (wl n2 a2 d2) * lowI (wl n1 a1 d1)) = c) :
    Calls Tryz.prog 21 #[.agg #[.bool n1, .string a1, .string d1], .agg #[.bool n2, .string a2, .string d2]] w fun e w' => e = .returned (.int .i64 c) ∧ Below w.heap.size w w' := by
  have HT := Lib.hid refTop_g
  have HL := Lib.hid refLow_g
  have HM := Lib.hid refMul_g
  have sT1 := Nat.le_trans (top_size n1 a1 d1) (by omega : 32 ≤ 1000)
  have sT2 := Nat.le_trans (top_size n2 a2 d2) (by omega : 32 ≤ 1000)
  have sL1 := Nat.le_trans (low_size n1 a1 d1) (by omega : 32 ≤ 1000)
  have sL2 := Nat.le_trans (low_size n2 a2 d2) (by omega : 32 ≤ 1000)
  have szp : ∀ x y : Int, (zt x).size ≤ 32 → (zt y).size ≤ 32 → (zt (x * y)).size ≤ 64 := fun x y h1 h2 => Nat.le_trans (zt_mul_size x y) (by omega)
  have sp0 := szp _ _ (top_size n1 a1 d1) (low_size n2 a2 d2)
  have sp1 := szp _ _ (top_size n2 a2 d2) (low_size n1 a1 d1)
  generalize hT1 : topI (wl n1 a1 d1) = T1 at *
  generalize hT2 : topI (wl n2 a2 d2) = T2 at *
  generalize hL1 : lowI (wl n1 a1 d1) = L1 at *
  generalize hL2 : lowI (wl n2 a2 d2) = L2 at *
  generalize hp0 : T1 * L2 = p0 at *
  generalize hp1 : T2 * L1 = p1 at *
  have HC := Lib.hid (fun w => refCmp4_any (zb p0) (zb p1) (zt p0) (zt p1) c w (by omega) (by omega) (by rw [sI_z, sI_z, hc]))
  have ET1 := Lib.hid hT1
  have ET2 := Lib.hid hT2
  have EL1 := Lib.hid hL1
  have EL2 := Lib.hid hL2
  have EP0 : Hid (sI (zb T1) (Nt.V (zt T1)) * sI (zb L2) (Nt.V (zt L2)) = p0) := by rw [Hid, sI_z, sI_z, hp0]
  have EP1 : Hid (sI (zb T2) (Nt.V (zt T2)) * sI (zb L1) (Nt.V (zt L1)) = p1) := by rw [Hid, sI_z, sI_z, hp1]
  clear hc szp hT1 hT2 hL1 hL2 hp0 hp1 sp0 sp1
  go_enter Tryz.func21, Tryz.ntmps21
  go_wp2_with fail
  obtain ⟨s1, hws⟩ : ∃ s, s = ((w.alloc (.cells #[.bool n1, .string a1, .string d1] 23)).alloc (.cells #[.bool n2, .string a2, .string d2] 23)) := ⟨_, rfl⟩
  have hBs : Below w.heap.size w s1 := by rw [hws]; exact (((Below.refl w.heap.size w).alloc (by simp) _).alloc (by simp) _)
  obtain ⟨A, hdA⟩ : ∃ b, b = w.heap.size := ⟨_, rfl⟩
  obtain ⟨B, hdB⟩ : ∃ b, b = w.heap.size + 1 := ⟨_, rfl⟩
  have hsz : s1.heap.size = w.heap.size + 1 + 1 := by rw [hws]; simp
  have kA0 : s1.cell? ⟨A, 0, none⟩ = some (.bool n1) := by rw [hws]; simp [go_sem, hdA, hdB]
  have kA1 : s1.cell? ⟨A, 1, none⟩ = some (.string a1) := by rw [hws]; simp [go_sem, hdA, hdB]
  have kA2 : s1.cell? ⟨A, 2, none⟩ = some (.string d1) := by rw [hws]; simp [go_sem, hdA, hdB]
  have zA : A < s1.heap.size := by omega
  have lA : w.heap.size ≤ A := by have := Nat.le_refl w.heap.size; omega
  have kB0 : s1.cell? ⟨B, 0, none⟩ = some (.bool n2) := by rw [hws]; simp [go_sem, hdA, hdB]
  have kB1 : s1.cell? ⟨B, 1, none⟩ = some (.string a2) := by rw [hws]; simp [go_sem, hdA, hdB]
  have kB2 : s1.cell? ⟨B, 2, none⟩ = some (.string d2) := by rw [hws]; simp [go_sem, hdA, hdB]
  have zB : B < s1.heap.size := by omega
  have lB : w.heap.size ≤ B := by have := Nat.le_refl w.heap.size; omega
  rw [← hws]
  try rw [← hdB]
  try rw [← hdA]
  clear hws hsz hdA hdB
  have hBo := hBs; clear hBs
  have HF : Hid (∀ W, Below s1.heap.size s1 W → Below w.heap.size w W) := fun W hW => hBo.trans (hW.mono hBo.size)
  clear hBo
  first | (go_region_held3 (fun w' => w'.cell? ⟨A, 0, none⟩ = some (.bool n1) ∧ w'.cell? ⟨A, 1, none⟩ = some (.string a1) ∧ w'.cell? ⟨A, 2, none⟩ = some (.string d1) ∧ w'.cell? ⟨B, 0, none⟩ = some (.bool n2) ∧ w'.cell? ⟨B, 1, none⟩ = some (.string a2) ∧ w'.cell? ⟨B, 2, none⟩ = some (.string d2))
    (go_keep) (first
    | (go_at_call 40; refine (HT.out _ _ _ _ (by assumption) (by assumption)).mono ?_; rintro e x2 ⟨he, hbx⟩; (first | rw [ET1.out] at he | rw [ET2.out] at he); subst he; have hTx : Below s1.heap.size s1 x2 := (by first | exact (Below.refl _ _).drew.trans hbx | exact Below.trans (by assumption) (hbx.mono (Below.size (by assumption))) | exact (Below.refl _ _).trans hbx); obtain ⟨hcx, hfx⟩ := bcell hTx)
    | (go_at_call 46; refine (HL.out _ _ _ _ (by assumption) (by assumption)).mono ?_; rintro e x2 ⟨he, hbx⟩; (first | rw [EL1.out] at he | rw [EL2.out] at he); subst he; have hTx : Below s1.heap.size s1 x2 := (by first | exact (Below.refl _ _).drew.trans hbx | exact Below.trans (by assumption) (hbx.mono (Below.size (by assumption))) | exact (Below.refl _ _).trans hbx); obtain ⟨hcx, hfx⟩ := bcell hTx)
    | (go_at_call 53; refine (HM.out _ _ _ _ _ (by assumption) (by assumption)).mono ?_; rintro e x2 ⟨he, hbx⟩; (first | rw [EP0.out] at he | rw [EP1.out] at he); subst he; have hTx : Below s1.heap.size s1 x2 := (by first | exact (Below.refl _ _).drew.trans hbx | exact Below.trans (by assumption) (hbx.mono (Below.size (by assumption))) | exact (Below.refl _ _).trans hbx); obtain ⟨hcx, hfx⟩ := bcell hTx)
    | (go_at_call 55; refine (HC.out _).mono ?_; rintro e x2 ⟨rfl, hbx⟩; have hTx : Below s1.heap.size s1 x2 := (by first | exact (Below.refl _ _).drew.trans hbx | exact Below.trans (by assumption) (hbx.mono (Below.size (by assumption))) | exact (Below.refl _ _).trans hbx); obtain ⟨hcx, hfx⟩ := bcell hTx))) | fail
  all_goals go_wp2_with fail
  all_goals first | go_ret | go_ret2
  all_goals exact ⟨rfl, HF.out _ (by assumption)⟩
set_option maxRecDepth 100000 in
set_option maxHeartbeats 4000000 in
theorem refSign5_any (neg : Bool) (a d : ByteArray) (c : Int) (w : World) (ha : a.size ≤ 140737488351232) (hd : d.size ≤ 140737488351232) (hc : cmpI' (topI (wl neg a d)) 0 = c) :
    Calls Tryz.prog 32 #[.agg #[.bool neg, .string a, .string d]] w fun e w' => e = .returned (.int .i64 c) ∧ Below w.heap.size w w' := by
  have sx := top_size neg a d
  generalize hx : topI (wl neg a d) = x at *
  have HT := Lib.hid (fun w => refTop_any neg a d x w ha hd hx)
  have HC := Lib.hid (fun w => refCmp4_any (zb x) false (zt x) ⟨#[]⟩ c w (by omega) (by decide) (by rw [sI_z, show sI false (Nt.V ⟨#[]⟩) = 0 from by decide, hc]))
  generalize zb x = bx at *
  generalize zt x = tx at *
  clear hx hc ha hd sx
  go_enter Tryz.func32, Tryz.ntmps32
  go_wp2_with fail
  obtain ⟨s3, hws⟩ : ∃ s, s = (w.alloc (.cells #[.bool neg, .string a, .string d] 23)) := ⟨_, rfl⟩
  have hBs : Below w.heap.size w s3 := by rw [hws]; exact ((Below.refl w.heap.size w).alloc (by simp) _)
  obtain ⟨A, hdA⟩ : ∃ b, b = w.heap.size := ⟨_, rfl⟩
  have hsz : s3.heap.size = w.heap.size + 1 := by rw [hws]; simp
  have kA0 : s3.cell? ⟨A, 0, none⟩ = some (.bool neg) := by rw [hws]; simp [go_sem, hdA]
  have kA1 : s3.cell? ⟨A, 1, none⟩ = some (.string a) := by rw [hws]; simp [go_sem, hdA]
  have kA2 : s3.cell? ⟨A, 2, none⟩ = some (.string d) := by rw [hws]; simp [go_sem, hdA]
  have zA : A < s3.heap.size := by omega
  have lA : w.heap.size ≤ A := by have := Nat.le_refl w.heap.size; omega
  rw [← hws]
  try rw [← hdA]
  clear hws hsz hdA
  have hBo := hBs; clear hBs
  refine (HT.out _).mono ?_; rintro e s4 ⟨rfl, hb⟩
  replace kA0 := belK hb kA0 zA; replace kA1 := belK hb kA1 zA; replace kA2 := belK hb kA2 zA; replace zA := Nat.lt_of_lt_of_le zA hb.size
  replace hBo := hBo.trans (hb.mono hBo.size)
  clear hb
  go_wp2_with fail
  refine (HC.out _).mono ?_; rintro e s5 ⟨rfl, hb⟩
  replace kA0 := belK hb kA0 zA; replace kA1 := belK hb kA1 zA; replace kA2 := belK hb kA2 zA; replace zA := Nat.lt_of_lt_of_le zA hb.size
  replace hBo := hBo.trans (hb.mono hBo.size)
  clear hb
  all_goals go_wp2_with fail
  all_goals first | go_ret | go_ret2
  all_goals exact ⟨rfl, hBo⟩
def absR (q : Rt) : Rt := ⟨false, q.num, q.den⟩
set_option maxRecDepth 100000 in
set_option maxHeartbeats 4000000 in
theorem refAbs5_any (neg : Bool) (a d : ByteArray) (q : Rt) (w : World) (ha : a.size ≤ 140737488351232) (hd : d.size ≤ 140737488351232) (hq : absR (wl neg a d) = q) :
    Calls Tryz.prog 33 #[.agg #[.bool neg, .string a, .string d]] w fun e w' => e = .returned (.agg #[.bool (rb q), .string (rn q), .string (rd q)]) ∧ Below w.heap.size w w' := by
  have hw := fun w => refWell5_any neg a d _ w ha hd rfl
  have e1 : rb q = false := by rw [← hq]; rfl
  have e2 : rn (wl neg a d) = rn q := by rw [← hq]; rfl
  have e3 : rd (wl neg a d) = rd q := by rw [← hq]; rfl
  rw [e2, e3] at hw
  rw [e1]
  have HW := Lib.hid hw
  generalize rb (wl neg a d) = b1 at *
  generalize rn q = t1 at *
  generalize rd q = t2 at *
  clear hw e1 e2 e3 hq ha hd
  go_enter Tryz.func33, Tryz.ntmps33
  go_wp2_with fail
  obtain ⟨s6, hws⟩ : ∃ s, s = ((w.alloc (.cells #[.bool neg, .string a, .string d] 23)).alloc (.cells #[.bool false, .string ⟨#[]⟩, .string ⟨#[]⟩] 23)) := ⟨_, rfl⟩
  have hBs : Below w.heap.size w s6 := by rw [hws]; exact (((Below.refl w.heap.size w).alloc (by simp) _).alloc (by simp) _)
  obtain ⟨A, hdA⟩ : ∃ b, b = w.heap.size := ⟨_, rfl⟩
  obtain ⟨C, hdC⟩ : ∃ b, b = w.heap.size + 1 := ⟨_, rfl⟩
  have hsz : s6.heap.size = w.heap.size + 1 + 1 := by rw [hws]; simp
  have dAC : A ≠ C := by omega
  have dCA : C ≠ A := by omega
  have kA0 : s6.cell? ⟨A, 0, none⟩ = some (.bool neg) := by rw [hws]; simp [go_sem, hdA, hdC]
  have fA0 : s6.frozen? ⟨A, 0, none⟩ = false := by rw [hws]; simp [go_sem, hdA, hdC]
  have kA1 : s6.cell? ⟨A, 1, none⟩ = some (.string a) := by rw [hws]; simp [go_sem, hdA, hdC]
  have fA1 : s6.frozen? ⟨A, 1, none⟩ = false := by rw [hws]; simp [go_sem, hdA, hdC]
  have kA2 : s6.cell? ⟨A, 2, none⟩ = some (.string d) := by rw [hws]; simp [go_sem, hdA, hdC]
  have fA2 : s6.frozen? ⟨A, 2, none⟩ = false := by rw [hws]; simp [go_sem, hdA, hdC]
  have zA : A < s6.heap.size := by omega
  have lA : w.heap.size ≤ A := by have := Nat.le_refl w.heap.size; omega
  have kC0 : s6.cell? ⟨C, 0, none⟩ = some (.bool false) := by rw [hws]; simp [go_sem, hdA, hdC]
  have fC0 : s6.frozen? ⟨C, 0, none⟩ = false := by rw [hws]; simp [go_sem, hdA, hdC]
  have kC1 : s6.cell? ⟨C, 1, none⟩ = some (.string ⟨#[]⟩) := by rw [hws]; simp [go_sem, hdA, hdC]
  have fC1 : s6.frozen? ⟨C, 1, none⟩ = false := by rw [hws]; simp [go_sem, hdA, hdC]
  have kC2 : s6.cell? ⟨C, 2, none⟩ = some (.string ⟨#[]⟩) := by rw [hws]; simp [go_sem, hdA, hdC]
  have fC2 : s6.frozen? ⟨C, 2, none⟩ = false := by rw [hws]; simp [go_sem, hdA, hdC]
  have zC : C < s6.heap.size := by omega
  have lC : w.heap.size ≤ C := by have := Nat.le_refl w.heap.size; omega
  rw [← hws]
  try rw [← hdC]
  try rw [← hdA]
  clear hws hsz hdA hdC
  have hBo := hBs; clear hBs
  refine (HW.out _).mono ?_; rintro e s7 ⟨rfl, hb⟩
  replace kA0 := belK hb kA0 zA; replace fA0 := belF hb fA0 zA; replace kA1 := belK hb kA1 zA; replace fA1 := belF hb fA1 zA; replace kA2 := belK hb kA2 zA; replace fA2 := belF hb fA2 zA; replace zA := Nat.lt_of_lt_of_le zA hb.size
  replace kC0 := belK hb kC0 zC; replace fC0 := belF hb fC0 zC; replace kC1 := belK hb kC1 zC; replace fC1 := belF hb fC1 zC; replace kC2 := belK hb kC2 zC; replace fC2 := belF hb fC2 zC; replace zC := Nat.lt_of_lt_of_le zC hb.size
  replace hBo := hBo.trans (hb.mono hBo.size)
  clear hb
  go_wp2_with fail
  refine bodyPost_ret (v := .agg #[.bool false, .string t1, .string t2]) (by simp [results, Tryz.results33, go_sem, kA0, kA1, kA2, kC0, kC1, kC2, zA, zC, dAC, dCA]) rfl ⟨rfl, ?_⟩
  exact (((((hBo.setCell lA _).setCell lA _).setCell lA _).setCell lC _).setCell lC _).setCell lC _
set_option maxRecDepth 100000 in
set_option maxHeartbeats 4000000 in
theorem refOf5_any (n : Int) (q : Rt) (w : World) (h1 : -9223372036854775808 ≤ n) (h2 : n ≤ 9223372036854775807) (hq : mkR n 1 = q) :
    Calls Tryz.prog 20 #[.int .i64 n] w fun e w' => e = .returned (.agg #[.bool (rb q), .string (rn q), .string (rd q)]) ∧ Below w.heap.size w w' := by
  have hs : (zt n).size ≤ 1000 := by
    have : n.natAbs < 256 ^ 8 := by rw [Nt.pow8]; omega
    have := zt_le this
    omega
  have HO : Hid (∀ (m : Int) (w : World), -9223372036854775808 ≤ m → m ≤ 9223372036854775807 → Calls Tryz.prog 54 #[.int .i64 m] w fun e w' => e = .returned (.agg #[.bool (zb m), .string (zt m)]) ∧ Below w.heap.size w w') := fun m w h1 h2 => refOf_z m w h1 h2
  have H1 := Lib.hid (fun w => HO.out n w h1 h2)
  have H2 := Lib.hid (fun w => HO.out 1 w (by omega) (by omega))
  have HK := Lib.hid (fun w => refMake5_any (zb n) (zb 1) (zt n) (zt 1) q (mkE n 1) w hs (by decide) (by rw [sI_z, sI_z, hq]) (by rw [sI_z, sI_z]))
  rw [zb_one, zt_one] at H2 HK
  generalize mkE n 1 = c at *
  generalize zb n = bn at *
  generalize zt n = tn at *
  generalize rb q = b1 at *
  generalize rn q = t1 at *
  generalize rd q = t2 at *
  clear hq h1 h2 hs HO
  go_enter Tryz.func20, Tryz.ntmps20
  go_wp2_with fail
  obtain ⟨s14, hws⟩ : ∃ s, s = (w.alloc (.cells #[.bool false, .string ⟨#[]⟩, .string ⟨#[]⟩] 23)) := ⟨_, rfl⟩
  have hBs : Below w.heap.size w s14 := by rw [hws]; exact ((Below.refl w.heap.size w).alloc (by simp) _)
  obtain ⟨C, hdC⟩ : ∃ b, b = w.heap.size := ⟨_, rfl⟩
  have hsz : s14.heap.size = w.heap.size + 1 := by rw [hws]; simp
  have kC0 : s14.cell? ⟨C, 0, none⟩ = some (.bool false) := by rw [hws]; simp [go_sem, hdC]
  have fC0 : s14.frozen? ⟨C, 0, none⟩ = false := by rw [hws]; simp [go_sem, hdC]
  have kC1 : s14.cell? ⟨C, 1, none⟩ = some (.string ⟨#[]⟩) := by rw [hws]; simp [go_sem, hdC]
  have fC1 : s14.frozen? ⟨C, 1, none⟩ = false := by rw [hws]; simp [go_sem, hdC]
  have kC2 : s14.cell? ⟨C, 2, none⟩ = some (.string ⟨#[]⟩) := by rw [hws]; simp [go_sem, hdC]
  have fC2 : s14.frozen? ⟨C, 2, none⟩ = false := by rw [hws]; simp [go_sem, hdC]
  have zC : C < s14.heap.size := by omega
  have lC : w.heap.size ≤ C := by have := Nat.le_refl w.heap.size; omega
  rw [← hws]
  try rw [← hdC]
  clear hws hsz hdC
  have hBo := hBs; clear hBs
  refine (H1.out _).mono ?_; rintro e s15 ⟨rfl, hb⟩
  replace kC0 := belK hb kC0 zC; replace fC0 := belF hb fC0 zC; replace kC1 := belK hb kC1 zC; replace fC1 := belF hb fC1 zC; replace kC2 := belK hb kC2 zC; replace fC2 := belF hb fC2 zC; replace zC := Nat.lt_of_lt_of_le zC hb.size
  replace hBo := hBo.trans (hb.mono hBo.size)
  clear hb
  go_wp2_with fail
  refine (H2.out _).mono ?_; rintro e s16 ⟨rfl, hb⟩
  replace kC0 := belK hb kC0 zC; replace fC0 := belF hb fC0 zC; replace kC1 := belK hb kC1 zC; replace fC1 := belF hb fC1 zC; replace kC2 := belK hb kC2 zC; replace fC2 := belF hb fC2 zC; replace zC := Nat.lt_of_lt_of_le zC hb.size
  replace hBo := hBo.trans (hb.mono hBo.size)
  clear hb
  go_wp2_with fail
  refine (HK.out _).mono ?_; rintro e s17 ⟨rfl, hb⟩
  replace kC0 := belK hb kC0 zC; replace fC0 := belF hb fC0 zC; replace kC1 := belK hb kC1 zC; replace fC1 := belF hb fC1 zC; replace kC2 := belK hb kC2 zC; replace fC2 := belF hb fC2 zC; replace zC := Nat.lt_of_lt_of_le zC hb.size
  replace hBo := hBo.trans (hb.mono hBo.size)
  clear hb
  go_wp2_with fail
  refine bodyPost_ret (v := .agg #[.bool b1, .string t1, .string t2]) (by simp [results, Tryz.results20, go_sem, kC0, kC1, kC2, zC]) rfl ⟨rfl, ?_⟩
  exact (((hBo.setCell lC _).setCell lC _).setCell lC _).alloc (by simp; exact hBo.size) _
end Go.Proofs.YtbgmnpabclfjaaaGreatDoor
