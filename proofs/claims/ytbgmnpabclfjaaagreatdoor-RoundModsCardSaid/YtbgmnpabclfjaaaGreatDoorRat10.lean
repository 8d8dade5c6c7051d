/-
  NUMBERS IN THE DOCUMENT: of whole ones; sums, products, quotients; held against each other; opposites, amounts, signs.
-/
import Derived.Test.YtbgmnpabclfjaaaGreatDoorRat9
namespace Go.Proofs.YtbgmnpabclfjaaaGreatDoor
open Go.RowKit Go.Shelf
set_option linter.unusedSimpArgs false
set_option linter.unusedVariables false

theorem refTop_g (neg : Bool) (a d : ByteArray) (w : World) (ha : a.size ≤ 140737488351232) (hd : d.size ≤ 140737488351232) :
    Calls Tryz.prog 40 #[.agg #[.bool neg, .string a, .string d]] w fun e w' => e = .returned (.agg #[.bool (zb (topI (wl neg a d))), .string (zt (topI (wl neg a d)))]) ∧ Below w.heap.size w w' := refTop_any neg a d _ w ha hd rfl
theorem refLow_g (neg : Bool) (a d : ByteArray) (w : World) (ha : a.size ≤ 140737488351232) (hd : d.size ≤ 140737488351232) :
    Calls Tryz.prog 46 #[.agg #[.bool neg, .string a, .string d]] w fun e w' => e = .returned (.agg #[.bool (zb (lowI (wl neg a d))), .string (zt (lowI (wl neg a d)))]) ∧ Below w.heap.size w w' := refLow_any neg a d _ w ha hd rfl
theorem refMul_g (n1 n2 : Bool) (m1 m2 : ByteArray) (w : World) (h1 : m1.size ≤ 1000) (h2 : m2.size ≤ 1000) :
    Calls Tryz.prog 53 #[.agg #[.bool n1, .string m1], .agg #[.bool n2, .string m2]] w fun e w' => e = .returned (.agg #[.bool (zb (sI n1 (Nt.V m1) * sI n2 (Nt.V m2))), .string (zt (sI n1 (Nt.V m1) * sI n2 (Nt.V m2)))]) ∧ Below w.heap.size w w' := refMul4_any n1 n2 m1 m2 _ w h1 h2 rfl
theorem top_size (neg : Bool) (a d : ByteArray) : (zt (topI (wl neg a d))).size ≤ 32 := by rw [zt_top]; exact rn_size (wl_ok _ _ _)
theorem low_size (neg : Bool) (a d : ByteArray) : (zt (lowI (wl neg a d))).size ≤ 32 := by rw [zt_low]; exact rd_size (wl_ok _ _ _)

set_option maxRecDepth 100000 in
set_option maxHeartbeats 16000000 in
theorem refDiv5_any (n1 n2 : Bool) (a1 d1 a2 d2 : ByteArray) (q : Rt) (c : Int) (w : World) (ha1 : a1.size ≤ 140737488351232) (hd1 : d1.size ≤ 140737488351232) (ha2 : a2.size ≤ 140737488351232) (hd2 : d2.size ≤ 140737488351232)
    (hq : mkR (topI (wl n1 a1 d1) * lowI (wl n2 a2 d2)) (lowI (wl n1 a1 d1) * topI (wl n2 a2 d2)) = q) (hc : mkE (topI (wl n1 a1 d1) * lowI (wl n2 a2 d2)) (lowI (wl n1 a1 d1) * topI (wl n2 a2 d2)) = c) :
    Calls Tryz.prog 65 #[.agg #[.bool n1, .string a1, .string d1], .agg #[.bool n2, .string a2, .string d2]] w fun e w' => e = .returned (.tuple #[.agg #[.bool (rb q), .string (rn q), .string (rd q)], .int .i64 c]) ∧ Below w.heap.size w w' := by
  have HT := Lib.hid refTop_g
  have HL := Lib.hid refLow_g
  have HM := Lib.hid refMul_g
  have sT1 := Nat.le_trans (top_size n1 a1 d1) (by omega : 32 ≤ 1000)
  have sT2 := Nat.le_trans (top_size n2 a2 d2) (by omega : 32 ≤ 1000)
  have sL1 := Nat.le_trans (low_size n1 a1 d1) (by omega : 32 ≤ 1000)
  have sL2 := Nat.le_trans (low_size n2 a2 d2) (by omega : 32 ≤ 1000)
  have szp : ∀ x y : Int, (zt x).size ≤ 32 → (zt y).size ≤ 32 → (zt (x * y)).size ≤ 64 := fun x y h1 h2 => Nat.le_trans (zt_mul_size x y) (by omega)
  have sp0 := szp _ _ (top_size n1 a1 d1) (low_size n2 a2 d2)
  have sl := szp _ _ (low_size n1 a1 d1) (top_size n2 a2 d2)
  generalize hT1 : topI (wl n1 a1 d1) = T1 at *
  generalize hT2 : topI (wl n2 a2 d2) = T2 at *
  generalize hL1 : lowI (wl n1 a1 d1) = L1 at *
  generalize hL2 : lowI (wl n2 a2 d2) = L2 at *
  generalize hp0 : T1 * L2 = p0 at *
  generalize hl : L1 * T2 = l at *
  have HK := Lib.hid (fun w => refMake5_any (zb p0) (zb l) (zt p0) (zt l) q c w (by omega) (by omega) (by rw [sI_z, sI_z, hq]) (by rw [sI_z, sI_z, hc]))
  have ET1 := Lib.hid hT1
  have ET2 := Lib.hid hT2
  have EL1 := Lib.hid hL1
  have EL2 := Lib.hid hL2
  have EP0 : Hid (sI (zb T1) (Nt.V (zt T1)) * sI (zb L2) (Nt.V (zt L2)) = p0) := by rw [Hid, sI_z, sI_z, hp0]
  have EL : Hid (sI (zb L1) (Nt.V (zt L1)) * sI (zb T2) (Nt.V (zt T2)) = l) := by rw [Hid, sI_z, sI_z, hl]
  clear hq hc hl szp sl hT1 hT2 hL1 hL2 hp0 sp0
  go_enter Tryz.func65, Tryz.ntmps65
  go_wp2_with fail
  obtain ⟨s3, hws⟩ : ∃ s, s = (((w.alloc (.cells #[.bool n1, .string a1, .string d1] 23)).alloc (.cells #[.bool n2, .string a2, .string d2] 23)).alloc (.cells #[.bool false, .string ⟨#[]⟩, .string ⟨#[]⟩] 23)) := ⟨_, rfl⟩
  have hBs : Below w.heap.size w s3 := by rw [hws]; exact ((((Below.refl w.heap.size w).alloc (by simp) _).alloc (by simp) _).alloc (by simp; omega) _)
  obtain ⟨A, hdA⟩ : ∃ b, b = w.heap.size := ⟨_, rfl⟩
  obtain ⟨B, hdB⟩ : ∃ b, b = w.heap.size + 1 := ⟨_, rfl⟩
  obtain ⟨C, hdC⟩ : ∃ b, b = w.heap.size + 1 + 1 := ⟨_, rfl⟩
  have hsz : s3.heap.size = w.heap.size + 1 + 1 + 1 := by rw [hws]; simp
  have dCA : C ≠ A := by omega
  have dCB : C ≠ B := by omega
  have kA0 : s3.cell? ⟨A, 0, none⟩ = some (.bool n1) := by rw [hws]; simp [go_sem, hdA, hdB, hdC]
  have kA1 : s3.cell? ⟨A, 1, none⟩ = some (.string a1) := by rw [hws]; simp [go_sem, hdA, hdB, hdC]
  have kA2 : s3.cell? ⟨A, 2, none⟩ = some (.string d1) := by rw [hws]; simp [go_sem, hdA, hdB, hdC]
  have zA : A < s3.heap.size := by omega
  have lA : w.heap.size ≤ A := by have := Nat.le_refl w.heap.size; omega
  have kB0 : s3.cell? ⟨B, 0, none⟩ = some (.bool n2) := by rw [hws]; simp [go_sem, hdA, hdB, hdC]
  have kB1 : s3.cell? ⟨B, 1, none⟩ = some (.string a2) := by rw [hws]; simp [go_sem, hdA, hdB, hdC]
  have kB2 : s3.cell? ⟨B, 2, none⟩ = some (.string d2) := by rw [hws]; simp [go_sem, hdA, hdB, hdC]
  have zB : B < s3.heap.size := by omega
  have lB : w.heap.size ≤ B := by have := Nat.le_refl w.heap.size; omega
  have kC0 : s3.cell? ⟨C, 0, none⟩ = some (.bool false) := by rw [hws]; simp [go_sem, hdA, hdB, hdC]
  have fC0 : s3.frozen? ⟨C, 0, none⟩ = false := by rw [hws]; simp [go_sem, hdA, hdB, hdC]
  have kC1 : s3.cell? ⟨C, 1, none⟩ = some (.string ⟨#[]⟩) := by rw [hws]; simp [go_sem, hdA, hdB, hdC]
  have fC1 : s3.frozen? ⟨C, 1, none⟩ = false := by rw [hws]; simp [go_sem, hdA, hdB, hdC]
  have kC2 : s3.cell? ⟨C, 2, none⟩ = some (.string ⟨#[]⟩) := by rw [hws]; simp [go_sem, hdA, hdB, hdC]
  have fC2 : s3.frozen? ⟨C, 2, none⟩ = false := by rw [hws]; simp [go_sem, hdA, hdB, hdC]
  have zC : C < s3.heap.size := by omega
  have lC : w.heap.size ≤ C := by have := Nat.le_refl w.heap.size; omega
  rw [← hws]
  try rw [← hdC]
  try rw [← hdB]
  try rw [← hdA]
  clear hws hsz hdA hdB hdC
  have hBo := hBs; clear hBs
  have HF : Hid (∀ W, Below s3.heap.size s3 W → Below w.heap.size w W) := fun W hW => hBo.trans (hW.mono hBo.size)
  clear hBo
  first | (go_region_held3 (fun w' => w'.cell? ⟨A, 0, none⟩ = some (.bool n1) ∧ w'.cell? ⟨A, 1, none⟩ = some (.string a1) ∧ w'.cell? ⟨A, 2, none⟩ = some (.string d1) ∧ w'.cell? ⟨B, 0, none⟩ = some (.bool n2) ∧ w'.cell? ⟨B, 1, none⟩ = some (.string a2) ∧ w'.cell? ⟨B, 2, none⟩ = some (.string d2))
    (go_keep) (first
    | (go_at_call 40; refine (HT.out _ _ _ _ (by assumption) (by assumption)).mono ?_; rintro e x4 ⟨he, hbx⟩; (first | rw [ET1.out] at he | rw [ET2.out] at he); subst he; have hTx : Below s3.heap.size s3 x4 := (by first | exact (Below.refl _ _).drew.trans hbx | exact Below.trans (by assumption) (hbx.mono (Below.size (by assumption))) | exact (Below.refl _ _).trans hbx); obtain ⟨hcx, hfx⟩ := bcell hTx)
    | (go_at_call 46; refine (HL.out _ _ _ _ (by assumption) (by assumption)).mono ?_; rintro e x4 ⟨he, hbx⟩; (first | rw [EL1.out] at he | rw [EL2.out] at he); subst he; have hTx : Below s3.heap.size s3 x4 := (by first | exact (Below.refl _ _).drew.trans hbx | exact Below.trans (by assumption) (hbx.mono (Below.size (by assumption))) | exact (Below.refl _ _).trans hbx); obtain ⟨hcx, hfx⟩ := bcell hTx)
    | (go_at_call 53; refine (HM.out _ _ _ _ _ (by assumption) (by assumption)).mono ?_; rintro e x4 ⟨he, hbx⟩; (first | rw [EP0.out] at he | rw [EL.out] at he); subst he; have hTx : Below s3.heap.size s3 x4 := (by first | exact (Below.refl _ _).drew.trans hbx | exact Below.trans (by assumption) (hbx.mono (Below.size (by assumption))) | exact (Below.refl _ _).trans hbx); obtain ⟨hcx, hfx⟩ := bcell hTx)
    | (go_at_call 44; refine (HK.out _).mono ?_; rintro e x4 ⟨rfl, hbx⟩; have hTx : Below s3.heap.size s3 x4 := (by first | exact (Below.refl _ _).drew.trans hbx | exact Below.trans (by assumption) (hbx.mono (Below.size (by assumption))) | exact (Below.refl _ _).trans hbx); obtain ⟨hcx, hfx⟩ := bcell hTx))) | fail
  all_goals go_wp2_with fail
  all_goals refine bodyPost_ret (v := .tuple #[.agg #[.bool (rb q), .string (rn q), .string (rd q)], .int .i64 c]) (by simp [results, Tryz.results65, go_sem, hcx, kC0, kC1, kC2, zC]) rfl ⟨rfl, ?_⟩
  all_goals exact ((((HF.out _ (by assumption)).setCell lC _).setCell lC _).setCell lC _)

end Go.Proofs.YtbgmnpabclfjaaaGreatDoor
