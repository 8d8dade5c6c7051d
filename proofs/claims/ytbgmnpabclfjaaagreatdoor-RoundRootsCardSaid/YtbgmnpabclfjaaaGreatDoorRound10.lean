/-
 ROOTS OF NUMBERS, WALKED: the document's.
-/
import Derived.Test.YtbgmnpabclfjaaaGreatDoorRound8
namespace Go.Proofs.YtbgmnpabclfjaaaGreatDoor
open Go.RowKit Go.Shelf
set_option linter.unusedSimpArgs false
set_option linter.unusedVariables false

set_option maxRecDepth 100000 in
set_option maxHeartbeats 16000000 in
theorem refRoot6_any (neg : Bool) (a d : ByteArray) (q : Rt) (b : Bool) (w : World) (ha : a.size ≤ 140737488351232) (hd : d.size ≤ 140737488351232) (hq : rootR (wl neg a d) = q) (hb : rootOkB (wl neg a d) = b) :
   Calls Tryz.prog 35 #[.agg #[.bool neg, .string a, .string d]] w fun e w' => e = .returned (.tuple #[.agg #[.bool (rb q), .string (rn q), .string (rd q)], .bool b]) ∧ Below w.heap.size w w' := by
 have hsg := fun w => refSign5_any neg a d _ w ha hd rfl
 have hT := fun w => refTop_g neg a d w ha hd
 have hL := fun w => refLow_g neg a d w ha hd
 have hW := fun w => refWell5_any neg a d _ w ha hd rfl
 have hok := wl_ok neg a d
 generalize wl neg a d = Q at *
 by_cases hx : topI Q < 0
 · have hn : Q.neg = true := (topI_neg hok).1 hx
   have hno := root_not (q := Q) (fun h => by rw [h.1] at hn; cases hn)
   rw [root_no hno] at hq
   rw [hno] at hb
   subst hq hb
   rw [rz.1, rz.2.1, rz.2.2]
   rw [show cmpI' (topI Q) 0 = -1 from by unfold cmpI'; rw [if_pos hx]] at hsg
   have HS := Lib.hid hsg
   clear hsg hT hL hW hok hx hn hno ha hd
   go_enter Tryz.func35, Tryz.ntmps35
   go_wp2_with fail
   obtain ⟨s1, hws⟩ : ∃ s, s = ((w.alloc (.cells #[.bool neg, .string a, .string d] 23)).alloc (.cells #[.bool false, .string ⟨#[]⟩, .string ⟨#[]⟩] 23)) := ⟨_, rfl⟩
   have hBs : Below w.heap.size w s1 := by rw [hws]; exact (((Below.refl w.heap.size w).alloc (by simp) _).alloc (by simp) _)
   obtain ⟨A, hdA⟩ : ∃ b, b = w.heap.size := ⟨_, rfl⟩
   obtain ⟨C, hdC⟩ : ∃ b, b = w.heap.size + 1 := ⟨_, rfl⟩
   have hsz : s1.heap.size = w.heap.size + 1 + 1 := by rw [hws]; simp
   have dCA : C ≠ A := by omega
   have kA0 : s1.cell? ⟨A, 0, none⟩ = some (.bool neg) := by rw [hws]; simp [go_sem, hdA, hdC]
   have kA1 : s1.cell? ⟨A, 1, none⟩ = some (.string a) := by rw [hws]; simp [go_sem, hdA, hdC]
   have kA2 : s1.cell? ⟨A, 2, none⟩ = some (.string d) := by rw [hws]; simp [go_sem, hdA, hdC]
   have zA : A < s1.heap.size := by omega
   have lA : w.heap.size ≤ A := by have := Nat.le_refl w.heap.size; omega
   have kC0 : s1.cell? ⟨C, 0, none⟩ = some (.bool false) := by rw [hws]; simp [go_sem, hdA, hdC]
   have fC0 : s1.frozen? ⟨C, 0, none⟩ = false := by rw [hws]; simp [go_sem, hdA, hdC]
   have kC1 : s1.cell? ⟨C, 1, none⟩ = some (.string ⟨#[]⟩) := by rw [hws]; simp [go_sem, hdA, hdC]
   have fC1 : s1.frozen? ⟨C, 1, none⟩ = false := by rw [hws]; simp [go_sem, hdA, hdC]
   have kC2 : s1.cell? ⟨C, 2, none⟩ = some (.string ⟨#[]⟩) := by rw [hws]; simp [go_sem, hdA, hdC]
   have fC2 : s1.frozen? ⟨C, 2, none⟩ = false := by rw [hws]; simp [go_sem, hdA, hdC]
   have zC : C < s1.heap.size := by omega
   have lC : w.heap.size ≤ C := by have := Nat.le_refl w.heap.size; omega
   rw [← hws]
   try rw [← hdC]
   try rw [← hdA]
   clear hws hsz hdA hdC
   have hBo := hBs; clear hBs
   refine (HS.out _).mono ?_; rintro e s2 ⟨rfl, hb⟩
   replace kA0 := belK hb kA0 zA; replace kA1 := belK hb kA1 zA; replace kA2 := belK hb kA2 zA; replace zA := Nat.lt_of_lt_of_le zA hb.size
   replace kC0 := belK hb kC0 zC; replace fC0 := belF hb fC0 zC; replace kC1 := belK hb kC1 zC; replace fC1 := belF hb fC1 zC; replace kC2 := belK hb kC2 zC; replace fC2 := belF hb fC2 zC; replace zC := Nat.lt_of_lt_of_le zC hb.size
   replace hBo := hBo.trans (hb.mono hBo.size)
   clear hb
   all_goals go_wp2_with fail
   all_goals refine bodyPost_ret (v := .tuple #[.agg #[.bool false, .string ⟨#[]⟩, .string ⟨#[]⟩], .bool false]) (by simp [results, Tryz.results35, go_sem, kC0, kC1, kC2, zC]) rfl ⟨rfl, ?_⟩
   all_goals exact (((hBo.setCell lC _).setCell lC _).setCell lC _)
 have hn : Q.neg = false := by
   cases h : Q.neg with
   | false => rfl
   | true => exact absurd ((topI_neg hok).2 h) hx
 have hc0 : ¬ cmpI' (topI Q) 0 < 0 := by unfold cmpI'; rw [if_neg hx]; split <;> omega
 obtain ⟨r1, r2, r3, r4, r5⟩ := root_doc hok hn
 rw [zt_top] at hT
 rw [zt_low] at hL
 have sN : (rn Q).size ≤ 32 := rn_size hok
 have sD : (rd Q).size ≤ 32 := rd_size hok
 have h1 := fun w => refRootFn_any (rn Q) w (by omega)
 have h2 := fun w => refRootFn_any (rd Q) w (by omega)
 rw [show Nt.V (rn Q) = Q.num from Nt.V_E _] at h1
 rw [show Nt.V (rd Q) = Q.den from Nt.V_E _] at h2
 have s1 : (zt (Nt.rt Q.num : Int)).size ≤ 32 := by rw [zt_cast]; exact Nat.le_trans (Nt.E_size_le (rt_le _)) sN
 have s2 : (zt (Nt.rt Q.den : Int)).size ≤ 32 := by rw [zt_cast]; exact Nat.le_trans (Nt.E_size_le (rt_le _)) sD
 have h3 := fun w => refMake_z false (Nt.E (Nt.rt Q.num)) (Nt.rt Q.num : Int) w (by rw [Nt.V_E]; rfl)
 have h4 := fun w => refMake_z false (Nt.E (Nt.rt Q.den)) (Nt.rt Q.den : Int) w (by rw [Nt.V_E]; rfl)
 have h5 := fun w => refMake5_any (zb (Nt.rt Q.num : Int)) (zb (Nt.rt Q.den : Int)) (zt (Nt.rt Q.num : Int)) (zt (Nt.rt Q.den : Int)) _ _ w (by omega) (by omega) (by rw [sI_z, sI_z]) (by rw [sI_z, sI_z])
 rw [r1] at h5
 generalize mkR (Nt.rt Q.num : Int) (Nt.rt Q.den : Int) = X at *
 have h6 := fun w => refMul5b_any (rb X) (rb X) (rn X) (rd X) (rn X) (rd X) _ _ w (by have := rn_size r2; omega) (by have := rd_size r2; omega) (by have := rn_size r2; omega) (by have := rd_size r2; omega) rfl rfl
 rw [wl_of_ok r2, r3] at h6
 generalize mkR (topI X * topI X) (lowI X * lowI X) = Y at *
 have F1 := fW1 (zb (topI Q)) (rn Q)
 have F2 := fW1 (zb (lowI Q)) (rd Q)
 have HS := Lib.hid hsg
 have HT := Lib.hid hT
 have HL := Lib.hid hL
 have H1 := Lib.hid h1
 have H2 := Lib.hid h2
 have H3 := Lib.hid h3
 have H4 := Lib.hid h4
 have H5 := Lib.hid h5
 have H6 := Lib.hid h6
 clear hsg hT hL h1 h2 h3 h4 h5 h6 r1 r3 hx ha hd
 generalize cmpI' (topI Q) 0 = sg at *
 generalize zb (topI Q) = bT at *
 generalize zb (lowI Q) = bL at *
 cases hy : rootOkB Q with
 | true =>
   obtain ⟨g1, g2⟩ := r4 hy
   rw [hy] at hb
   subst hb
   rw [← hq, ← g1]
   rw [g2] at H6
   have HW := Lib.hid hW
   clear r4 r5 hy g1 g2 hW hq r2 hok hn s1 s2 sN sD
   generalize zb (Nt.rt Q.num : Int) = b1 at *
   generalize zt (Nt.rt Q.num : Int) = t1 at *
   generalize zb (Nt.rt Q.den : Int) = b2 at *
   generalize zt (Nt.rt Q.den : Int) = t2 at *
   go_enter Tryz.func35, Tryz.ntmps35
   go_wp2_with fail
   obtain ⟨s3, hws⟩ : ∃ s, s = ((w.alloc (.cells #[.bool neg, .string a, .string d] 23)).alloc (.cells #[.bool false, .string ⟨#[]⟩, .string ⟨#[]⟩] 23)) := ⟨_, rfl⟩
   have hBs : Below w.heap.size w s3 := by rw [hws]; exact (((Below.refl w.heap.size w).alloc (by simp) _).alloc (by simp) _)
   obtain ⟨A, hdA⟩ : ∃ b, b = w.heap.size := ⟨_, rfl⟩
   obtain ⟨C, hdC⟩ : ∃ b, b = w.heap.size + 1 := ⟨_, rfl⟩
   have hsz : s3.heap.size = w.heap.size + 1 + 1 := by rw [hws]; simp
   have dCA : C ≠ A := by omega
   have kA0 : s3.cell? ⟨A, 0, none⟩ = some (.bool neg) := by rw [hws]; simp [go_sem, hdA, hdC]
   have kA1 : s3.cell? ⟨A, 1, none⟩ = some (.string a) := by rw [hws]; simp [go_sem, hdA, hdC]
   have kA2 : s3.cell? ⟨A, 2, none⟩ = some (.string d) := by rw [hws]; simp [go_sem, hdA, hdC]
   have zA : A < s3.heap.size := by omega
   have lA : w.heap.size ≤ A := by have := Nat.le_refl w.heap.size; omega
   have kC0 : s3.cell? ⟨C, 0, none⟩ = some (.bool false) := by rw [hws]; simp [go_sem, hdA, hdC]
   have fC0 : s3.frozen? ⟨C, 0, none⟩ = false := by rw [hws]; simp [go_sem, hdA, hdC]
   have kC1 : s3.cell? ⟨C, 1, none⟩ = some (.string ⟨#[]⟩) := by rw [hws]; simp [go_sem, hdA, hdC]
   have fC1 : s3.frozen? ⟨C, 1, none⟩ = false := by rw [hws]; simp [go_sem, hdA, hdC]
   have kC2 : s3.cell? ⟨C, 2, none⟩ = some (.string ⟨#[]⟩) := by rw [hws]; simp [go_sem, hdA, hdC]
   have fC2 : s3.frozen? ⟨C, 2, none⟩ = false := by rw [hws]; simp [go_sem, hdA, hdC]
   have zC : C < s3.heap.size := by omega
   have lC : w.heap.size ≤ C := by have := Nat.le_refl w.heap.size; omega
   rw [← hws]
   try rw [← hdC]
   try rw [← hdA]
   clear hws hsz hdA hdC
   have hBo := hBs; clear hBs
   refine (HS.out _).mono ?_; rintro e s4 ⟨rfl, hb⟩
   replace kA0 := belK hb kA0 zA; replace kA1 := belK hb kA1 zA; replace kA2 := belK hb kA2 zA; replace zA := Nat.lt_of_lt_of_le zA hb.size
   replace kC0 := belK hb kC0 zC; replace fC0 := belF hb fC0 zC; replace kC1 := belK hb kC1 zC; replace fC1 := belF hb fC1 zC; replace kC2 := belK hb kC2 zC; replace fC2 := belF hb fC2 zC; replace zC := Nat.lt_of_lt_of_le zC hb.size
   replace hBo := hBo.trans (hb.mono hBo.size)
   clear hb
   go_wp2_with fail
   refine (HT.out _).mono ?_; rintro e s5 ⟨rfl, hb⟩
   replace kA0 := belK hb kA0 zA; replace kA1 := belK hb kA1 zA; replace kA2 := belK hb kA2 zA; replace zA := Nat.lt_of_lt_of_le zA hb.size
   replace kC0 := belK hb kC0 zC; replace fC0 := belF hb fC0 zC; replace kC1 := belK hb kC1 zC; replace fC1 := belF hb fC1 zC; replace kC2 := belK hb kC2 zC; replace fC2 := belF hb fC2 zC; replace zC := Nat.lt_of_lt_of_le zC hb.size
   replace hBo := hBo.trans (hb.mono hBo.size)
   clear hb
   go_wp2_with fail
   refine (H1.out _).mono ?_; rintro e s6 ⟨rfl, hb⟩
   replace kA0 := belK hb kA0 zA; replace kA1 := belK hb kA1 zA; replace kA2 := belK hb kA2 zA; replace zA := Nat.lt_of_lt_of_le zA hb.size
   replace kC0 := belK hb kC0 zC; replace fC0 := belF hb fC0 zC; replace kC1 := belK hb kC1 zC; replace fC1 := belF hb fC1 zC; replace kC2 := belK hb kC2 zC; replace fC2 := belF hb fC2 zC; replace zC := Nat.lt_of_lt_of_le zC hb.size
   replace hBo := hBo.trans (hb.mono hBo.size)
   clear hb
   go_wp2_with fail
   refine (H3.out _).mono ?_; rintro e s7 ⟨rfl, hb⟩
   replace kA0 := belK hb kA0 zA; replace kA1 := belK hb kA1 zA; replace kA2 := belK hb kA2 zA; replace zA := Nat.lt_of_lt_of_le zA hb.size
   replace kC0 := belK hb kC0 zC; replace fC0 := belF hb fC0 zC; replace kC1 := belK hb kC1 zC; replace fC1 := belF hb fC1 zC; replace kC2 := belK hb kC2 zC; replace fC2 := belF hb fC2 zC; replace zC := Nat.lt_of_lt_of_le zC hb.size
   replace hBo := hBo.trans (hb.mono hBo.size)
   clear hb
   go_wp2_with fail
   obtain ⟨s8, hws⟩ : ∃ s, s = (s7.alloc (.cells #[.bool b1, .string t1] 44)) := ⟨_, rfl⟩
   have hBs : Below w.heap.size w s8 := by rw [hws]; exact ((hBo).alloc (by exact hBo.size) _)
   obtain ⟨U, hdU⟩ : ∃ b, b = s7.heap.size := ⟨_, rfl⟩
   have hsz : s8.heap.size = s7.heap.size + 1 := by rw [hws]; simp
   have dCU : C ≠ U := by omega
   have hQC : ∀ p v, s7.cell? p = some v → s8.cell? p = some v := fun p v h => by rw [hws]; exact (alK h)
   have hQZ : ∀ b, b < s7.heap.size → b < s8.heap.size := fun b h => by omega
   have hQF : ∀ b j, b < s7.heap.size → s7.frozen? ⟨b, j, none⟩ = false → s8.frozen? ⟨b, j, none⟩ = false := fun b j z h => by rw [hws]; exact (alF z h)
   replace kA0 := hQC _ _ kA0; replace kA1 := hQC _ _ kA1; replace kA2 := hQC _ _ kA2; replace zA := hQZ _ zA
   replace kC0 := hQC _ _ kC0; replace fC0 := hQF _ _ zC fC0; replace kC1 := hQC _ _ kC1; replace fC1 := hQF _ _ zC fC1; replace kC2 := hQC _ _ kC2; replace fC2 := hQF _ _ zC fC2; replace zC := hQZ _ zC
   clear hQC hQZ hQF
   have kU0 : s8.cell? ⟨U, 0, none⟩ = some (.bool b1) := by rw [hws]; simp [go_sem, hdU]
   have kU1 : s8.cell? ⟨U, 1, none⟩ = some (.string t1) := by rw [hws]; simp [go_sem, hdU]
   have zU : U < s8.heap.size := by omega
   have lU : w.heap.size ≤ U := by have := hBo.size; omega
   rw [← hws]
   try rw [← hdU]
   clear hBo
   clear hws hsz hdU
   have hBo := hBs; clear hBs
   refine (HL.out _).mono ?_; rintro e s9 ⟨rfl, hb⟩
   replace kA0 := belK hb kA0 zA; replace kA1 := belK hb kA1 zA; replace kA2 := belK hb kA2 zA; replace zA := Nat.lt_of_lt_of_le zA hb.size
   replace kC0 := belK hb kC0 zC; replace fC0 := belF hb fC0 zC; replace kC1 := belK hb kC1 zC; replace fC1 := belF hb fC1 zC; replace kC2 := belK hb kC2 zC; replace fC2 := belF hb fC2 zC; replace zC := Nat.lt_of_lt_of_le zC hb.size
   replace kU0 := belK hb kU0 zU; replace kU1 := belK hb kU1 zU; replace zU := Nat.lt_of_lt_of_le zU hb.size
   replace hBo := hBo.trans (hb.mono hBo.size)
   clear hb
   go_wp2_with fail
   refine (H2.out _).mono ?_; rintro e s10 ⟨rfl, hb⟩
   replace kA0 := belK hb kA0 zA; replace kA1 := belK hb kA1 zA; replace kA2 := belK hb kA2 zA; replace zA := Nat.lt_of_lt_of_le zA hb.size
   replace kC0 := belK hb kC0 zC; replace fC0 := belF hb fC0 zC; replace kC1 := belK hb kC1 zC; replace fC1 := belF hb fC1 zC; replace kC2 := belK hb kC2 zC; replace fC2 := belF hb fC2 zC; replace zC := Nat.lt_of_lt_of_le zC hb.size
   replace kU0 := belK hb kU0 zU; replace kU1 := belK hb kU1 zU; replace zU := Nat.lt_of_lt_of_le zU hb.size
   replace hBo := hBo.trans (hb.mono hBo.size)
   clear hb
   go_wp2_with fail
   refine (H4.out _).mono ?_; rintro e s11 ⟨rfl, hb⟩
   replace kA0 := belK hb kA0 zA; replace kA1 := belK hb kA1 zA; replace kA2 := belK hb kA2 zA; replace zA := Nat.lt_of_lt_of_le zA hb.size
   replace kC0 := belK hb kC0 zC; replace fC0 := belF hb fC0 zC; replace kC1 := belK hb kC1 zC; replace fC1 := belF hb fC1 zC; replace kC2 := belK hb kC2 zC; replace fC2 := belF hb fC2 zC; replace zC := Nat.lt_of_lt_of_le zC hb.size
   replace kU0 := belK hb kU0 zU; replace kU1 := belK hb kU1 zU; replace zU := Nat.lt_of_lt_of_le zU hb.size
   replace hBo := hBo.trans (hb.mono hBo.size)
   clear hb
   go_wp2_with fail
   obtain ⟨s12, hws⟩ : ∃ s, s = (s11.alloc (.cells #[.bool b2, .string t2] 44)) := ⟨_, rfl⟩
   have hBs : Below w.heap.size w s12 := by rw [hws]; exact ((hBo).alloc (by exact hBo.size) _)
   obtain ⟨V, hdV⟩ : ∃ b, b = s11.heap.size := ⟨_, rfl⟩
   have hsz : s12.heap.size = s11.heap.size + 1 := by rw [hws]; simp
   have dCV : C ≠ V := by omega
   have hQC : ∀ p v, s11.cell? p = some v → s12.cell? p = some v := fun p v h => by rw [hws]; exact (alK h)
   have hQZ : ∀ b, b < s11.heap.size → b < s12.heap.size := fun b h => by omega
   have hQF : ∀ b j, b < s11.heap.size → s11.frozen? ⟨b, j, none⟩ = false → s12.frozen? ⟨b, j, none⟩ = false := fun b j z h => by rw [hws]; exact (alF z h)
   replace kA0 := hQC _ _ kA0; replace kA1 := hQC _ _ kA1; replace kA2 := hQC _ _ kA2; replace zA := hQZ _ zA
   replace kC0 := hQC _ _ kC0; replace fC0 := hQF _ _ zC fC0; replace kC1 := hQC _ _ kC1; replace fC1 := hQF _ _ zC fC1; replace kC2 := hQC _ _ kC2; replace fC2 := hQF _ _ zC fC2; replace zC := hQZ _ zC
   replace kU0 := hQC _ _ kU0; replace kU1 := hQC _ _ kU1; replace zU := hQZ _ zU
   clear hQC hQZ hQF
   have kV0 : s12.cell? ⟨V, 0, none⟩ = some (.bool b2) := by rw [hws]; simp [go_sem, hdV]
   have kV1 : s12.cell? ⟨V, 1, none⟩ = some (.string t2) := by rw [hws]; simp [go_sem, hdV]
   have zV : V < s12.heap.size := by omega
   have lV : w.heap.size ≤ V := by have := hBo.size; omega
   rw [← hws]
   try rw [← hdV]
   clear hBo
   clear hws hsz hdV
   have hBo := hBs; clear hBs
   refine (H5.out _).mono ?_; rintro e s13 ⟨rfl, hb⟩
   replace kA0 := belK hb kA0 zA; replace kA1 := belK hb kA1 zA; replace kA2 := belK hb kA2 zA; replace zA := Nat.lt_of_lt_of_le zA hb.size
   replace kC0 := belK hb kC0 zC; replace fC0 := belF hb fC0 zC; replace kC1 := belK hb kC1 zC; replace fC1 := belF hb fC1 zC; replace kC2 := belK hb kC2 zC; replace fC2 := belF hb fC2 zC; replace zC := Nat.lt_of_lt_of_le zC hb.size
   replace kU0 := belK hb kU0 zU; replace kU1 := belK hb kU1 zU; replace zU := Nat.lt_of_lt_of_le zU hb.size
   replace kV0 := belK hb kV0 zV; replace kV1 := belK hb kV1 zV; replace zV := Nat.lt_of_lt_of_le zV hb.size
   replace hBo := hBo.trans (hb.mono hBo.size)
   clear hb
   go_wp2_with fail
   obtain ⟨s14, hws⟩ : ∃ s, s = (s13.alloc (.cells #[.bool (rb X), .string (rn X), .string (rd X)] 23)) := ⟨_, rfl⟩
   have hBs : Below w.heap.size w s14 := by rw [hws]; exact ((hBo).alloc (by exact hBo.size) _)
   obtain ⟨E, hdE⟩ : ∃ b, b = s13.heap.size := ⟨_, rfl⟩
   have hsz : s14.heap.size = s13.heap.size + 1 := by rw [hws]; simp
   have dCE : C ≠ E := by omega
   have hQC : ∀ p v, s13.cell? p = some v → s14.cell? p = some v := fun p v h => by rw [hws]; exact (alK h)
   have hQZ : ∀ b, b < s13.heap.size → b < s14.heap.size := fun b h => by omega
   have hQF : ∀ b j, b < s13.heap.size → s13.frozen? ⟨b, j, none⟩ = false → s14.frozen? ⟨b, j, none⟩ = false := fun b j z h => by rw [hws]; exact (alF z h)
   replace kA0 := hQC _ _ kA0; replace kA1 := hQC _ _ kA1; replace kA2 := hQC _ _ kA2; replace zA := hQZ _ zA
   replace kC0 := hQC _ _ kC0; replace fC0 := hQF _ _ zC fC0; replace kC1 := hQC _ _ kC1; replace fC1 := hQF _ _ zC fC1; replace kC2 := hQC _ _ kC2; replace fC2 := hQF _ _ zC fC2; replace zC := hQZ _ zC
   replace kU0 := hQC _ _ kU0; replace kU1 := hQC _ _ kU1; replace zU := hQZ _ zU
   replace kV0 := hQC _ _ kV0; replace kV1 := hQC _ _ kV1; replace zV := hQZ _ zV
   clear hQC hQZ hQF
   have kE0 : s14.cell? ⟨E, 0, none⟩ = some (.bool (rb X)) := by rw [hws]; simp [go_sem, hdE]
   have kE1 : s14.cell? ⟨E, 1, none⟩ = some (.string (rn X)) := by rw [hws]; simp [go_sem, hdE]
   have kE2 : s14.cell? ⟨E, 2, none⟩ = some (.string (rd X)) := by rw [hws]; simp [go_sem, hdE]
   have zE : E < s14.heap.size := by omega
   have lE : w.heap.size ≤ E := by have := hBo.size; omega
   rw [← hws]
   try rw [← hdE]
   clear hBo
   clear hws hsz hdE
   have hBo := hBs; clear hBs
   refine (H6.out _).mono ?_; rintro e s15 ⟨rfl, hb⟩
   replace kA0 := belK hb kA0 zA; replace kA1 := belK hb kA1 zA; replace kA2 := belK hb kA2 zA; replace zA := Nat.lt_of_lt_of_le zA hb.size
   replace kC0 := belK hb kC0 zC; replace fC0 := belF hb fC0 zC; replace kC1 := belK hb kC1 zC; replace fC1 := belF hb fC1 zC; replace kC2 := belK hb kC2 zC; replace fC2 := belF hb fC2 zC; replace zC := Nat.lt_of_lt_of_le zC hb.size
   replace kU0 := belK hb kU0 zU; replace kU1 := belK hb kU1 zU; replace zU := Nat.lt_of_lt_of_le zU hb.size
   replace kV0 := belK hb kV0 zV; replace kV1 := belK hb kV1 zV; replace zV := Nat.lt_of_lt_of_le zV hb.size
   replace kE0 := belK hb kE0 zE; replace kE1 := belK hb kE1 zE; replace kE2 := belK hb kE2 zE; replace zE := Nat.lt_of_lt_of_le zE hb.size
   replace hBo := hBo.trans (hb.mono hBo.size)
   clear hb
   go_wp2_with fail
   obtain ⟨s16, hws⟩ : ∃ s, s = (s15.alloc (.cells #[.bool (rb Q), .string (rn Q), .string (rd Q)] 23)) := ⟨_, rfl⟩
   have hBs : Below w.heap.size w s16 := by rw [hws]; exact ((hBo).alloc (by exact hBo.size) _)
   obtain ⟨O, hdO⟩ : ∃ b, b = s15.heap.size := ⟨_, rfl⟩
   have hsz : s16.heap.size = s15.heap.size + 1 := by rw [hws]; simp
   have dCO : C ≠ O := by omega
   have hQC : ∀ p v, s15.cell? p = some v → s16.cell? p = some v := fun p v h => by rw [hws]; exact (alK h)
   have hQZ : ∀ b, b < s15.heap.size → b < s16.heap.size := fun b h => by omega
   have hQF : ∀ b j, b < s15.heap.size → s15.frozen? ⟨b, j, none⟩ = false → s16.frozen? ⟨b, j, none⟩ = false := fun b j z h => by rw [hws]; exact (alF z h)
   replace kA0 := hQC _ _ kA0; replace kA1 := hQC _ _ kA1; replace kA2 := hQC _ _ kA2; replace zA := hQZ _ zA
   replace kC0 := hQC _ _ kC0; replace fC0 := hQF _ _ zC fC0; replace kC1 := hQC _ _ kC1; replace fC1 := hQF _ _ zC fC1; replace kC2 := hQC _ _ kC2; replace fC2 := hQF _ _ zC fC2; replace zC := hQZ _ zC
   replace kU0 := hQC _ _ kU0; replace kU1 := hQC _ _ kU1; replace zU := hQZ _ zU
   replace kV0 := hQC _ _ kV0; replace kV1 := hQC _ _ kV1; replace zV := hQZ _ zV
   replace kE0 := hQC _ _ kE0; replace kE1 := hQC _ _ kE1; replace kE2 := hQC _ _ kE2; replace zE := hQZ _ zE
   clear hQC hQZ hQF
   have kO0 : s16.cell? ⟨O, 0, none⟩ = some (.bool (rb Q)) := by rw [hws]; simp [go_sem, hdO]
   have kO1 : s16.cell? ⟨O, 1, none⟩ = some (.string (rn Q)) := by rw [hws]; simp [go_sem, hdO]
   have kO2 : s16.cell? ⟨O, 2, none⟩ = some (.string (rd Q)) := by rw [hws]; simp [go_sem, hdO]
   have zO : O < s16.heap.size := by omega
   have lO : w.heap.size ≤ O := by have := hBo.size; omega
   rw [← hws]
   try rw [← hdO]
   clear hBo
   clear hws hsz hdO
   have hBo := hBs; clear hBs
   have HF : Hid (∀ W, Below s16.heap.size s16 W → Below w.heap.size w W) := fun W hW => hBo.trans (hW.mono hBo.size)
   clear hBo
   first | (go_region_held3 (fun w' => w'.cell? ⟨A, 0, none⟩ = some (.bool neg) ∧ w'.cell? ⟨A, 1, none⟩ = some (.string a) ∧ w'.cell? ⟨A, 2, none⟩ = some (.string d) ∧ w'.cell? ⟨C, 0, none⟩ = some (.bool false) ∧ w'.cell? ⟨C, 1, none⟩ = some (.string ⟨#[]⟩) ∧ w'.cell? ⟨C, 2, none⟩ = some (.string ⟨#[]⟩) ∧ w'.cell? ⟨U, 0, none⟩ = some (.bool b1) ∧ w'.cell? ⟨U, 1, none⟩ = some (.string t1) ∧ w'.cell? ⟨V, 0, none⟩ = some (.bool b2) ∧ w'.cell? ⟨V, 1, none⟩ = some (.string t2) ∧ w'.cell? ⟨E, 0, none⟩ = some (.bool (rb X)) ∧ w'.cell? ⟨E, 1, none⟩ = some (.string (rn X)) ∧ w'.cell? ⟨E, 2, none⟩ = some (.string (rd X)) ∧ w'.cell? ⟨O, 0, none⟩ = some (.bool (rb Q)) ∧ w'.cell? ⟨O, 1, none⟩ = some (.string (rn Q)) ∧ w'.cell? ⟨O, 2, none⟩ = some (.string (rd Q)))
     (go_keep) (first
     | (go_at_call 50; refine (HW.out _).mono ?_; rintro e x17 ⟨rfl, hbx⟩; have hTx : Below s16.heap.size s16 x17 := (by first | exact (Below.refl _ _).drew.trans hbx | exact Below.trans (by assumption) (hbx.mono (Below.size (by assumption))) | exact (Below.refl _ _).trans hbx); obtain ⟨hcx, hfx⟩ := bcell hTx))) | fail
   all_goals go_wp2_with fail
   all_goals refine bodyPost_ret (v := .tuple #[.agg #[.bool (rb X), .string (rn X), .string (rd X)], .bool true]) (by simp [results, Tryz.results35, go_sem, hcx, kC0, kC1, kC2, zC]) rfl ⟨rfl, ?_⟩
   all_goals exact ((((HF.out _ (by assumption)).setCell lC _).setCell lC _).setCell lC _)
 | false =>
   obtain ⟨g1, g2⟩ := r5 hy
   rw [root_no hy] at hq
   rw [hy] at hb
   subst hq hb
   rw [rz.1, rz.2.1, rz.2.2]
   have HW := Lib.hid hW
   rw [show rb Y = false from g1] at H6
   rw [show rb Q = false from hn] at HW
   have gn : rn Y ≠ rn Q ∨ rd Y ≠ rd Q := g2.imp (fun h e => h (Nt.E_inj e)) (fun h e => h (Nt.E_inj e))
   clear r4 r5 hy g1 g2 hW r2 hok hn s1 s2 sN sD
   generalize zb (Nt.rt Q.num : Int) = b1 at *
   generalize zt (Nt.rt Q.num : Int) = t1 at *
   generalize zb (Nt.rt Q.den : Int) = b2 at *
   generalize zt (Nt.rt Q.den : Int) = t2 at *
   generalize rn Y = yn at *
   generalize rd Y = yd at *
   generalize rn Q = nn at *
   generalize rd Q = nd at *
   rcases gn with gn | gn
   all_goals
     have hnb := toList_beq gn
     clear gn
     go_enter Tryz.func35, Tryz.ntmps35
     go_wp2_with fail
     obtain ⟨s18, hws⟩ : ∃ s, s = ((w.alloc (.cells #[.bool neg, .string a, .string d] 23)).alloc (.cells #[.bool false, .string ⟨#[]⟩, .string ⟨#[]⟩] 23)) := ⟨_, rfl⟩
     have hBs : Below w.heap.size w s18 := by rw [hws]; exact (((Below.refl w.heap.size w).alloc (by simp) _).alloc (by simp) _)
     obtain ⟨A, hdA⟩ : ∃ b, b = w.heap.size := ⟨_, rfl⟩
     obtain ⟨C, hdC⟩ : ∃ b, b = w.heap.size + 1 := ⟨_, rfl⟩
     have hsz : s18.heap.size = w.heap.size + 1 + 1 := by rw [hws]; simp
     have dCA : C ≠ A := by omega
     have kA0 : s18.cell? ⟨A, 0, none⟩ = some (.bool neg) := by rw [hws]; simp [go_sem, hdA, hdC]
     have kA1 : s18.cell? ⟨A, 1, none⟩ = some (.string a) := by rw [hws]; simp [go_sem, hdA, hdC]
     have kA2 : s18.cell? ⟨A, 2, none⟩ = some (.string d) := by rw [hws]; simp [go_sem, hdA, hdC]
     have zA : A < s18.heap.size := by omega
     have lA : w.heap.size ≤ A := by have := Nat.le_refl w.heap.size; omega
     have kC0 : s18.cell? ⟨C, 0, none⟩ = some (.bool false) := by rw [hws]; simp [go_sem, hdA, hdC]
     have fC0 : s18.frozen? ⟨C, 0, none⟩ = false := by rw [hws]; simp [go_sem, hdA, hdC]
     have kC1 : s18.cell? ⟨C, 1, none⟩ = some (.string ⟨#[]⟩) := by rw [hws]; simp [go_sem, hdA, hdC]
     have fC1 : s18.frozen? ⟨C, 1, none⟩ = false := by rw [hws]; simp [go_sem, hdA, hdC]
     have kC2 : s18.cell? ⟨C, 2, none⟩ = some (.string ⟨#[]⟩) := by rw [hws]; simp [go_sem, hdA, hdC]
     have fC2 : s18.frozen? ⟨C, 2, none⟩ = false := by rw [hws]; simp [go_sem, hdA, hdC]
     have zC : C < s18.heap.size := by omega
     have lC : w.heap.size ≤ C := by have := Nat.le_refl w.heap.size; omega
     rw [← hws]
     try rw [← hdC]
     try rw [← hdA]
     clear hws hsz hdA hdC
     have hBo := hBs; clear hBs
     refine (HS.out _).mono ?_; rintro e s19 ⟨rfl, hb⟩
     replace kA0 := belK hb kA0 zA; replace kA1 := belK hb kA1 zA; replace kA2 := belK hb kA2 zA; replace zA := Nat.lt_of_lt_of_le zA hb.size
     replace kC0 := belK hb kC0 zC; replace fC0 := belF hb fC0 zC; replace kC1 := belK hb kC1 zC; replace fC1 := belF hb fC1 zC; replace kC2 := belK hb kC2 zC; replace fC2 := belF hb fC2 zC; replace zC := Nat.lt_of_lt_of_le zC hb.size
     replace hBo := hBo.trans (hb.mono hBo.size)
     clear hb
     go_wp2_with fail
     refine (HT.out _).mono ?_; rintro e s20 ⟨rfl, hb⟩
     replace kA0 := belK hb kA0 zA; replace kA1 := belK hb kA1 zA; replace kA2 := belK hb kA2 zA; replace zA := Nat.lt_of_lt_of_le zA hb.size
     replace kC0 := belK hb kC0 zC; replace fC0 := belF hb fC0 zC; replace kC1 := belK hb kC1 zC; replace fC1 := belF hb fC1 zC; replace kC2 := belK hb kC2 zC; replace fC2 := belF hb fC2 zC; replace zC := Nat.lt_of_lt_of_le zC hb.size
     replace hBo := hBo.trans (hb.mono hBo.size)
     clear hb
     go_wp2_with fail
     refine (H1.out _).mono ?_; rintro e s21 ⟨rfl, hb⟩
     replace kA0 := belK hb kA0 zA; replace kA1 := belK hb kA1 zA; replace kA2 := belK hb kA2 zA; replace zA := Nat.lt_of_lt_of_le zA hb.size
     replace kC0 := belK hb kC0 zC; replace fC0 := belF hb fC0 zC; replace kC1 := belK hb kC1 zC; replace fC1 := belF hb fC1 zC; replace kC2 := belK hb kC2 zC; replace fC2 := belF hb fC2 zC; replace zC := Nat.lt_of_lt_of_le zC hb.size
     replace hBo := hBo.trans (hb.mono hBo.size)
     clear hb
     go_wp2_with fail
     refine (H3.out _).mono ?_; rintro e s22 ⟨rfl, hb⟩
     replace kA0 := belK hb kA0 zA; replace kA1 := belK hb kA1 zA; replace kA2 := belK hb kA2 zA; replace zA := Nat.lt_of_lt_of_le zA hb.size
     replace kC0 := belK hb kC0 zC; replace fC0 := belF hb fC0 zC; replace kC1 := belK hb kC1 zC; replace fC1 := belF hb fC1 zC; replace kC2 := belK hb kC2 zC; replace fC2 := belF hb fC2 zC; replace zC := Nat.lt_of_lt_of_le zC hb.size
     replace hBo := hBo.trans (hb.mono hBo.size)
     clear hb
     go_wp2_with fail
     obtain ⟨s23, hws⟩ : ∃ s, s = (s22.alloc (.cells #[.bool b1, .string t1] 44)) := ⟨_, rfl⟩
     have hBs : Below w.heap.size w s23 := by rw [hws]; exact ((hBo).alloc (by exact hBo.size) _)
     obtain ⟨U, hdU⟩ : ∃ b, b = s22.heap.size := ⟨_, rfl⟩
     have hsz : s23.heap.size = s22.heap.size + 1 := by rw [hws]; simp
     have dCU : C ≠ U := by omega
     have hQC : ∀ p v, s22.cell? p = some v → s23.cell? p = some v := fun p v h => by rw [hws]; exact (alK h)
     have hQZ : ∀ b, b < s22.heap.size → b < s23.heap.size := fun b h => by omega
     have hQF : ∀ b j, b < s22.heap.size → s22.frozen? ⟨b, j, none⟩ = false → s23.frozen? ⟨b, j, none⟩ = false := fun b j z h => by rw [hws]; exact (alF z h)
     replace kA0 := hQC _ _ kA0; replace kA1 := hQC _ _ kA1; replace kA2 := hQC _ _ kA2; replace zA := hQZ _ zA
     replace kC0 := hQC _ _ kC0; replace fC0 := hQF _ _ zC fC0; replace kC1 := hQC _ _ kC1; replace fC1 := hQF _ _ zC fC1; replace kC2 := hQC _ _ kC2; replace fC2 := hQF _ _ zC fC2; replace zC := hQZ _ zC
     clear hQC hQZ hQF
     have kU0 : s23.cell? ⟨U, 0, none⟩ = some (.bool b1) := by rw [hws]; simp [go_sem, hdU]
     have kU1 : s23.cell? ⟨U, 1, none⟩ = some (.string t1) := by rw [hws]; simp [go_sem, hdU]
     have zU : U < s23.heap.size := by omega
     have lU : w.heap.size ≤ U := by have := hBo.size; omega
     rw [← hws]
     try rw [← hdU]
     clear hBo
     clear hws hsz hdU
     have hBo := hBs; clear hBs
     refine (HL.out _).mono ?_; rintro e s24 ⟨rfl, hb⟩
     replace kA0 := belK hb kA0 zA; replace kA1 := belK hb kA1 zA; replace kA2 := belK hb kA2 zA; replace zA := Nat.lt_of_lt_of_le zA hb.size
     replace kC0 := belK hb kC0 zC; replace fC0 := belF hb fC0 zC; replace kC1 := belK hb kC1 zC; replace fC1 := belF hb fC1 zC; replace kC2 := belK hb kC2 zC; replace fC2 := belF hb fC2 zC; replace zC := Nat.lt_of_lt_of_le zC hb.size
     replace kU0 := belK hb kU0 zU; replace kU1 := belK hb kU1 zU; replace zU := Nat.lt_of_lt_of_le zU hb.size
     replace hBo := hBo.trans (hb.mono hBo.size)
     clear hb
     go_wp2_with fail
     refine (H2.out _).mono ?_; rintro e s25 ⟨rfl, hb⟩
     replace kA0 := belK hb kA0 zA; replace kA1 := belK hb kA1 zA; replace kA2 := belK hb kA2 zA; replace zA := Nat.lt_of_lt_of_le zA hb.size
     replace kC0 := belK hb kC0 zC; replace fC0 := belF hb fC0 zC; replace kC1 := belK hb kC1 zC; replace fC1 := belF hb fC1 zC; replace kC2 := belK hb kC2 zC; replace fC2 := belF hb fC2 zC; replace zC := Nat.lt_of_lt_of_le zC hb.size
     replace kU0 := belK hb kU0 zU; replace kU1 := belK hb kU1 zU; replace zU := Nat.lt_of_lt_of_le zU hb.size
     replace hBo := hBo.trans (hb.mono hBo.size)
     clear hb
     go_wp2_with fail
     refine (H4.out _).mono ?_; rintro e s26 ⟨rfl, hb⟩
     replace kA0 := belK hb kA0 zA; replace kA1 := belK hb kA1 zA; replace kA2 := belK hb kA2 zA; replace zA := Nat.lt_of_lt_of_le zA hb.size
     replace kC0 := belK hb kC0 zC; replace fC0 := belF hb fC0 zC; replace kC1 := belK hb kC1 zC; replace fC1 := belF hb fC1 zC; replace kC2 := belK hb kC2 zC; replace fC2 := belF hb fC2 zC; replace zC := Nat.lt_of_lt_of_le zC hb.size
     replace kU0 := belK hb kU0 zU; replace kU1 := belK hb kU1 zU; replace zU := Nat.lt_of_lt_of_le zU hb.size
     replace hBo := hBo.trans (hb.mono hBo.size)
     clear hb
     go_wp2_with fail
     obtain ⟨s27, hws⟩ : ∃ s, s = (s26.alloc (.cells #[.bool b2, .string t2] 44)) := ⟨_, rfl⟩
     have hBs : Below w.heap.size w s27 := by rw [hws]; exact ((hBo).alloc (by exact hBo.size) _)
     obtain ⟨V, hdV⟩ : ∃ b, b = s26.heap.size := ⟨_, rfl⟩
     have hsz : s27.heap.size = s26.heap.size + 1 := by rw [hws]; simp
     have dCV : C ≠ V := by omega
     have hQC : ∀ p v, s26.cell? p = some v → s27.cell? p = some v := fun p v h => by rw [hws]; exact (alK h)
     have hQZ : ∀ b, b < s26.heap.size → b < s27.heap.size := fun b h => by omega
     have hQF : ∀ b j, b < s26.heap.size → s26.frozen? ⟨b, j, none⟩ = false → s27.frozen? ⟨b, j, none⟩ = false := fun b j z h => by rw [hws]; exact (alF z h)
     replace kA0 := hQC _ _ kA0; replace kA1 := hQC _ _ kA1; replace kA2 := hQC _ _ kA2; replace zA := hQZ _ zA
     replace kC0 := hQC _ _ kC0; replace fC0 := hQF _ _ zC fC0; replace kC1 := hQC _ _ kC1; replace fC1 := hQF _ _ zC fC1; replace kC2 := hQC _ _ kC2; replace fC2 := hQF _ _ zC fC2; replace zC := hQZ _ zC
     replace kU0 := hQC _ _ kU0; replace kU1 := hQC _ _ kU1; replace zU := hQZ _ zU
     clear hQC hQZ hQF
     have kV0 : s27.cell? ⟨V, 0, none⟩ = some (.bool b2) := by rw [hws]; simp [go_sem, hdV]
     have kV1 : s27.cell? ⟨V, 1, none⟩ = some (.string t2) := by rw [hws]; simp [go_sem, hdV]
     have zV : V < s27.heap.size := by omega
     have lV : w.heap.size ≤ V := by have := hBo.size; omega
     rw [← hws]
     try rw [← hdV]
     clear hBo
     clear hws hsz hdV
     have hBo := hBs; clear hBs
     refine (H5.out _).mono ?_; rintro e s28 ⟨rfl, hb⟩
     replace kA0 := belK hb kA0 zA; replace kA1 := belK hb kA1 zA; replace kA2 := belK hb kA2 zA; replace zA := Nat.lt_of_lt_of_le zA hb.size
     replace kC0 := belK hb kC0 zC; replace fC0 := belF hb fC0 zC; replace kC1 := belK hb kC1 zC; replace fC1 := belF hb fC1 zC; replace kC2 := belK hb kC2 zC; replace fC2 := belF hb fC2 zC; replace zC := Nat.lt_of_lt_of_le zC hb.size
     replace kU0 := belK hb kU0 zU; replace kU1 := belK hb kU1 zU; replace zU := Nat.lt_of_lt_of_le zU hb.size
     replace kV0 := belK hb kV0 zV; replace kV1 := belK hb kV1 zV; replace zV := Nat.lt_of_lt_of_le zV hb.size
     replace hBo := hBo.trans (hb.mono hBo.size)
     clear hb
     go_wp2_with fail
     obtain ⟨s29, hws⟩ : ∃ s, s = (s28.alloc (.cells #[.bool (rb X), .string (rn X), .string (rd X)] 23)) := ⟨_, rfl⟩
     have hBs : Below w.heap.size w s29 := by rw [hws]; exact ((hBo).alloc (by exact hBo.size) _)
     obtain ⟨E, hdE⟩ : ∃ b, b = s28.heap.size := ⟨_, rfl⟩
     have hsz : s29.heap.size = s28.heap.size + 1 := by rw [hws]; simp
     have dCE : C ≠ E := by omega
     have hQC : ∀ p v, s28.cell? p = some v → s29.cell? p = some v := fun p v h => by rw [hws]; exact (alK h)
     have hQZ : ∀ b, b < s28.heap.size → b < s29.heap.size := fun b h => by omega
     have hQF : ∀ b j, b < s28.heap.size → s28.frozen? ⟨b, j, none⟩ = false → s29.frozen? ⟨b, j, none⟩ = false := fun b j z h => by rw [hws]; exact (alF z h)
     replace kA0 := hQC _ _ kA0; replace kA1 := hQC _ _ kA1; replace kA2 := hQC _ _ kA2; replace zA := hQZ _ zA
     replace kC0 := hQC _ _ kC0; replace fC0 := hQF _ _ zC fC0; replace kC1 := hQC _ _ kC1; replace fC1 := hQF _ _ zC fC1; replace kC2 := hQC _ _ kC2; replace fC2 := hQF _ _ zC fC2; replace zC := hQZ _ zC
     replace kU0 := hQC _ _ kU0; replace kU1 := hQC _ _ kU1; replace zU := hQZ _ zU
     replace kV0 := hQC _ _ kV0; replace kV1 := hQC _ _ kV1; replace zV := hQZ _ zV
     clear hQC hQZ hQF
     have kE0 : s29.cell? ⟨E, 0, none⟩ = some (.bool (rb X)) := by rw [hws]; simp [go_sem, hdE]
     have kE1 : s29.cell? ⟨E, 1, none⟩ = some (.string (rn X)) := by rw [hws]; simp [go_sem, hdE]
     have kE2 : s29.cell? ⟨E, 2, none⟩ = some (.string (rd X)) := by rw [hws]; simp [go_sem, hdE]
     have zE : E < s29.heap.size := by omega
     have lE : w.heap.size ≤ E := by have := hBo.size; omega
     rw [← hws]
     try rw [← hdE]
     clear hBo
     clear hws hsz hdE
     have hBo := hBs; clear hBs
     refine (H6.out _).mono ?_; rintro e s30 ⟨rfl, hb⟩
     replace kA0 := belK hb kA0 zA; replace kA1 := belK hb kA1 zA; replace kA2 := belK hb kA2 zA; replace zA := Nat.lt_of_lt_of_le zA hb.size
     replace kC0 := belK hb kC0 zC; replace fC0 := belF hb fC0 zC; replace kC1 := belK hb kC1 zC; replace fC1 := belF hb fC1 zC; replace kC2 := belK hb kC2 zC; replace fC2 := belF hb fC2 zC; replace zC := Nat.lt_of_lt_of_le zC hb.size
     replace kU0 := belK hb kU0 zU; replace kU1 := belK hb kU1 zU; replace zU := Nat.lt_of_lt_of_le zU hb.size
     replace kV0 := belK hb kV0 zV; replace kV1 := belK hb kV1 zV; replace zV := Nat.lt_of_lt_of_le zV hb.size
     replace kE0 := belK hb kE0 zE; replace kE1 := belK hb kE1 zE; replace kE2 := belK hb kE2 zE; replace zE := Nat.lt_of_lt_of_le zE hb.size
     replace hBo := hBo.trans (hb.mono hBo.size)
     clear hb
     go_wp2_with fail
     obtain ⟨s31, hws⟩ : ∃ s, s = (s30.alloc (.cells #[.bool false, .string yn, .string yd] 23)) := ⟨_, rfl⟩
     have hBs : Below w.heap.size w s31 := by rw [hws]; exact ((hBo).alloc (by exact hBo.size) _)
     obtain ⟨O, hdO⟩ : ∃ b, b = s30.heap.size := ⟨_, rfl⟩
     have hsz : s31.heap.size = s30.heap.size + 1 := by rw [hws]; simp
     have dCO : C ≠ O := by omega
     have hQC : ∀ p v, s30.cell? p = some v → s31.cell? p = some v := fun p v h => by rw [hws]; exact (alK h)
     have hQZ : ∀ b, b < s30.heap.size → b < s31.heap.size := fun b h => by omega
     have hQF : ∀ b j, b < s30.heap.size → s30.frozen? ⟨b, j, none⟩ = false → s31.frozen? ⟨b, j, none⟩ = false := fun b j z h => by rw [hws]; exact (alF z h)
     replace kA0 := hQC _ _ kA0; replace kA1 := hQC _ _ kA1; replace kA2 := hQC _ _ kA2; replace zA := hQZ _ zA
     replace kC0 := hQC _ _ kC0; replace fC0 := hQF _ _ zC fC0; replace kC1 := hQC _ _ kC1; replace fC1 := hQF _ _ zC fC1; replace kC2 := hQC _ _ kC2; replace fC2 := hQF _ _ zC fC2; replace zC := hQZ _ zC
     replace kU0 := hQC _ _ kU0; replace kU1 := hQC _ _ kU1; replace zU := hQZ _ zU
     replace kV0 := hQC _ _ kV0; replace kV1 := hQC _ _ kV1; replace zV := hQZ _ zV
     replace kE0 := hQC _ _ kE0; replace kE1 := hQC _ _ kE1; replace kE2 := hQC _ _ kE2; replace zE := hQZ _ zE
     clear hQC hQZ hQF
     have kO0 : s31.cell? ⟨O, 0, none⟩ = some (.bool false) := by rw [hws]; simp [go_sem, hdO]
     have kO1 : s31.cell? ⟨O, 1, none⟩ = some (.string yn) := by rw [hws]; simp [go_sem, hdO]
     have kO2 : s31.cell? ⟨O, 2, none⟩ = some (.string yd) := by rw [hws]; simp [go_sem, hdO]
     have zO : O < s31.heap.size := by omega
     have lO : w.heap.size ≤ O := by have := hBo.size; omega
     rw [← hws]
     try rw [← hdO]
     clear hBo
     clear hws hsz hdO
     have hBo := hBs; clear hBs
     have HF : Hid (∀ W, Below s31.heap.size s31 W → Below w.heap.size w W) := fun W hW => hBo.trans (hW.mono hBo.size)
     clear hBo
     first | (go_region_held3 (fun w' => w'.cell? ⟨A, 0, none⟩ = some (.bool neg) ∧ w'.cell? ⟨A, 1, none⟩ = some (.string a) ∧ w'.cell? ⟨A, 2, none⟩ = some (.string d) ∧ w'.cell? ⟨C, 0, none⟩ = some (.bool false) ∧ w'.cell? ⟨C, 1, none⟩ = some (.string ⟨#[]⟩) ∧ w'.cell? ⟨C, 2, none⟩ = some (.string ⟨#[]⟩) ∧ w'.cell? ⟨U, 0, none⟩ = some (.bool b1) ∧ w'.cell? ⟨U, 1, none⟩ = some (.string t1) ∧ w'.cell? ⟨V, 0, none⟩ = some (.bool b2) ∧ w'.cell? ⟨V, 1, none⟩ = some (.string t2) ∧ w'.cell? ⟨E, 0, none⟩ = some (.bool (rb X)) ∧ w'.cell? ⟨E, 1, none⟩ = some (.string (rn X)) ∧ w'.cell? ⟨E, 2, none⟩ = some (.string (rd X)) ∧ w'.cell? ⟨O, 0, none⟩ = some (.bool false) ∧ w'.cell? ⟨O, 1, none⟩ = some (.string yn) ∧ w'.cell? ⟨O, 2, none⟩ = some (.string yd))
       (go_keep) (first
       | (go_at_call 50; refine (HW.out _).mono ?_; rintro e x32 ⟨rfl, hbx⟩; have hTx : Below s31.heap.size s31 x32 := (by first | exact (Below.refl _ _).drew.trans hbx | exact Below.trans (by assumption) (hbx.mono (Below.size (by assumption))) | exact (Below.refl _ _).trans hbx); obtain ⟨hcx, hfx⟩ := bcell hTx))) | fail
     go_ways
     all_goals go_wp2_with fail
     all_goals refine bodyPost_ret (v := .tuple #[.agg #[.bool false, .string ⟨#[]⟩, .string ⟨#[]⟩], .bool false]) (by simp [results, Tryz.results35, go_sem, hcx, kC0, kC1, kC2, zC]) rfl ⟨rfl, ?_⟩
     all_goals exact ((((HF.out _ (by assumption)).setCell lC _).setCell lC _).setCell lC _)
end Go.Proofs.YtbgmnpabclfjaaaGreatDoor
