/-
 NUMBERS, ROUNDED: up, the program's.
-/
import Derived.Test.YtbgmnpabclfjaaaGreatDoorRound1
namespace Go.Proofs.YtbgmnpabclfjaaaGreatDoor
open Go.RowKit Go.Shelf
set_option linter.unusedSimpArgs false
set_option linter.unusedVariables false

/-- behind a region that makes a box. -/
def Cut1 (s : World) (v0 v1 : Value) (p : Value) (wx : World) : Prop := ∃ Q, p = .pointer (some ⟨Q, 0, none⟩) ∧ s.heap.size ≤ Q ∧ wx.cell? ⟨Q, 0, none⟩ = some v0 ∧ wx.cell? ⟨Q, 1, none⟩ = some v1 ∧ Below s.heap.size s wx
set_option maxRecDepth 100000 in
set_option maxHeartbeats 8000000 in
theorem roundCeil_any (neg : Bool) (a d : ByteArray) (q : Rt) (c : Int) (w : World) (ha : a.size ≤ 140737488351232) (hd : d.size ≤ 140737488351232)
   (hq : mkR (-flq (-topI (wl neg a d)) (lowI (wl neg a d))) 1 = q) (hc : mkE (-flq (-topI (wl neg a d)) (lowI (wl neg a d))) 1 = c) :
   Calls Tryz.prog 12 #[.agg #[.bool neg, .string a, .string d]] w fun e w' => e = .returned (.tuple #[.agg #[.bool (rb q), .string (rn q), .string (rd q)], .int .i64 c]) ∧ Below w.heap.size w w' := by
 have hp := fun w => parts_any neg a d _ _ w ha hd rfl rfl
 have hy0 := low_ne neg a d
 have sx := top_size neg a d
 have sy := low_size neg a d
 generalize topI (wl neg a d) = x at *
 generalize lowI (wl neg a d) = y at *
 have sm : (zt (-x)).size ≤ 32 := by unfold zt; rw [Int.natAbs_neg]; exact sx
 have HN1 := Lib.hid (fun w => wholeNeg_z (zb x) (zt x) (-x) w (by rw [sI_z]))
 generalize -x = m at *
 have sf := Nat.le_trans (zt_mono (flq_abs m y)) sm
 generalize hf : flq m y = f at *
 have HF' := Lib.hid (fun w => wholeFloor_zz m y f (flr m y) w (by omega) (by omega) hy0 hf rfl)
 generalize flr m y = r at *
 have HN2 := Lib.hid (fun w => wholeNeg_z (zb f) (zt f) (-f) w (by rw [sI_z]))
 have sg : (zt (-f)).size ≤ 32 := by unfold zt; rw [Int.natAbs_neg]; exact sf
 generalize -f = g at *
 have HK := Lib.hid (fun w => ratMake_zz g 1 q c w (by omega) (by decide) hq hc)
 have HO := Lib.hid (fun w => wholeOf_z 1 w (by omega) (by omega))
 have HP := Lib.hid hp
 generalize zb x = bx at *
 generalize zt x = tx at *
 generalize zb y = by' at *
 generalize zt y = ty at *
 generalize zb m = bm at *
 generalize zt m = tm at *
 generalize zb f = bf at *
 generalize zt f = tf at *
 generalize zb r = br at *
 generalize zt r = tr at *
 generalize zb g = bg at *
 generalize zt g = tg at *
 generalize zb 1 = b1 at *
 generalize zt 1 = t1 at *
 clear hp ha hd hq hc hy0 sx sy sf hf sm sg
 go_enter Tryz.func12, Tryz.ntmps12
 go_wp2_with fail
 obtain ⟨s1, hws⟩ : ∃ s, s = ((w.alloc (.cells #[.bool neg, .string a, .string d] 23)).alloc (.cells #[.bool false, .string ⟨#[]⟩, .string ⟨#[]⟩] 23)) := ⟨_, rfl⟩
 have hBs : Below w.heap.size w s1 := by rw [hws]; exact (((Below.refl w.heap.size w).alloc (by simp) _).alloc (by simp) _)
 obtain ⟨A, hdA⟩ : ∃ b, b = w.heap.size := ⟨_, rfl⟩
 obtain ⟨C, hdC⟩ : ∃ b, b = w.heap.size + 1 := ⟨_, rfl⟩
 have hsz : s1.heap.size = w.heap.size + 1 + 1 := by rw [hws]; simp
 have dCA : C ≠ A := by omega
 have kA0 : s1.cell? ⟨A, 0, none⟩ = some (.bool neg) := by rw [hws]; simp [go_sem, hdA, hdC]
 have kA1 : s1.cell? ⟨A, 1, none⟩ = some (.string a) := by rw [hws]; simp [go_sem, hdA, hdC]
 have kA2 : s1.cell? ⟨A, 2, none⟩ = some (.string d) := by rw [hws]; simp [go_sem, hdA, hdC]
 have zA : A < s1.heap.size := by omega
 have lA : w.heap.size ≤ A := by have := Nat.le_refl w.heap.size; omega
 have kC0 : s1.cell? ⟨C, 0, none⟩ = some (.bool false) := by rw [hws]; simp [go_sem, hdA, hdC]
 have fC0 : s1.frozen? ⟨C, 0, none⟩ = false := by rw [hws]; simp [go_sem, hdA, hdC]
 have kC1 : s1.cell? ⟨C, 1, none⟩ = some (.string ⟨#[]⟩) := by rw [hws]; simp [go_sem, hdA, hdC]
 have fC1 : s1.frozen? ⟨C, 1, none⟩ = false := by rw [hws]; simp [go_sem, hdA, hdC]
 have kC2 : s1.cell? ⟨C, 2, none⟩ = some (.string ⟨#[]⟩) := by rw [hws]; simp [go_sem, hdA, hdC]
 have fC2 : s1.frozen? ⟨C, 2, none⟩ = false := by rw [hws]; simp [go_sem, hdA, hdC]
 have zC : C < s1.heap.size := by omega
 have lC : w.heap.size ≤ C := by have := Nat.le_refl w.heap.size; omega
 rw [← hws]
 try rw [← hdC]
 try rw [← hdA]
 clear hws hsz hdA hdC
 have hBo := hBs; clear hBs
 refine (HP.out _).mono ?_; rintro e s2 ⟨rfl, hb⟩
 replace kA0 := belK hb kA0 zA; replace kA1 := belK hb kA1 zA; replace kA2 := belK hb kA2 zA; replace zA := Nat.lt_of_lt_of_le zA hb.size
 replace kC0 := belK hb kC0 zC; replace fC0 := belF hb fC0 zC; replace kC1 := belK hb kC1 zC; replace fC1 := belF hb fC1 zC; replace kC2 := belK hb kC2 zC; replace fC2 := belF hb fC2 zC; replace zC := Nat.lt_of_lt_of_le zC hb.size
 replace hBo := hBo.trans (hb.mono hBo.size)
 clear hb
 go_upto_region 2 with (fail)
 obtain ⟨s3, hws⟩ : ∃ s, s = ((s2.alloc (.cells #[.bool bx, .string tx] 44)).alloc (.cells #[.bool by', .string ty] 44)) := ⟨_, rfl⟩
 have hBs : Below w.heap.size w s3 := by rw [hws]; exact (((hBo).alloc (by exact hBo.size) _).alloc (by have := hBo.size; simp; omega) _)
 obtain ⟨X, hdX⟩ : ∃ b, b = s2.heap.size := ⟨_, rfl⟩
 obtain ⟨Y, hdY⟩ : ∃ b, b = s2.heap.size + 1 := ⟨_, rfl⟩
 have hsz : s3.heap.size = s2.heap.size + 1 + 1 := by rw [hws]; simp
 have dCX : C ≠ X := by omega
 have dCY : C ≠ Y := by omega
 have hQC : ∀ p v, s2.cell? p = some v → s3.cell? p = some v := fun p v h => by rw [hws]; exact (alK (alK h))
 have hQZ : ∀ b, b < s2.heap.size → b < s3.heap.size := fun b h => by omega
 have hQF : ∀ b j, b < s2.heap.size → s2.frozen? ⟨b, j, none⟩ = false → s3.frozen? ⟨b, j, none⟩ = false := fun b j z h => by rw [hws]; exact (alF (alZ z) (alF z h))
 replace kA0 := hQC _ _ kA0; replace kA1 := hQC _ _ kA1; replace kA2 := hQC _ _ kA2; replace zA := hQZ _ zA
 replace kC0 := hQC _ _ kC0; replace fC0 := hQF _ _ zC fC0; replace kC1 := hQC _ _ kC1; replace fC1 := hQF _ _ zC fC1; replace kC2 := hQC _ _ kC2; replace fC2 := hQF _ _ zC fC2; replace zC := hQZ _ zC
 clear hQC hQZ hQF
 have kX0 : s3.cell? ⟨X, 0, none⟩ = some (.bool bx) := by rw [hws]; simp [go_sem, hdX, hdY]
 have kX1 : s3.cell? ⟨X, 1, none⟩ = some (.string tx) := by rw [hws]; simp [go_sem, hdX, hdY]
 have zX : X < s3.heap.size := by omega
 have lX : w.heap.size ≤ X := by have := hBo.size; omega
 have kY0 : s3.cell? ⟨Y, 0, none⟩ = some (.bool by') := by rw [hws]; simp [go_sem, hdX, hdY]
 have kY1 : s3.cell? ⟨Y, 1, none⟩ = some (.string ty) := by rw [hws]; simp [go_sem, hdX, hdY]
 have zY : Y < s3.heap.size := by omega
 have lY : w.heap.size ≤ Y := by have := hBo.size; omega
 rw [← hws]
 try rw [← hdY]
 try rw [← hdX]
 clear hBo
 clear hws hsz hdX hdY
 have hBo := hBs; clear hBs
 go_cut [6] (Cut1 s3 (.bool bf) (.string tf))
 case first =>
   have HF : Hid (∀ W, Below s3.heap.size s3 W → Below w.heap.size w W) := fun W hW => hBo.trans (hW.mono hBo.size)
   clear hBo
   first | (go_region_held3 (fun w' => w'.cell? ⟨A, 0, none⟩ = some (.bool neg) ∧ w'.cell? ⟨A, 1, none⟩ = some (.string a) ∧ w'.cell? ⟨A, 2, none⟩ = some (.string d) ∧ w'.cell? ⟨C, 0, none⟩ = some (.bool false) ∧ w'.cell? ⟨C, 1, none⟩ = some (.string ⟨#[]⟩) ∧ w'.cell? ⟨C, 2, none⟩ = some (.string ⟨#[]⟩) ∧ w'.cell? ⟨X, 0, none⟩ = some (.bool bx) ∧ w'.cell? ⟨X, 1, none⟩ = some (.string tx) ∧ w'.cell? ⟨Y, 0, none⟩ = some (.bool by') ∧ w'.cell? ⟨Y, 1, none⟩ = some (.string ty))
     (first | go_keep | ((repeat' apply And.intro) <;> ((repeat (with_reducible first | apply cell_al | apply cell_dr | refine cell_set ?_ (by (try dsimp only); omega))) <;> first | assumption | (rw [hcx _ _ (by assumption)]; assumption)))) (first
     | (go_at_call 48; refine (HN1.out _).mono ?_; rintro e x4 ⟨rfl, hbx⟩; have hTx : Below s3.heap.size s3 x4 := (by first | exact (Below.refl _ _).drew.trans hbx | exact (Below.refl _ _).trans hbx | (rename_i hTp; exact hTp.trans (hbx.mono hTp.size)) | exact Below.trans (by assumption) (hbx.mono (Below.size (by assumption))) | exact Below.trans (by repeat (with_reducible first | assumption | exact Below.refl _ _ | apply al_below | apply Below.drew)) (hbx.mono (Below.size (by repeat (with_reducible first | assumption | exact Below.refl _ _ | apply al_below | apply Below.drew))))); obtain ⟨hcx, hfx⟩ := bcell hTx; have hzx := hbx.size; (try simp at hzx); (try have hQZ := Nat.lt_of_succ_le hzx); (try have hzm := Nat.lt_of_succ_lt (Nat.lt_of_succ_le hzx)); have hzq := hTx.size; (try have hzo : s3.heap.size < x4.heap.size := (by omega)); (try have hzp : s3.heap.size + 1 < x4.heap.size := (by omega)); have hzt : ∀ b, b < _ → b < _ := fun b h => Nat.lt_of_lt_of_le h hbx.size; obtain ⟨hcy, hfy⟩ := bcell hbx; clear hbx)
     | (go_at_call 41; refine (HF'.out _).mono ?_; rintro e x4 ⟨rfl, hbx⟩; have hTx : Below s3.heap.size s3 x4 := (by first | exact (Below.refl _ _).drew.trans hbx | exact (Below.refl _ _).trans hbx | (rename_i hTp; exact hTp.trans (hbx.mono hTp.size)) | exact Below.trans (by assumption) (hbx.mono (Below.size (by assumption))) | exact Below.trans (by repeat (with_reducible first | assumption | exact Below.refl _ _ | apply al_below | apply Below.drew)) (hbx.mono (Below.size (by repeat (with_reducible first | assumption | exact Below.refl _ _ | apply al_below | apply Below.drew))))); obtain ⟨hcx, hfx⟩ := bcell hTx; have hzx := hbx.size; (try simp at hzx); (try have hQZ := Nat.lt_of_succ_le hzx); (try have hzm := Nat.lt_of_succ_lt (Nat.lt_of_succ_le hzx)); have hzq := hTx.size; (try have hzo : s3.heap.size < x4.heap.size := (by omega)); (try have hzp : s3.heap.size + 1 < x4.heap.size := (by omega)); have hzt : ∀ b, b < _ → b < _ := fun b h => Nat.lt_of_lt_of_le h hbx.size; obtain ⟨hcy, hfy⟩ := bcell hbx; clear hbx))) | fail
   all_goals go_wp2_with fail
   all_goals go_meet
   all_goals refine ⟨_, rfl, ?_, ?_, ?_, ?_⟩
   all_goals first | omega | (simp [*, go_sem]; done) | ((repeat (with_reducible refine cell_set ?_ (by (try dsimp only); omega))); simp (maxDischargeDepth := 7) [*, go_sem]; done) | (repeat (with_reducible first | assumption | exact Below.refl _ _ | apply al_below | apply Below.drew | refine set_below ?_ (by (try dsimp only); omega)))
 case rest =>
   obtain ⟨Q, rfl, hQ, kQ0, kQ1, hT⟩ := hcut
   have dCQ : C ≠ Q := by omega
   obtain ⟨hcx, hfx⟩ := bcell hT
   replace kA0 := (hcx A 0 zA).trans kA0
   replace kA1 := (hcx A 1 zA).trans kA1
   replace kA2 := (hcx A 2 zA).trans kA2
   replace zA := Nat.lt_of_lt_of_le zA hT.size
   replace kC0 := (hcx C 0 zC).trans kC0
   replace fC0 := (hfx C 0 zC).trans fC0
   replace kC1 := (hcx C 1 zC).trans kC1
   replace fC1 := (hfx C 1 zC).trans fC1
   replace kC2 := (hcx C 2 zC).trans kC2
   replace fC2 := (hfx C 2 zC).trans fC2
   replace zC := Nat.lt_of_lt_of_le zC hT.size
   replace kX0 := (hcx X 0 zX).trans kX0
   replace kX1 := (hcx X 1 zX).trans kX1
   replace zX := Nat.lt_of_lt_of_le zX hT.size
   replace kY0 := (hcx Y 0 zY).trans kY0
   replace kY1 := (hcx Y 1 zY).trans kY1
   replace zY := Nat.lt_of_lt_of_le zY hT.size
   have lQ := Nat.le_trans hBo.size hQ
   have zQ := World.block_lt_of_cell? _ _ kQ0
   replace hBo := hBo.trans (hT.mono hBo.size)
   clear hT hcx hfx hQ
   go_wp2_with fail
   refine (HN2.out _).mono ?_; rintro e s5 ⟨rfl, hb⟩
   replace kA0 := belK hb kA0 zA; replace kA1 := belK hb kA1 zA; replace kA2 := belK hb kA2 zA; replace zA := Nat.lt_of_lt_of_le zA hb.size
   replace kC0 := belK hb kC0 zC; replace fC0 := belF hb fC0 zC; replace kC1 := belK hb kC1 zC; replace fC1 := belF hb fC1 zC; replace kC2 := belK hb kC2 zC; replace fC2 := belF hb fC2 zC; replace zC := Nat.lt_of_lt_of_le zC hb.size
   replace kX0 := belK hb kX0 zX; replace kX1 := belK hb kX1 zX; replace zX := Nat.lt_of_lt_of_le zX hb.size
   replace kY0 := belK hb kY0 zY; replace kY1 := belK hb kY1 zY; replace zY := Nat.lt_of_lt_of_le zY hb.size
   replace kQ0 := belK hb kQ0 zQ; replace kQ1 := belK hb kQ1 zQ; replace zQ := Nat.lt_of_lt_of_le zQ hb.size
   replace hBo := hBo.trans (hb.mono hBo.size)
   clear hb
   go_wp2_with fail
   refine (HO.out _).mono ?_; rintro e s6 ⟨rfl, hb⟩
   replace kA0 := belK hb kA0 zA; replace kA1 := belK hb kA1 zA; replace kA2 := belK hb kA2 zA; replace zA := Nat.lt_of_lt_of_le zA hb.size
   replace kC0 := belK hb kC0 zC; replace fC0 := belF hb fC0 zC; replace kC1 := belK hb kC1 zC; replace fC1 := belF hb fC1 zC; replace kC2 := belK hb kC2 zC; replace fC2 := belF hb fC2 zC; replace zC := Nat.lt_of_lt_of_le zC hb.size
   replace kX0 := belK hb kX0 zX; replace kX1 := belK hb kX1 zX; replace zX := Nat.lt_of_lt_of_le zX hb.size
   replace kY0 := belK hb kY0 zY; replace kY1 := belK hb kY1 zY; replace zY := Nat.lt_of_lt_of_le zY hb.size
   replace kQ0 := belK hb kQ0 zQ; replace kQ1 := belK hb kQ1 zQ; replace zQ := Nat.lt_of_lt_of_le zQ hb.size
   replace hBo := hBo.trans (hb.mono hBo.size)
   clear hb
   go_wp2_with fail
   refine (HK.out _).mono ?_; rintro e s7 ⟨rfl, hb⟩
   replace kA0 := belK hb kA0 zA; replace kA1 := belK hb kA1 zA; replace kA2 := belK hb kA2 zA; replace zA := Nat.lt_of_lt_of_le zA hb.size
   replace kC0 := belK hb kC0 zC; replace fC0 := belF hb fC0 zC; replace kC1 := belK hb kC1 zC; replace fC1 := belF hb fC1 zC; replace kC2 := belK hb kC2 zC; replace fC2 := belF hb fC2 zC; replace zC := Nat.lt_of_lt_of_le zC hb.size
   replace kX0 := belK hb kX0 zX; replace kX1 := belK hb kX1 zX; replace zX := Nat.lt_of_lt_of_le zX hb.size
   replace kY0 := belK hb kY0 zY; replace kY1 := belK hb kY1 zY; replace zY := Nat.lt_of_lt_of_le zY hb.size
   replace kQ0 := belK hb kQ0 zQ; replace kQ1 := belK hb kQ1 zQ; replace zQ := Nat.lt_of_lt_of_le zQ hb.size
   replace hBo := hBo.trans (hb.mono hBo.size)
   clear hb
   all_goals go_wp2_with fail
   all_goals refine bodyPost_ret (v := .tuple #[.agg #[.bool (rb q), .string (rn q), .string (rd q)], .int .i64 c]) (by simp [results, Tryz.results12, go_sem, kC0, kC1, kC2, zC]) rfl ⟨rfl, ?_⟩
   all_goals exact (((hBo.setCell lC _).setCell lC _).setCell lC _)
end Go.Proofs.YtbgmnpabclfjaaaGreatDoor
