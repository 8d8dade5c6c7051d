/-
  NUMBERS, ROUNDED: what is left, the program's.
-/
import Derived.Test.YtbgmnpabclfjaaaGreatDoorRound2
namespace Go.Proofs.YtbgmnpabclfjaaaGreatDoor
open Go.RowKit Go.Shelf
set_option linter.unusedSimpArgs false
set_option linter.unusedVariables false

theorem wholeMul_zz (x y p : Int) (w : World) (hx : (zt x).size ≤ 1000) (hy : (zt y).size ≤ 1000) (hp : x * y = p) :
    Calls Tryz.prog 66 #[.agg #[.bool (zb x), .string (zt x)], .agg #[.bool (zb y), .string (zt y)]] w fun e w' => e = .returned (.agg #[.bool (zb p), .string (zt p)]) ∧ Below w.heap.size w w' :=
  wholeMul_any (zb x) (zb y) (zt x) (zt y) p w hx hy (by rw [sI_z, sI_z, hp])
theorem wholeMul_g (x y : Int) (w : World) (hx : (zt x).size ≤ 1000) (hy : (zt y).size ≤ 1000) :
    Calls Tryz.prog 66 #[.agg #[.bool (zb x), .string (zt x)], .agg #[.bool (zb y), .string (zt y)]] w fun e w' => e = .returned (.agg #[.bool (zb (x * y)), .string (zt (x * y))]) ∧ Below w.heap.size w w' := wholeMul_zz x y _ w hx hy rfl
theorem parts_g (neg : Bool) (a d : ByteArray) (w : World) (ha : a.size ≤ 140737488351232) (hd : d.size ≤ 140737488351232) :
    Calls Tryz.prog 37 #[.agg #[.bool neg, .string a, .string d]] w fun e w' => e = .returned (.tuple #[.agg #[.bool (zb (topI (wl neg a d))), .string (zt (topI (wl neg a d)))], .agg #[.bool (zb (lowI (wl neg a d))), .string (zt (lowI (wl neg a d)))]]) ∧ Below w.heap.size w w' := parts_any neg a d _ _ w ha hd rfl rfl
/-- one box and a number. -/
def CutN (s : World) (v0 v1 n : Value) (p r : Value) (wx : World) : Prop := ∃ Q, p = .pointer (some ⟨Q, 0, none⟩) ∧ r = n ∧ s.heap.size ≤ Q ∧ wx.cell? ⟨Q, 0, none⟩ = some v0 ∧ wx.cell? ⟨Q, 1, none⟩ = some v1 ∧ Below s.heap.size s wx

/-- what is left, and why not. -/
def modR (r s : Rt) : Rt := if topI s = 0 then ⟨false, 0, 0⟩ else mkR (flr (topI r * lowI s) (topI s * lowI r)) (lowI r * lowI s)
def modE (r s : Rt) : Int := if topI s = 0 then 5 else mkE (flr (topI r * lowI s) (topI s * lowI r)) (lowI r * lowI s)
set_option maxRecDepth 100000 in
set_option maxHeartbeats 16000000 in
theorem roundMod_any (n1 n2 : Bool) (a1 d1 a2 d2 : ByteArray) (q : Rt) (c : Int) (w : World) (ha1 : a1.size ≤ 140737488351232) (hd1 : d1.size ≤ 140737488351232) (ha2 : a2.size ≤ 140737488351232) (hd2 : d2.size ≤ 140737488351232)
    (hq : modR (wl n1 a1 d1) (wl n2 a2 d2) = q) (hc : modE (wl n1 a1 d1) (wl n2 a2 d2) = c) :
    Calls Tryz.prog 30 #[.agg #[.bool n1, .string a1, .string d1], .agg #[.bool n2, .string a2, .string d2]] w fun e w' => e = .returned (.tuple #[.agg #[.bool (rb q), .string (rn q), .string (rd q)], .int .i64 c]) ∧ Below w.heap.size w w' := by
  have HP1 := Lib.hid (fun w => parts_g n1 a1 d1 w ha1 hd1)
  have HP2 := Lib.hid (fun w => parts_g n2 a2 d2 w ha2 hd2)
  have sT1 := top_size n1 a1 d1
  have sT2 := top_size n2 a2 d2
  have sL1 := low_size n1 a1 d1
  have sL2 := low_size n2 a2 d2
  have hl1 := low_ne n1 a1 d1
  unfold modR at hq
  unfold modE at hc
  generalize topI (wl n1 a1 d1) = T1 at *
  generalize topI (wl n2 a2 d2) = T2 at *
  generalize lowI (wl n1 a1 d1) = L1 at *
  generalize lowI (wl n2 a2 d2) = L2 at *
  have sx := zt_mul_size T1 L2
  have sy := zt_mul_size T2 L1
  have sz := zt_mul_size L1 L2
  have hM1 := fun w => wholeMul_zz T1 L2 _ w (by omega) (by omega) rfl
  have hM2 := fun w => wholeMul_zz T2 L1 _ w (by omega) (by omega) rfl
  have hM3 := fun w => wholeMul_zz L1 L2 _ w (by omega) (by omega) rfl
  have hM : ∀ (x y : Int) (w : World), (zt x).size ≤ 32 → (zt y).size ≤ 32 → Calls Tryz.prog 66 #[.agg #[.bool (zb x), .string (zt x)], .agg #[.bool (zb y), .string (zt y)]] w fun e w' => e = .returned (.agg #[.bool (zb (x * y)), .string (zt (x * y))]) ∧ Below w.heap.size w w' := fun x y w h1 h2 => wholeMul_g x y w (by omega) (by omega)
  by_cases h0 : T2 = 0
  · rw [if_pos h0] at hq hc
    subst hq hc
    rw [rz.1, rz.2.1, rz.2.2]
    generalize hX : T1 * L2 = X at *
    have hY : T2 * L1 = 0 := by rw [h0, Int.zero_mul]
    have HFL := Lib.hid (fun w => wholeFloor_zero (zb X) (zb 0) (zt X) (zt 0) w (by omega) (by decide) (by decide))
    have HM := Lib.hid hM
    have EX := Lib.hid hX
    have EY := Lib.hid hY
    clear hM1 hM2 hM3 hM h0 hl1 sx sy sz hX hY
    go_enter Tryz.func30, Tryz.ntmps30
    go_wp2_with fail
    obtain ⟨s1, hws⟩ : ∃ s, s = (((w.alloc (.cells #[.bool n1, .string a1, .string d1] 23)).alloc (.cells #[.bool n2, .string a2, .string d2] 23)).alloc (.cells #[.bool false, .string ⟨#[]⟩, .string ⟨#[]⟩] 23)) := ⟨_, rfl⟩
    have hBs : Below w.heap.size w s1 := by rw [hws]; exact ((((Below.refl w.heap.size w).alloc (by simp) _).alloc (by simp) _).alloc (by simp; omega) _)
    obtain ⟨A, hdA⟩ : ∃ b, b = w.heap.size := ⟨_, rfl⟩
    obtain ⟨B, hdB⟩ : ∃ b, b = w.heap.size + 1 := ⟨_, rfl⟩
    obtain ⟨C, hdC⟩ : ∃ b, b = w.heap.size + 1 + 1 := ⟨_, rfl⟩
    have hsz : s1.heap.size = w.heap.size + 1 + 1 + 1 := by rw [hws]; simp
    have dCA : C ≠ A := by omega
    have dCB : C ≠ B := by omega
    have kA0 : s1.cell? ⟨A, 0, none⟩ = some (.bool n1) := by rw [hws]; simp [go_sem, hdA, hdB, hdC]
    have kA1 : s1.cell? ⟨A, 1, none⟩ = some (.string a1) := by rw [hws]; simp [go_sem, hdA, hdB, hdC]
    have kA2 : s1.cell? ⟨A, 2, none⟩ = some (.string d1) := by rw [hws]; simp [go_sem, hdA, hdB, hdC]
    have zA : A < s1.heap.size := by omega
    have lA : w.heap.size ≤ A := by have := Nat.le_refl w.heap.size; omega
    have kB0 : s1.cell? ⟨B, 0, none⟩ = some (.bool n2) := by rw [hws]; simp [go_sem, hdA, hdB, hdC]
    have kB1 : s1.cell? ⟨B, 1, none⟩ = some (.string a2) := by rw [hws]; simp [go_sem, hdA, hdB, hdC]
    have kB2 : s1.cell? ⟨B, 2, none⟩ = some (.string d2) := by rw [hws]; simp [go_sem, hdA, hdB, hdC]
    have zB : B < s1.heap.size := by omega
    have lB : w.heap.size ≤ B := by have := Nat.le_refl w.heap.size; omega
    have kC0 : s1.cell? ⟨C, 0, none⟩ = some (.bool false) := by rw [hws]; simp [go_sem, hdA, hdB, hdC]
    have fC0 : s1.frozen? ⟨C, 0, none⟩ = false := by rw [hws]; simp [go_sem, hdA, hdB, hdC]
    have kC1 : s1.cell? ⟨C, 1, none⟩ = some (.string ⟨#[]⟩) := by rw [hws]; simp [go_sem, hdA, hdB, hdC]
    have fC1 : s1.frozen? ⟨C, 1, none⟩ = false := by rw [hws]; simp [go_sem, hdA, hdB, hdC]
    have kC2 : s1.cell? ⟨C, 2, none⟩ = some (.string ⟨#[]⟩) := by rw [hws]; simp [go_sem, hdA, hdB, hdC]
    have fC2 : s1.frozen? ⟨C, 2, none⟩ = false := by rw [hws]; simp [go_sem, hdA, hdB, hdC]
    have zC : C < s1.heap.size := by omega
    have lC : w.heap.size ≤ C := by have := Nat.le_refl w.heap.size; omega
    rw [← hws]
    try rw [← hdC]
    try rw [← hdB]
    try rw [← hdA]
    clear hws hsz hdA hdB hdC
    have hBo := hBs; clear hBs
    refine (HP1.out _).mono ?_; rintro e s2 ⟨rfl, hb⟩
    replace kA0 := belK hb kA0 zA; replace kA1 := belK hb kA1 zA; replace kA2 := belK hb kA2 zA; replace zA := Nat.lt_of_lt_of_le zA hb.size
    replace kB0 := belK hb kB0 zB; replace kB1 := belK hb kB1 zB; replace kB2 := belK hb kB2 zB; replace zB := Nat.lt_of_lt_of_le zB hb.size
    replace kC0 := belK hb kC0 zC; replace fC0 := belF hb fC0 zC; replace kC1 := belK hb kC1 zC; replace fC1 := belF hb fC1 zC; replace kC2 := belK hb kC2 zC; replace fC2 := belF hb fC2 zC; replace zC := Nat.lt_of_lt_of_le zC hb.size
    replace hBo := hBo.trans (hb.mono hBo.size)
    clear hb
    go_wp2_with fail
    obtain ⟨s3, hws⟩ : ∃ s, s = ((s2.alloc (.cells #[.bool (zb T1), .string (zt T1)] 44)).alloc (.cells #[.bool (zb L1), .string (zt L1)] 44)) := ⟨_, rfl⟩
    have hBs : Below w.heap.size w s3 := by rw [hws]; exact (((hBo).alloc (by exact hBo.size) _).alloc (by have := hBo.size; simp; omega) _)
    obtain ⟨P, hdP⟩ : ∃ b, b = s2.heap.size := ⟨_, rfl⟩
    obtain ⟨O, hdO⟩ : ∃ b, b = s2.heap.size + 1 := ⟨_, rfl⟩
    have hsz : s3.heap.size = s2.heap.size + 1 + 1 := by rw [hws]; simp
    have dCP : C ≠ P := by omega
    have dCO : C ≠ O := by omega
    have hQC : ∀ p v, s2.cell? p = some v → s3.cell? p = some v := fun p v h => by rw [hws]; exact (alK (alK h))
    have hQZ : ∀ b, b < s2.heap.size → b < s3.heap.size := fun b h => by omega
    have hQF : ∀ b j, b < s2.heap.size → s2.frozen? ⟨b, j, none⟩ = false → s3.frozen? ⟨b, j, none⟩ = false := fun b j z h => by rw [hws]; exact (alF (alZ z) (alF z h))
    replace kA0 := hQC _ _ kA0; replace kA1 := hQC _ _ kA1; replace kA2 := hQC _ _ kA2; replace zA := hQZ _ zA
    replace kB0 := hQC _ _ kB0; replace kB1 := hQC _ _ kB1; replace kB2 := hQC _ _ kB2; replace zB := hQZ _ zB
    replace kC0 := hQC _ _ kC0; replace fC0 := hQF _ _ zC fC0; replace kC1 := hQC _ _ kC1; replace fC1 := hQF _ _ zC fC1; replace kC2 := hQC _ _ kC2; replace fC2 := hQF _ _ zC fC2; replace zC := hQZ _ zC
    clear hQC hQZ hQF
    have kP0 : s3.cell? ⟨P, 0, none⟩ = some (.bool (zb T1)) := by rw [hws]; simp [go_sem, hdP, hdO]
    have kP1 : s3.cell? ⟨P, 1, none⟩ = some (.string (zt T1)) := by rw [hws]; simp [go_sem, hdP, hdO]
    have zP : P < s3.heap.size := by omega
    have lP : w.heap.size ≤ P := by have := hBo.size; omega
    have kO0 : s3.cell? ⟨O, 0, none⟩ = some (.bool (zb L1)) := by rw [hws]; simp [go_sem, hdP, hdO]
    have kO1 : s3.cell? ⟨O, 1, none⟩ = some (.string (zt L1)) := by rw [hws]; simp [go_sem, hdP, hdO]
    have zO : O < s3.heap.size := by omega
    have lO : w.heap.size ≤ O := by have := hBo.size; omega
    rw [← hws]
    try rw [← hdO]
    try rw [← hdP]
    clear hBo
    clear hws hsz hdP hdO
    have hBo := hBs; clear hBs
    refine (HP2.out _).mono ?_; rintro e s4 ⟨rfl, hb⟩
    replace kA0 := belK hb kA0 zA; replace kA1 := belK hb kA1 zA; replace kA2 := belK hb kA2 zA; replace zA := Nat.lt_of_lt_of_le zA hb.size
    replace kB0 := belK hb kB0 zB; replace kB1 := belK hb kB1 zB; replace kB2 := belK hb kB2 zB; replace zB := Nat.lt_of_lt_of_le zB hb.size
    replace kC0 := belK hb kC0 zC; replace fC0 := belF hb fC0 zC; replace kC1 := belK hb kC1 zC; replace fC1 := belF hb fC1 zC; replace kC2 := belK hb kC2 zC; replace fC2 := belF hb fC2 zC; replace zC := Nat.lt_of_lt_of_le zC hb.size
    replace kP0 := belK hb kP0 zP; replace kP1 := belK hb kP1 zP; replace zP := Nat.lt_of_lt_of_le zP hb.size
    replace kO0 := belK hb kO0 zO; replace kO1 := belK hb kO1 zO; replace zO := Nat.lt_of_lt_of_le zO hb.size
    replace hBo := hBo.trans (hb.mono hBo.size)
    clear hb
    go_upto_region 3 with (fail)
    obtain ⟨s5, hws⟩ : ∃ s, s = ((s4.alloc (.cells #[.bool (zb T2), .string (zt T2)] 44)).alloc (.cells #[.bool (zb L2), .string (zt L2)] 44)) := ⟨_, rfl⟩
    have hBs : Below w.heap.size w s5 := by rw [hws]; exact (((hBo).alloc (by exact hBo.size) _).alloc (by have := hBo.size; simp; omega) _)
    obtain ⟨U, hdU⟩ : ∃ b, b = s4.heap.size := ⟨_, rfl⟩
    obtain ⟨V, hdV⟩ : ∃ b, b = s4.heap.size + 1 := ⟨_, rfl⟩
    have hsz : s5.heap.size = s4.heap.size + 1 + 1 := by rw [hws]; simp
    have dCU : C ≠ U := by omega
    have dCV : C ≠ V := by omega
    have hQC : ∀ p v, s4.cell? p = some v → s5.cell? p = some v := fun p v h => by rw [hws]; exact (alK (alK h))
    have hQZ : ∀ b, b < s4.heap.size → b < s5.heap.size := fun b h => by omega
    have hQF : ∀ b j, b < s4.heap.size → s4.frozen? ⟨b, j, none⟩ = false → s5.frozen? ⟨b, j, none⟩ = false := fun b j z h => by rw [hws]; exact (alF (alZ z) (alF z h))
    replace kA0 := hQC _ _ kA0; replace kA1 := hQC _ _ kA1; replace kA2 := hQC _ _ kA2; replace zA := hQZ _ zA
    replace kB0 := hQC _ _ kB0; replace kB1 := hQC _ _ kB1; replace kB2 := hQC _ _ kB2; replace zB := hQZ _ zB
    replace kC0 := hQC _ _ kC0; replace fC0 := hQF _ _ zC fC0; replace kC1 := hQC _ _ kC1; replace fC1 := hQF _ _ zC fC1; replace kC2 := hQC _ _ kC2; replace fC2 := hQF _ _ zC fC2; replace zC := hQZ _ zC
    replace kP0 := hQC _ _ kP0; replace kP1 := hQC _ _ kP1; replace zP := hQZ _ zP
    replace kO0 := hQC _ _ kO0; replace kO1 := hQC _ _ kO1; replace zO := hQZ _ zO
    clear hQC hQZ hQF
    have kU0 : s5.cell? ⟨U, 0, none⟩ = some (.bool (zb T2)) := by rw [hws]; simp [go_sem, hdU, hdV]
    have kU1 : s5.cell? ⟨U, 1, none⟩ = some (.string (zt T2)) := by rw [hws]; simp [go_sem, hdU, hdV]
    have zU : U < s5.heap.size := by omega
    have lU : w.heap.size ≤ U := by have := hBo.size; omega
    have kV0 : s5.cell? ⟨V, 0, none⟩ = some (.bool (zb L2)) := by rw [hws]; simp [go_sem, hdU, hdV]
    have kV1 : s5.cell? ⟨V, 1, none⟩ = some (.string (zt L2)) := by rw [hws]; simp [go_sem, hdU, hdV]
    have zV : V < s5.heap.size := by omega
    have lV : w.heap.size ≤ V := by have := hBo.size; omega
    rw [← hws]
    try rw [← hdV]
    try rw [← hdU]
    clear hBo
    clear hws hsz hdU hdV
    have hBo := hBs; clear hBs
    go_cut [11, 12] (CutN s5 (.bool false) (.string ⟨#[]⟩) (.int .i64 5))
    case first =>
      have HF : Hid (∀ W, Below s5.heap.size s5 W → Below w.heap.size w W) := fun W hW => hBo.trans (hW.mono hBo.size)
      clear hBo
      first | (go_region_held3 (fun w' => w'.cell? ⟨A, 0, none⟩ = some (.bool n1) ∧ w'.cell? ⟨A, 1, none⟩ = some (.string a1) ∧ w'.cell? ⟨A, 2, none⟩ = some (.string d1) ∧ w'.cell? ⟨B, 0, none⟩ = some (.bool n2) ∧ w'.cell? ⟨B, 1, none⟩ = some (.string a2) ∧ w'.cell? ⟨B, 2, none⟩ = some (.string d2) ∧ w'.cell? ⟨C, 0, none⟩ = some (.bool false) ∧ w'.cell? ⟨C, 1, none⟩ = some (.string ⟨#[]⟩) ∧ w'.cell? ⟨C, 2, none⟩ = some (.string ⟨#[]⟩) ∧ w'.cell? ⟨P, 0, none⟩ = some (.bool (zb T1)) ∧ w'.cell? ⟨P, 1, none⟩ = some (.string (zt T1)) ∧ w'.cell? ⟨O, 0, none⟩ = some (.bool (zb L1)) ∧ w'.cell? ⟨O, 1, none⟩ = some (.string (zt L1)) ∧ w'.cell? ⟨U, 0, none⟩ = some (.bool (zb T2)) ∧ w'.cell? ⟨U, 1, none⟩ = some (.string (zt T2)) ∧ w'.cell? ⟨V, 0, none⟩ = some (.bool (zb L2)) ∧ w'.cell? ⟨V, 1, none⟩ = some (.string (zt L2)))
        (first | go_keep | ((repeat' apply And.intro) <;> ((repeat (with_reducible first | apply cell_al | apply cell_dr | refine cell_set ?_ (by (try dsimp only); omega))) <;> first | assumption | (rw [hcx _ _ (by assumption)]; assumption)))) (first
        | (go_at_call 66; refine (HM.out _ _ _ (by assumption) (by assumption)).mono ?_; rintro e x6 ⟨he, hbx⟩; (first | rw [EX.out] at he | rw [EY.out] at he); subst he; have hTx : Below s5.heap.size s5 x6 := (by first | exact (Below.refl _ _).drew.trans hbx | exact (Below.refl _ _).trans hbx | (rename_i hTp; exact hTp.trans (hbx.mono hTp.size)) | exact Below.trans (by assumption) (hbx.mono (Below.size (by assumption))) | exact Below.trans (by repeat (with_reducible first | assumption | exact Below.refl _ _ | apply al_below | apply Below.drew)) (hbx.mono (Below.size (by repeat (with_reducible first | assumption | exact Below.refl _ _ | apply al_below | apply Below.drew))))); obtain ⟨hcx, hfx⟩ := bcell hTx; have hzx := hbx.size; (try simp at hzx); (try have hQZ := Nat.lt_of_succ_le hzx); (try have hzm := Nat.lt_of_succ_lt (Nat.lt_of_succ_le hzx)); have hzq := hTx.size; (try have hzo : s5.heap.size < x6.heap.size := (by omega)); (try have hzp : s5.heap.size + 1 < x6.heap.size := (by omega)); have hzt : ∀ b, b < _ → b < _ := fun b h => Nat.lt_of_lt_of_le h hbx.size; obtain ⟨hcy, hfy⟩ := bcell hbx; clear hbx)
        | (go_at_call 41; refine (HFL.out _).mono ?_; rintro e x6 ⟨rfl, hbx⟩; have hTx : Below s5.heap.size s5 x6 := (by first | exact (Below.refl _ _).drew.trans hbx | exact (Below.refl _ _).trans hbx | (rename_i hTp; exact hTp.trans (hbx.mono hTp.size)) | exact Below.trans (by assumption) (hbx.mono (Below.size (by assumption))) | exact Below.trans (by repeat (with_reducible first | assumption | exact Below.refl _ _ | apply al_below | apply Below.drew)) (hbx.mono (Below.size (by repeat (with_reducible first | assumption | exact Below.refl _ _ | apply al_below | apply Below.drew))))); obtain ⟨hcx, hfx⟩ := bcell hTx; have hzx := hbx.size; (try simp at hzx); (try have hQZ := Nat.lt_of_succ_le hzx); (try have hzm := Nat.lt_of_succ_lt (Nat.lt_of_succ_le hzx)); have hzq := hTx.size; (try have hzo : s5.heap.size < x6.heap.size := (by omega)); (try have hzp : s5.heap.size + 1 < x6.heap.size := (by omega)); have hzt : ∀ b, b < _ → b < _ := fun b h => Nat.lt_of_lt_of_le h hbx.size; obtain ⟨hcy, hfy⟩ := bcell hbx; clear hbx))) | fail
      all_goals go_wp2_with fail
      all_goals go_meet
      all_goals refine ⟨_, rfl, rfl, ?_, ?_, ?_, ?_⟩
      all_goals first | omega | (simp [*, go_sem]; done) | ((repeat (with_reducible refine cell_set ?_ (by (try dsimp only); omega))); simp (maxDischargeDepth := 7) [*, go_sem]; done) | (repeat (with_reducible first | assumption | exact Below.refl _ _ | apply al_below | apply Below.drew | refine set_below ?_ (by (try dsimp only); omega)))
    case rest =>
      obtain ⟨Q, rfl, rfl, hQ, kQ0, kQ1, hT⟩ := hcut
      have dCQ : C ≠ Q := by omega
      obtain ⟨hcx, hfx⟩ := bcell hT
      replace kA0 := (hcx A 0 zA).trans kA0
      replace kA1 := (hcx A 1 zA).trans kA1
      replace kA2 := (hcx A 2 zA).trans kA2
      replace zA := Nat.lt_of_lt_of_le zA hT.size
      replace kB0 := (hcx B 0 zB).trans kB0
      replace kB1 := (hcx B 1 zB).trans kB1
      replace kB2 := (hcx B 2 zB).trans kB2
      replace zB := Nat.lt_of_lt_of_le zB hT.size
      replace kC0 := (hcx C 0 zC).trans kC0
      replace fC0 := (hfx C 0 zC).trans fC0
      replace kC1 := (hcx C 1 zC).trans kC1
      replace fC1 := (hfx C 1 zC).trans fC1
      replace kC2 := (hcx C 2 zC).trans kC2
      replace fC2 := (hfx C 2 zC).trans fC2
      replace zC := Nat.lt_of_lt_of_le zC hT.size
      replace kP0 := (hcx P 0 zP).trans kP0
      replace kP1 := (hcx P 1 zP).trans kP1
      replace zP := Nat.lt_of_lt_of_le zP hT.size
      replace kO0 := (hcx O 0 zO).trans kO0
      replace kO1 := (hcx O 1 zO).trans kO1
      replace zO := Nat.lt_of_lt_of_le zO hT.size
      replace kU0 := (hcx U 0 zU).trans kU0
      replace kU1 := (hcx U 1 zU).trans kU1
      replace zU := Nat.lt_of_lt_of_le zU hT.size
      replace kV0 := (hcx V 0 zV).trans kV0
      replace kV1 := (hcx V 1 zV).trans kV1
      replace zV := Nat.lt_of_lt_of_le zV hT.size
      have lQ := Nat.le_trans hBo.size hQ
      have zQ := World.block_lt_of_cell? _ _ kQ0
      replace hBo := hBo.trans (hT.mono hBo.size)
      clear hT hcx hfx hQ
      all_goals go_wp2_with fail
      all_goals refine bodyPost_ret (v := .tuple #[.agg #[.bool false, .string ⟨#[]⟩, .string ⟨#[]⟩], .int .i64 5]) (by simp [results, Tryz.results30, go_sem, kC0, kC1, kC2, zC]) rfl ⟨rfl, ?_⟩
      all_goals exact (((hBo.setCell lC _).setCell lC _).setCell lC _)
  · rw [if_neg h0] at hq hc
    have hy0 : T2 * L1 ≠ 0 := Int.mul_ne_zero h0 hl1
    generalize hX : T1 * L2 = X at *
    generalize hY : T2 * L1 = Y at *
    generalize hZ : L1 * L2 = Z at *
    generalize hF : flq X Y = F at *
    generalize hR : flr X Y = R at *
    have sR : (zt R).size ≤ 64 := Nat.le_trans (zt_mono (Nat.le_of_lt (by rw [← hR]; exact flr_abs hy0))) (by omega)
    have HFL := Lib.hid (fun w => wholeFloor_zz X Y F R w (by omega) (by omega) hy0 hF hR)
    have HK := Lib.hid (fun w => ratMake_zz R Z q c w (by omega) (by omega) hq hc)
    have HM := Lib.hid hM
    have EX := Lib.hid hX
    have EY := Lib.hid hY
    have EZ := Lib.hid hZ
    clear hq hc hM1 hM2 hM3 hM h0 hl1 sx sy sz hy0 sR hX hY hZ hF hR
    go_enter Tryz.func30, Tryz.ntmps30
    go_wp2_with fail
    obtain ⟨s7, hws⟩ : ∃ s, s = (((w.alloc (.cells #[.bool n1, .string a1, .string d1] 23)).alloc (.cells #[.bool n2, .string a2, .string d2] 23)).alloc (.cells #[.bool false, .string ⟨#[]⟩, .string ⟨#[]⟩] 23)) := ⟨_, rfl⟩
    have hBs : Below w.heap.size w s7 := by rw [hws]; exact ((((Below.refl w.heap.size w).alloc (by simp) _).alloc (by simp) _).alloc (by simp; omega) _)
    obtain ⟨A, hdA⟩ : ∃ b, b = w.heap.size := ⟨_, rfl⟩
    obtain ⟨B, hdB⟩ : ∃ b, b = w.heap.size + 1 := ⟨_, rfl⟩
    obtain ⟨C, hdC⟩ : ∃ b, b = w.heap.size + 1 + 1 := ⟨_, rfl⟩
    have hsz : s7.heap.size = w.heap.size + 1 + 1 + 1 := by rw [hws]; simp
    have dCA : C ≠ A := by omega
    have dCB : C ≠ B := by omega
    have kA0 : s7.cell? ⟨A, 0, none⟩ = some (.bool n1) := by rw [hws]; simp [go_sem, hdA, hdB, hdC]
    have kA1 : s7.cell? ⟨A, 1, none⟩ = some (.string a1) := by rw [hws]; simp [go_sem, hdA, hdB, hdC]
    have kA2 : s7.cell? ⟨A, 2, none⟩ = some (.string d1) := by rw [hws]; simp [go_sem, hdA, hdB, hdC]
    have zA : A < s7.heap.size := by omega
    have lA : w.heap.size ≤ A := by have := Nat.le_refl w.heap.size; omega
    have kB0 : s7.cell? ⟨B, 0, none⟩ = some (.bool n2) := by rw [hws]; simp [go_sem, hdA, hdB, hdC]
    have kB1 : s7.cell? ⟨B, 1, none⟩ = some (.string a2) := by rw [hws]; simp [go_sem, hdA, hdB, hdC]
    have kB2 : s7.cell? ⟨B, 2, none⟩ = some (.string d2) := by rw [hws]; simp [go_sem, hdA, hdB, hdC]
    have zB : B < s7.heap.size := by omega
    have lB : w.heap.size ≤ B := by have := Nat.le_refl w.heap.size; omega
    have kC0 : s7.cell? ⟨C, 0, none⟩ = some (.bool false) := by rw [hws]; simp [go_sem, hdA, hdB, hdC]
    have fC0 : s7.frozen? ⟨C, 0, none⟩ = false := by rw [hws]; simp [go_sem, hdA, hdB, hdC]
    have kC1 : s7.cell? ⟨C, 1, none⟩ = some (.string ⟨#[]⟩) := by rw [hws]; simp [go_sem, hdA, hdB, hdC]
    have fC1 : s7.frozen? ⟨C, 1, none⟩ = false := by rw [hws]; simp [go_sem, hdA, hdB, hdC]
    have kC2 : s7.cell? ⟨C, 2, none⟩ = some (.string ⟨#[]⟩) := by rw [hws]; simp [go_sem, hdA, hdB, hdC]
    have fC2 : s7.frozen? ⟨C, 2, none⟩ = false := by rw [hws]; simp [go_sem, hdA, hdB, hdC]
    have zC : C < s7.heap.size := by omega
    have lC : w.heap.size ≤ C := by have := Nat.le_refl w.heap.size; omega
    rw [← hws]
    try rw [← hdC]
    try rw [← hdB]
    try rw [← hdA]
    clear hws hsz hdA hdB hdC
    have hBo := hBs; clear hBs
    refine (HP1.out _).mono ?_; rintro e s8 ⟨rfl, hb⟩
    replace kA0 := belK hb kA0 zA; replace kA1 := belK hb kA1 zA; replace kA2 := belK hb kA2 zA; replace zA := Nat.lt_of_lt_of_le zA hb.size
    replace kB0 := belK hb kB0 zB; replace kB1 := belK hb kB1 zB; replace kB2 := belK hb kB2 zB; replace zB := Nat.lt_of_lt_of_le zB hb.size
    replace kC0 := belK hb kC0 zC; replace fC0 := belF hb fC0 zC; replace kC1 := belK hb kC1 zC; replace fC1 := belF hb fC1 zC; replace kC2 := belK hb kC2 zC; replace fC2 := belF hb fC2 zC; replace zC := Nat.lt_of_lt_of_le zC hb.size
    replace hBo := hBo.trans (hb.mono hBo.size)
    clear hb
    go_wp2_with fail
    obtain ⟨s9, hws⟩ : ∃ s, s = ((s8.alloc (.cells #[.bool (zb T1), .string (zt T1)] 44)).alloc (.cells #[.bool (zb L1), .string (zt L1)] 44)) := ⟨_, rfl⟩
    have hBs : Below w.heap.size w s9 := by rw [hws]; exact (((hBo).alloc (by exact hBo.size) _).alloc (by have := hBo.size; simp; omega) _)
    obtain ⟨P, hdP⟩ : ∃ b, b = s8.heap.size := ⟨_, rfl⟩
    obtain ⟨O, hdO⟩ : ∃ b, b = s8.heap.size + 1 := ⟨_, rfl⟩
    have hsz : s9.heap.size = s8.heap.size + 1 + 1 := by rw [hws]; simp
    have dCP : C ≠ P := by omega
    have dCO : C ≠ O := by omega
    have hQC : ∀ p v, s8.cell? p = some v → s9.cell? p = some v := fun p v h => by rw [hws]; exact (alK (alK h))
    have hQZ : ∀ b, b < s8.heap.size → b < s9.heap.size := fun b h => by omega
    have hQF : ∀ b j, b < s8.heap.size → s8.frozen? ⟨b, j, none⟩ = false → s9.frozen? ⟨b, j, none⟩ = false := fun b j z h => by rw [hws]; exact (alF (alZ z) (alF z h))
    replace kA0 := hQC _ _ kA0; replace kA1 := hQC _ _ kA1; replace kA2 := hQC _ _ kA2; replace zA := hQZ _ zA
    replace kB0 := hQC _ _ kB0; replace kB1 := hQC _ _ kB1; replace kB2 := hQC _ _ kB2; replace zB := hQZ _ zB
    replace kC0 := hQC _ _ kC0; replace fC0 := hQF _ _ zC fC0; replace kC1 := hQC _ _ kC1; replace fC1 := hQF _ _ zC fC1; replace kC2 := hQC _ _ kC2; replace fC2 := hQF _ _ zC fC2; replace zC := hQZ _ zC
    clear hQC hQZ hQF
    have kP0 : s9.cell? ⟨P, 0, none⟩ = some (.bool (zb T1)) := by rw [hws]; simp [go_sem, hdP, hdO]
    have kP1 : s9.cell? ⟨P, 1, none⟩ = some (.string (zt T1)) := by rw [hws]; simp [go_sem, hdP, hdO]
    have zP : P < s9.heap.size := by omega
    have lP : w.heap.size ≤ P := by have := hBo.size; omega
    have kO0 : s9.cell? ⟨O, 0, none⟩ = some (.bool (zb L1)) := by rw [hws]; simp [go_sem, hdP, hdO]
    have kO1 : s9.cell? ⟨O, 1, none⟩ = some (.string (zt L1)) := by rw [hws]; simp [go_sem, hdP, hdO]
    have zO : O < s9.heap.size := by omega
    have lO : w.heap.size ≤ O := by have := hBo.size; omega
    rw [← hws]
    try rw [← hdO]
    try rw [← hdP]
    clear hBo
    clear hws hsz hdP hdO
    have hBo := hBs; clear hBs
    refine (HP2.out _).mono ?_; rintro e s10 ⟨rfl, hb⟩
    replace kA0 := belK hb kA0 zA; replace kA1 := belK hb kA1 zA; replace kA2 := belK hb kA2 zA; replace zA := Nat.lt_of_lt_of_le zA hb.size
    replace kB0 := belK hb kB0 zB; replace kB1 := belK hb kB1 zB; replace kB2 := belK hb kB2 zB; replace zB := Nat.lt_of_lt_of_le zB hb.size
    replace kC0 := belK hb kC0 zC; replace fC0 := belF hb fC0 zC; replace kC1 := belK hb kC1 zC; replace fC1 := belF hb fC1 zC; replace kC2 := belK hb kC2 zC; replace fC2 := belF hb fC2 zC; replace zC := Nat.lt_of_lt_of_le zC hb.size
    replace kP0 := belK hb kP0 zP; replace kP1 := belK hb kP1 zP; replace zP := Nat.lt_of_lt_of_le zP hb.size
    replace kO0 := belK hb kO0 zO; replace kO1 := belK hb kO1 zO; replace zO := Nat.lt_of_lt_of_le zO hb.size
    replace hBo := hBo.trans (hb.mono hBo.size)
    clear hb
    go_upto_region 3 with (fail)
    obtain ⟨s11, hws⟩ : ∃ s, s = ((s10.alloc (.cells #[.bool (zb T2), .string (zt T2)] 44)).alloc (.cells #[.bool (zb L2), .string (zt L2)] 44)) := ⟨_, rfl⟩
    have hBs : Below w.heap.size w s11 := by rw [hws]; exact (((hBo).alloc (by exact hBo.size) _).alloc (by have := hBo.size; simp; omega) _)
    obtain ⟨U, hdU⟩ : ∃ b, b = s10.heap.size := ⟨_, rfl⟩
    obtain ⟨V, hdV⟩ : ∃ b, b = s10.heap.size + 1 := ⟨_, rfl⟩
    have hsz : s11.heap.size = s10.heap.size + 1 + 1 := by rw [hws]; simp
    have dCU : C ≠ U := by omega
    have dCV : C ≠ V := by omega
    have hQC : ∀ p v, s10.cell? p = some v → s11.cell? p = some v := fun p v h => by rw [hws]; exact (alK (alK h))
    have hQZ : ∀ b, b < s10.heap.size → b < s11.heap.size := fun b h => by omega
    have hQF : ∀ b j, b < s10.heap.size → s10.frozen? ⟨b, j, none⟩ = false → s11.frozen? ⟨b, j, none⟩ = false := fun b j z h => by rw [hws]; exact (alF (alZ z) (alF z h))
    replace kA0 := hQC _ _ kA0; replace kA1 := hQC _ _ kA1; replace kA2 := hQC _ _ kA2; replace zA := hQZ _ zA
    replace kB0 := hQC _ _ kB0; replace kB1 := hQC _ _ kB1; replace kB2 := hQC _ _ kB2; replace zB := hQZ _ zB
    replace kC0 := hQC _ _ kC0; replace fC0 := hQF _ _ zC fC0; replace kC1 := hQC _ _ kC1; replace fC1 := hQF _ _ zC fC1; replace kC2 := hQC _ _ kC2; replace fC2 := hQF _ _ zC fC2; replace zC := hQZ _ zC
    replace kP0 := hQC _ _ kP0; replace kP1 := hQC _ _ kP1; replace zP := hQZ _ zP
    replace kO0 := hQC _ _ kO0; replace kO1 := hQC _ _ kO1; replace zO := hQZ _ zO
    clear hQC hQZ hQF
    have kU0 : s11.cell? ⟨U, 0, none⟩ = some (.bool (zb T2)) := by rw [hws]; simp [go_sem, hdU, hdV]
    have kU1 : s11.cell? ⟨U, 1, none⟩ = some (.string (zt T2)) := by rw [hws]; simp [go_sem, hdU, hdV]
    have zU : U < s11.heap.size := by omega
    have lU : w.heap.size ≤ U := by have := hBo.size; omega
    have kV0 : s11.cell? ⟨V, 0, none⟩ = some (.bool (zb L2)) := by rw [hws]; simp [go_sem, hdU, hdV]
    have kV1 : s11.cell? ⟨V, 1, none⟩ = some (.string (zt L2)) := by rw [hws]; simp [go_sem, hdU, hdV]
    have zV : V < s11.heap.size := by omega
    have lV : w.heap.size ≤ V := by have := hBo.size; omega
    rw [← hws]
    try rw [← hdV]
    try rw [← hdU]
    clear hBo
    clear hws hsz hdU hdV
    have hBo := hBs; clear hBs
    go_cut [11, 12] (CutN s11 (.bool (zb R)) (.string (zt R)) (.int .i64 0))
    case first =>
      have HF : Hid (∀ W, Below s11.heap.size s11 W → Below w.heap.size w W) := fun W hW => hBo.trans (hW.mono hBo.size)
      clear hBo
      first | (go_region_held3 (fun w' => w'.cell? ⟨A, 0, none⟩ = some (.bool n1) ∧ w'.cell? ⟨A, 1, none⟩ = some (.string a1) ∧ w'.cell? ⟨A, 2, none⟩ = some (.string d1) ∧ w'.cell? ⟨B, 0, none⟩ = some (.bool n2) ∧ w'.cell? ⟨B, 1, none⟩ = some (.string a2) ∧ w'.cell? ⟨B, 2, none⟩ = some (.string d2) ∧ w'.cell? ⟨C, 0, none⟩ = some (.bool false) ∧ w'.cell? ⟨C, 1, none⟩ = some (.string ⟨#[]⟩) ∧ w'.cell? ⟨C, 2, none⟩ = some (.string ⟨#[]⟩) ∧ w'.cell? ⟨P, 0, none⟩ = some (.bool (zb T1)) ∧ w'.cell? ⟨P, 1, none⟩ = some (.string (zt T1)) ∧ w'.cell? ⟨O, 0, none⟩ = some (.bool (zb L1)) ∧ w'.cell? ⟨O, 1, none⟩ = some (.string (zt L1)) ∧ w'.cell? ⟨U, 0, none⟩ = some (.bool (zb T2)) ∧ w'.cell? ⟨U, 1, none⟩ = some (.string (zt T2)) ∧ w'.cell? ⟨V, 0, none⟩ = some (.bool (zb L2)) ∧ w'.cell? ⟨V, 1, none⟩ = some (.string (zt L2)))
        (first | go_keep | ((repeat' apply And.intro) <;> ((repeat (with_reducible first | apply cell_al | apply cell_dr | refine cell_set ?_ (by (try dsimp only); omega))) <;> first | assumption | (rw [hcx _ _ (by assumption)]; assumption)))) (first
        | (go_at_call 66; refine (HM.out _ _ _ (by assumption) (by assumption)).mono ?_; rintro e x12 ⟨he, hbx⟩; (first | rw [EX.out] at he | rw [EY.out] at he); subst he; have hTx : Below s11.heap.size s11 x12 := (by first | exact (Below.refl _ _).drew.trans hbx | exact (Below.refl _ _).trans hbx | (rename_i hTp; exact hTp.trans (hbx.mono hTp.size)) | exact Below.trans (by assumption) (hbx.mono (Below.size (by assumption))) | exact Below.trans (by repeat (with_reducible first | assumption | exact Below.refl _ _ | apply al_below | apply Below.drew)) (hbx.mono (Below.size (by repeat (with_reducible first | assumption | exact Below.refl _ _ | apply al_below | apply Below.drew))))); obtain ⟨hcx, hfx⟩ := bcell hTx; have hzx := hbx.size; (try simp at hzx); (try have hQZ := Nat.lt_of_succ_le hzx); (try have hzm := Nat.lt_of_succ_lt (Nat.lt_of_succ_le hzx)); have hzq := hTx.size; (try have hzo : s11.heap.size < x12.heap.size := (by omega)); (try have hzp : s11.heap.size + 1 < x12.heap.size := (by omega)); have hzt : ∀ b, b < _ → b < _ := fun b h => Nat.lt_of_lt_of_le h hbx.size; obtain ⟨hcy, hfy⟩ := bcell hbx; clear hbx)
        | (go_at_call 41; refine (HFL.out _).mono ?_; rintro e x12 ⟨rfl, hbx⟩; have hTx : Below s11.heap.size s11 x12 := (by first | exact (Below.refl _ _).drew.trans hbx | exact (Below.refl _ _).trans hbx | (rename_i hTp; exact hTp.trans (hbx.mono hTp.size)) | exact Below.trans (by assumption) (hbx.mono (Below.size (by assumption))) | exact Below.trans (by repeat (with_reducible first | assumption | exact Below.refl _ _ | apply al_below | apply Below.drew)) (hbx.mono (Below.size (by repeat (with_reducible first | assumption | exact Below.refl _ _ | apply al_below | apply Below.drew))))); obtain ⟨hcx, hfx⟩ := bcell hTx; have hzx := hbx.size; (try simp at hzx); (try have hQZ := Nat.lt_of_succ_le hzx); (try have hzm := Nat.lt_of_succ_lt (Nat.lt_of_succ_le hzx)); have hzq := hTx.size; (try have hzo : s11.heap.size < x12.heap.size := (by omega)); (try have hzp : s11.heap.size + 1 < x12.heap.size := (by omega)); have hzt : ∀ b, b < _ → b < _ := fun b h => Nat.lt_of_lt_of_le h hbx.size; obtain ⟨hcy, hfy⟩ := bcell hbx; clear hbx))) | fail
      all_goals go_wp2_with fail
      all_goals go_meet
      all_goals refine ⟨_, rfl, rfl, ?_, ?_, ?_, ?_⟩
      all_goals first | omega | (simp [*, go_sem]; done) | ((repeat (with_reducible refine cell_set ?_ (by (try dsimp only); omega))); simp (maxDischargeDepth := 7) [*, go_sem]; done) | (repeat (with_reducible first | assumption | exact Below.refl _ _ | apply al_below | apply Below.drew | refine set_below ?_ (by (try dsimp only); omega)))
    case rest =>
      obtain ⟨Q, rfl, rfl, hQ, kQ0, kQ1, hT⟩ := hcut
      have dCQ : C ≠ Q := by omega
      obtain ⟨hcx, hfx⟩ := bcell hT
      replace kA0 := (hcx A 0 zA).trans kA0
      replace kA1 := (hcx A 1 zA).trans kA1
      replace kA2 := (hcx A 2 zA).trans kA2
      replace zA := Nat.lt_of_lt_of_le zA hT.size
      replace kB0 := (hcx B 0 zB).trans kB0
      replace kB1 := (hcx B 1 zB).trans kB1
      replace kB2 := (hcx B 2 zB).trans kB2
      replace zB := Nat.lt_of_lt_of_le zB hT.size
      replace kC0 := (hcx C 0 zC).trans kC0
      replace fC0 := (hfx C 0 zC).trans fC0
      replace kC1 := (hcx C 1 zC).trans kC1
      replace fC1 := (hfx C 1 zC).trans fC1
      replace kC2 := (hcx C 2 zC).trans kC2
      replace fC2 := (hfx C 2 zC).trans fC2
      replace zC := Nat.lt_of_lt_of_le zC hT.size
      replace kP0 := (hcx P 0 zP).trans kP0
      replace kP1 := (hcx P 1 zP).trans kP1
      replace zP := Nat.lt_of_lt_of_le zP hT.size
      replace kO0 := (hcx O 0 zO).trans kO0
      replace kO1 := (hcx O 1 zO).trans kO1
      replace zO := Nat.lt_of_lt_of_le zO hT.size
      replace kU0 := (hcx U 0 zU).trans kU0
      replace kU1 := (hcx U 1 zU).trans kU1
      replace zU := Nat.lt_of_lt_of_le zU hT.size
      replace kV0 := (hcx V 0 zV).trans kV0
      replace kV1 := (hcx V 1 zV).trans kV1
      replace zV := Nat.lt_of_lt_of_le zV hT.size
      have lQ := Nat.le_trans hBo.size hQ
      have zQ := World.block_lt_of_cell? _ _ kQ0
      replace hBo := hBo.trans (hT.mono hBo.size)
      clear hT hcx hfx hQ
      go_wp2_with fail
      have HF : Hid (∀ W, Below wc.heap.size wc W → Below w.heap.size w W) := fun W hW => hBo.trans (hW.mono hBo.size)
      clear hBo
      first | (go_region_held3 (fun w' => w'.cell? ⟨A, 0, none⟩ = some (.bool n1) ∧ w'.cell? ⟨A, 1, none⟩ = some (.string a1) ∧ w'.cell? ⟨A, 2, none⟩ = some (.string d1) ∧ w'.cell? ⟨B, 0, none⟩ = some (.bool n2) ∧ w'.cell? ⟨B, 1, none⟩ = some (.string a2) ∧ w'.cell? ⟨B, 2, none⟩ = some (.string d2) ∧ w'.cell? ⟨P, 0, none⟩ = some (.bool (zb T1)) ∧ w'.cell? ⟨P, 1, none⟩ = some (.string (zt T1)) ∧ w'.cell? ⟨O, 0, none⟩ = some (.bool (zb L1)) ∧ w'.cell? ⟨O, 1, none⟩ = some (.string (zt L1)) ∧ w'.cell? ⟨U, 0, none⟩ = some (.bool (zb T2)) ∧ w'.cell? ⟨U, 1, none⟩ = some (.string (zt T2)) ∧ w'.cell? ⟨V, 0, none⟩ = some (.bool (zb L2)) ∧ w'.cell? ⟨V, 1, none⟩ = some (.string (zt L2)) ∧ w'.cell? ⟨Q, 0, none⟩ = some (.bool (zb R)) ∧ w'.cell? ⟨Q, 1, none⟩ = some (.string (zt R)))
        (go_keep) (first
        | (go_at_call 66; refine (HM.out _ _ _ (by assumption) (by assumption)).mono ?_; rintro e x13 ⟨he, hbx⟩; (first | rw [EZ.out] at he); subst he; have hTx : Below wc.heap.size wc x13 := (by first | exact (Below.refl _ _).drew.trans hbx | exact Below.trans (by assumption) (hbx.mono (Below.size (by assumption))) | exact (Below.refl _ _).trans hbx); obtain ⟨hcx, hfx⟩ := bcell hTx)
        | (go_at_call 42; refine (HK.out _).mono ?_; rintro e x13 ⟨rfl, hbx⟩; have hTx : Below wc.heap.size wc x13 := (by first | exact (Below.refl _ _).drew.trans hbx | exact Below.trans (by assumption) (hbx.mono (Below.size (by assumption))) | exact (Below.refl _ _).trans hbx); obtain ⟨hcx, hfx⟩ := bcell hTx))) | fail
      all_goals go_wp2_with fail
      all_goals refine bodyPost_ret (v := .tuple #[.agg #[.bool (rb q), .string (rn q), .string (rd q)], .int .i64 c]) (by simp [results, Tryz.results30, go_sem, hcx, kC0, kC1, kC2, zC]) rfl ⟨rfl, ?_⟩
      all_goals exact ((((HF.out _ (by assumption)).setCell lC _).setCell lC _).setCell lC _)
end Go.Proofs.YtbgmnpabclfjaaaGreatDoor
