/-
  LAYER 10's STATEMENTS, WALKED: areas.
-/
import Derived.Test.YtkgkgdgbkkhblaaDoorAddr14
namespace Go.Proofs.YtkgkgdgbkkhblaaDoor
open Go.RowKit Go.Shelf
set_option linter.unusedSimpArgs false
set_option linter.unusedVariables false

theorem sizeI_cnt (a b c d : Int) : sizeI a b c d = ((cntN a b c d : Nat) : Int) := by
  unfold sizeI
  cases h : nrmB a b c d with
  | false => rw [cntN_no h]; rfl
  | true => rw [cntN_cnt h]; rfl
/-- an area that Norm has made is as Norm tells it. -/
theorem nrm_again {a b c d : Int} (h : nrmE a b c d = 0) : nrmB (min a c) (min b d) (max a c) (max b d) = true := by
  unfold nrmE at h
  split at h
  · cases h
  · rename_i hg
    have hg' : (inG a b && inG c d) = true := by simpa using hg
    obtain ⟨g1, g2⟩ := Bool.and_eq_true_iff.1 hg'
    obtain ⟨a1, a2, b1, b2⟩ := (inG_iff _ _).1 g1
    obtain ⟨c1, c2, d1, d2⟩ := (inG_iff _ _).1 g2
    split at h
    · cases h
    · rename_i hc
      rw [nrmB_iff]
      have hp : min a c ≤ max a c := by omega
      have hq : min b d ≤ max b d := by omega
      refine ⟨?_, hp, hq⟩
      have e1 : inG (min a c) (min b d) = true := by rw [inG_iff]; omega
      have e2 : inG (max a c) (max b d) = true := by rw [inG_iff]; omega
      unfold nrmE
      rw [e1, e2, if_neg (by decide), Int.min_eq_left hp, Int.min_eq_left hq, Int.max_eq_right hp, Int.max_eq_right hq, if_neg hc]
theorem size_again {a b c d : Int} (h : nrmE a b c d = 0) : 0 < sizeI (min a c) (min b d) (max a c) (max b d) := by
  have hb := nrm_again h
  obtain ⟨a1, a2, b1, b2, c1, c2, d1, d2, h1, h2, _⟩ := nrm_facts hb
  have : sizeI (min a c) (min b d) (max a c) (max b d) = cnt (min a c) (min b d) (max a c) (max b d) := by unfold sizeI; rw [hb]; rfl
  rw [this]; unfold cnt
  exact Int.mul_pos (by omega) (by omega)
theorem has_again {a b c d : Int} (h : nrmE a b c d = 0) : hasB (min a c) (min b d) (max a c) (max b d) a b = true ∧ hasB (min a c) (min b d) (max a c) (max b d) c d = true := by
  have hb := nrm_again h
  unfold hasB
  rw [hb]
  have e1 : min a c ≤ a := by omega
  have e2 : a ≤ max a c := by omega
  have e3 : min b d ≤ b := by omega
  have e4 : b ≤ max b d := by omega
  have e5 : min a c ≤ c := by omega
  have e6 : c ≤ max a c := by omega
  have e7 : min b d ≤ d := by omega
  have e8 : d ≤ max b d := by omega
  rw [decide_eq_true e1, decide_eq_true e2, decide_eq_true e3, decide_eq_true e4, decide_eq_true e5, decide_eq_true e6, decide_eq_true e7, decide_eq_true e8]
  exact ⟨rfl, rfl⟩
theorem has_each (a b c d : Int) (k : Nat) (w : World) (hk : k < cntN a b c d) :
    Calls Tryd.prog 22 #[areaV a b c d, .int .i64 (a + ((k % (c - a + 1).toNat : Nat) : Int)), .int .i64 (b + ((k / (c - a + 1).toNat : Nat) : Int))] w fun e w' => e = .returned (.bool true) ∧ Below w.heap.size w w' := by
  have hn : nrmB a b c d = true := by
    cases h : nrmB a b c d with
    | true => rfl
    | false => rw [cntN_no h] at hk; omega
  have := areaHas_any a b c d (a + ((k % (c - a + 1).toNat : Nat) : Int)) (b + ((k / (c - a + 1).toNat : Nat) : Int)) w
  rwa [has_of hn hk rfl rfl] at this
set_option maxRecDepth 100000 in
set_option maxHeartbeats 4000000 in
theorem addrAreas_any (a b c d sheet x y : Int) (w : World) :
    Calls Tryd.prog 4 #[areaV a b c d, .int .i64 sheet, .int .i64 x, .int .i64 y] w fun e w' => e = .returned (.bool true) ∧ Below w.heap.size w w' := by
  have HK := Lib.hid known10_any
  have hud : undef = Value.tuple #[] := rfl
  have h1 := fun w => areaNorm_any a b c d w
  have h2 := fun w => refNorm_any a b c d w
  have h3 := fun w => areaSize_any a b c d w
  rw [sizeI_cnt] at h3
  have H4 := Lib.hid (fun w => areaHas_any a b c d x y w)
  have H5 := Lib.hid (fun w => refHas_any a b c d x y w)
  have H6 := Lib.hid (fun w => areaCells_any a b c d sheet w)
  have H7 := Lib.hid (fun w => refCells_any a b c d sheet w)
  have H8 := Lib.hid (fun k hk w => has_each a b c d k w hk)
  obtain ⟨n0, n1, n2, n3, hv⟩ := nrmV_agg a b c d
  have hfin : nrmE a b c d = 0 → (∀ w, Calls Tryd.prog 21 #[areaV n0 n1 n2 n3] w fun e w' => e = .returned (.int .i64 (sizeI n0 n1 n2 n3)) ∧ Below w.heap.size w w') ∧ 0 < sizeI n0 n1 n2 n3 ∧
      (∀ w, Calls Tryd.prog 22 #[areaV n0 n1 n2 n3, .int .i64 a, .int .i64 b] w fun e w' => e = .returned (.bool true) ∧ Below w.heap.size w w') ∧ (∀ w, Calls Tryd.prog 22 #[areaV n0 n1 n2 n3, .int .i64 c, .int .i64 d] w fun e w' => e = .returned (.bool true) ∧ Below w.heap.size w w') := fun h => by
    have hv2 : nrmV a b c d = areaV (min a c) (min b d) (max a c) (max b d) := if_pos h
    rw [hv] at hv2
    obtain ⟨e1, e2⟩ := has_again h
    have e3 := size_again h
    injection hv2 with hv2
    injection hv2 with hv2
    simp only [List.cons.injEq, Value.int.injEq, true_and, and_true] at hv2
    obtain ⟨rfl, rfl, rfl, rfl⟩ := hv2
    refine ⟨fun w => areaSize_any _ _ _ _ w, e3, fun w => ?_, fun w => ?_⟩
    · have := areaHas_any (min a c) (min b d) (max a c) (max b d) a b w
      rwa [e1] at this
    · have := areaHas_any (min a c) (min b d) (max a c) (max b d) c d w
      rwa [e2] at this
  have HFIN := Lib.hid hfin
  rw [hv] at h1 h2
  generalize nrmE a b c d = E at *
  generalize hasB a b c d x y = hv0 at *
  generalize cntN a b c d = n at *
  generalize (c - a + 1).toNat = nc at *
  have H1 := Lib.hid h1
  have H2 := Lib.hid h2
  have H3 := Lib.hid h3
  clear h1 h2 h3 hfin hv
  go_enter Tryd.func4, Tryd.ntmps4
  go_wp2_with fail
  obtain ⟨s1, hws⟩ : ∃ s, s = ((w.alloc (.cells #[.int .i64 a, .int .i64 b, .int .i64 c, .int .i64 d] 33)).alloc (.cells #[.int .i64 a, .int .i64 b, .int .i64 c, .int .i64 d] 34)) := ⟨_, rfl⟩
  have hBs : Below w.heap.size w s1 := by rw [hws]; exact (((Below.refl w.heap.size w).alloc (by simp) _).alloc (by simp) _)
  obtain ⟨A, hdA⟩ : ∃ b, b = w.heap.size := ⟨_, rfl⟩
  obtain ⟨X, hdX⟩ : ∃ b, b = w.heap.size + 1 := ⟨_, rfl⟩
  have hsz : s1.heap.size = w.heap.size + 1 + 1 := by rw [hws]; simp
  have kA0 : s1.cell? ⟨A, 0, none⟩ = some (.int .i64 a) := by rw [hws]; simp [go_sem, hdA, hdX]
  have kA1 : s1.cell? ⟨A, 1, none⟩ = some (.int .i64 b) := by rw [hws]; simp [go_sem, hdA, hdX]
  have kA2 : s1.cell? ⟨A, 2, none⟩ = some (.int .i64 c) := by rw [hws]; simp [go_sem, hdA, hdX]
  have kA3 : s1.cell? ⟨A, 3, none⟩ = some (.int .i64 d) := by rw [hws]; simp [go_sem, hdA, hdX]
  have zA : A < s1.heap.size := by omega
  have lA : w.heap.size ≤ A := by have := Nat.le_refl w.heap.size; omega
  have kX0 : s1.cell? ⟨X, 0, none⟩ = some (.int .i64 a) := by rw [hws]; simp [go_sem, hdA, hdX]
  have kX1 : s1.cell? ⟨X, 1, none⟩ = some (.int .i64 b) := by rw [hws]; simp [go_sem, hdA, hdX]
  have kX2 : s1.cell? ⟨X, 2, none⟩ = some (.int .i64 c) := by rw [hws]; simp [go_sem, hdA, hdX]
  have kX3 : s1.cell? ⟨X, 3, none⟩ = some (.int .i64 d) := by rw [hws]; simp [go_sem, hdA, hdX]
  have zX : X < s1.heap.size := by omega
  have lX : w.heap.size ≤ X := by have := Nat.le_refl w.heap.size; omega
  rw [← hws]
  try rw [← hdX]
  try rw [← hdA]
  clear hws hsz hdA hdX
  have hBo := hBs; clear hBs
  refine (H1.out _).mono ?_; rintro e s2 ⟨rfl, hb⟩
  replace kA0 := belK hb kA0 zA; replace kA1 := belK hb kA1 zA; replace kA2 := belK hb kA2 zA; replace kA3 := belK hb kA3 zA; replace zA := Nat.lt_of_lt_of_le zA hb.size
  replace kX0 := belK hb kX0 zX; replace kX1 := belK hb kX1 zX; replace kX2 := belK hb kX2 zX; replace kX3 := belK hb kX3 zX; replace zX := Nat.lt_of_lt_of_le zX hb.size
  replace hBo := hBo.trans (hb.mono hBo.size)
  clear hb
  go_wp2_with fail
  obtain ⟨s3, hws⟩ : ∃ s, s = (s2.alloc (.cells #[.int .i64 n0, .int .i64 n1, .int .i64 n2, .int .i64 n3] 34)) := ⟨_, rfl⟩
  have hBs : Below w.heap.size w s3 := by rw [hws]; exact ((hBo).alloc (by exact hBo.size) _)
  obtain ⟨N, hdN⟩ : ∃ b, b = s2.heap.size := ⟨_, rfl⟩
  have hsz : s3.heap.size = s2.heap.size + 1 := by rw [hws]; simp
  have hQC : ∀ p v, s2.cell? p = some v → s3.cell? p = some v := fun p v h => by rw [hws]; exact (alK h)
  have hQZ : ∀ b, b < s2.heap.size → b < s3.heap.size := fun b h => by omega
  replace kA0 := hQC _ _ kA0; replace kA1 := hQC _ _ kA1; replace kA2 := hQC _ _ kA2; replace kA3 := hQC _ _ kA3; replace zA := hQZ _ zA
  replace kX0 := hQC _ _ kX0; replace kX1 := hQC _ _ kX1; replace kX2 := hQC _ _ kX2; replace kX3 := hQC _ _ kX3; replace zX := hQZ _ zX
  clear hQC hQZ
  have kN0 : s3.cell? ⟨N, 0, none⟩ = some (.int .i64 n0) := by rw [hws]; simp [go_sem, hdN]
  have kN1 : s3.cell? ⟨N, 1, none⟩ = some (.int .i64 n1) := by rw [hws]; simp [go_sem, hdN]
  have kN2 : s3.cell? ⟨N, 2, none⟩ = some (.int .i64 n2) := by rw [hws]; simp [go_sem, hdN]
  have kN3 : s3.cell? ⟨N, 3, none⟩ = some (.int .i64 n3) := by rw [hws]; simp [go_sem, hdN]
  have zN : N < s3.heap.size := by omega
  have lN : w.heap.size ≤ N := by have := hBo.size; omega
  rw [← hws]
  try rw [← hdN]
  clear hBo
  clear hws hsz hdN
  have hBo := hBs; clear hBs
  refine (H2.out _).mono ?_; rintro e s4 ⟨rfl, hb⟩
  replace kA0 := belK hb kA0 zA; replace kA1 := belK hb kA1 zA; replace kA2 := belK hb kA2 zA; replace kA3 := belK hb kA3 zA; replace zA := Nat.lt_of_lt_of_le zA hb.size
  replace kX0 := belK hb kX0 zX; replace kX1 := belK hb kX1 zX; replace kX2 := belK hb kX2 zX; replace kX3 := belK hb kX3 zX; replace zX := Nat.lt_of_lt_of_le zX hb.size
  replace kN0 := belK hb kN0 zN; replace kN1 := belK hb kN1 zN; replace kN2 := belK hb kN2 zN; replace kN3 := belK hb kN3 zN; replace zN := Nat.lt_of_lt_of_le zN hb.size
  replace hBo := hBo.trans (hb.mono hBo.size)
  clear hb
  go_wp2_with fail
  obtain ⟨s5, hws⟩ : ∃ s, s = (s4.alloc (.cells #[.int .i64 n0, .int .i64 n1, .int .i64 n2, .int .i64 n3] 33)) := ⟨_, rfl⟩
  have hBs : Below w.heap.size w s5 := by rw [hws]; exact ((hBo).alloc (by exact hBo.size) _)
  obtain ⟨M, hdM⟩ : ∃ b, b = s4.heap.size := ⟨_, rfl⟩
  have hsz : s5.heap.size = s4.heap.size + 1 := by rw [hws]; simp
  have hQC : ∀ p v, s4.cell? p = some v → s5.cell? p = some v := fun p v h => by rw [hws]; exact (alK h)
  have hQZ : ∀ b, b < s4.heap.size → b < s5.heap.size := fun b h => by omega
  replace kA0 := hQC _ _ kA0; replace kA1 := hQC _ _ kA1; replace kA2 := hQC _ _ kA2; replace kA3 := hQC _ _ kA3; replace zA := hQZ _ zA
  replace kX0 := hQC _ _ kX0; replace kX1 := hQC _ _ kX1; replace kX2 := hQC _ _ kX2; replace kX3 := hQC _ _ kX3; replace zX := hQZ _ zX
  replace kN0 := hQC _ _ kN0; replace kN1 := hQC _ _ kN1; replace kN2 := hQC _ _ kN2; replace kN3 := hQC _ _ kN3; replace zN := hQZ _ zN
  clear hQC hQZ
  have kM0 : s5.cell? ⟨M, 0, none⟩ = some (.int .i64 n0) := by rw [hws]; simp [go_sem, hdM]
  have kM1 : s5.cell? ⟨M, 1, none⟩ = some (.int .i64 n1) := by rw [hws]; simp [go_sem, hdM]
  have kM2 : s5.cell? ⟨M, 2, none⟩ = some (.int .i64 n2) := by rw [hws]; simp [go_sem, hdM]
  have kM3 : s5.cell? ⟨M, 3, none⟩ = some (.int .i64 n3) := by rw [hws]; simp [go_sem, hdM]
  have zM : M < s5.heap.size := by omega
  have lM : w.heap.size ≤ M := by have := hBo.size; omega
  rw [← hws]
  try rw [← hdM]
  clear hBo
  clear hws hsz hdM
  have hBo := hBs; clear hBs
  refine (H6.out _).mono ?_; rintro e s6 ⟨⟨u, rfl, hu⟩, hb⟩
  replace kA0 := belK hb kA0 zA; replace kA1 := belK hb kA1 zA; replace kA2 := belK hb kA2 zA; replace kA3 := belK hb kA3 zA; replace zA := Nat.lt_of_lt_of_le zA hb.size
  replace kX0 := belK hb kX0 zX; replace kX1 := belK hb kX1 zX; replace kX2 := belK hb kX2 zX; replace kX3 := belK hb kX3 zX; replace zX := Nat.lt_of_lt_of_le zX hb.size
  replace kN0 := belK hb kN0 zN; replace kN1 := belK hb kN1 zN; replace kN2 := belK hb kN2 zN; replace kN3 := belK hb kN3 zN; replace zN := Nat.lt_of_lt_of_le zN hb.size
  replace kM0 := belK hb kM0 zM; replace kM1 := belK hb kM1 zM; replace kM2 := belK hb kM2 zM; replace kM3 := belK hb kM3 zM; replace zM := Nat.lt_of_lt_of_le zM hb.size
  replace hBo := hBo.trans (hb.mono hBo.size)
  clear hb
  have HU := Lib.hid hu
  have HSZ := Lib.hid (fun w => (H3.out w))
  rcases hu with ⟨rfl, rfl⟩ | ⟨g, cap, rfl, hg, hn, hc⟩
  · clear H8
    go_wp2_with fail
    have HF : Hid (∀ W, Below s6.heap.size s6 W → Below w.heap.size w W) := fun W hW => hBo.trans (hW.mono hBo.size)
    clear hBo
    first | (go_region_held3 (fun w' => w'.cell? ⟨A, 0, none⟩ = some (.int .i64 a) ∧ w'.cell? ⟨A, 1, none⟩ = some (.int .i64 b) ∧ w'.cell? ⟨A, 2, none⟩ = some (.int .i64 c) ∧ w'.cell? ⟨A, 3, none⟩ = some (.int .i64 d) ∧ w'.cell? ⟨X, 0, none⟩ = some (.int .i64 a) ∧ w'.cell? ⟨X, 1, none⟩ = some (.int .i64 b) ∧ w'.cell? ⟨X, 2, none⟩ = some (.int .i64 c) ∧ w'.cell? ⟨X, 3, none⟩ = some (.int .i64 d) ∧ w'.cell? ⟨N, 0, none⟩ = some (.int .i64 n0) ∧ w'.cell? ⟨N, 1, none⟩ = some (.int .i64 n1) ∧ w'.cell? ⟨N, 2, none⟩ = some (.int .i64 n2) ∧ w'.cell? ⟨N, 3, none⟩ = some (.int .i64 n3) ∧ w'.cell? ⟨M, 0, none⟩ = some (.int .i64 n0) ∧ w'.cell? ⟨M, 1, none⟩ = some (.int .i64 n1) ∧ w'.cell? ⟨M, 2, none⟩ = some (.int .i64 n2) ∧ w'.cell? ⟨M, 3, none⟩ = some (.int .i64 n3))
      (go_keep) (first
      | (go_at_call 20; refine (H7.out _).mono ?_; rintro e x7 ⟨⟨v2, rfl, hv2⟩, hbx⟩; have hTx : Below s6.heap.size s6 x7 := (by first | exact (Below.refl _ _).drew.trans hbx | exact Below.trans (by assumption) (hbx.mono (Below.size (by assumption))) | exact (Below.refl _ _).trans hbx); obtain ⟨hcx, hfx⟩ := bcell hTx)
      | (go_at_call 19; refine (cellsSame_any _ _ _ _ _ _ _ _ (HU.out.below hTx) hv2).mono ?_; rintro e x7 ⟨rfl, hbx⟩; have hTx : Below s6.heap.size s6 x7 := (by first | exact (Below.refl _ _).drew.trans hbx | exact Below.trans (by assumption) (hbx.mono (Below.size (by assumption))) | exact (Below.refl _ _).trans hbx); obtain ⟨hcx, hfx⟩ := bcell hTx)
      | (go_at_call 21; refine (HSZ.out _).mono ?_; rintro e x7 ⟨rfl, hbx⟩; have hTx : Below s6.heap.size s6 x7 := (by first | exact (Below.refl _ _).drew.trans hbx | exact Below.trans (by assumption) (hbx.mono (Below.size (by assumption))) | exact (Below.refl _ _).trans hbx); obtain ⟨hcx, hfx⟩ := bcell hTx)
      | (go_at_call 22; refine (H4.out _).mono ?_; rintro e x7 ⟨rfl, hbx⟩; have hTx : Below s6.heap.size s6 x7 := (by first | exact (Below.refl _ _).drew.trans hbx | exact Below.trans (by assumption) (hbx.mono (Below.size (by assumption))) | exact (Below.refl _ _).trans hbx); obtain ⟨hcx, hfx⟩ := bcell hTx)
      | (go_at_call 23; refine (H5.out _).mono ?_; rintro e x7 ⟨rfl, hbx⟩; have hTx : Below s6.heap.size s6 x7 := (by first | exact (Below.refl _ _).drew.trans hbx | exact Below.trans (by assumption) (hbx.mono (Below.size (by assumption))) | exact (Below.refl _ _).trans hbx); obtain ⟨hcx, hfx⟩ := bcell hTx))) | fail
    replace kA0 := (hcx A 0 zA).trans kA0
    replace kA1 := (hcx A 1 zA).trans kA1
    replace kA2 := (hcx A 2 zA).trans kA2
    replace kA3 := (hcx A 3 zA).trans kA3
    replace zA := Nat.lt_of_lt_of_le zA hTx.size
    replace kX0 := (hcx X 0 zX).trans kX0
    replace kX1 := (hcx X 1 zX).trans kX1
    replace kX2 := (hcx X 2 zX).trans kX2
    replace kX3 := (hcx X 3 zX).trans kX3
    replace zX := Nat.lt_of_lt_of_le zX hTx.size
    replace kN0 := (hcx N 0 zN).trans kN0
    replace kN1 := (hcx N 1 zN).trans kN1
    replace kN2 := (hcx N 2 zN).trans kN2
    replace kN3 := (hcx N 3 zN).trans kN3
    replace zN := Nat.lt_of_lt_of_le zN hTx.size
    replace kM0 := (hcx M 0 zM).trans kM0
    replace kM1 := (hcx M 1 zM).trans kM1
    replace kM2 := (hcx M 2 zM).trans kM2
    replace kM3 := (hcx M 3 zM).trans kM3
    replace zM := Nat.lt_of_lt_of_le zM hTx.size
    have hBo := HF.out _ hTx
    clear HF hcx hfx hTx
    clear H3 H4 H5 H6 H7 HSZ HU
    go_wp2
    have HZ : Hid (∀ W, Below x7.heap.size x7 W → Below w.heap.size w W) := fun W h => hBo.trans (h.mono hBo.size)
    go_loopw [15] (SeenRel x7 0) (fun i _ => 0)
    case atStart => exact ⟨0, by omega, rfl, Below.refl _ _⟩
    case round =>
      obtain ⟨k, hk, rfl, hW⟩ := hrel
      obtain rfl : k = 0 := by omega
      replace kA0 := belK hW kA0 zA; replace kA1 := belK hW kA1 zA; replace kA2 := belK hW kA2 zA; replace kA3 := belK hW kA3 zA; replace zA := Nat.lt_of_lt_of_le zA hW.size
      replace kX0 := belK hW kX0 zX; replace kX1 := belK hW kX1 zX; replace kX2 := belK hW kX2 zX; replace kX3 := belK hW kX3 zX; replace zX := Nat.lt_of_lt_of_le zX hW.size
      replace kN0 := belK hW kN0 zN; replace kN1 := belK hW kN1 zN; replace kN2 := belK hW kN2 zN; replace kN3 := belK hW kN3 zN; replace zN := Nat.lt_of_lt_of_le zN hW.size
      replace kM0 := belK hW kM0 zM; replace kM1 := belK hW kM1 zM; replace kM2 := belK hW kM2 zM; replace kM3 := belK hW kM3 zM; replace zM := Nat.lt_of_lt_of_le zM hW.size
      replace hBo := HZ.out _ hW
      clear hW
      by_cases hE : E = 0
      · obtain ⟨hf1, hf2, hf3, hf4⟩ := HFIN.out hE
        have F1 := Lib.hid hf1
        have F3 := Lib.hid hf3
        have F4 := Lib.hid hf4
        generalize sizeI n0 n1 n2 n3 = sz at *
        clear hf1 hf3 hf4 HFIN
        subst hE
        go_wp2_with fail
        refine (F1.out _).mono ?_; rintro e s8 ⟨rfl, hb⟩
        replace kA0 := belK hb kA0 zA; replace kA1 := belK hb kA1 zA; replace kA2 := belK hb kA2 zA; replace kA3 := belK hb kA3 zA; replace zA := Nat.lt_of_lt_of_le zA hb.size
        replace kX0 := belK hb kX0 zX; replace kX1 := belK hb kX1 zX; replace kX2 := belK hb kX2 zX; replace kX3 := belK hb kX3 zX; replace zX := Nat.lt_of_lt_of_le zX hb.size
        replace kN0 := belK hb kN0 zN; replace kN1 := belK hb kN1 zN; replace kN2 := belK hb kN2 zN; replace kN3 := belK hb kN3 zN; replace zN := Nat.lt_of_lt_of_le zN hb.size
        replace kM0 := belK hb kM0 zM; replace kM1 := belK hb kM1 zM; replace kM2 := belK hb kM2 zM; replace kM3 := belK hb kM3 zM; replace zM := Nat.lt_of_lt_of_le zM hb.size
        replace hBo := hBo.trans (hb.mono hBo.size)
        clear hb
        go_wp2_with fail
        refine (F3.out _).mono ?_; rintro e s9 ⟨rfl, hb⟩
        replace kA0 := belK hb kA0 zA; replace kA1 := belK hb kA1 zA; replace kA2 := belK hb kA2 zA; replace kA3 := belK hb kA3 zA; replace zA := Nat.lt_of_lt_of_le zA hb.size
        replace kX0 := belK hb kX0 zX; replace kX1 := belK hb kX1 zX; replace kX2 := belK hb kX2 zX; replace kX3 := belK hb kX3 zX; replace zX := Nat.lt_of_lt_of_le zX hb.size
        replace kN0 := belK hb kN0 zN; replace kN1 := belK hb kN1 zN; replace kN2 := belK hb kN2 zN; replace kN3 := belK hb kN3 zN; replace zN := Nat.lt_of_lt_of_le zN hb.size
        replace kM0 := belK hb kM0 zM; replace kM1 := belK hb kM1 zM; replace kM2 := belK hb kM2 zM; replace kM3 := belK hb kM3 zM; replace zM := Nat.lt_of_lt_of_le zM hb.size
        replace hBo := hBo.trans (hb.mono hBo.size)
        clear hb
        go_wp2_with fail
        refine (F4.out _).mono ?_; rintro e s10 ⟨rfl, hb⟩
        replace kA0 := belK hb kA0 zA; replace kA1 := belK hb kA1 zA; replace kA2 := belK hb kA2 zA; replace kA3 := belK hb kA3 zA; replace zA := Nat.lt_of_lt_of_le zA hb.size
        replace kX0 := belK hb kX0 zX; replace kX1 := belK hb kX1 zX; replace kX2 := belK hb kX2 zX; replace kX3 := belK hb kX3 zX; replace zX := Nat.lt_of_lt_of_le zX hb.size
        replace kN0 := belK hb kN0 zN; replace kN1 := belK hb kN1 zN; replace kN2 := belK hb kN2 zN; replace kN3 := belK hb kN3 zN; replace zN := Nat.lt_of_lt_of_le zN hb.size
        replace kM0 := belK hb kM0 zM; replace kM1 := belK hb kM1 zM; replace kM2 := belK hb kM2 zM; replace kM3 := belK hb kM3 zM; replace zM := Nat.lt_of_lt_of_le zM hb.size
        replace hBo := hBo.trans (hb.mono hBo.size)
        clear hb
        go_wp2_with fail
        refine (HK.out _).mono ?_; rintro e s11 ⟨rfl, hb⟩
        replace kA0 := belK hb kA0 zA; replace kA1 := belK hb kA1 zA; replace kA2 := belK hb kA2 zA; replace kA3 := belK hb kA3 zA; replace zA := Nat.lt_of_lt_of_le zA hb.size
        replace kX0 := belK hb kX0 zX; replace kX1 := belK hb kX1 zX; replace kX2 := belK hb kX2 zX; replace kX3 := belK hb kX3 zX; replace zX := Nat.lt_of_lt_of_le zX hb.size
        replace kN0 := belK hb kN0 zN; replace kN1 := belK hb kN1 zN; replace kN2 := belK hb kN2 zN; replace kN3 := belK hb kN3 zN; replace zN := Nat.lt_of_lt_of_le zN hb.size
        replace kM0 := belK hb kM0 zM; replace kM1 := belK hb kM1 zM; replace kM2 := belK hb kM2 zM; replace kM3 := belK hb kM3 zM; replace zM := Nat.lt_of_lt_of_le zM hb.size
        replace hBo := hBo.trans (hb.mono hBo.size)
        clear hb
        all_goals go_wp2_with fail
        all_goals first | go_ret | go_ret2
        all_goals exact ⟨rfl, hBo⟩
      · have hEb : (E != 0) = true := by simpa using hE
        have hEb2 : (E == 0) = false := by simpa using hE
        clear hE HFIN
        go_wp2_with fail
        refine (HK.out _).mono ?_; rintro e s12 ⟨rfl, hb⟩
        replace kA0 := belK hb kA0 zA; replace kA1 := belK hb kA1 zA; replace kA2 := belK hb kA2 zA; replace kA3 := belK hb kA3 zA; replace zA := Nat.lt_of_lt_of_le zA hb.size
        replace kX0 := belK hb kX0 zX; replace kX1 := belK hb kX1 zX; replace kX2 := belK hb kX2 zX; replace kX3 := belK hb kX3 zX; replace zX := Nat.lt_of_lt_of_le zX hb.size
        replace kN0 := belK hb kN0 zN; replace kN1 := belK hb kN1 zN; replace kN2 := belK hb kN2 zN; replace kN3 := belK hb kN3 zN; replace zN := Nat.lt_of_lt_of_le zN hb.size
        replace kM0 := belK hb kM0 zM; replace kM1 := belK hb kM1 zM; replace kM2 := belK hb kM2 zM; replace kM3 := belK hb kM3 zM; replace zM := Nat.lt_of_lt_of_le zM hb.size
        replace hBo := hBo.trans (hb.mono hBo.size)
        clear hb
        all_goals go_wp2_with fail
        all_goals first | go_ret | go_ret2
        all_goals exact ⟨rfl, hBo⟩
  · have HC := Lib.hid hc
    clear hc
    go_wp2_with fail
    have HF : Hid (∀ W, Below s6.heap.size s6 W → Below w.heap.size w W) := fun W hW => hBo.trans (hW.mono hBo.size)
    clear hBo
    first | (go_region_held3 (fun w' => w'.cell? ⟨A, 0, none⟩ = some (.int .i64 a) ∧ w'.cell? ⟨A, 1, none⟩ = some (.int .i64 b) ∧ w'.cell? ⟨A, 2, none⟩ = some (.int .i64 c) ∧ w'.cell? ⟨A, 3, none⟩ = some (.int .i64 d) ∧ w'.cell? ⟨X, 0, none⟩ = some (.int .i64 a) ∧ w'.cell? ⟨X, 1, none⟩ = some (.int .i64 b) ∧ w'.cell? ⟨X, 2, none⟩ = some (.int .i64 c) ∧ w'.cell? ⟨X, 3, none⟩ = some (.int .i64 d) ∧ w'.cell? ⟨N, 0, none⟩ = some (.int .i64 n0) ∧ w'.cell? ⟨N, 1, none⟩ = some (.int .i64 n1) ∧ w'.cell? ⟨N, 2, none⟩ = some (.int .i64 n2) ∧ w'.cell? ⟨N, 3, none⟩ = some (.int .i64 n3) ∧ w'.cell? ⟨M, 0, none⟩ = some (.int .i64 n0) ∧ w'.cell? ⟨M, 1, none⟩ = some (.int .i64 n1) ∧ w'.cell? ⟨M, 2, none⟩ = some (.int .i64 n2) ∧ w'.cell? ⟨M, 3, none⟩ = some (.int .i64 n3))
      (go_keep) (first
      | (go_at_call 20; refine (H7.out _).mono ?_; rintro e x13 ⟨⟨v2, rfl, hv2⟩, hbx⟩; have hTx : Below s6.heap.size s6 x13 := (by first | exact (Below.refl _ _).drew.trans hbx | exact Below.trans (by assumption) (hbx.mono (Below.size (by assumption))) | exact (Below.refl _ _).trans hbx); obtain ⟨hcx, hfx⟩ := bcell hTx)
      | (go_at_call 19; refine (cellsSame_any _ _ _ _ _ _ _ _ (HU.out.below hTx) hv2).mono ?_; rintro e x13 ⟨rfl, hbx⟩; have hTx : Below s6.heap.size s6 x13 := (by first | exact (Below.refl _ _).drew.trans hbx | exact Below.trans (by assumption) (hbx.mono (Below.size (by assumption))) | exact (Below.refl _ _).trans hbx); obtain ⟨hcx, hfx⟩ := bcell hTx)
      | (go_at_call 21; refine (HSZ.out _).mono ?_; rintro e x13 ⟨rfl, hbx⟩; have hTx : Below s6.heap.size s6 x13 := (by first | exact (Below.refl _ _).drew.trans hbx | exact Below.trans (by assumption) (hbx.mono (Below.size (by assumption))) | exact (Below.refl _ _).trans hbx); obtain ⟨hcx, hfx⟩ := bcell hTx)
      | (go_at_call 22; refine (H4.out _).mono ?_; rintro e x13 ⟨rfl, hbx⟩; have hTx : Below s6.heap.size s6 x13 := (by first | exact (Below.refl _ _).drew.trans hbx | exact Below.trans (by assumption) (hbx.mono (Below.size (by assumption))) | exact (Below.refl _ _).trans hbx); obtain ⟨hcx, hfx⟩ := bcell hTx)
      | (go_at_call 23; refine (H5.out _).mono ?_; rintro e x13 ⟨rfl, hbx⟩; have hTx : Below s6.heap.size s6 x13 := (by first | exact (Below.refl _ _).drew.trans hbx | exact Below.trans (by assumption) (hbx.mono (Below.size (by assumption))) | exact (Below.refl _ _).trans hbx); obtain ⟨hcx, hfx⟩ := bcell hTx))) | fail
    have HCX := Lib.hid (fun k (hk : k < n) => (⟨belK hTx (HC.out k hk).2.1 hg, belK hTx (HC.out k hk).2.2 hg⟩ : _ ∧ _))
    have zg := Nat.lt_of_lt_of_le hg hTx.size
    replace kA0 := (hcx A 0 zA).trans kA0
    replace kA1 := (hcx A 1 zA).trans kA1
    replace kA2 := (hcx A 2 zA).trans kA2
    replace kA3 := (hcx A 3 zA).trans kA3
    replace zA := Nat.lt_of_lt_of_le zA hTx.size
    replace kX0 := (hcx X 0 zX).trans kX0
    replace kX1 := (hcx X 1 zX).trans kX1
    replace kX2 := (hcx X 2 zX).trans kX2
    replace kX3 := (hcx X 3 zX).trans kX3
    replace zX := Nat.lt_of_lt_of_le zX hTx.size
    replace kN0 := (hcx N 0 zN).trans kN0
    replace kN1 := (hcx N 1 zN).trans kN1
    replace kN2 := (hcx N 2 zN).trans kN2
    replace kN3 := (hcx N 3 zN).trans kN3
    replace zN := Nat.lt_of_lt_of_le zN hTx.size
    replace kM0 := (hcx M 0 zM).trans kM0
    replace kM1 := (hcx M 1 zM).trans kM1
    replace kM2 := (hcx M 2 zM).trans kM2
    replace kM3 := (hcx M 3 zM).trans kM3
    replace zM := Nat.lt_of_lt_of_le zM hTx.size
    have hBo := HF.out _ hTx
    clear HF hcx hfx hTx
    clear H3 H4 H5 H6 H7 HSZ HU HC hg
    go_wp2
    have HZ : Hid (∀ W, Below x13.heap.size x13 W → Below w.heap.size w W) := fun W h => hBo.trans (h.mono hBo.size)
    go_loopw [15] (SeenRel x13 n) (fun i _ => n - (intOf i).toNat)
    case atStart => exact ⟨0, by omega, rfl, Below.refl _ _⟩
    case round =>
      obtain ⟨k, hk, rfl, hW⟩ := hrel
      have HW := Lib.hid hW
      by_cases hlt : k < n
      · obtain ⟨p1, p2⟩ := HCX.out k hlt
        have r1 := belK hW p1 zg
        have r2 := belK hW p2 zg
        rw [Nat.mul_comm 3 k] at r1 r2
        clear p1 p2
        have zgw := Nat.lt_of_lt_of_le zg hW.size
        replace kA0 := belK hW kA0 zA; replace kA1 := belK hW kA1 zA; replace kA2 := belK hW kA2 zA; replace kA3 := belK hW kA3 zA; replace zA := Nat.lt_of_lt_of_le zA hW.size
        replace kX0 := belK hW kX0 zX; replace kX1 := belK hW kX1 zX; replace kX2 := belK hW kX2 zX; replace kX3 := belK hW kX3 zX; replace zX := Nat.lt_of_lt_of_le zX hW.size
        replace kN0 := belK hW kN0 zN; replace kN1 := belK hW kN1 zN; replace kN2 := belK hW kN2 zN; replace kN3 := belK hW kN3 zN; replace zN := Nat.lt_of_lt_of_le zN hW.size
        replace kM0 := belK hW kM0 zM; replace kM1 := belK hW kM1 zM; replace kM2 := belK hW kM2 zM; replace kM3 := belK hW kM3 zM; replace zM := Nat.lt_of_lt_of_le zM hW.size
        replace hBo := HZ.out _ hW
        clear hW
        go_wp2
        have HF : Hid (∀ W, Below wr.heap.size wr W → Below w.heap.size w W) := fun W hW => hBo.trans (hW.mono hBo.size)
        clear hBo
        first | (go_region_held3 (fun w' => w'.cell? ⟨A, 0, none⟩ = some (.int .i64 a) ∧ w'.cell? ⟨A, 1, none⟩ = some (.int .i64 b) ∧ w'.cell? ⟨A, 2, none⟩ = some (.int .i64 c) ∧ w'.cell? ⟨A, 3, none⟩ = some (.int .i64 d) ∧ w'.cell? ⟨X, 0, none⟩ = some (.int .i64 a) ∧ w'.cell? ⟨X, 1, none⟩ = some (.int .i64 b) ∧ w'.cell? ⟨X, 2, none⟩ = some (.int .i64 c) ∧ w'.cell? ⟨X, 3, none⟩ = some (.int .i64 d) ∧ w'.cell? ⟨N, 0, none⟩ = some (.int .i64 n0) ∧ w'.cell? ⟨N, 1, none⟩ = some (.int .i64 n1) ∧ w'.cell? ⟨N, 2, none⟩ = some (.int .i64 n2) ∧ w'.cell? ⟨N, 3, none⟩ = some (.int .i64 n3) ∧ w'.cell? ⟨M, 0, none⟩ = some (.int .i64 n0) ∧ w'.cell? ⟨M, 1, none⟩ = some (.int .i64 n1) ∧ w'.cell? ⟨M, 2, none⟩ = some (.int .i64 n2) ∧ w'.cell? ⟨M, 3, none⟩ = some (.int .i64 n3) ∧ w'.cell? ⟨g, k * 3 + 1, none⟩ = some (.int .i64 (a + ((k % nc : Nat) : Int))) ∧ w'.cell? ⟨g, k * 3 + 2, none⟩ = some (.int .i64 (b + ((k / nc : Nat) : Int))))
          (go_keep) (first
          | (go_at_call 22; refine (H8.out k hlt _).mono ?_; rintro e x14 ⟨rfl, hbx⟩; have hTx : Below wr.heap.size wr x14 := (by first | exact (Below.refl _ _).drew.trans hbx | exact Below.trans (by assumption) (hbx.mono (Below.size (by assumption))) | exact (Below.refl _ _).trans hbx); obtain ⟨hcx, hfx⟩ := bcell hTx))) | fail
        have HT2 := Lib.hid hTx
        replace kA0 := (hcx A 0 zA).trans kA0
        replace kA1 := (hcx A 1 zA).trans kA1
        replace kA2 := (hcx A 2 zA).trans kA2
        replace kA3 := (hcx A 3 zA).trans kA3
        replace zA := Nat.lt_of_lt_of_le zA hTx.size
        replace kX0 := (hcx X 0 zX).trans kX0
        replace kX1 := (hcx X 1 zX).trans kX1
        replace kX2 := (hcx X 2 zX).trans kX2
        replace kX3 := (hcx X 3 zX).trans kX3
        replace zX := Nat.lt_of_lt_of_le zX hTx.size
        replace kN0 := (hcx N 0 zN).trans kN0
        replace kN1 := (hcx N 1 zN).trans kN1
        replace kN2 := (hcx N 2 zN).trans kN2
        replace kN3 := (hcx N 3 zN).trans kN3
        replace zN := Nat.lt_of_lt_of_le zN hTx.size
        replace kM0 := (hcx M 0 zM).trans kM0
        replace kM1 := (hcx M 1 zM).trans kM1
        replace kM2 := (hcx M 2 zM).trans kM2
        replace kM3 := (hcx M 3 zM).trans kM3
        replace zM := Nat.lt_of_lt_of_le zM hTx.size
        have hBo := HF.out _ hTx
        clear HF hcx hfx hTx
        go_wp2
        exact ⟨⟨k + 1, by omega, by go_num, HW.out.trans (HT2.out.mono HW.out.size)⟩, by simp [intOf]; omega⟩
      · obtain rfl : k = n := by omega
        replace kA0 := belK hW kA0 zA; replace kA1 := belK hW kA1 zA; replace kA2 := belK hW kA2 zA; replace kA3 := belK hW kA3 zA; replace zA := Nat.lt_of_lt_of_le zA hW.size
        replace kX0 := belK hW kX0 zX; replace kX1 := belK hW kX1 zX; replace kX2 := belK hW kX2 zX; replace kX3 := belK hW kX3 zX; replace zX := Nat.lt_of_lt_of_le zX hW.size
        replace kN0 := belK hW kN0 zN; replace kN1 := belK hW kN1 zN; replace kN2 := belK hW kN2 zN; replace kN3 := belK hW kN3 zN; replace zN := Nat.lt_of_lt_of_le zN hW.size
        replace kM0 := belK hW kM0 zM; replace kM1 := belK hW kM1 zM; replace kM2 := belK hW kM2 zM; replace kM3 := belK hW kM3 zM; replace zM := Nat.lt_of_lt_of_le zM hW.size
        replace hBo := HZ.out _ hW
        clear hW
        by_cases hE : E = 0
        · obtain ⟨hf1, hf2, hf3, hf4⟩ := HFIN.out hE
          have F1 := Lib.hid hf1
          have F3 := Lib.hid hf3
          have F4 := Lib.hid hf4
          generalize sizeI n0 n1 n2 n3 = sz at *
          clear hf1 hf3 hf4 HFIN
          subst hE
          go_wp2_with fail
          refine (F1.out _).mono ?_; rintro e s15 ⟨rfl, hb⟩
          replace kA0 := belK hb kA0 zA; replace kA1 := belK hb kA1 zA; replace kA2 := belK hb kA2 zA; replace kA3 := belK hb kA3 zA; replace zA := Nat.lt_of_lt_of_le zA hb.size
          replace kX0 := belK hb kX0 zX; replace kX1 := belK hb kX1 zX; replace kX2 := belK hb kX2 zX; replace kX3 := belK hb kX3 zX; replace zX := Nat.lt_of_lt_of_le zX hb.size
          replace kN0 := belK hb kN0 zN; replace kN1 := belK hb kN1 zN; replace kN2 := belK hb kN2 zN; replace kN3 := belK hb kN3 zN; replace zN := Nat.lt_of_lt_of_le zN hb.size
          replace kM0 := belK hb kM0 zM; replace kM1 := belK hb kM1 zM; replace kM2 := belK hb kM2 zM; replace kM3 := belK hb kM3 zM; replace zM := Nat.lt_of_lt_of_le zM hb.size
          replace hBo := hBo.trans (hb.mono hBo.size)
          clear hb
          go_wp2_with fail
          refine (F3.out _).mono ?_; rintro e s16 ⟨rfl, hb⟩
          replace kA0 := belK hb kA0 zA; replace kA1 := belK hb kA1 zA; replace kA2 := belK hb kA2 zA; replace kA3 := belK hb kA3 zA; replace zA := Nat.lt_of_lt_of_le zA hb.size
          replace kX0 := belK hb kX0 zX; replace kX1 := belK hb kX1 zX; replace kX2 := belK hb kX2 zX; replace kX3 := belK hb kX3 zX; replace zX := Nat.lt_of_lt_of_le zX hb.size
          replace kN0 := belK hb kN0 zN; replace kN1 := belK hb kN1 zN; replace kN2 := belK hb kN2 zN; replace kN3 := belK hb kN3 zN; replace zN := Nat.lt_of_lt_of_le zN hb.size
          replace kM0 := belK hb kM0 zM; replace kM1 := belK hb kM1 zM; replace kM2 := belK hb kM2 zM; replace kM3 := belK hb kM3 zM; replace zM := Nat.lt_of_lt_of_le zM hb.size
          replace hBo := hBo.trans (hb.mono hBo.size)
          clear hb
          go_wp2_with fail
          refine (F4.out _).mono ?_; rintro e s17 ⟨rfl, hb⟩
          replace kA0 := belK hb kA0 zA; replace kA1 := belK hb kA1 zA; replace kA2 := belK hb kA2 zA; replace kA3 := belK hb kA3 zA; replace zA := Nat.lt_of_lt_of_le zA hb.size
          replace kX0 := belK hb kX0 zX; replace kX1 := belK hb kX1 zX; replace kX2 := belK hb kX2 zX; replace kX3 := belK hb kX3 zX; replace zX := Nat.lt_of_lt_of_le zX hb.size
          replace kN0 := belK hb kN0 zN; replace kN1 := belK hb kN1 zN; replace kN2 := belK hb kN2 zN; replace kN3 := belK hb kN3 zN; replace zN := Nat.lt_of_lt_of_le zN hb.size
          replace kM0 := belK hb kM0 zM; replace kM1 := belK hb kM1 zM; replace kM2 := belK hb kM2 zM; replace kM3 := belK hb kM3 zM; replace zM := Nat.lt_of_lt_of_le zM hb.size
          replace hBo := hBo.trans (hb.mono hBo.size)
          clear hb
          go_wp2_with fail
          refine (HK.out _).mono ?_; rintro e s18 ⟨rfl, hb⟩
          replace kA0 := belK hb kA0 zA; replace kA1 := belK hb kA1 zA; replace kA2 := belK hb kA2 zA; replace kA3 := belK hb kA3 zA; replace zA := Nat.lt_of_lt_of_le zA hb.size
          replace kX0 := belK hb kX0 zX; replace kX1 := belK hb kX1 zX; replace kX2 := belK hb kX2 zX; replace kX3 := belK hb kX3 zX; replace zX := Nat.lt_of_lt_of_le zX hb.size
          replace kN0 := belK hb kN0 zN; replace kN1 := belK hb kN1 zN; replace kN2 := belK hb kN2 zN; replace kN3 := belK hb kN3 zN; replace zN := Nat.lt_of_lt_of_le zN hb.size
          replace kM0 := belK hb kM0 zM; replace kM1 := belK hb kM1 zM; replace kM2 := belK hb kM2 zM; replace kM3 := belK hb kM3 zM; replace zM := Nat.lt_of_lt_of_le zM hb.size
          replace hBo := hBo.trans (hb.mono hBo.size)
          clear hb
          all_goals go_wp2_with fail
          all_goals first | go_ret | go_ret2
          all_goals exact ⟨rfl, hBo⟩
        · have hEb : (E != 0) = true := by simpa using hE
          have hEb2 : (E == 0) = false := by simpa using hE
          clear hE HFIN
          go_wp2_with fail
          refine (HK.out _).mono ?_; rintro e s19 ⟨rfl, hb⟩
          replace kA0 := belK hb kA0 zA; replace kA1 := belK hb kA1 zA; replace kA2 := belK hb kA2 zA; replace kA3 := belK hb kA3 zA; replace zA := Nat.lt_of_lt_of_le zA hb.size
          replace kX0 := belK hb kX0 zX; replace kX1 := belK hb kX1 zX; replace kX2 := belK hb kX2 zX; replace kX3 := belK hb kX3 zX; replace zX := Nat.lt_of_lt_of_le zX hb.size
          replace kN0 := belK hb kN0 zN; replace kN1 := belK hb kN1 zN; replace kN2 := belK hb kN2 zN; replace kN3 := belK hb kN3 zN; replace zN := Nat.lt_of_lt_of_le zN hb.size
          replace kM0 := belK hb kM0 zM; replace kM1 := belK hb kM1 zM; replace kM2 := belK hb kM2 zM; replace kM3 := belK hb kM3 zM; replace zM := Nat.lt_of_lt_of_le zM hb.size
          replace hBo := hBo.trans (hb.mono hBo.size)
          clear hb
          all_goals go_wp2_with fail
          all_goals first | go_ret | go_ret2
          all_goals exact ⟨rfl, hBo⟩
end Go.Proofs.YtkgkgdgbkkhblaaDoor
