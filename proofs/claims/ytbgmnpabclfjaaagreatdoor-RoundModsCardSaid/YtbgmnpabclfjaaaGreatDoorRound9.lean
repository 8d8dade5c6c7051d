/-
  ROOTS OF NUMBERS, WALKED: the program's, the document's.
-/
import Derived.Test.YtbgmnpabclfjaaaGreatDoorRound8
namespace Go.Proofs.YtbgmnpabclfjaaaGreatDoor
open Go.RowKit Go.Shelf
set_option linter.unusedSimpArgs false
set_option linter.unusedVariables false

set_option maxRecDepth 100000 in
set_option maxHeartbeats 16000000 in
theorem roundRoot_any (neg : Bool) (a d : ByteArray) (q : Rt) (b : Bool) (w : World) (ha : a.size ≤ 140737488351232) (hd : d.size ≤ 140737488351232) (hq : rootR (wl neg a d) = q) (hb : rootOkB (wl neg a d) = b) :
    Calls Tryz.prog 34 #[.agg #[.bool neg, .string a, .string d]] w fun e w' => e = .returned (.tuple #[.agg #[.bool (rb q), .string (rn q), .string (rd q)], .bool b]) ∧ Below w.heap.size w w' := by
  have hp := fun w => parts_any neg a d _ _ w ha hd rfl rfl
  have hok := wl_ok neg a d
  rw [zb_top hok, zt_top, zb_low, zt_low] at hp
  generalize wl neg a d = Q at *
  have sN : (rn Q).size ≤ 32 := rn_size hok
  have sD : (rd Q).size ≤ 32 := rd_size hok
  have hR : ∀ (t : ByteArray) (w : World), t.size ≤ 32 → Calls Tryz.prog 68 #[.string t] w fun e w' => e = .returned (.string (Nt.E (Nt.rt (Nt.V t)))) ∧ Below w.heap.size w w' := fun t w ht => natRoot_any t w (by omega)
  have eN : Nt.V (rn Q) = Q.num := Nt.V_E _
  have eD : Nt.V (rd Q) = Q.den := Nt.V_E _
  have tN : Nt.E Q.num = rn Q := rfl
  have tD : Nt.E Q.den = rd Q := rfl
  have s1 : (Nt.E (Nt.rt Q.num)).size ≤ 32 := Nat.le_trans (Nt.E_size_le (rt_le _)) sN
  have s2 : (Nt.E (Nt.rt Q.den)).size ≤ 32 := Nat.le_trans (Nt.E_size_le (rt_le _)) sD
  obtain ⟨RT, hRT⟩ : ∃ RT : ByteArray → ByteArray, RT = fun t => Nt.E (Nt.rt (Nt.V t)) := ⟨_, rfl⟩
  have HRT : Hid (∀ (t : ByteArray) (w : World), t.size ≤ 32 → Calls Tryz.prog 68 #[.string t] w fun e w' => e = .returned (.string (RT t)) ∧ Below w.heap.size w w') := fun t w ht => by rw [hRT]; exact hR t w ht
  have E1 : Hid (RT (rn Q) = Nt.E (Nt.rt Q.num)) := by rw [Hid, hRT]; show Nt.E (Nt.rt (Nt.V (rn Q))) = _; rw [eN]
  have E2 : Hid (RT (rd Q) = Nt.E (Nt.rt Q.den)) := by rw [Hid, hRT]; show Nt.E (Nt.rt (Nt.V (rd Q))) = _; rw [eD]
  obtain ⟨SQ, hSQ⟩ : ∃ SQ : ByteArray → ByteArray, SQ = fun t => Nt.E (Nt.V t * Nt.V t) := ⟨_, rfl⟩
  have HSQ : Hid (∀ (t : ByteArray) (w : World), t.size ≤ 32 → Calls Tryz.prog 69 #[.string t, .string t] w fun e w' => e = .returned (.string (SQ t)) ∧ Below w.heap.size w w') := fun t w ht => by rw [hSQ]; exact natMul_any t t w (by omega) (by omega)
  have q1 : SQ (Nt.E (Nt.rt Q.num)) = Nt.E (Nt.rt Q.num * Nt.rt Q.num) := by rw [hSQ]; show Nt.E (Nt.V _ * Nt.V _) = _; rw [Nt.V_E]
  have q2 : SQ (Nt.E (Nt.rt Q.den)) = Nt.E (Nt.rt Q.den * Nt.rt Q.den) := by rw [hSQ]; show Nt.E (Nt.V _ * Nt.V _) = _; rw [Nt.V_E]
  have HP := Lib.hid hp
  clear hp hR hRT hSQ hok ha hd
  cases hneg : Q.neg with
  | true =>
    have hno := root_not (q := Q) (fun h => by rw [h.1] at hneg; cases hneg)
    rw [root_no hno] at hq
    rw [hno] at hb
    subst hq hb
    rw [rz.1, rz.2.1, rz.2.2]
    rw [show rb Q = true from hneg] at HP
    generalize Nt.E (Nt.rt Q.num) = t1 at *
    generalize Nt.E (Nt.rt Q.den) = t2 at *
    generalize rn Q = nn at *
    generalize rd Q = nd at *
    clear q1 q2 eN eD tN tD hneg hno HSQ
    go_enter Tryz.func34, Tryz.ntmps34
    go_wp2_with fail
    obtain ⟨s1, hws⟩ : ∃ s, s = ((w.alloc (.cells #[.bool neg, .string a, .string d] 23)).alloc (.cells #[.bool false, .string ⟨#[]⟩, .string ⟨#[]⟩] 23)) := ⟨_, rfl⟩
    have hBs : Below w.heap.size w s1 := by rw [hws]; exact (((Below.refl w.heap.size w).alloc (by simp) _).alloc (by simp) _)
    obtain ⟨A, hdA⟩ : ∃ b, b = w.heap.size := ⟨_, rfl⟩
    obtain ⟨C, hdC⟩ : ∃ b, b = w.heap.size + 1 := ⟨_, rfl⟩
    have hsz : s1.heap.size = w.heap.size + 1 + 1 := by rw [hws]; simp
    have dCA : C ≠ A := by omega
    have kA0 : s1.cell? ⟨A, 0, none⟩ = some (.bool neg) := by rw [hws]; simp [go_sem, hdA, hdC]
    have kA1 : s1.cell? ⟨A, 1, none⟩ = some (.string a) := by rw [hws]; simp [go_sem, hdA, hdC]
    have kA2 : s1.cell? ⟨A, 2, none⟩ = some (.string d) := by rw [hws]; simp [go_sem, hdA, hdC]
    have zA : A < s1.heap.size := by omega
    have lA : w.heap.size ≤ A := by have := Nat.le_refl w.heap.size; omega
    have kC0 : s1.cell? ⟨C, 0, none⟩ = some (.bool false) := by rw [hws]; simp [go_sem, hdA, hdC]
    have fC0 : s1.frozen? ⟨C, 0, none⟩ = false := by rw [hws]; simp [go_sem, hdA, hdC]
    have kC1 : s1.cell? ⟨C, 1, none⟩ = some (.string ⟨#[]⟩) := by rw [hws]; simp [go_sem, hdA, hdC]
    have fC1 : s1.frozen? ⟨C, 1, none⟩ = false := by rw [hws]; simp [go_sem, hdA, hdC]
    have kC2 : s1.cell? ⟨C, 2, none⟩ = some (.string ⟨#[]⟩) := by rw [hws]; simp [go_sem, hdA, hdC]
    have fC2 : s1.frozen? ⟨C, 2, none⟩ = false := by rw [hws]; simp [go_sem, hdA, hdC]
    have zC : C < s1.heap.size := by omega
    have lC : w.heap.size ≤ C := by have := Nat.le_refl w.heap.size; omega
    rw [← hws]
    try rw [← hdC]
    try rw [← hdA]
    clear hws hsz hdA hdC
    have hBo := hBs; clear hBs
    refine (HP.out _).mono ?_; rintro e s2 ⟨rfl, hb⟩
    replace kA0 := belK hb kA0 zA; replace kA1 := belK hb kA1 zA; replace kA2 := belK hb kA2 zA; replace zA := Nat.lt_of_lt_of_le zA hb.size
    replace kC0 := belK hb kC0 zC; replace fC0 := belF hb fC0 zC; replace kC1 := belK hb kC1 zC; replace fC1 := belF hb fC1 zC; replace kC2 := belK hb kC2 zC; replace fC2 := belF hb fC2 zC; replace zC := Nat.lt_of_lt_of_le zC hb.size
    replace hBo := hBo.trans (hb.mono hBo.size)
    clear hb
    go_wp2_with fail
    obtain ⟨s3, hws⟩ : ∃ s, s = ((s2.alloc (.cells #[.bool true, .string nn] 44)).alloc (.cells #[.bool false, .string nd] 44)) := ⟨_, rfl⟩
    have hBs : Below w.heap.size w s3 := by rw [hws]; exact (((hBo).alloc (by exact hBo.size) _).alloc (by have := hBo.size; simp; omega) _)
    obtain ⟨X, hdX⟩ : ∃ b, b = s2.heap.size := ⟨_, rfl⟩
    obtain ⟨Y, hdY⟩ : ∃ b, b = s2.heap.size + 1 := ⟨_, rfl⟩
    have hsz : s3.heap.size = s2.heap.size + 1 + 1 := by rw [hws]; simp
    have dCX : C ≠ X := by omega
    have dCY : C ≠ Y := by omega
    have hQC : ∀ p v, s2.cell? p = some v → s3.cell? p = some v := fun p v h => by rw [hws]; exact (alK (alK h))
    have hQZ : ∀ b, b < s2.heap.size → b < s3.heap.size := fun b h => by omega
    have hQF : ∀ b j, b < s2.heap.size → s2.frozen? ⟨b, j, none⟩ = false → s3.frozen? ⟨b, j, none⟩ = false := fun b j z h => by rw [hws]; exact (alF (alZ z) (alF z h))
    replace kA0 := hQC _ _ kA0; replace kA1 := hQC _ _ kA1; replace kA2 := hQC _ _ kA2; replace zA := hQZ _ zA
    replace kC0 := hQC _ _ kC0; replace fC0 := hQF _ _ zC fC0; replace kC1 := hQC _ _ kC1; replace fC1 := hQF _ _ zC fC1; replace kC2 := hQC _ _ kC2; replace fC2 := hQF _ _ zC fC2; replace zC := hQZ _ zC
    clear hQC hQZ hQF
    have kX0 : s3.cell? ⟨X, 0, none⟩ = some (.bool true) := by rw [hws]; simp [go_sem, hdX, hdY]
    have kX1 : s3.cell? ⟨X, 1, none⟩ = some (.string nn) := by rw [hws]; simp [go_sem, hdX, hdY]
    have zX : X < s3.heap.size := by omega
    have lX : w.heap.size ≤ X := by have := hBo.size; omega
    have kY0 : s3.cell? ⟨Y, 0, none⟩ = some (.bool false) := by rw [hws]; simp [go_sem, hdX, hdY]
    have kY1 : s3.cell? ⟨Y, 1, none⟩ = some (.string nd) := by rw [hws]; simp [go_sem, hdX, hdY]
    have zY : Y < s3.heap.size := by omega
    have lY : w.heap.size ≤ Y := by have := hBo.size; omega
    rw [← hws]
    try rw [← hdY]
    try rw [← hdX]
    clear hBo
    clear hws hsz hdX hdY
    have hBo := hBs; clear hBs
    have HF : Hid (∀ W, Below s3.heap.size s3 W → Below w.heap.size w W) := fun W hW => hBo.trans (hW.mono hBo.size)
    clear hBo
    first | (go_region_held3 (fun w' => w'.cell? ⟨A, 0, none⟩ = some (.bool neg) ∧ w'.cell? ⟨A, 1, none⟩ = some (.string a) ∧ w'.cell? ⟨A, 2, none⟩ = some (.string d) ∧ w'.cell? ⟨C, 0, none⟩ = some (.bool false) ∧ w'.cell? ⟨C, 1, none⟩ = some (.string ⟨#[]⟩) ∧ w'.cell? ⟨C, 2, none⟩ = some (.string ⟨#[]⟩) ∧ w'.cell? ⟨X, 0, none⟩ = some (.bool true) ∧ w'.cell? ⟨X, 1, none⟩ = some (.string nn) ∧ w'.cell? ⟨Y, 0, none⟩ = some (.bool false) ∧ w'.cell? ⟨Y, 1, none⟩ = some (.string nd))
      (go_keep) (first
      | (go_at_call 68; refine (HRT.out _ _ (by assumption)).mono ?_; rintro e x4 ⟨he, hbx⟩; (first | rw [E1.out] at he | rw [E2.out] at he); subst he; have hTx : Below s3.heap.size s3 x4 := (by first | exact (Below.refl _ _).drew.trans hbx | exact Below.trans (by assumption) (hbx.mono (Below.size (by assumption))) | exact (Below.refl _ _).trans hbx); obtain ⟨hcx, hfx⟩ := bcell hTx))) | fail
    go_wp2_with fail
    replace kA0 := (hcx A 0 zA).trans kA0
    replace kA1 := (hcx A 1 zA).trans kA1
    replace kA2 := (hcx A 2 zA).trans kA2
    replace zA := Nat.lt_of_lt_of_le zA hTx.size
    replace kC0 := (hcx C 0 zC).trans kC0
    replace fC0 := (hfx C 0 zC).trans fC0
    replace kC1 := (hcx C 1 zC).trans kC1
    replace fC1 := (hfx C 1 zC).trans fC1
    replace kC2 := (hcx C 2 zC).trans kC2
    replace fC2 := (hfx C 2 zC).trans fC2
    replace zC := Nat.lt_of_lt_of_le zC hTx.size
    replace kX0 := (hcx X 0 zX).trans kX0
    replace kX1 := (hcx X 1 zX).trans kX1
    replace zX := Nat.lt_of_lt_of_le zX hTx.size
    replace kY0 := (hcx Y 0 zY).trans kY0
    replace kY1 := (hcx Y 1 zY).trans kY1
    replace zY := Nat.lt_of_lt_of_le zY hTx.size
    have hBo := HF.out _ hTx
    clear HF hcx hfx hTx
    go_quiet (fail)
    go_wp2_with fail
    refine bodyPost_ret (v := .tuple #[.agg #[.bool false, .string ⟨#[]⟩, .string ⟨#[]⟩], .bool false]) (by simp [results, Tryz.results34, go_sem, kA0, kA1, kA2, kC0, kC1, kC2, kX0, kX1, kY0, kY1, zA, zC, zX, zY]) rfl ⟨rfl, ?_⟩
    exact ((((below_drewN hBo _).setCell lC _).setCell lC _).setCell lC _)
  | false =>
    rw [show rb Q = false from hneg] at HP
    by_cases h1 : Nt.rt Q.num * Nt.rt Q.num = Q.num
    · rw [h1, tN] at q1
      by_cases h2 : Nt.rt Q.den * Nt.rt Q.den = Q.den
      · rw [h2, tD] at q2
        have hy : rootOkB Q = true := decide_eq_true ⟨hneg, h1, h2⟩
        rw [root_yes hy] at hq
        rw [hy] at hb
        subst hb
        have g1 : rb q = false := by rw [← hq]; rfl
        have g2 : Nt.E (Nt.rt Q.num) = rn q := by rw [← hq]; rfl
        have g3 : Nt.E (Nt.rt Q.den) = rd q := by rw [← hq]; rfl
        rw [g1]
        rw [g2] at E1 q1 s1
        rw [g3] at E2 q2 s2
        have EQ1 := Lib.hid q1
        have EQ2 := Lib.hid q2
        generalize rn q = t1 at *
        generalize rd q = t2 at *
        generalize rn Q = nn at *
        generalize rd Q = nd at *
        clear q1 q2 eN eD tN tD hneg hy h1 h2 hq g1 g2 g3
        go_enter Tryz.func34, Tryz.ntmps34
        go_wp2_with fail
        obtain ⟨s5, hws⟩ : ∃ s, s = ((w.alloc (.cells #[.bool neg, .string a, .string d] 23)).alloc (.cells #[.bool false, .string ⟨#[]⟩, .string ⟨#[]⟩] 23)) := ⟨_, rfl⟩
        have hBs : Below w.heap.size w s5 := by rw [hws]; exact (((Below.refl w.heap.size w).alloc (by simp) _).alloc (by simp) _)
        obtain ⟨A, hdA⟩ : ∃ b, b = w.heap.size := ⟨_, rfl⟩
        obtain ⟨C, hdC⟩ : ∃ b, b = w.heap.size + 1 := ⟨_, rfl⟩
        have hsz : s5.heap.size = w.heap.size + 1 + 1 := by rw [hws]; simp
        have dCA : C ≠ A := by omega
        have kA0 : s5.cell? ⟨A, 0, none⟩ = some (.bool neg) := by rw [hws]; simp [go_sem, hdA, hdC]
        have kA1 : s5.cell? ⟨A, 1, none⟩ = some (.string a) := by rw [hws]; simp [go_sem, hdA, hdC]
        have kA2 : s5.cell? ⟨A, 2, none⟩ = some (.string d) := by rw [hws]; simp [go_sem, hdA, hdC]
        have zA : A < s5.heap.size := by omega
        have lA : w.heap.size ≤ A := by have := Nat.le_refl w.heap.size; omega
        have kC0 : s5.cell? ⟨C, 0, none⟩ = some (.bool false) := by rw [hws]; simp [go_sem, hdA, hdC]
        have fC0 : s5.frozen? ⟨C, 0, none⟩ = false := by rw [hws]; simp [go_sem, hdA, hdC]
        have kC1 : s5.cell? ⟨C, 1, none⟩ = some (.string ⟨#[]⟩) := by rw [hws]; simp [go_sem, hdA, hdC]
        have fC1 : s5.frozen? ⟨C, 1, none⟩ = false := by rw [hws]; simp [go_sem, hdA, hdC]
        have kC2 : s5.cell? ⟨C, 2, none⟩ = some (.string ⟨#[]⟩) := by rw [hws]; simp [go_sem, hdA, hdC]
        have fC2 : s5.frozen? ⟨C, 2, none⟩ = false := by rw [hws]; simp [go_sem, hdA, hdC]
        have zC : C < s5.heap.size := by omega
        have lC : w.heap.size ≤ C := by have := Nat.le_refl w.heap.size; omega
        rw [← hws]
        try rw [← hdC]
        try rw [← hdA]
        clear hws hsz hdA hdC
        have hBo := hBs; clear hBs
        refine (HP.out _).mono ?_; rintro e s6 ⟨rfl, hb⟩
        replace kA0 := belK hb kA0 zA; replace kA1 := belK hb kA1 zA; replace kA2 := belK hb kA2 zA; replace zA := Nat.lt_of_lt_of_le zA hb.size
        replace kC0 := belK hb kC0 zC; replace fC0 := belF hb fC0 zC; replace kC1 := belK hb kC1 zC; replace fC1 := belF hb fC1 zC; replace kC2 := belK hb kC2 zC; replace fC2 := belF hb fC2 zC; replace zC := Nat.lt_of_lt_of_le zC hb.size
        replace hBo := hBo.trans (hb.mono hBo.size)
        clear hb
        go_wp2_with fail
        obtain ⟨s7, hws⟩ : ∃ s, s = ((s6.alloc (.cells #[.bool false, .string nn] 44)).alloc (.cells #[.bool false, .string nd] 44)) := ⟨_, rfl⟩
        have hBs : Below w.heap.size w s7 := by rw [hws]; exact (((hBo).alloc (by exact hBo.size) _).alloc (by have := hBo.size; simp; omega) _)
        obtain ⟨X, hdX⟩ : ∃ b, b = s6.heap.size := ⟨_, rfl⟩
        obtain ⟨Y, hdY⟩ : ∃ b, b = s6.heap.size + 1 := ⟨_, rfl⟩
        have hsz : s7.heap.size = s6.heap.size + 1 + 1 := by rw [hws]; simp
        have dCX : C ≠ X := by omega
        have dCY : C ≠ Y := by omega
        have hQC : ∀ p v, s6.cell? p = some v → s7.cell? p = some v := fun p v h => by rw [hws]; exact (alK (alK h))
        have hQZ : ∀ b, b < s6.heap.size → b < s7.heap.size := fun b h => by omega
        have hQF : ∀ b j, b < s6.heap.size → s6.frozen? ⟨b, j, none⟩ = false → s7.frozen? ⟨b, j, none⟩ = false := fun b j z h => by rw [hws]; exact (alF (alZ z) (alF z h))
        replace kA0 := hQC _ _ kA0; replace kA1 := hQC _ _ kA1; replace kA2 := hQC _ _ kA2; replace zA := hQZ _ zA
        replace kC0 := hQC _ _ kC0; replace fC0 := hQF _ _ zC fC0; replace kC1 := hQC _ _ kC1; replace fC1 := hQF _ _ zC fC1; replace kC2 := hQC _ _ kC2; replace fC2 := hQF _ _ zC fC2; replace zC := hQZ _ zC
        clear hQC hQZ hQF
        have kX0 : s7.cell? ⟨X, 0, none⟩ = some (.bool false) := by rw [hws]; simp [go_sem, hdX, hdY]
        have kX1 : s7.cell? ⟨X, 1, none⟩ = some (.string nn) := by rw [hws]; simp [go_sem, hdX, hdY]
        have zX : X < s7.heap.size := by omega
        have lX : w.heap.size ≤ X := by have := hBo.size; omega
        have kY0 : s7.cell? ⟨Y, 0, none⟩ = some (.bool false) := by rw [hws]; simp [go_sem, hdX, hdY]
        have kY1 : s7.cell? ⟨Y, 1, none⟩ = some (.string nd) := by rw [hws]; simp [go_sem, hdX, hdY]
        have zY : Y < s7.heap.size := by omega
        have lY : w.heap.size ≤ Y := by have := hBo.size; omega
        rw [← hws]
        try rw [← hdY]
        try rw [← hdX]
        clear hBo
        clear hws hsz hdX hdY
        have hBo := hBs; clear hBs
        have HF : Hid (∀ W, Below s7.heap.size s7 W → Below w.heap.size w W) := fun W hW => hBo.trans (hW.mono hBo.size)
        clear hBo
        first | (go_region_held3 (fun w' => w'.cell? ⟨A, 0, none⟩ = some (.bool neg) ∧ w'.cell? ⟨A, 1, none⟩ = some (.string a) ∧ w'.cell? ⟨A, 2, none⟩ = some (.string d) ∧ w'.cell? ⟨C, 0, none⟩ = some (.bool false) ∧ w'.cell? ⟨C, 1, none⟩ = some (.string ⟨#[]⟩) ∧ w'.cell? ⟨C, 2, none⟩ = some (.string ⟨#[]⟩) ∧ w'.cell? ⟨X, 0, none⟩ = some (.bool false) ∧ w'.cell? ⟨X, 1, none⟩ = some (.string nn) ∧ w'.cell? ⟨Y, 0, none⟩ = some (.bool false) ∧ w'.cell? ⟨Y, 1, none⟩ = some (.string nd))
          (go_keep) (first
          | (go_at_call 68; refine (HRT.out _ _ (by assumption)).mono ?_; rintro e x8 ⟨he, hbx⟩; (first | rw [E1.out] at he | rw [E2.out] at he); subst he; have hTx : Below s7.heap.size s7 x8 := (by first | exact (Below.refl _ _).drew.trans hbx | exact Below.trans (by assumption) (hbx.mono (Below.size (by assumption))) | exact (Below.refl _ _).trans hbx); obtain ⟨hcx, hfx⟩ := bcell hTx))) | fail
        go_wp2_with fail
        replace kA0 := (hcx A 0 zA).trans kA0
        replace kA1 := (hcx A 1 zA).trans kA1
        replace kA2 := (hcx A 2 zA).trans kA2
        replace zA := Nat.lt_of_lt_of_le zA hTx.size
        replace kC0 := (hcx C 0 zC).trans kC0
        replace fC0 := (hfx C 0 zC).trans fC0
        replace kC1 := (hcx C 1 zC).trans kC1
        replace fC1 := (hfx C 1 zC).trans fC1
        replace kC2 := (hcx C 2 zC).trans kC2
        replace fC2 := (hfx C 2 zC).trans fC2
        replace zC := Nat.lt_of_lt_of_le zC hTx.size
        replace kX0 := (hcx X 0 zX).trans kX0
        replace kX1 := (hcx X 1 zX).trans kX1
        replace zX := Nat.lt_of_lt_of_le zX hTx.size
        replace kY0 := (hcx Y 0 zY).trans kY0
        replace kY1 := (hcx Y 1 zY).trans kY1
        replace zY := Nat.lt_of_lt_of_le zY hTx.size
        have hBo := HF.out _ hTx
        clear HF hcx hfx hTx
        have HF : Hid (∀ W, Below x8.heap.size x8 W → Below w.heap.size w W) := fun W hW => hBo.trans (hW.mono hBo.size)
        clear hBo
        first | (go_region_held3 (fun w' => w'.cell? ⟨A, 0, none⟩ = some (.bool neg) ∧ w'.cell? ⟨A, 1, none⟩ = some (.string a) ∧ w'.cell? ⟨A, 2, none⟩ = some (.string d) ∧ w'.cell? ⟨C, 0, none⟩ = some (.bool false) ∧ w'.cell? ⟨C, 1, none⟩ = some (.string ⟨#[]⟩) ∧ w'.cell? ⟨C, 2, none⟩ = some (.string ⟨#[]⟩) ∧ w'.cell? ⟨X, 0, none⟩ = some (.bool false) ∧ w'.cell? ⟨X, 1, none⟩ = some (.string nn) ∧ w'.cell? ⟨Y, 0, none⟩ = some (.bool false) ∧ w'.cell? ⟨Y, 1, none⟩ = some (.string nd))
          (go_keep) (first
          | (go_at_call 69; refine (HSQ.out _ _ (by assumption)).mono ?_; rintro e x9 ⟨he, hbx⟩; (first | rw [EQ1.out] at he | rw [EQ2.out] at he); subst he; have hTx : Below x8.heap.size x8 x9 := (by first | exact (Below.refl _ _).drew.trans hbx | exact Below.trans (by assumption) (hbx.mono (Below.size (by assumption))) | exact (Below.refl _ _).trans hbx); obtain ⟨hcx, hfx⟩ := bcell hTx))) | fail
        all_goals go_wp2_with fail
        all_goals refine bodyPost_ret (v := .tuple #[.agg #[.bool false, .string t1, .string t2], .bool true]) (by simp [results, Tryz.results34, go_sem, hcx, kC0, kC1, kC2, zC]) rfl ⟨rfl, ?_⟩
        all_goals exact ((((HF.out _ (by assumption)).setCell lC _).setCell lC _).setCell lC _)
      · have hno := root_not (q := Q) (fun h => h2 h.2.2)
        rw [root_no hno] at hq
        rw [hno] at hb
        subst hq hb
        rw [rz.1, rz.2.1, rz.2.2]
        have hn : Nt.E (Nt.rt Q.den * Nt.rt Q.den) ≠ rd Q := fun h => h2 (Nt.E_inj (h.trans tD.symm))
        have hnb := toList_beq hn
        generalize Nt.E (Nt.rt Q.den * Nt.rt Q.den) = m2 at *
        have EQ1 := Lib.hid q1
        have EQ2 := Lib.hid q2
        generalize Nt.E (Nt.rt Q.num) = t1 at *
        generalize Nt.E (Nt.rt Q.den) = t2 at *
        generalize rn Q = nn at *
        generalize rd Q = nd at *
        clear q1 q2 eN eD tN tD hneg hno h1 h2 hn
        go_enter Tryz.func34, Tryz.ntmps34
        go_wp2_with fail
        obtain ⟨s10, hws⟩ : ∃ s, s = ((w.alloc (.cells #[.bool neg, .string a, .string d] 23)).alloc (.cells #[.bool false, .string ⟨#[]⟩, .string ⟨#[]⟩] 23)) := ⟨_, rfl⟩
        have hBs : Below w.heap.size w s10 := by rw [hws]; exact (((Below.refl w.heap.size w).alloc (by simp) _).alloc (by simp) _)
        obtain ⟨A, hdA⟩ : ∃ b, b = w.heap.size := ⟨_, rfl⟩
        obtain ⟨C, hdC⟩ : ∃ b, b = w.heap.size + 1 := ⟨_, rfl⟩
        have hsz : s10.heap.size = w.heap.size + 1 + 1 := by rw [hws]; simp
        have dCA : C ≠ A := by omega
        have kA0 : s10.cell? ⟨A, 0, none⟩ = some (.bool neg) := by rw [hws]; simp [go_sem, hdA, hdC]
        have kA1 : s10.cell? ⟨A, 1, none⟩ = some (.string a) := by rw [hws]; simp [go_sem, hdA, hdC]
        have kA2 : s10.cell? ⟨A, 2, none⟩ = some (.string d) := by rw [hws]; simp [go_sem, hdA, hdC]
        have zA : A < s10.heap.size := by omega
        have lA : w.heap.size ≤ A := by have := Nat.le_refl w.heap.size; omega
        have kC0 : s10.cell? ⟨C, 0, none⟩ = some (.bool false) := by rw [hws]; simp [go_sem, hdA, hdC]
        have fC0 : s10.frozen? ⟨C, 0, none⟩ = false := by rw [hws]; simp [go_sem, hdA, hdC]
        have kC1 : s10.cell? ⟨C, 1, none⟩ = some (.string ⟨#[]⟩) := by rw [hws]; simp [go_sem, hdA, hdC]
        have fC1 : s10.frozen? ⟨C, 1, none⟩ = false := by rw [hws]; simp [go_sem, hdA, hdC]
        have kC2 : s10.cell? ⟨C, 2, none⟩ = some (.string ⟨#[]⟩) := by rw [hws]; simp [go_sem, hdA, hdC]
        have fC2 : s10.frozen? ⟨C, 2, none⟩ = false := by rw [hws]; simp [go_sem, hdA, hdC]
        have zC : C < s10.heap.size := by omega
        have lC : w.heap.size ≤ C := by have := Nat.le_refl w.heap.size; omega
        rw [← hws]
        try rw [← hdC]
        try rw [← hdA]
        clear hws hsz hdA hdC
        have hBo := hBs; clear hBs
        refine (HP.out _).mono ?_; rintro e s11 ⟨rfl, hb⟩
        replace kA0 := belK hb kA0 zA; replace kA1 := belK hb kA1 zA; replace kA2 := belK hb kA2 zA; replace zA := Nat.lt_of_lt_of_le zA hb.size
        replace kC0 := belK hb kC0 zC; replace fC0 := belF hb fC0 zC; replace kC1 := belK hb kC1 zC; replace fC1 := belF hb fC1 zC; replace kC2 := belK hb kC2 zC; replace fC2 := belF hb fC2 zC; replace zC := Nat.lt_of_lt_of_le zC hb.size
        replace hBo := hBo.trans (hb.mono hBo.size)
        clear hb
        go_wp2_with fail
        obtain ⟨s12, hws⟩ : ∃ s, s = ((s11.alloc (.cells #[.bool false, .string nn] 44)).alloc (.cells #[.bool false, .string nd] 44)) := ⟨_, rfl⟩
        have hBs : Below w.heap.size w s12 := by rw [hws]; exact (((hBo).alloc (by exact hBo.size) _).alloc (by have := hBo.size; simp; omega) _)
        obtain ⟨X, hdX⟩ : ∃ b, b = s11.heap.size := ⟨_, rfl⟩
        obtain ⟨Y, hdY⟩ : ∃ b, b = s11.heap.size + 1 := ⟨_, rfl⟩
        have hsz : s12.heap.size = s11.heap.size + 1 + 1 := by rw [hws]; simp
        have dCX : C ≠ X := by omega
        have dCY : C ≠ Y := by omega
        have hQC : ∀ p v, s11.cell? p = some v → s12.cell? p = some v := fun p v h => by rw [hws]; exact (alK (alK h))
        have hQZ : ∀ b, b < s11.heap.size → b < s12.heap.size := fun b h => by omega
        have hQF : ∀ b j, b < s11.heap.size → s11.frozen? ⟨b, j, none⟩ = false → s12.frozen? ⟨b, j, none⟩ = false := fun b j z h => by rw [hws]; exact (alF (alZ z) (alF z h))
        replace kA0 := hQC _ _ kA0; replace kA1 := hQC _ _ kA1; replace kA2 := hQC _ _ kA2; replace zA := hQZ _ zA
        replace kC0 := hQC _ _ kC0; replace fC0 := hQF _ _ zC fC0; replace kC1 := hQC _ _ kC1; replace fC1 := hQF _ _ zC fC1; replace kC2 := hQC _ _ kC2; replace fC2 := hQF _ _ zC fC2; replace zC := hQZ _ zC
        clear hQC hQZ hQF
        have kX0 : s12.cell? ⟨X, 0, none⟩ = some (.bool false) := by rw [hws]; simp [go_sem, hdX, hdY]
        have kX1 : s12.cell? ⟨X, 1, none⟩ = some (.string nn) := by rw [hws]; simp [go_sem, hdX, hdY]
        have zX : X < s12.heap.size := by omega
        have lX : w.heap.size ≤ X := by have := hBo.size; omega
        have kY0 : s12.cell? ⟨Y, 0, none⟩ = some (.bool false) := by rw [hws]; simp [go_sem, hdX, hdY]
        have kY1 : s12.cell? ⟨Y, 1, none⟩ = some (.string nd) := by rw [hws]; simp [go_sem, hdX, hdY]
        have zY : Y < s12.heap.size := by omega
        have lY : w.heap.size ≤ Y := by have := hBo.size; omega
        rw [← hws]
        try rw [← hdY]
        try rw [← hdX]
        clear hBo
        clear hws hsz hdX hdY
        have hBo := hBs; clear hBs
        have HF : Hid (∀ W, Below s12.heap.size s12 W → Below w.heap.size w W) := fun W hW => hBo.trans (hW.mono hBo.size)
        clear hBo
        first | (go_region_held3 (fun w' => w'.cell? ⟨A, 0, none⟩ = some (.bool neg) ∧ w'.cell? ⟨A, 1, none⟩ = some (.string a) ∧ w'.cell? ⟨A, 2, none⟩ = some (.string d) ∧ w'.cell? ⟨C, 0, none⟩ = some (.bool false) ∧ w'.cell? ⟨C, 1, none⟩ = some (.string ⟨#[]⟩) ∧ w'.cell? ⟨C, 2, none⟩ = some (.string ⟨#[]⟩) ∧ w'.cell? ⟨X, 0, none⟩ = some (.bool false) ∧ w'.cell? ⟨X, 1, none⟩ = some (.string nn) ∧ w'.cell? ⟨Y, 0, none⟩ = some (.bool false) ∧ w'.cell? ⟨Y, 1, none⟩ = some (.string nd))
          (go_keep) (first
          | (go_at_call 68; refine (HRT.out _ _ (by assumption)).mono ?_; rintro e x13 ⟨he, hbx⟩; (first | rw [E1.out] at he | rw [E2.out] at he); subst he; have hTx : Below s12.heap.size s12 x13 := (by first | exact (Below.refl _ _).drew.trans hbx | exact Below.trans (by assumption) (hbx.mono (Below.size (by assumption))) | exact (Below.refl _ _).trans hbx); obtain ⟨hcx, hfx⟩ := bcell hTx))) | fail
        go_wp2_with fail
        replace kA0 := (hcx A 0 zA).trans kA0
        replace kA1 := (hcx A 1 zA).trans kA1
        replace kA2 := (hcx A 2 zA).trans kA2
        replace zA := Nat.lt_of_lt_of_le zA hTx.size
        replace kC0 := (hcx C 0 zC).trans kC0
        replace fC0 := (hfx C 0 zC).trans fC0
        replace kC1 := (hcx C 1 zC).trans kC1
        replace fC1 := (hfx C 1 zC).trans fC1
        replace kC2 := (hcx C 2 zC).trans kC2
        replace fC2 := (hfx C 2 zC).trans fC2
        replace zC := Nat.lt_of_lt_of_le zC hTx.size
        replace kX0 := (hcx X 0 zX).trans kX0
        replace kX1 := (hcx X 1 zX).trans kX1
        replace zX := Nat.lt_of_lt_of_le zX hTx.size
        replace kY0 := (hcx Y 0 zY).trans kY0
        replace kY1 := (hcx Y 1 zY).trans kY1
        replace zY := Nat.lt_of_lt_of_le zY hTx.size
        have hBo := HF.out _ hTx
        clear HF hcx hfx hTx
        have HF : Hid (∀ W, Below x13.heap.size x13 W → Below w.heap.size w W) := fun W hW => hBo.trans (hW.mono hBo.size)
        clear hBo
        first | (go_region_held3 (fun w' => w'.cell? ⟨A, 0, none⟩ = some (.bool neg) ∧ w'.cell? ⟨A, 1, none⟩ = some (.string a) ∧ w'.cell? ⟨A, 2, none⟩ = some (.string d) ∧ w'.cell? ⟨C, 0, none⟩ = some (.bool false) ∧ w'.cell? ⟨C, 1, none⟩ = some (.string ⟨#[]⟩) ∧ w'.cell? ⟨C, 2, none⟩ = some (.string ⟨#[]⟩) ∧ w'.cell? ⟨X, 0, none⟩ = some (.bool false) ∧ w'.cell? ⟨X, 1, none⟩ = some (.string nn) ∧ w'.cell? ⟨Y, 0, none⟩ = some (.bool false) ∧ w'.cell? ⟨Y, 1, none⟩ = some (.string nd))
          (go_keep) (first
          | (go_at_call 69; refine (HSQ.out _ _ (by assumption)).mono ?_; rintro e x14 ⟨he, hbx⟩; (first | rw [EQ1.out] at he | rw [EQ2.out] at he); subst he; have hTx : Below x13.heap.size x13 x14 := (by first | exact (Below.refl _ _).drew.trans hbx | exact Below.trans (by assumption) (hbx.mono (Below.size (by assumption))) | exact (Below.refl _ _).trans hbx); obtain ⟨hcx, hfx⟩ := bcell hTx))) | fail
        all_goals go_wp2_with fail
        all_goals refine bodyPost_ret (v := .tuple #[.agg #[.bool false, .string ⟨#[]⟩, .string ⟨#[]⟩], .bool false]) (by simp [results, Tryz.results34, go_sem, hcx, kC0, kC1, kC2, zC]) rfl ⟨rfl, ?_⟩
        all_goals exact ((((HF.out _ (by assumption)).setCell lC _).setCell lC _).setCell lC _)
    · have hno := root_not (q := Q) (fun h => h1 h.2.1)
      rw [root_no hno] at hq
      rw [hno] at hb
      subst hq hb
      rw [rz.1, rz.2.1, rz.2.2]
      have hn : Nt.E (Nt.rt Q.num * Nt.rt Q.num) ≠ rn Q := fun h => h1 (Nt.E_inj (h.trans tN.symm))
      have hnb := toList_beq hn
      generalize Nt.E (Nt.rt Q.num * Nt.rt Q.num) = m1 at *
      have EQ1 := Lib.hid q1
      generalize Nt.E (Nt.rt Q.num) = t1 at *
      generalize Nt.E (Nt.rt Q.den) = t2 at *
      generalize rn Q = nn at *
      generalize rd Q = nd at *
      clear q1 q2 eN eD tN tD hneg hno h1 hn
      go_enter Tryz.func34, Tryz.ntmps34
      go_wp2_with fail
      obtain ⟨s15, hws⟩ : ∃ s, s = ((w.alloc (.cells #[.bool neg, .string a, .string d] 23)).alloc (.cells #[.bool false, .string ⟨#[]⟩, .string ⟨#[]⟩] 23)) := ⟨_, rfl⟩
      have hBs : Below w.heap.size w s15 := by rw [hws]; exact (((Below.refl w.heap.size w).alloc (by simp) _).alloc (by simp) _)
      obtain ⟨A, hdA⟩ : ∃ b, b = w.heap.size := ⟨_, rfl⟩
      obtain ⟨C, hdC⟩ : ∃ b, b = w.heap.size + 1 := ⟨_, rfl⟩
      have hsz : s15.heap.size = w.heap.size + 1 + 1 := by rw [hws]; simp
      have dCA : C ≠ A := by omega
      have kA0 : s15.cell? ⟨A, 0, none⟩ = some (.bool neg) := by rw [hws]; simp [go_sem, hdA, hdC]
      have kA1 : s15.cell? ⟨A, 1, none⟩ = some (.string a) := by rw [hws]; simp [go_sem, hdA, hdC]
      have kA2 : s15.cell? ⟨A, 2, none⟩ = some (.string d) := by rw [hws]; simp [go_sem, hdA, hdC]
      have zA : A < s15.heap.size := by omega
      have lA : w.heap.size ≤ A := by have := Nat.le_refl w.heap.size; omega
      have kC0 : s15.cell? ⟨C, 0, none⟩ = some (.bool false) := by rw [hws]; simp [go_sem, hdA, hdC]
      have fC0 : s15.frozen? ⟨C, 0, none⟩ = false := by rw [hws]; simp [go_sem, hdA, hdC]
      have kC1 : s15.cell? ⟨C, 1, none⟩ = some (.string ⟨#[]⟩) := by rw [hws]; simp [go_sem, hdA, hdC]
      have fC1 : s15.frozen? ⟨C, 1, none⟩ = false := by rw [hws]; simp [go_sem, hdA, hdC]
      have kC2 : s15.cell? ⟨C, 2, none⟩ = some (.string ⟨#[]⟩) := by rw [hws]; simp [go_sem, hdA, hdC]
      have fC2 : s15.frozen? ⟨C, 2, none⟩ = false := by rw [hws]; simp [go_sem, hdA, hdC]
      have zC : C < s15.heap.size := by omega
      have lC : w.heap.size ≤ C := by have := Nat.le_refl w.heap.size; omega
      rw [← hws]
      try rw [← hdC]
      try rw [← hdA]
      clear hws hsz hdA hdC
      have hBo := hBs; clear hBs
      refine (HP.out _).mono ?_; rintro e s16 ⟨rfl, hb⟩
      replace kA0 := belK hb kA0 zA; replace kA1 := belK hb kA1 zA; replace kA2 := belK hb kA2 zA; replace zA := Nat.lt_of_lt_of_le zA hb.size
      replace kC0 := belK hb kC0 zC; replace fC0 := belF hb fC0 zC; replace kC1 := belK hb kC1 zC; replace fC1 := belF hb fC1 zC; replace kC2 := belK hb kC2 zC; replace fC2 := belF hb fC2 zC; replace zC := Nat.lt_of_lt_of_le zC hb.size
      replace hBo := hBo.trans (hb.mono hBo.size)
      clear hb
      go_wp2_with fail
      obtain ⟨s17, hws⟩ : ∃ s, s = ((s16.alloc (.cells #[.bool false, .string nn] 44)).alloc (.cells #[.bool false, .string nd] 44)) := ⟨_, rfl⟩
      have hBs : Below w.heap.size w s17 := by rw [hws]; exact (((hBo).alloc (by exact hBo.size) _).alloc (by have := hBo.size; simp; omega) _)
      obtain ⟨X, hdX⟩ : ∃ b, b = s16.heap.size := ⟨_, rfl⟩
      obtain ⟨Y, hdY⟩ : ∃ b, b = s16.heap.size + 1 := ⟨_, rfl⟩
      have hsz : s17.heap.size = s16.heap.size + 1 + 1 := by rw [hws]; simp
      have dCX : C ≠ X := by omega
      have dCY : C ≠ Y := by omega
      have hQC : ∀ p v, s16.cell? p = some v → s17.cell? p = some v := fun p v h => by rw [hws]; exact (alK (alK h))
      have hQZ : ∀ b, b < s16.heap.size → b < s17.heap.size := fun b h => by omega
      have hQF : ∀ b j, b < s16.heap.size → s16.frozen? ⟨b, j, none⟩ = false → s17.frozen? ⟨b, j, none⟩ = false := fun b j z h => by rw [hws]; exact (alF (alZ z) (alF z h))
      replace kA0 := hQC _ _ kA0; replace kA1 := hQC _ _ kA1; replace kA2 := hQC _ _ kA2; replace zA := hQZ _ zA
      replace kC0 := hQC _ _ kC0; replace fC0 := hQF _ _ zC fC0; replace kC1 := hQC _ _ kC1; replace fC1 := hQF _ _ zC fC1; replace kC2 := hQC _ _ kC2; replace fC2 := hQF _ _ zC fC2; replace zC := hQZ _ zC
      clear hQC hQZ hQF
      have kX0 : s17.cell? ⟨X, 0, none⟩ = some (.bool false) := by rw [hws]; simp [go_sem, hdX, hdY]
      have kX1 : s17.cell? ⟨X, 1, none⟩ = some (.string nn) := by rw [hws]; simp [go_sem, hdX, hdY]
      have zX : X < s17.heap.size := by omega
      have lX : w.heap.size ≤ X := by have := hBo.size; omega
      have kY0 : s17.cell? ⟨Y, 0, none⟩ = some (.bool false) := by rw [hws]; simp [go_sem, hdX, hdY]
      have kY1 : s17.cell? ⟨Y, 1, none⟩ = some (.string nd) := by rw [hws]; simp [go_sem, hdX, hdY]
      have zY : Y < s17.heap.size := by omega
      have lY : w.heap.size ≤ Y := by have := hBo.size; omega
      rw [← hws]
      try rw [← hdY]
      try rw [← hdX]
      clear hBo
      clear hws hsz hdX hdY
      have hBo := hBs; clear hBs
      have HF : Hid (∀ W, Below s17.heap.size s17 W → Below w.heap.size w W) := fun W hW => hBo.trans (hW.mono hBo.size)
      clear hBo
      first | (go_region_held3 (fun w' => w'.cell? ⟨A, 0, none⟩ = some (.bool neg) ∧ w'.cell? ⟨A, 1, none⟩ = some (.string a) ∧ w'.cell? ⟨A, 2, none⟩ = some (.string d) ∧ w'.cell? ⟨C, 0, none⟩ = some (.bool false) ∧ w'.cell? ⟨C, 1, none⟩ = some (.string ⟨#[]⟩) ∧ w'.cell? ⟨C, 2, none⟩ = some (.string ⟨#[]⟩) ∧ w'.cell? ⟨X, 0, none⟩ = some (.bool false) ∧ w'.cell? ⟨X, 1, none⟩ = some (.string nn) ∧ w'.cell? ⟨Y, 0, none⟩ = some (.bool false) ∧ w'.cell? ⟨Y, 1, none⟩ = some (.string nd))
        (go_keep) (first
        | (go_at_call 68; refine (HRT.out _ _ (by assumption)).mono ?_; rintro e x18 ⟨he, hbx⟩; (first | rw [E1.out] at he | rw [E2.out] at he); subst he; have hTx : Below s17.heap.size s17 x18 := (by first | exact (Below.refl _ _).drew.trans hbx | exact Below.trans (by assumption) (hbx.mono (Below.size (by assumption))) | exact (Below.refl _ _).trans hbx); obtain ⟨hcx, hfx⟩ := bcell hTx))) | fail
      go_wp2_with fail
      replace kA0 := (hcx A 0 zA).trans kA0
      replace kA1 := (hcx A 1 zA).trans kA1
      replace kA2 := (hcx A 2 zA).trans kA2
      replace zA := Nat.lt_of_lt_of_le zA hTx.size
      replace kC0 := (hcx C 0 zC).trans kC0
      replace fC0 := (hfx C 0 zC).trans fC0
      replace kC1 := (hcx C 1 zC).trans kC1
      replace fC1 := (hfx C 1 zC).trans fC1
      replace kC2 := (hcx C 2 zC).trans kC2
      replace fC2 := (hfx C 2 zC).trans fC2
      replace zC := Nat.lt_of_lt_of_le zC hTx.size
      replace kX0 := (hcx X 0 zX).trans kX0
      replace kX1 := (hcx X 1 zX).trans kX1
      replace zX := Nat.lt_of_lt_of_le zX hTx.size
      replace kY0 := (hcx Y 0 zY).trans kY0
      replace kY1 := (hcx Y 1 zY).trans kY1
      replace zY := Nat.lt_of_lt_of_le zY hTx.size
      have hBo := HF.out _ hTx
      clear HF hcx hfx hTx
      have HF : Hid (∀ W, Below x18.heap.size x18 W → Below w.heap.size w W) := fun W hW => hBo.trans (hW.mono hBo.size)
      clear hBo
      first | (go_region_with (first
        | (go_at_call 69; refine (HSQ.out _ _ (by assumption)).mono ?_; rintro e x19 ⟨he, hbx⟩; (first | rw [EQ1.out] at he); subst he; have hTx : Below x18.heap.size x18 x19 := (by first | exact (Below.refl _ _).drew.trans hbx | exact Below.trans (by assumption) (hbx.mono (Below.size (by assumption))) | exact (Below.refl _ _).trans hbx); obtain ⟨hcx, hfx⟩ := bcell hTx))) | fail
      all_goals go_wp2_with fail
      all_goals refine bodyPost_ret (v := .tuple #[.agg #[.bool false, .string ⟨#[]⟩, .string ⟨#[]⟩], .bool false]) (by simp [results, Tryz.results34, go_sem, hcx, kC0, kC1, kC2, zC]) rfl ⟨rfl, ?_⟩
      all_goals exact ((((HF.out _ (by assumption)).setCell lC _).setCell lC _).setCell lC _)
end Go.Proofs.YtbgmnpabclfjaaaGreatDoor
