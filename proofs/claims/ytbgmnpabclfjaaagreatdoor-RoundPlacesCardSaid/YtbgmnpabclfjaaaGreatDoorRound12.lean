/-
  POWERS OF NUMBERS, WALKED: the program's.
-/
import Derived.Test.YtbgmnpabclfjaaaGreatDoorRound11
namespace Go.Proofs.YtbgmnpabclfjaaaGreatDoor
open Go.RowKit Go.Shelf
set_option linter.unusedSimpArgs false
set_option linter.unusedVariables false

set_option maxRecDepth 100000 in
set_option maxHeartbeats 16000000 in
theorem roundPow_up (neg : Bool) (a d : ByteArray) (t : Nat) (q : Rt) (c : Int) (w : World) (ha : a.size ≤ 140737488351232) (hd : d.size ≤ 140737488351232) (ht : (t : Int) ≤ 9223372036854775807)
    (hq : powR (wl neg a d) (t : Int) = q) (hc : powE (wl neg a d) (t : Int) = c) :
    Calls Tryz.prog 28 #[.agg #[.bool neg, .string a, .string d], .int .i64 (t : Int)] w fun e w' => e = .returned (.tuple #[.agg #[.bool (rb q), .string (rn q), .string (rd q)], .int .i64 c]) ∧ Below w.heap.size w w' := by
  have hp := fun w => parts_any neg a d _ _ w ha hd rfl rfl
  have hok := wl_ok neg a d
  rw [zb_top hok, zt_top, zb_low, zt_low] at hp
  generalize wl neg a d = Q at *
  have sN : (rn Q).size ≤ 32 := rn_size hok
  have sD : (rd Q).size ≤ 32 := rd_size hok
  have eN : Nt.V (rn Q) = Q.num := Nt.V_E _
  have eD : Nt.V (rd Q) = Q.den := Nt.V_E _
  have p1 := fun w => power_any (rn Q) t w sN (by omega)
  have p2 := fun w => power_any (rd Q) t w sD (by omega)
  rw [eN] at p1
  rw [eD] at p2
  have hwr : IntKind.u64.wrap (t : Int) = (t : Int) := by rw [IntKind.wrap_u64]; omega
  have hn0 : ¬ (t : Int) < 0 := by omega
  have f1 := pwF_iff Q.num t
  have f2 := pwF_iff Q.den t
  by_cases hb : pwF Q.num t = true ∧ pwF Q.den t = true
  · obtain ⟨b1, b2⟩ := hb
    have g1 := f1.1 b1
    have g2 := f2.1 b2
    obtain ⟨e1, e2⟩ := pow_fit (q := Q) (n := (t : Int)) g1 g2
    rw [e1] at hq
    rw [e2] at hc
    have ex : pwX Q (t : Int) = sI (Q.neg && pwO (t : Int)) (Q.num ^ t) := by unfold pwX; rw [if_neg hn0, Int.natAbs_natCast]
    have ey : pwY Q (t : Int) = ((Q.den ^ t : Nat) : Int) := by unfold pwY; rw [if_neg hn0, Int.natAbs_natCast]
    rw [pwT_fit b1, b1] at p1
    rw [pwT_fit b2, b2] at p2
    have HM : Hid (∀ (b : Bool) (t : ByteArray) (w : World), Calls Tryz.prog 64 #[.bool b, .string t] w fun e w' => e = .returned (.agg #[.bool (zb (sI b (Nt.V t))), .string (zt (sI b (Nt.V t)))]) ∧ Below w.heap.size w w') := fun b t w => wholeMake_z b t _ w rfl
    have z1 : (zt (pwX Q (t : Int))).size ≤ 32 := by rw [ex]; unfold zt; rw [sI_abs]; exact blen_size g1
    have z2 : (zt (pwY Q (t : Int))).size ≤ 32 := by rw [ey, zt_cast]; exact blen_size g2
    have HK := Lib.hid (fun w => ratMake_zz _ _ q c w (by omega) (by omega) hq hc)
    have E1 : Hid (sI (Q.neg && pwO (t : Int)) (Nt.V (Nt.E (Q.num ^ t))) = pwX Q (t : Int)) := by rw [Hid, Nt.V_E, ex]
    have E2 : Hid (sI false (Nt.V (Nt.E (Q.den ^ t))) = pwY Q (t : Int)) := by rw [Hid, Nt.V_E, ey]; rfl
    have hodd : ((t : Int).tmod 2 == 0) = !pwO (t : Int) := by
      unfold pwO
      rw [Int.natAbs_natCast, Int.tmod_eq_emod_of_nonneg (by omega)]
      by_cases h : t % 2 = 1
      · rw [decide_eq_true h]; simp; omega
      · rw [decide_eq_false h]; simp; omega
    have HP := Lib.hid hp
    have P1 := Lib.hid p1
    have P2 := Lib.hid p2
    generalize pwX Q (t : Int) = X at *
    generalize pwY Q (t : Int) = Y at *
    generalize pwO (t : Int) = od at *
    generalize Nt.E (Q.num ^ t) = t1 at *
    generalize Nt.E (Q.den ^ t) = t2 at *
    rw [show Q.neg = rb Q from rfl] at E1
    generalize rb Q = nb at *
    generalize rn Q = nn at *
    generalize rd Q = nd at *
    clear hp p1 p2 e1 e2 ex ey g1 g2 f1 f2 b1 b2 sN sD eN eD hok hq hc z1 z2 ha hd
    have M2 : Hid (∀ w, Calls Tryz.prog 64 #[.bool false, .string t2] w fun e w' => e = .returned (.agg #[.bool (zb Y), .string (zt Y)]) ∧ Below w.heap.size w w') := fun w => wholeMake_z false t2 Y w E2
    cases nb with
    | false =>
      rw [Bool.false_and] at E1
      have M1 : Hid (∀ w, Calls Tryz.prog 64 #[.bool false, .string t1] w fun e w' => e = .returned (.agg #[.bool (zb X), .string (zt X)]) ∧ Below w.heap.size w w') := fun w => wholeMake_z false t1 X w E1
      clear E1 E2 HM
      go_enter Tryz.func28, Tryz.ntmps28
      go_wp2_with fail
      obtain ⟨s1, hws⟩ : ∃ s, s = ((w.alloc (.cells #[.bool neg, .string a, .string d] 23)).alloc (.cells #[.bool false, .string ⟨#[]⟩, .string ⟨#[]⟩] 23)) := ⟨_, rfl⟩
      have hBs : Below w.heap.size w s1 := by rw [hws]; exact (((Below.refl w.heap.size w).alloc (by simp) _).alloc (by simp) _)
      obtain ⟨A, hdA⟩ : ∃ b, b = w.heap.size := ⟨_, rfl⟩
      obtain ⟨C, hdC⟩ : ∃ b, b = w.heap.size + 1 := ⟨_, rfl⟩
      have hsz : s1.heap.size = w.heap.size + 1 + 1 := by rw [hws]; simp
      have dCA : C ≠ A := by omega
      have kA0 : s1.cell? ⟨A, 0, none⟩ = some (.bool neg) := by rw [hws]; simp [go_sem, hdA, hdC]
      have kA1 : s1.cell? ⟨A, 1, none⟩ = some (.string a) := by rw [hws]; simp [go_sem, hdA, hdC]
      have kA2 : s1.cell? ⟨A, 2, none⟩ = some (.string d) := by rw [hws]; simp [go_sem, hdA, hdC]
      have zA : A < s1.heap.size := by omega
      have lA : w.heap.size ≤ A := by have := Nat.le_refl w.heap.size; omega
      have kC0 : s1.cell? ⟨C, 0, none⟩ = some (.bool false) := by rw [hws]; simp [go_sem, hdA, hdC]
      have fC0 : s1.frozen? ⟨C, 0, none⟩ = false := by rw [hws]; simp [go_sem, hdA, hdC]
      have kC1 : s1.cell? ⟨C, 1, none⟩ = some (.string ⟨#[]⟩) := by rw [hws]; simp [go_sem, hdA, hdC]
      have fC1 : s1.frozen? ⟨C, 1, none⟩ = false := by rw [hws]; simp [go_sem, hdA, hdC]
      have kC2 : s1.cell? ⟨C, 2, none⟩ = some (.string ⟨#[]⟩) := by rw [hws]; simp [go_sem, hdA, hdC]
      have fC2 : s1.frozen? ⟨C, 2, none⟩ = false := by rw [hws]; simp [go_sem, hdA, hdC]
      have zC : C < s1.heap.size := by omega
      have lC : w.heap.size ≤ C := by have := Nat.le_refl w.heap.size; omega
      rw [← hws]
      try rw [← hdC]
      try rw [← hdA]
      clear hws hsz hdA hdC
      have hBo := hBs; clear hBs
      refine (HP.out _).mono ?_; rintro e s2 ⟨rfl, hb⟩
      replace kA0 := belK hb kA0 zA; replace kA1 := belK hb kA1 zA; replace kA2 := belK hb kA2 zA; replace zA := belZ zA hb
      replace kC0 := belK hb kC0 zC; replace fC0 := belF hb fC0 zC; replace kC1 := belK hb kC1 zC; replace fC1 := belF hb fC1 zC; replace kC2 := belK hb kC2 zC; replace fC2 := belF hb fC2 zC; replace zC := belZ zC hb
      replace hBo := hBo.trans (hb.mono hBo.size)
      clear hb
      go_wp2_with fail
      obtain ⟨s3, hws⟩ : ∃ s, s = ((s2.alloc (.cells #[.bool false, .string nn] 44)).alloc (.cells #[.bool false, .string nd] 44)) := ⟨_, rfl⟩
      have hBs : Below w.heap.size w s3 := by rw [hws]; exact (((hBo).alloc (by exact hBo.size) _).alloc (by have := hBo.size; simp; omega) _)
      obtain ⟨U, hdU⟩ : ∃ b, b = s2.heap.size := ⟨_, rfl⟩
      obtain ⟨V, hdV⟩ : ∃ b, b = s2.heap.size + 1 := ⟨_, rfl⟩
      have hsz : s3.heap.size = s2.heap.size + 1 + 1 := by rw [hws]; simp
      have dCU : C ≠ U := by omega
      have dCV : C ≠ V := by omega
      have hQC : ∀ p v, s2.cell? p = some v → s3.cell? p = some v := fun p v h => by rw [hws]; exact (alK (alK h))
      have hQZ : ∀ b, b < s2.heap.size → b < s3.heap.size := fun b h => by omega
      have hQF : ∀ b j, b < s2.heap.size → s2.frozen? ⟨b, j, none⟩ = false → s3.frozen? ⟨b, j, none⟩ = false := fun b j z h => by rw [hws]; exact (alF (alZ z) (alF z h))
      replace kA0 := hQC _ _ kA0; replace kA1 := hQC _ _ kA1; replace kA2 := hQC _ _ kA2; replace zA := hQZ _ zA
      replace kC0 := hQC _ _ kC0; replace fC0 := hQF _ _ zC fC0; replace kC1 := hQC _ _ kC1; replace fC1 := hQF _ _ zC fC1; replace kC2 := hQC _ _ kC2; replace fC2 := hQF _ _ zC fC2; replace zC := hQZ _ zC
      clear hQC hQZ hQF
      have kU0 : s3.cell? ⟨U, 0, none⟩ = some (.bool false) := by rw [hws]; simp [go_sem, hdU, hdV]
      have kU1 : s3.cell? ⟨U, 1, none⟩ = some (.string nn) := by rw [hws]; simp [go_sem, hdU, hdV]
      have zU : U < s3.heap.size := by omega
      have lU : w.heap.size ≤ U := by have := hBo.size; omega
      have kV0 : s3.cell? ⟨V, 0, none⟩ = some (.bool false) := by rw [hws]; simp [go_sem, hdU, hdV]
      have kV1 : s3.cell? ⟨V, 1, none⟩ = some (.string nd) := by rw [hws]; simp [go_sem, hdU, hdV]
      have zV : V < s3.heap.size := by omega
      have lV : w.heap.size ≤ V := by have := hBo.size; omega
      rw [← hws]
      try rw [← hdV]
      try rw [← hdU]
      clear hBo
      clear hws hsz hdU hdV
      have hBo := hBs; clear hBs
      go_quiet (fail)
      go_wp2_with fail
      generalize hws : s3.drewN _ = s4 at *
      replace kA0 : s4.cell? ⟨A, 0, none⟩ = some (.bool neg) := by rw [← hws]; simpa [go_sem] using kA0
      replace kA1 : s4.cell? ⟨A, 1, none⟩ = some (.string a) := by rw [← hws]; simpa [go_sem] using kA1
      replace kA2 : s4.cell? ⟨A, 2, none⟩ = some (.string d) := by rw [← hws]; simpa [go_sem] using kA2
      replace zA : A < s4.heap.size := by rw [← hws]; exact zA
      replace kC0 : s4.cell? ⟨C, 0, none⟩ = some (.bool false) := by rw [← hws]; simpa [go_sem] using kC0
      replace fC0 : s4.frozen? ⟨C, 0, none⟩ = false := by rw [← hws]; simpa [go_sem] using fC0
      replace kC1 : s4.cell? ⟨C, 1, none⟩ = some (.string ⟨#[]⟩) := by rw [← hws]; simpa [go_sem] using kC1
      replace fC1 : s4.frozen? ⟨C, 1, none⟩ = false := by rw [← hws]; simpa [go_sem] using fC1
      replace kC2 : s4.cell? ⟨C, 2, none⟩ = some (.string ⟨#[]⟩) := by rw [← hws]; simpa [go_sem] using kC2
      replace fC2 : s4.frozen? ⟨C, 2, none⟩ = false := by rw [← hws]; simpa [go_sem] using fC2
      replace zC : C < s4.heap.size := by rw [← hws]; exact zC
      replace kU0 : s4.cell? ⟨U, 0, none⟩ = some (.bool false) := by rw [← hws]; simpa [go_sem] using kU0
      replace kU1 : s4.cell? ⟨U, 1, none⟩ = some (.string nn) := by rw [← hws]; simpa [go_sem] using kU1
      replace zU : U < s4.heap.size := by rw [← hws]; exact zU
      replace kV0 : s4.cell? ⟨V, 0, none⟩ = some (.bool false) := by rw [← hws]; simpa [go_sem] using kV0
      replace kV1 : s4.cell? ⟨V, 1, none⟩ = some (.string nd) := by rw [← hws]; simpa [go_sem] using kV1
      replace zV : V < s4.heap.size := by rw [← hws]; exact zV
      replace hBo : Below w.heap.size w s4 := by rw [← hws]; exact below_drewN hBo _
      clear hws
      refine (P1.out _).mono ?_; rintro e s5 ⟨rfl, hb⟩
      replace kA0 := belK hb kA0 zA; replace kA1 := belK hb kA1 zA; replace kA2 := belK hb kA2 zA; replace zA := belZ zA hb
      replace kC0 := belK hb kC0 zC; replace fC0 := belF hb fC0 zC; replace kC1 := belK hb kC1 zC; replace fC1 := belF hb fC1 zC; replace kC2 := belK hb kC2 zC; replace fC2 := belF hb fC2 zC; replace zC := belZ zC hb
      replace kU0 := belK hb kU0 zU; replace kU1 := belK hb kU1 zU; replace zU := belZ zU hb
      replace kV0 := belK hb kV0 zV; replace kV1 := belK hb kV1 zV; replace zV := belZ zV hb
      replace hBo := hBo.trans (hb.mono hBo.size)
      clear hb
      go_wp2_with fail
      refine (P2.out _).mono ?_; rintro e s6 ⟨rfl, hb⟩
      replace kA0 := belK hb kA0 zA; replace kA1 := belK hb kA1 zA; replace kA2 := belK hb kA2 zA; replace zA := belZ zA hb
      replace kC0 := belK hb kC0 zC; replace fC0 := belF hb fC0 zC; replace kC1 := belK hb kC1 zC; replace fC1 := belF hb fC1 zC; replace kC2 := belK hb kC2 zC; replace fC2 := belF hb fC2 zC; replace zC := belZ zC hb
      replace kU0 := belK hb kU0 zU; replace kU1 := belK hb kU1 zU; replace zU := belZ zU hb
      replace kV0 := belK hb kV0 zV; replace kV1 := belK hb kV1 zV; replace zV := belZ zV hb
      replace hBo := hBo.trans (hb.mono hBo.size)
      clear hb
      go_wp2_with fail
      refine (M1.out _).mono ?_; rintro e s7 ⟨rfl, hb⟩
      replace kA0 := belK hb kA0 zA; replace kA1 := belK hb kA1 zA; replace kA2 := belK hb kA2 zA; replace zA := belZ zA hb
      replace kC0 := belK hb kC0 zC; replace fC0 := belF hb fC0 zC; replace kC1 := belK hb kC1 zC; replace fC1 := belF hb fC1 zC; replace kC2 := belK hb kC2 zC; replace fC2 := belF hb fC2 zC; replace zC := belZ zC hb
      replace kU0 := belK hb kU0 zU; replace kU1 := belK hb kU1 zU; replace zU := belZ zU hb
      replace kV0 := belK hb kV0 zV; replace kV1 := belK hb kV1 zV; replace zV := belZ zV hb
      replace hBo := hBo.trans (hb.mono hBo.size)
      clear hb
      go_wp2_with fail
      refine (M2.out _).mono ?_; rintro e s8 ⟨rfl, hb⟩
      replace kA0 := belK hb kA0 zA; replace kA1 := belK hb kA1 zA; replace kA2 := belK hb kA2 zA; replace zA := belZ zA hb
      replace kC0 := belK hb kC0 zC; replace fC0 := belF hb fC0 zC; replace kC1 := belK hb kC1 zC; replace fC1 := belF hb fC1 zC; replace kC2 := belK hb kC2 zC; replace fC2 := belF hb fC2 zC; replace zC := belZ zC hb
      replace kU0 := belK hb kU0 zU; replace kU1 := belK hb kU1 zU; replace zU := belZ zU hb
      replace kV0 := belK hb kV0 zV; replace kV1 := belK hb kV1 zV; replace zV := belZ zV hb
      replace hBo := hBo.trans (hb.mono hBo.size)
      clear hb
      go_wp2_with fail
      refine (HK.out _).mono ?_; rintro e s9 ⟨rfl, hb⟩
      replace kA0 := belK hb kA0 zA; replace kA1 := belK hb kA1 zA; replace kA2 := belK hb kA2 zA; replace zA := belZ zA hb
      replace kC0 := belK hb kC0 zC; replace fC0 := belF hb fC0 zC; replace kC1 := belK hb kC1 zC; replace fC1 := belF hb fC1 zC; replace kC2 := belK hb kC2 zC; replace fC2 := belF hb fC2 zC; replace zC := belZ zC hb
      replace kU0 := belK hb kU0 zU; replace kU1 := belK hb kU1 zU; replace zU := belZ zU hb
      replace kV0 := belK hb kV0 zV; replace kV1 := belK hb kV1 zV; replace zV := belZ zV hb
      replace hBo := hBo.trans (hb.mono hBo.size)
      clear hb
      all_goals go_wp2_with fail
      all_goals refine bodyPost_ret (v := .tuple #[.agg #[.bool (rb q), .string (rn q), .string (rd q)], .int .i64 c]) (by simp [results, Tryz.results28, go_sem, kC0, kC1, kC2, zC]) rfl ⟨rfl, ?_⟩
      all_goals exact (((hBo.setCell lC _).setCell lC _).setCell lC _)
    | true =>
      rw [Bool.true_and] at E1
      have M1 : Hid (∀ w, Calls Tryz.prog 64 #[.bool od, .string t1] w fun e w' => e = .returned (.agg #[.bool (zb X), .string (zt X)]) ∧ Below w.heap.size w w') := fun w => wholeMake_z od t1 X w E1
      clear E1 E2 HM
      cases od
      · have ho : (t : Int).tmod 2 = 0 := by rw [← beq_iff_eq (a := (t : Int).tmod 2), hodd]; rfl
        clear hodd
        generalize (t : Int) = n at *
        go_enter Tryz.func28, Tryz.ntmps28
        go_wp2_with fail
        obtain ⟨s10, hws⟩ : ∃ s, s = ((w.alloc (.cells #[.bool neg, .string a, .string d] 23)).alloc (.cells #[.bool false, .string ⟨#[]⟩, .string ⟨#[]⟩] 23)) := ⟨_, rfl⟩
        have hBs : Below w.heap.size w s10 := by rw [hws]; exact (((Below.refl w.heap.size w).alloc (by simp) _).alloc (by simp) _)
        obtain ⟨A, hdA⟩ : ∃ b, b = w.heap.size := ⟨_, rfl⟩
        obtain ⟨C, hdC⟩ : ∃ b, b = w.heap.size + 1 := ⟨_, rfl⟩
        have hsz : s10.heap.size = w.heap.size + 1 + 1 := by rw [hws]; simp
        have dCA : C ≠ A := by omega
        have kA0 : s10.cell? ⟨A, 0, none⟩ = some (.bool neg) := by rw [hws]; simp [go_sem, hdA, hdC]
        have kA1 : s10.cell? ⟨A, 1, none⟩ = some (.string a) := by rw [hws]; simp [go_sem, hdA, hdC]
        have kA2 : s10.cell? ⟨A, 2, none⟩ = some (.string d) := by rw [hws]; simp [go_sem, hdA, hdC]
        have zA : A < s10.heap.size := by omega
        have lA : w.heap.size ≤ A := by have := Nat.le_refl w.heap.size; omega
        have kC0 : s10.cell? ⟨C, 0, none⟩ = some (.bool false) := by rw [hws]; simp [go_sem, hdA, hdC]
        have fC0 : s10.frozen? ⟨C, 0, none⟩ = false := by rw [hws]; simp [go_sem, hdA, hdC]
        have kC1 : s10.cell? ⟨C, 1, none⟩ = some (.string ⟨#[]⟩) := by rw [hws]; simp [go_sem, hdA, hdC]
        have fC1 : s10.frozen? ⟨C, 1, none⟩ = false := by rw [hws]; simp [go_sem, hdA, hdC]
        have kC2 : s10.cell? ⟨C, 2, none⟩ = some (.string ⟨#[]⟩) := by rw [hws]; simp [go_sem, hdA, hdC]
        have fC2 : s10.frozen? ⟨C, 2, none⟩ = false := by rw [hws]; simp [go_sem, hdA, hdC]
        have zC : C < s10.heap.size := by omega
        have lC : w.heap.size ≤ C := by have := Nat.le_refl w.heap.size; omega
        rw [← hws]
        try rw [← hdC]
        try rw [← hdA]
        clear hws hsz hdA hdC
        have hBo := hBs; clear hBs
        refine (HP.out _).mono ?_; rintro e s11 ⟨rfl, hb⟩
        replace kA0 := belK hb kA0 zA; replace kA1 := belK hb kA1 zA; replace kA2 := belK hb kA2 zA; replace zA := belZ zA hb
        replace kC0 := belK hb kC0 zC; replace fC0 := belF hb fC0 zC; replace kC1 := belK hb kC1 zC; replace fC1 := belF hb fC1 zC; replace kC2 := belK hb kC2 zC; replace fC2 := belF hb fC2 zC; replace zC := belZ zC hb
        replace hBo := hBo.trans (hb.mono hBo.size)
        clear hb
        go_wp2_with fail
        obtain ⟨s12, hws⟩ : ∃ s, s = ((s11.alloc (.cells #[.bool true, .string nn] 44)).alloc (.cells #[.bool false, .string nd] 44)) := ⟨_, rfl⟩
        have hBs : Below w.heap.size w s12 := by rw [hws]; exact (((hBo).alloc (by exact hBo.size) _).alloc (by have := hBo.size; simp; omega) _)
        obtain ⟨U, hdU⟩ : ∃ b, b = s11.heap.size := ⟨_, rfl⟩
        obtain ⟨V, hdV⟩ : ∃ b, b = s11.heap.size + 1 := ⟨_, rfl⟩
        have hsz : s12.heap.size = s11.heap.size + 1 + 1 := by rw [hws]; simp
        have dCU : C ≠ U := by omega
        have dCV : C ≠ V := by omega
        have hQC : ∀ p v, s11.cell? p = some v → s12.cell? p = some v := fun p v h => by rw [hws]; exact (alK (alK h))
        have hQZ : ∀ b, b < s11.heap.size → b < s12.heap.size := fun b h => by omega
        have hQF : ∀ b j, b < s11.heap.size → s11.frozen? ⟨b, j, none⟩ = false → s12.frozen? ⟨b, j, none⟩ = false := fun b j z h => by rw [hws]; exact (alF (alZ z) (alF z h))
        replace kA0 := hQC _ _ kA0; replace kA1 := hQC _ _ kA1; replace kA2 := hQC _ _ kA2; replace zA := hQZ _ zA
        replace kC0 := hQC _ _ kC0; replace fC0 := hQF _ _ zC fC0; replace kC1 := hQC _ _ kC1; replace fC1 := hQF _ _ zC fC1; replace kC2 := hQC _ _ kC2; replace fC2 := hQF _ _ zC fC2; replace zC := hQZ _ zC
        clear hQC hQZ hQF
        have kU0 : s12.cell? ⟨U, 0, none⟩ = some (.bool true) := by rw [hws]; simp [go_sem, hdU, hdV]
        have kU1 : s12.cell? ⟨U, 1, none⟩ = some (.string nn) := by rw [hws]; simp [go_sem, hdU, hdV]
        have zU : U < s12.heap.size := by omega
        have lU : w.heap.size ≤ U := by have := hBo.size; omega
        have kV0 : s12.cell? ⟨V, 0, none⟩ = some (.bool false) := by rw [hws]; simp [go_sem, hdU, hdV]
        have kV1 : s12.cell? ⟨V, 1, none⟩ = some (.string nd) := by rw [hws]; simp [go_sem, hdU, hdV]
        have zV : V < s12.heap.size := by omega
        have lV : w.heap.size ≤ V := by have := hBo.size; omega
        rw [← hws]
        try rw [← hdV]
        try rw [← hdU]
        clear hBo
        clear hws hsz hdU hdV
        have hBo := hBs; clear hBs
        go_quiet (fail)
        go_wp2_with fail
        generalize hws : s12.drewN _ = s13 at *
        replace kA0 : s13.cell? ⟨A, 0, none⟩ = some (.bool neg) := by rw [← hws]; simpa [go_sem] using kA0
        replace kA1 : s13.cell? ⟨A, 1, none⟩ = some (.string a) := by rw [← hws]; simpa [go_sem] using kA1
        replace kA2 : s13.cell? ⟨A, 2, none⟩ = some (.string d) := by rw [← hws]; simpa [go_sem] using kA2
        replace zA : A < s13.heap.size := by rw [← hws]; exact zA
        replace kC0 : s13.cell? ⟨C, 0, none⟩ = some (.bool false) := by rw [← hws]; simpa [go_sem] using kC0
        replace fC0 : s13.frozen? ⟨C, 0, none⟩ = false := by rw [← hws]; simpa [go_sem] using fC0
        replace kC1 : s13.cell? ⟨C, 1, none⟩ = some (.string ⟨#[]⟩) := by rw [← hws]; simpa [go_sem] using kC1
        replace fC1 : s13.frozen? ⟨C, 1, none⟩ = false := by rw [← hws]; simpa [go_sem] using fC1
        replace kC2 : s13.cell? ⟨C, 2, none⟩ = some (.string ⟨#[]⟩) := by rw [← hws]; simpa [go_sem] using kC2
        replace fC2 : s13.frozen? ⟨C, 2, none⟩ = false := by rw [← hws]; simpa [go_sem] using fC2
        replace zC : C < s13.heap.size := by rw [← hws]; exact zC
        replace kU0 : s13.cell? ⟨U, 0, none⟩ = some (.bool true) := by rw [← hws]; simpa [go_sem] using kU0
        replace kU1 : s13.cell? ⟨U, 1, none⟩ = some (.string nn) := by rw [← hws]; simpa [go_sem] using kU1
        replace zU : U < s13.heap.size := by rw [← hws]; exact zU
        replace kV0 : s13.cell? ⟨V, 0, none⟩ = some (.bool false) := by rw [← hws]; simpa [go_sem] using kV0
        replace kV1 : s13.cell? ⟨V, 1, none⟩ = some (.string nd) := by rw [← hws]; simpa [go_sem] using kV1
        replace zV : V < s13.heap.size := by rw [← hws]; exact zV
        replace hBo : Below w.heap.size w s13 := by rw [← hws]; exact below_drewN hBo _
        clear hws
        refine (P1.out _).mono ?_; rintro e s14 ⟨rfl, hb⟩
        replace kA0 := belK hb kA0 zA; replace kA1 := belK hb kA1 zA; replace kA2 := belK hb kA2 zA; replace zA := belZ zA hb
        replace kC0 := belK hb kC0 zC; replace fC0 := belF hb fC0 zC; replace kC1 := belK hb kC1 zC; replace fC1 := belF hb fC1 zC; replace kC2 := belK hb kC2 zC; replace fC2 := belF hb fC2 zC; replace zC := belZ zC hb
        replace kU0 := belK hb kU0 zU; replace kU1 := belK hb kU1 zU; replace zU := belZ zU hb
        replace kV0 := belK hb kV0 zV; replace kV1 := belK hb kV1 zV; replace zV := belZ zV hb
        replace hBo := hBo.trans (hb.mono hBo.size)
        clear hb
        go_wp2_with fail
        refine (P2.out _).mono ?_; rintro e s15 ⟨rfl, hb⟩
        replace kA0 := belK hb kA0 zA; replace kA1 := belK hb kA1 zA; replace kA2 := belK hb kA2 zA; replace zA := belZ zA hb
        replace kC0 := belK hb kC0 zC; replace fC0 := belF hb fC0 zC; replace kC1 := belK hb kC1 zC; replace fC1 := belF hb fC1 zC; replace kC2 := belK hb kC2 zC; replace fC2 := belF hb fC2 zC; replace zC := belZ zC hb
        replace kU0 := belK hb kU0 zU; replace kU1 := belK hb kU1 zU; replace zU := belZ zU hb
        replace kV0 := belK hb kV0 zV; replace kV1 := belK hb kV1 zV; replace zV := belZ zV hb
        replace hBo := hBo.trans (hb.mono hBo.size)
        clear hb
        clear hwr ht hn0
        go_wp2_with fail
        refine (M1.out _).mono ?_; rintro e s16 ⟨rfl, hb⟩
        replace kA0 := belK hb kA0 zA; replace kA1 := belK hb kA1 zA; replace kA2 := belK hb kA2 zA; replace zA := belZ zA hb
        replace kC0 := belK hb kC0 zC; replace fC0 := belF hb fC0 zC; replace kC1 := belK hb kC1 zC; replace fC1 := belF hb fC1 zC; replace kC2 := belK hb kC2 zC; replace fC2 := belF hb fC2 zC; replace zC := belZ zC hb
        replace kU0 := belK hb kU0 zU; replace kU1 := belK hb kU1 zU; replace zU := belZ zU hb
        replace kV0 := belK hb kV0 zV; replace kV1 := belK hb kV1 zV; replace zV := belZ zV hb
        replace hBo := hBo.trans (hb.mono hBo.size)
        clear hb
        go_wp2_with fail
        refine (M2.out _).mono ?_; rintro e s17 ⟨rfl, hb⟩
        replace kA0 := belK hb kA0 zA; replace kA1 := belK hb kA1 zA; replace kA2 := belK hb kA2 zA; replace zA := belZ zA hb
        replace kC0 := belK hb kC0 zC; replace fC0 := belF hb fC0 zC; replace kC1 := belK hb kC1 zC; replace fC1 := belF hb fC1 zC; replace kC2 := belK hb kC2 zC; replace fC2 := belF hb fC2 zC; replace zC := belZ zC hb
        replace kU0 := belK hb kU0 zU; replace kU1 := belK hb kU1 zU; replace zU := belZ zU hb
        replace kV0 := belK hb kV0 zV; replace kV1 := belK hb kV1 zV; replace zV := belZ zV hb
        replace hBo := hBo.trans (hb.mono hBo.size)
        clear hb
        go_wp2_with fail
        refine (HK.out _).mono ?_; rintro e s18 ⟨rfl, hb⟩
        replace kA0 := belK hb kA0 zA; replace kA1 := belK hb kA1 zA; replace kA2 := belK hb kA2 zA; replace zA := belZ zA hb
        replace kC0 := belK hb kC0 zC; replace fC0 := belF hb fC0 zC; replace kC1 := belK hb kC1 zC; replace fC1 := belF hb fC1 zC; replace kC2 := belK hb kC2 zC; replace fC2 := belF hb fC2 zC; replace zC := belZ zC hb
        replace kU0 := belK hb kU0 zU; replace kU1 := belK hb kU1 zU; replace zU := belZ zU hb
        replace kV0 := belK hb kV0 zV; replace kV1 := belK hb kV1 zV; replace zV := belZ zV hb
        replace hBo := hBo.trans (hb.mono hBo.size)
        clear hb
        all_goals go_wp2_with fail
        all_goals refine bodyPost_ret (v := .tuple #[.agg #[.bool (rb q), .string (rn q), .string (rd q)], .int .i64 c]) (by simp [results, Tryz.results28, go_sem, kC0, kC1, kC2, zC]) rfl ⟨rfl, ?_⟩
        all_goals exact (((hBo.setCell lC _).setCell lC _).setCell lC _)
      · have ho2 : ((t : Int).tmod 2 == 0) = false := hodd
        have ho : ((t : Int) % 2 != 0) = true := by
          rw [← Int.tmod_eq_emod_of_nonneg (by omega)]
          show (!((t : Int).tmod 2 == 0)) = true
          rw [ho2]; rfl
        clear hodd ho2
        generalize (t : Int) = n at *
        go_enter Tryz.func28, Tryz.ntmps28
        go_wp2_with fail
        obtain ⟨s19, hws⟩ : ∃ s, s = ((w.alloc (.cells #[.bool neg, .string a, .string d] 23)).alloc (.cells #[.bool false, .string ⟨#[]⟩, .string ⟨#[]⟩] 23)) := ⟨_, rfl⟩
        have hBs : Below w.heap.size w s19 := by rw [hws]; exact (((Below.refl w.heap.size w).alloc (by simp) _).alloc (by simp) _)
        obtain ⟨A, hdA⟩ : ∃ b, b = w.heap.size := ⟨_, rfl⟩
        obtain ⟨C, hdC⟩ : ∃ b, b = w.heap.size + 1 := ⟨_, rfl⟩
        have hsz : s19.heap.size = w.heap.size + 1 + 1 := by rw [hws]; simp
        have dCA : C ≠ A := by omega
        have kA0 : s19.cell? ⟨A, 0, none⟩ = some (.bool neg) := by rw [hws]; simp [go_sem, hdA, hdC]
        have kA1 : s19.cell? ⟨A, 1, none⟩ = some (.string a) := by rw [hws]; simp [go_sem, hdA, hdC]
        have kA2 : s19.cell? ⟨A, 2, none⟩ = some (.string d) := by rw [hws]; simp [go_sem, hdA, hdC]
        have zA : A < s19.heap.size := by omega
        have lA : w.heap.size ≤ A := by have := Nat.le_refl w.heap.size; omega
        have kC0 : s19.cell? ⟨C, 0, none⟩ = some (.bool false) := by rw [hws]; simp [go_sem, hdA, hdC]
        have fC0 : s19.frozen? ⟨C, 0, none⟩ = false := by rw [hws]; simp [go_sem, hdA, hdC]
        have kC1 : s19.cell? ⟨C, 1, none⟩ = some (.string ⟨#[]⟩) := by rw [hws]; simp [go_sem, hdA, hdC]
        have fC1 : s19.frozen? ⟨C, 1, none⟩ = false := by rw [hws]; simp [go_sem, hdA, hdC]
        have kC2 : s19.cell? ⟨C, 2, none⟩ = some (.string ⟨#[]⟩) := by rw [hws]; simp [go_sem, hdA, hdC]
        have fC2 : s19.frozen? ⟨C, 2, none⟩ = false := by rw [hws]; simp [go_sem, hdA, hdC]
        have zC : C < s19.heap.size := by omega
        have lC : w.heap.size ≤ C := by have := Nat.le_refl w.heap.size; omega
        rw [← hws]
        try rw [← hdC]
        try rw [← hdA]
        clear hws hsz hdA hdC
        have hBo := hBs; clear hBs
        refine (HP.out _).mono ?_; rintro e s20 ⟨rfl, hb⟩
        replace kA0 := belK hb kA0 zA; replace kA1 := belK hb kA1 zA; replace kA2 := belK hb kA2 zA; replace zA := belZ zA hb
        replace kC0 := belK hb kC0 zC; replace fC0 := belF hb fC0 zC; replace kC1 := belK hb kC1 zC; replace fC1 := belF hb fC1 zC; replace kC2 := belK hb kC2 zC; replace fC2 := belF hb fC2 zC; replace zC := belZ zC hb
        replace hBo := hBo.trans (hb.mono hBo.size)
        clear hb
        go_wp2_with fail
        obtain ⟨s21, hws⟩ : ∃ s, s = ((s20.alloc (.cells #[.bool true, .string nn] 44)).alloc (.cells #[.bool false, .string nd] 44)) := ⟨_, rfl⟩
        have hBs : Below w.heap.size w s21 := by rw [hws]; exact (((hBo).alloc (by exact hBo.size) _).alloc (by have := hBo.size; simp; omega) _)
        obtain ⟨U, hdU⟩ : ∃ b, b = s20.heap.size := ⟨_, rfl⟩
        obtain ⟨V, hdV⟩ : ∃ b, b = s20.heap.size + 1 := ⟨_, rfl⟩
        have hsz : s21.heap.size = s20.heap.size + 1 + 1 := by rw [hws]; simp
        have dCU : C ≠ U := by omega
        have dCV : C ≠ V := by omega
        have hQC : ∀ p v, s20.cell? p = some v → s21.cell? p = some v := fun p v h => by rw [hws]; exact (alK (alK h))
        have hQZ : ∀ b, b < s20.heap.size → b < s21.heap.size := fun b h => by omega
        have hQF : ∀ b j, b < s20.heap.size → s20.frozen? ⟨b, j, none⟩ = false → s21.frozen? ⟨b, j, none⟩ = false := fun b j z h => by rw [hws]; exact (alF (alZ z) (alF z h))
        replace kA0 := hQC _ _ kA0; replace kA1 := hQC _ _ kA1; replace kA2 := hQC _ _ kA2; replace zA := hQZ _ zA
        replace kC0 := hQC _ _ kC0; replace fC0 := hQF _ _ zC fC0; replace kC1 := hQC _ _ kC1; replace fC1 := hQF _ _ zC fC1; replace kC2 := hQC _ _ kC2; replace fC2 := hQF _ _ zC fC2; replace zC := hQZ _ zC
        clear hQC hQZ hQF
        have kU0 : s21.cell? ⟨U, 0, none⟩ = some (.bool true) := by rw [hws]; simp [go_sem, hdU, hdV]
        have kU1 : s21.cell? ⟨U, 1, none⟩ = some (.string nn) := by rw [hws]; simp [go_sem, hdU, hdV]
        have zU : U < s21.heap.size := by omega
        have lU : w.heap.size ≤ U := by have := hBo.size; omega
        have kV0 : s21.cell? ⟨V, 0, none⟩ = some (.bool false) := by rw [hws]; simp [go_sem, hdU, hdV]
        have kV1 : s21.cell? ⟨V, 1, none⟩ = some (.string nd) := by rw [hws]; simp [go_sem, hdU, hdV]
        have zV : V < s21.heap.size := by omega
        have lV : w.heap.size ≤ V := by have := hBo.size; omega
        rw [← hws]
        try rw [← hdV]
        try rw [← hdU]
        clear hBo
        clear hws hsz hdU hdV
        have hBo := hBs; clear hBs
        go_quiet (fail)
        go_wp2_with fail
        generalize hws : s21.drewN _ = s22 at *
        replace kA0 : s22.cell? ⟨A, 0, none⟩ = some (.bool neg) := by rw [← hws]; simpa [go_sem] using kA0
        replace kA1 : s22.cell? ⟨A, 1, none⟩ = some (.string a) := by rw [← hws]; simpa [go_sem] using kA1
        replace kA2 : s22.cell? ⟨A, 2, none⟩ = some (.string d) := by rw [← hws]; simpa [go_sem] using kA2
        replace zA : A < s22.heap.size := by rw [← hws]; exact zA
        replace kC0 : s22.cell? ⟨C, 0, none⟩ = some (.bool false) := by rw [← hws]; simpa [go_sem] using kC0
        replace fC0 : s22.frozen? ⟨C, 0, none⟩ = false := by rw [← hws]; simpa [go_sem] using fC0
        replace kC1 : s22.cell? ⟨C, 1, none⟩ = some (.string ⟨#[]⟩) := by rw [← hws]; simpa [go_sem] using kC1
        replace fC1 : s22.frozen? ⟨C, 1, none⟩ = false := by rw [← hws]; simpa [go_sem] using fC1
        replace kC2 : s22.cell? ⟨C, 2, none⟩ = some (.string ⟨#[]⟩) := by rw [← hws]; simpa [go_sem] using kC2
        replace fC2 : s22.frozen? ⟨C, 2, none⟩ = false := by rw [← hws]; simpa [go_sem] using fC2
        replace zC : C < s22.heap.size := by rw [← hws]; exact zC
        replace kU0 : s22.cell? ⟨U, 0, none⟩ = some (.bool true) := by rw [← hws]; simpa [go_sem] using kU0
        replace kU1 : s22.cell? ⟨U, 1, none⟩ = some (.string nn) := by rw [← hws]; simpa [go_sem] using kU1
        replace zU : U < s22.heap.size := by rw [← hws]; exact zU
        replace kV0 : s22.cell? ⟨V, 0, none⟩ = some (.bool false) := by rw [← hws]; simpa [go_sem] using kV0
        replace kV1 : s22.cell? ⟨V, 1, none⟩ = some (.string nd) := by rw [← hws]; simpa [go_sem] using kV1
        replace zV : V < s22.heap.size := by rw [← hws]; exact zV
        replace hBo : Below w.heap.size w s22 := by rw [← hws]; exact below_drewN hBo _
        clear hws
        refine (P1.out _).mono ?_; rintro e s23 ⟨rfl, hb⟩
        replace kA0 := belK hb kA0 zA; replace kA1 := belK hb kA1 zA; replace kA2 := belK hb kA2 zA; replace zA := belZ zA hb
        replace kC0 := belK hb kC0 zC; replace fC0 := belF hb fC0 zC; replace kC1 := belK hb kC1 zC; replace fC1 := belF hb fC1 zC; replace kC2 := belK hb kC2 zC; replace fC2 := belF hb fC2 zC; replace zC := belZ zC hb
        replace kU0 := belK hb kU0 zU; replace kU1 := belK hb kU1 zU; replace zU := belZ zU hb
        replace kV0 := belK hb kV0 zV; replace kV1 := belK hb kV1 zV; replace zV := belZ zV hb
        replace hBo := hBo.trans (hb.mono hBo.size)
        clear hb
        go_wp2_with fail
        refine (P2.out _).mono ?_; rintro e s24 ⟨rfl, hb⟩
        replace kA0 := belK hb kA0 zA; replace kA1 := belK hb kA1 zA; replace kA2 := belK hb kA2 zA; replace zA := belZ zA hb
        replace kC0 := belK hb kC0 zC; replace fC0 := belF hb fC0 zC; replace kC1 := belK hb kC1 zC; replace fC1 := belF hb fC1 zC; replace kC2 := belK hb kC2 zC; replace fC2 := belF hb fC2 zC; replace zC := belZ zC hb
        replace kU0 := belK hb kU0 zU; replace kU1 := belK hb kU1 zU; replace zU := belZ zU hb
        replace kV0 := belK hb kV0 zV; replace kV1 := belK hb kV1 zV; replace zV := belZ zV hb
        replace hBo := hBo.trans (hb.mono hBo.size)
        clear hb
        clear hwr ht hn0
        go_wp2_with fail
        refine (M1.out _).mono ?_; rintro e s25 ⟨rfl, hb⟩
        replace kA0 := belK hb kA0 zA; replace kA1 := belK hb kA1 zA; replace kA2 := belK hb kA2 zA; replace zA := belZ zA hb
        replace kC0 := belK hb kC0 zC; replace fC0 := belF hb fC0 zC; replace kC1 := belK hb kC1 zC; replace fC1 := belF hb fC1 zC; replace kC2 := belK hb kC2 zC; replace fC2 := belF hb fC2 zC; replace zC := belZ zC hb
        replace kU0 := belK hb kU0 zU; replace kU1 := belK hb kU1 zU; replace zU := belZ zU hb
        replace kV0 := belK hb kV0 zV; replace kV1 := belK hb kV1 zV; replace zV := belZ zV hb
        replace hBo := hBo.trans (hb.mono hBo.size)
        clear hb
        go_wp2_with fail
        refine (M2.out _).mono ?_; rintro e s26 ⟨rfl, hb⟩
        replace kA0 := belK hb kA0 zA; replace kA1 := belK hb kA1 zA; replace kA2 := belK hb kA2 zA; replace zA := belZ zA hb
        replace kC0 := belK hb kC0 zC; replace fC0 := belF hb fC0 zC; replace kC1 := belK hb kC1 zC; replace fC1 := belF hb fC1 zC; replace kC2 := belK hb kC2 zC; replace fC2 := belF hb fC2 zC; replace zC := belZ zC hb
        replace kU0 := belK hb kU0 zU; replace kU1 := belK hb kU1 zU; replace zU := belZ zU hb
        replace kV0 := belK hb kV0 zV; replace kV1 := belK hb kV1 zV; replace zV := belZ zV hb
        replace hBo := hBo.trans (hb.mono hBo.size)
        clear hb
        go_wp2_with fail
        refine (HK.out _).mono ?_; rintro e s27 ⟨rfl, hb⟩
        replace kA0 := belK hb kA0 zA; replace kA1 := belK hb kA1 zA; replace kA2 := belK hb kA2 zA; replace zA := belZ zA hb
        replace kC0 := belK hb kC0 zC; replace fC0 := belF hb fC0 zC; replace kC1 := belK hb kC1 zC; replace fC1 := belF hb fC1 zC; replace kC2 := belK hb kC2 zC; replace fC2 := belF hb fC2 zC; replace zC := belZ zC hb
        replace kU0 := belK hb kU0 zU; replace kU1 := belK hb kU1 zU; replace zU := belZ zU hb
        replace kV0 := belK hb kV0 zV; replace kV1 := belK hb kV1 zV; replace zV := belZ zV hb
        replace hBo := hBo.trans (hb.mono hBo.size)
        clear hb
        all_goals go_wp2_with fail
        all_goals refine bodyPost_ret (v := .tuple #[.agg #[.bool (rb q), .string (rn q), .string (rd q)], .int .i64 c]) (by simp [results, Tryz.results28, go_sem, kC0, kC1, kC2, zC]) rfl ⟨rfl, ?_⟩
        all_goals exact (((hBo.setCell lC _).setCell lC _).setCell lC _)
  · have hbig : 256 < Nt.blen (Q.num ^ (t : Int).natAbs) ∨ 256 < Nt.blen (Q.den ^ (t : Int).natAbs) := by
      rw [Int.natAbs_natCast]
      by_cases h1 : Nt.blen (Q.num ^ t) ≤ 256
      · right
        exact Nat.lt_of_not_le fun h2 => hb ⟨f1.2 h1, f2.2 h2⟩
      · left; omega
    obtain ⟨e1, e2⟩ := pow_big hbig
    rw [e1] at hq
    rw [e2] at hc
    subst hq hc
    rw [rz.1, rz.2.1, rz.2.2]
    have hbb : pwF Q.num t = false ∨ (pwF Q.num t = true ∧ pwF Q.den t = false) := by
      revert hb
      cases pwF Q.num t <;> cases pwF Q.den t <;> simp
    clear f1 f2 hb hbig e1 e2 sN sD eN eD hok ha hd
    generalize pwT Q.num t = t1 at *
    generalize pwT Q.den t = t2 at *
    generalize pwF Q.num t = b1 at *
    generalize pwF Q.den t = b2 at *
    generalize rb Q = nb at *
    generalize rn Q = nn at *
    generalize rd Q = nd at *
    have HP := Lib.hid hp
    have P1 := Lib.hid p1
    have P2 := Lib.hid p2
    clear hp p1 p2
    generalize (t : Int) = n at *
    rcases hbb with rfl | ⟨rfl, rfl⟩
    all_goals
      go_enter Tryz.func28, Tryz.ntmps28
      go_wp2_with fail
      obtain ⟨s28, hws⟩ : ∃ s, s = ((w.alloc (.cells #[.bool neg, .string a, .string d] 23)).alloc (.cells #[.bool false, .string ⟨#[]⟩, .string ⟨#[]⟩] 23)) := ⟨_, rfl⟩
      have hBs : Below w.heap.size w s28 := by rw [hws]; exact (((Below.refl w.heap.size w).alloc (by simp) _).alloc (by simp) _)
      obtain ⟨A, hdA⟩ : ∃ b, b = w.heap.size := ⟨_, rfl⟩
      obtain ⟨C, hdC⟩ : ∃ b, b = w.heap.size + 1 := ⟨_, rfl⟩
      have hsz : s28.heap.size = w.heap.size + 1 + 1 := by rw [hws]; simp
      have dCA : C ≠ A := by omega
      have kA0 : s28.cell? ⟨A, 0, none⟩ = some (.bool neg) := by rw [hws]; simp [go_sem, hdA, hdC]
      have kA1 : s28.cell? ⟨A, 1, none⟩ = some (.string a) := by rw [hws]; simp [go_sem, hdA, hdC]
      have kA2 : s28.cell? ⟨A, 2, none⟩ = some (.string d) := by rw [hws]; simp [go_sem, hdA, hdC]
      have zA : A < s28.heap.size := by omega
      have lA : w.heap.size ≤ A := by have := Nat.le_refl w.heap.size; omega
      have kC0 : s28.cell? ⟨C, 0, none⟩ = some (.bool false) := by rw [hws]; simp [go_sem, hdA, hdC]
      have fC0 : s28.frozen? ⟨C, 0, none⟩ = false := by rw [hws]; simp [go_sem, hdA, hdC]
      have kC1 : s28.cell? ⟨C, 1, none⟩ = some (.string ⟨#[]⟩) := by rw [hws]; simp [go_sem, hdA, hdC]
      have fC1 : s28.frozen? ⟨C, 1, none⟩ = false := by rw [hws]; simp [go_sem, hdA, hdC]
      have kC2 : s28.cell? ⟨C, 2, none⟩ = some (.string ⟨#[]⟩) := by rw [hws]; simp [go_sem, hdA, hdC]
      have fC2 : s28.frozen? ⟨C, 2, none⟩ = false := by rw [hws]; simp [go_sem, hdA, hdC]
      have zC : C < s28.heap.size := by omega
      have lC : w.heap.size ≤ C := by have := Nat.le_refl w.heap.size; omega
      rw [← hws]
      try rw [← hdC]
      try rw [← hdA]
      clear hws hsz hdA hdC
      have hBo := hBs; clear hBs
      refine (HP.out _).mono ?_; rintro e s29 ⟨rfl, hb⟩
      replace kA0 := belK hb kA0 zA; replace kA1 := belK hb kA1 zA; replace kA2 := belK hb kA2 zA; replace zA := belZ zA hb
      replace kC0 := belK hb kC0 zC; replace fC0 := belF hb fC0 zC; replace kC1 := belK hb kC1 zC; replace fC1 := belF hb fC1 zC; replace kC2 := belK hb kC2 zC; replace fC2 := belF hb fC2 zC; replace zC := belZ zC hb
      replace hBo := hBo.trans (hb.mono hBo.size)
      clear hb
      go_wp2_with fail
      obtain ⟨s30, hws⟩ : ∃ s, s = ((s29.alloc (.cells #[.bool nb, .string nn] 44)).alloc (.cells #[.bool false, .string nd] 44)) := ⟨_, rfl⟩
      have hBs : Below w.heap.size w s30 := by rw [hws]; exact (((hBo).alloc (by exact hBo.size) _).alloc (by have := hBo.size; simp; omega) _)
      obtain ⟨U, hdU⟩ : ∃ b, b = s29.heap.size := ⟨_, rfl⟩
      obtain ⟨V, hdV⟩ : ∃ b, b = s29.heap.size + 1 := ⟨_, rfl⟩
      have hsz : s30.heap.size = s29.heap.size + 1 + 1 := by rw [hws]; simp
      have dCU : C ≠ U := by omega
      have dCV : C ≠ V := by omega
      have hQC : ∀ p v, s29.cell? p = some v → s30.cell? p = some v := fun p v h => by rw [hws]; exact (alK (alK h))
      have hQZ : ∀ b, b < s29.heap.size → b < s30.heap.size := fun b h => by omega
      have hQF : ∀ b j, b < s29.heap.size → s29.frozen? ⟨b, j, none⟩ = false → s30.frozen? ⟨b, j, none⟩ = false := fun b j z h => by rw [hws]; exact (alF (alZ z) (alF z h))
      replace kA0 := hQC _ _ kA0; replace kA1 := hQC _ _ kA1; replace kA2 := hQC _ _ kA2; replace zA := hQZ _ zA
      replace kC0 := hQC _ _ kC0; replace fC0 := hQF _ _ zC fC0; replace kC1 := hQC _ _ kC1; replace fC1 := hQF _ _ zC fC1; replace kC2 := hQC _ _ kC2; replace fC2 := hQF _ _ zC fC2; replace zC := hQZ _ zC
      clear hQC hQZ hQF
      have kU0 : s30.cell? ⟨U, 0, none⟩ = some (.bool nb) := by rw [hws]; simp [go_sem, hdU, hdV]
      have kU1 : s30.cell? ⟨U, 1, none⟩ = some (.string nn) := by rw [hws]; simp [go_sem, hdU, hdV]
      have zU : U < s30.heap.size := by omega
      have lU : w.heap.size ≤ U := by have := hBo.size; omega
      have kV0 : s30.cell? ⟨V, 0, none⟩ = some (.bool false) := by rw [hws]; simp [go_sem, hdU, hdV]
      have kV1 : s30.cell? ⟨V, 1, none⟩ = some (.string nd) := by rw [hws]; simp [go_sem, hdU, hdV]
      have zV : V < s30.heap.size := by omega
      have lV : w.heap.size ≤ V := by have := hBo.size; omega
      rw [← hws]
      try rw [← hdV]
      try rw [← hdU]
      clear hBo
      clear hws hsz hdU hdV
      have hBo := hBs; clear hBs
      go_quiet (fail)
      go_wp2_with fail
      generalize hws : s30.drewN _ = s31 at *
      replace kA0 : s31.cell? ⟨A, 0, none⟩ = some (.bool neg) := by rw [← hws]; simpa [go_sem] using kA0
      replace kA1 : s31.cell? ⟨A, 1, none⟩ = some (.string a) := by rw [← hws]; simpa [go_sem] using kA1
      replace kA2 : s31.cell? ⟨A, 2, none⟩ = some (.string d) := by rw [← hws]; simpa [go_sem] using kA2
      replace zA : A < s31.heap.size := by rw [← hws]; exact zA
      replace kC0 : s31.cell? ⟨C, 0, none⟩ = some (.bool false) := by rw [← hws]; simpa [go_sem] using kC0
      replace fC0 : s31.frozen? ⟨C, 0, none⟩ = false := by rw [← hws]; simpa [go_sem] using fC0
      replace kC1 : s31.cell? ⟨C, 1, none⟩ = some (.string ⟨#[]⟩) := by rw [← hws]; simpa [go_sem] using kC1
      replace fC1 : s31.frozen? ⟨C, 1, none⟩ = false := by rw [← hws]; simpa [go_sem] using fC1
      replace kC2 : s31.cell? ⟨C, 2, none⟩ = some (.string ⟨#[]⟩) := by rw [← hws]; simpa [go_sem] using kC2
      replace fC2 : s31.frozen? ⟨C, 2, none⟩ = false := by rw [← hws]; simpa [go_sem] using fC2
      replace zC : C < s31.heap.size := by rw [← hws]; exact zC
      replace kU0 : s31.cell? ⟨U, 0, none⟩ = some (.bool nb) := by rw [← hws]; simpa [go_sem] using kU0
      replace kU1 : s31.cell? ⟨U, 1, none⟩ = some (.string nn) := by rw [← hws]; simpa [go_sem] using kU1
      replace zU : U < s31.heap.size := by rw [← hws]; exact zU
      replace kV0 : s31.cell? ⟨V, 0, none⟩ = some (.bool false) := by rw [← hws]; simpa [go_sem] using kV0
      replace kV1 : s31.cell? ⟨V, 1, none⟩ = some (.string nd) := by rw [← hws]; simpa [go_sem] using kV1
      replace zV : V < s31.heap.size := by rw [← hws]; exact zV
      replace hBo : Below w.heap.size w s31 := by rw [← hws]; exact below_drewN hBo _
      clear hws
      refine (P1.out _).mono ?_; rintro e s32 ⟨rfl, hb⟩
      replace kA0 := belK hb kA0 zA; replace kA1 := belK hb kA1 zA; replace kA2 := belK hb kA2 zA; replace zA := belZ zA hb
      replace kC0 := belK hb kC0 zC; replace fC0 := belF hb fC0 zC; replace kC1 := belK hb kC1 zC; replace fC1 := belF hb fC1 zC; replace kC2 := belK hb kC2 zC; replace fC2 := belF hb fC2 zC; replace zC := belZ zC hb
      replace kU0 := belK hb kU0 zU; replace kU1 := belK hb kU1 zU; replace zU := belZ zU hb
      replace kV0 := belK hb kV0 zV; replace kV1 := belK hb kV1 zV; replace zV := belZ zV hb
      replace hBo := hBo.trans (hb.mono hBo.size)
      clear hb
      go_wp2_with fail
      refine (P2.out _).mono ?_; rintro e s33 ⟨rfl, hb⟩
      replace kA0 := belK hb kA0 zA; replace kA1 := belK hb kA1 zA; replace kA2 := belK hb kA2 zA; replace zA := belZ zA hb
      replace kC0 := belK hb kC0 zC; replace fC0 := belF hb fC0 zC; replace kC1 := belK hb kC1 zC; replace fC1 := belF hb fC1 zC; replace kC2 := belK hb kC2 zC; replace fC2 := belF hb fC2 zC; replace zC := belZ zC hb
      replace kU0 := belK hb kU0 zU; replace kU1 := belK hb kU1 zU; replace zU := belZ zU hb
      replace kV0 := belK hb kV0 zV; replace kV1 := belK hb kV1 zV; replace zV := belZ zV hb
      replace hBo := hBo.trans (hb.mono hBo.size)
      clear hb
      all_goals go_wp2_with fail
      all_goals refine bodyPost_ret (v := .tuple #[.agg #[.bool false, .string ⟨#[]⟩, .string ⟨#[]⟩], .int .i64 4]) (by simp [results, Tryz.results28, go_sem, kC0, kC1, kC2, zC]) rfl ⟨rfl, ?_⟩
      all_goals exact (((hBo.setCell lC _).setCell lC _).setCell lC _)
end Go.Proofs.YtbgmnpabclfjaaaGreatDoor
