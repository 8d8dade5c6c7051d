/-
 LAYER 6's STATEMENTS, WALKED: roots.
-/
import Derived.Test.YtbgmnpabclfjaaaGreatDoorRound18
import Derived.Test.YtbgmnpabclfjaaaGreatDoorRound17
import Derived.Test.YtbgmnpabclfjaaaGreatDoorRound10
namespace Go.Proofs.YtbgmnpabclfjaaaGreatDoor
open Go.RowKit Go.Shelf
set_option linter.unusedSimpArgs false
set_option linter.unusedVariables false

set_option maxRecDepth 100000 in
set_option maxHeartbeats 8000000 in
theorem roundRoots_any (neg : Bool) (a d : ByteArray) (w : World) (ha : a.size ≤ 140737488351232) (hd : d.size ≤ 140737488351232) :
   Calls Tryz.prog 7 #[.agg #[.bool neg, .string a, .string d]] w fun e w' => e = .returned (.bool true) ∧ Below w.heap.size w w' := by
 have HK := Lib.hid known6_any
 obtain ⟨q, hq⟩ : ∃ q, rootR (wl neg a d) = q := ⟨_, rfl⟩
 obtain ⟨b, hb⟩ : ∃ b, rootOkB (wl neg a d) = b := ⟨_, rfl⟩
 have H1 := Lib.hid (fun w => roundRoot_any neg a d q b w (by omega) (by omega) hq hb)
 have H2 := Lib.hid (fun w => refRoot6_any neg a d q b w (by omega) (by omega) hq hb)
 obtain ⟨u, hs⟩ : ∃ u, mkR (topI (wl neg a d) * topI (wl neg a d)) (lowI (wl neg a d) * lowI (wl neg a d)) = u := ⟨_, rfl⟩
 obtain ⟨c, hc⟩ : ∃ c, mkE (topI (wl neg a d) * topI (wl neg a d)) (lowI (wl neg a d) * lowI (wl neg a d)) = c := ⟨_, rfl⟩
 have H3 := Lib.hid (fun w => refMul5b_any neg neg a d a d u c w (by omega) (by omega) (by omega) (by omega) hs hc)
 have hok := wl_ok neg a d
 have ss : (rn u).size ≤ 140737488351232 ∧ (rd u).size ≤ 140737488351232 := by
   by_cases h : mkE (topI (wl neg a d) * topI (wl neg a d)) (lowI (wl neg a d) * lowI (wl neg a d)) = 0
   · have := (mk_ok h).1
     rw [hs] at this
     have h1 := rn_size this
     have h2 := rd_size this
     omega
   · rw [← hs]
     have : mkR (topI (wl neg a d) * topI (wl neg a d)) (lowI (wl neg a d) * lowI (wl neg a d)) = ⟨false, 0, 0⟩ := by
       unfold mkR
       unfold mkE at h
       split
       · rfl
       · split
         · rfl
         · rename_i h1 h2
           rw [if_neg h1, if_neg h2] at h
           exact absurd rfl h
     rw [this, rz.2.1, rz.2.2]
     decide
 have h4 := fun w => roundRoot_any (rb u) (rn u) (rd u) _ _ w ss.1 ss.2 rfl rfl
 have HA := Lib.hid (fun w => refAbs5_any neg a d _ w (by omega) (by omega) rfl)
 by_cases h0 : c = 0
 · subst h0
   obtain ⟨s1, s2, s3⟩ := sq_facts hok hc
   rw [hs] at s1 s2 s3
   rw [wl_of_ok s1, s2, s3] at h4
   generalize absR (wl neg a d) = x at *
   have H4 := Lib.hid h4
   clear h4 s1 s2 s3 hok hs hc ss hq hb ha hd
   generalize rb q = qb at *
   generalize rn q = qn at *
   generalize rd q = qd at *
   go_enter Tryz.func7, Tryz.ntmps7
   go_wp2_with fail
   obtain ⟨s1, hws⟩ : ∃ s, s = (w.alloc (.cells #[.bool neg, .string a, .string d] 23)) := ⟨_, rfl⟩
   have hBs : Below w.heap.size w s1 := by rw [hws]; exact ((Below.refl w.heap.size w).alloc (by simp) _)
   obtain ⟨A, hdA⟩ : ∃ b, b = w.heap.size := ⟨_, rfl⟩
   have hsz : s1.heap.size = w.heap.size + 1 := by rw [hws]; simp
   have kA0 : s1.cell? ⟨A, 0, none⟩ = some (.bool neg) := by rw [hws]; simp [go_sem, hdA]
   have kA1 : s1.cell? ⟨A, 1, none⟩ = some (.string a) := by rw [hws]; simp [go_sem, hdA]
   have kA2 : s1.cell? ⟨A, 2, none⟩ = some (.string d) := by rw [hws]; simp [go_sem, hdA]
   have zA : A < s1.heap.size := by omega
   have lA : w.heap.size ≤ A := by have := Nat.le_refl w.heap.size; omega
   rw [← hws]
   try rw [← hdA]
   clear hws hsz hdA
   have hBo := hBs; clear hBs
   refine (H1.out _).mono ?_; rintro e s2 ⟨rfl, hb⟩
   replace kA0 := belK hb kA0 zA; replace kA1 := belK hb kA1 zA; replace kA2 := belK hb kA2 zA; replace zA := belZ zA hb
   replace hBo := hBo.trans (hb.mono hBo.size)
   clear hb
   go_wp2_with fail
   obtain ⟨s3, hws⟩ : ∃ s, s = (s2.alloc (.cells #[.bool qb, .string qn, .string qd] 23)) := ⟨_, rfl⟩
   have hBs : Below w.heap.size w s3 := by rw [hws]; exact ((hBo).alloc (by exact hBo.size) _)
   obtain ⟨X, hdX⟩ : ∃ b, b = s2.heap.size := ⟨_, rfl⟩
   have hsz : s3.heap.size = s2.heap.size + 1 := by rw [hws]; simp
   have hQC : ∀ p v, s2.cell? p = some v → s3.cell? p = some v := fun p v h => by rw [hws]; exact (alK h)
   have hQZ : ∀ b, b < s2.heap.size → b < s3.heap.size := fun b h => by omega
   replace kA0 := hQC _ _ kA0; replace kA1 := hQC _ _ kA1; replace kA2 := hQC _ _ kA2; replace zA := hQZ _ zA
   clear hQC hQZ
   have kX0 : s3.cell? ⟨X, 0, none⟩ = some (.bool qb) := by rw [hws]; simp [go_sem, hdX]
   have kX1 : s3.cell? ⟨X, 1, none⟩ = some (.string qn) := by rw [hws]; simp [go_sem, hdX]
   have kX2 : s3.cell? ⟨X, 2, none⟩ = some (.string qd) := by rw [hws]; simp [go_sem, hdX]
   have zX : X < s3.heap.size := by omega
   have lX : w.heap.size ≤ X := by have := hBo.size; omega
   rw [← hws]
   try rw [← hdX]
   clear hBo
   clear hws hsz hdX
   have hBo := hBs; clear hBs
   refine (H2.out _).mono ?_; rintro e s4 ⟨rfl, hb⟩
   replace kA0 := belK hb kA0 zA; replace kA1 := belK hb kA1 zA; replace kA2 := belK hb kA2 zA; replace zA := belZ zA hb
   replace kX0 := belK hb kX0 zX; replace kX1 := belK hb kX1 zX; replace kX2 := belK hb kX2 zX; replace zX := belZ zX hb
   replace hBo := hBo.trans (hb.mono hBo.size)
   clear hb
   go_wp2_with fail
   obtain ⟨s5, hws⟩ : ∃ s, s = (s4.alloc (.cells #[.bool qb, .string qn, .string qd] 23)) := ⟨_, rfl⟩
   have hBs : Below w.heap.size w s5 := by rw [hws]; exact ((hBo).alloc (by exact hBo.size) _)
   obtain ⟨Y, hdY⟩ : ∃ b, b = s4.heap.size := ⟨_, rfl⟩
   have hsz : s5.heap.size = s4.heap.size + 1 := by rw [hws]; simp
   have hQC : ∀ p v, s4.cell? p = some v → s5.cell? p = some v := fun p v h => by rw [hws]; exact (alK h)
   have hQZ : ∀ b, b < s4.heap.size → b < s5.heap.size := fun b h => by omega
   replace kA0 := hQC _ _ kA0; replace kA1 := hQC _ _ kA1; replace kA2 := hQC _ _ kA2; replace zA := hQZ _ zA
   replace kX0 := hQC _ _ kX0; replace kX1 := hQC _ _ kX1; replace kX2 := hQC _ _ kX2; replace zX := hQZ _ zX
   clear hQC hQZ
   have kY0 : s5.cell? ⟨Y, 0, none⟩ = some (.bool qb) := by rw [hws]; simp [go_sem, hdY]
   have kY1 : s5.cell? ⟨Y, 1, none⟩ = some (.string qn) := by rw [hws]; simp [go_sem, hdY]
   have kY2 : s5.cell? ⟨Y, 2, none⟩ = some (.string qd) := by rw [hws]; simp [go_sem, hdY]
   have zY : Y < s5.heap.size := by omega
   have lY : w.heap.size ≤ Y := by have := hBo.size; omega
   rw [← hws]
   try rw [← hdY]
   clear hBo
   clear hws hsz hdY
   have hBo := hBs; clear hBs
   refine (H3.out _).mono ?_; rintro e s6 ⟨rfl, hb⟩
   replace kA0 := belK hb kA0 zA; replace kA1 := belK hb kA1 zA; replace kA2 := belK hb kA2 zA; replace zA := belZ zA hb
   replace kX0 := belK hb kX0 zX; replace kX1 := belK hb kX1 zX; replace kX2 := belK hb kX2 zX; replace zX := belZ zX hb
   replace kY0 := belK hb kY0 zY; replace kY1 := belK hb kY1 zY; replace kY2 := belK hb kY2 zY; replace zY := belZ zY hb
   replace hBo := hBo.trans (hb.mono hBo.size)
   clear hb
   go_wp2_with fail
   obtain ⟨s7, hws⟩ : ∃ s, s = (s6.alloc (.cells #[.bool (rb u), .string (rn u), .string (rd u)] 23)) := ⟨_, rfl⟩
   have hBs : Below w.heap.size w s7 := by rw [hws]; exact ((hBo).alloc (by exact hBo.size) _)
   obtain ⟨S, hdS⟩ : ∃ b, b = s6.heap.size := ⟨_, rfl⟩
   have hsz : s7.heap.size = s6.heap.size + 1 := by rw [hws]; simp
   have hQC : ∀ p v, s6.cell? p = some v → s7.cell? p = some v := fun p v h => by rw [hws]; exact (alK h)
   have hQZ : ∀ b, b < s6.heap.size → b < s7.heap.size := fun b h => by omega
   replace kA0 := hQC _ _ kA0; replace kA1 := hQC _ _ kA1; replace kA2 := hQC _ _ kA2; replace zA := hQZ _ zA
   replace kX0 := hQC _ _ kX0; replace kX1 := hQC _ _ kX1; replace kX2 := hQC _ _ kX2; replace zX := hQZ _ zX
   replace kY0 := hQC _ _ kY0; replace kY1 := hQC _ _ kY1; replace kY2 := hQC _ _ kY2; replace zY := hQZ _ zY
   clear hQC hQZ
   have kS0 : s7.cell? ⟨S, 0, none⟩ = some (.bool (rb u)) := by rw [hws]; simp [go_sem, hdS]
   have kS1 : s7.cell? ⟨S, 1, none⟩ = some (.string (rn u)) := by rw [hws]; simp [go_sem, hdS]
   have kS2 : s7.cell? ⟨S, 2, none⟩ = some (.string (rd u)) := by rw [hws]; simp [go_sem, hdS]
   have zS : S < s7.heap.size := by omega
   have lS : w.heap.size ≤ S := by have := hBo.size; omega
   rw [← hws]
   try rw [← hdS]
   clear hBo
   clear hws hsz hdS
   have hBo := hBs; clear hBs
   refine (H4.out _).mono ?_; rintro e s8 ⟨rfl, hb⟩
   replace kA0 := belK hb kA0 zA; replace kA1 := belK hb kA1 zA; replace kA2 := belK hb kA2 zA; replace zA := belZ zA hb
   replace kX0 := belK hb kX0 zX; replace kX1 := belK hb kX1 zX; replace kX2 := belK hb kX2 zX; replace zX := belZ zX hb
   replace kY0 := belK hb kY0 zY; replace kY1 := belK hb kY1 zY; replace kY2 := belK hb kY2 zY; replace zY := belZ zY hb
   replace kS0 := belK hb kS0 zS; replace kS1 := belK hb kS1 zS; replace kS2 := belK hb kS2 zS; replace zS := belZ zS hb
   replace hBo := hBo.trans (hb.mono hBo.size)
   clear hb
   go_wp2_with fail
   obtain ⟨s9, hws⟩ : ∃ s, s = (s8.alloc (.cells #[.bool (rb x), .string (rn x), .string (rd x)] 23)) := ⟨_, rfl⟩
   have hBs : Below w.heap.size w s9 := by rw [hws]; exact ((hBo).alloc (by exact hBo.size) _)
   obtain ⟨Z, hdZ⟩ : ∃ b, b = s8.heap.size := ⟨_, rfl⟩
   have hsz : s9.heap.size = s8.heap.size + 1 := by rw [hws]; simp
   have hQC : ∀ p v, s8.cell? p = some v → s9.cell? p = some v := fun p v h => by rw [hws]; exact (alK h)
   have hQZ : ∀ b, b < s8.heap.size → b < s9.heap.size := fun b h => by omega
   replace kA0 := hQC _ _ kA0; replace kA1 := hQC _ _ kA1; replace kA2 := hQC _ _ kA2; replace zA := hQZ _ zA
   replace kX0 := hQC _ _ kX0; replace kX1 := hQC _ _ kX1; replace kX2 := hQC _ _ kX2; replace zX := hQZ _ zX
   replace kY0 := hQC _ _ kY0; replace kY1 := hQC _ _ kY1; replace kY2 := hQC _ _ kY2; replace zY := hQZ _ zY
   replace kS0 := hQC _ _ kS0; replace kS1 := hQC _ _ kS1; replace kS2 := hQC _ _ kS2; replace zS := hQZ _ zS
   clear hQC hQZ
   have kZ0 : s9.cell? ⟨Z, 0, none⟩ = some (.bool (rb x)) := by rw [hws]; simp [go_sem, hdZ]
   have kZ1 : s9.cell? ⟨Z, 1, none⟩ = some (.string (rn x)) := by rw [hws]; simp [go_sem, hdZ]
   have kZ2 : s9.cell? ⟨Z, 2, none⟩ = some (.string (rd x)) := by rw [hws]; simp [go_sem, hdZ]
   have zZ : Z < s9.heap.size := by omega
   have lZ : w.heap.size ≤ Z := by have := hBo.size; omega
   rw [← hws]
   try rw [← hdZ]
   clear hBo
   clear hws hsz hdZ
   have hBo := hBs; clear hBs
   have HF : Hid (∀ W, Below s9.heap.size s9 W → Below w.heap.size w W) := fun W hW => hBo.trans (hW.mono hBo.size)
   clear hBo
   first | (go_region_held3 (fun w' => w'.cell? ⟨A, 0, none⟩ = some (.bool neg) ∧ w'.cell? ⟨A, 1, none⟩ = some (.string a) ∧ w'.cell? ⟨A, 2, none⟩ = some (.string d) ∧ w'.cell? ⟨X, 0, none⟩ = some (.bool qb) ∧ w'.cell? ⟨X, 1, none⟩ = some (.string qn) ∧ w'.cell? ⟨X, 2, none⟩ = some (.string qd) ∧ w'.cell? ⟨Y, 0, none⟩ = some (.bool qb) ∧ w'.cell? ⟨Y, 1, none⟩ = some (.string qn) ∧ w'.cell? ⟨Y, 2, none⟩ = some (.string qd) ∧ w'.cell? ⟨S, 0, none⟩ = some (.bool (rb u)) ∧ w'.cell? ⟨S, 1, none⟩ = some (.string (rn u)) ∧ w'.cell? ⟨S, 2, none⟩ = some (.string (rd u)) ∧ w'.cell? ⟨Z, 0, none⟩ = some (.bool (rb x)) ∧ w'.cell? ⟨Z, 1, none⟩ = some (.string (rn x)) ∧ w'.cell? ⟨Z, 2, none⟩ = some (.string (rd x)))
     (go_keep) (first
     | (go_at_call 33; refine (HA.out _).mono ?_; rintro e x10 ⟨rfl, hbx⟩; have hTx : Below s9.heap.size s9 x10 := (by first | exact (Below.refl _ _).drew.trans hbx | exact Below.trans (by assumption) (hbx.mono (Below.size (by assumption))) | exact (Below.refl _ _).trans hbx); obtain ⟨hcx, hfx⟩ := bcell hTx)
     | (go_at_call 18; refine (HK.out _).mono ?_; rintro e x10 ⟨rfl, hbx⟩; have hTx : Below s9.heap.size s9 x10 := (by first | exact (Below.refl _ _).drew.trans hbx | exact Below.trans (by assumption) (hbx.mono (Below.size (by assumption))) | exact (Below.refl _ _).trans hbx); obtain ⟨hcx, hfx⟩ := bcell hTx))) | fail
   all_goals go_wp2_with fail
   all_goals first | go_ret | go_ret2
   all_goals exact ⟨rfl, HF.out _ (by assumption)⟩
 · generalize rootR (wl (rb u) (rn u) (rd u)) = z at *
   generalize rootOkB (wl (rb u) (rn u) (rd u)) = zo at *
   have H4 := Lib.hid h4
   have h00 : c = 4 ∨ c = 5 := by
     have := mkE_ways (topI (wl neg a d) * topI (wl neg a d)) (lowI (wl neg a d) * lowI (wl neg a d))
     omega
   clear h4 hok hs hc ss hq hb ha hd HA h0
   generalize rb q = qb at *
   generalize rn q = qn at *
   generalize rd q = qd at *
   rcases h00 with rfl | rfl
   all_goals
     go_enter Tryz.func7, Tryz.ntmps7
     go_wp2_with fail
     obtain ⟨s11, hws⟩ : ∃ s, s = (w.alloc (.cells #[.bool neg, .string a, .string d] 23)) := ⟨_, rfl⟩
     have hBs : Below w.heap.size w s11 := by rw [hws]; exact ((Below.refl w.heap.size w).alloc (by simp) _)
     obtain ⟨A, hdA⟩ : ∃ b, b = w.heap.size := ⟨_, rfl⟩
     have hsz : s11.heap.size = w.heap.size + 1 := by rw [hws]; simp
     have kA0 : s11.cell? ⟨A, 0, none⟩ = some (.bool neg) := by rw [hws]; simp [go_sem, hdA]
     have kA1 : s11.cell? ⟨A, 1, none⟩ = some (.string a) := by rw [hws]; simp [go_sem, hdA]
     have kA2 : s11.cell? ⟨A, 2, none⟩ = some (.string d) := by rw [hws]; simp [go_sem, hdA]
     have zA : A < s11.heap.size := by omega
     have lA : w.heap.size ≤ A := by have := Nat.le_refl w.heap.size; omega
     rw [← hws]
     try rw [← hdA]
     clear hws hsz hdA
     have hBo := hBs; clear hBs
     refine (H1.out _).mono ?_; rintro e s12 ⟨rfl, hb⟩
     replace kA0 := belK hb kA0 zA; replace kA1 := belK hb kA1 zA; replace kA2 := belK hb kA2 zA; replace zA := belZ zA hb
     replace hBo := hBo.trans (hb.mono hBo.size)
     clear hb
     go_wp2_with fail
     obtain ⟨s13, hws⟩ : ∃ s, s = (s12.alloc (.cells #[.bool qb, .string qn, .string qd] 23)) := ⟨_, rfl⟩
     have hBs : Below w.heap.size w s13 := by rw [hws]; exact ((hBo).alloc (by exact hBo.size) _)
     obtain ⟨X, hdX⟩ : ∃ b, b = s12.heap.size := ⟨_, rfl⟩
     have hsz : s13.heap.size = s12.heap.size + 1 := by rw [hws]; simp
     have hQC : ∀ p v, s12.cell? p = some v → s13.cell? p = some v := fun p v h => by rw [hws]; exact (alK h)
     have hQZ : ∀ b, b < s12.heap.size → b < s13.heap.size := fun b h => by omega
     replace kA0 := hQC _ _ kA0; replace kA1 := hQC _ _ kA1; replace kA2 := hQC _ _ kA2; replace zA := hQZ _ zA
     clear hQC hQZ
     have kX0 : s13.cell? ⟨X, 0, none⟩ = some (.bool qb) := by rw [hws]; simp [go_sem, hdX]
     have kX1 : s13.cell? ⟨X, 1, none⟩ = some (.string qn) := by rw [hws]; simp [go_sem, hdX]
     have kX2 : s13.cell? ⟨X, 2, none⟩ = some (.string qd) := by rw [hws]; simp [go_sem, hdX]
     have zX : X < s13.heap.size := by omega
     have lX : w.heap.size ≤ X := by have := hBo.size; omega
     rw [← hws]
     try rw [← hdX]
     clear hBo
     clear hws hsz hdX
     have hBo := hBs; clear hBs
     refine (H2.out _).mono ?_; rintro e s14 ⟨rfl, hb⟩
     replace kA0 := belK hb kA0 zA; replace kA1 := belK hb kA1 zA; replace kA2 := belK hb kA2 zA; replace zA := belZ zA hb
     replace kX0 := belK hb kX0 zX; replace kX1 := belK hb kX1 zX; replace kX2 := belK hb kX2 zX; replace zX := belZ zX hb
     replace hBo := hBo.trans (hb.mono hBo.size)
     clear hb
     go_wp2_with fail
     obtain ⟨s15, hws⟩ : ∃ s, s = (s14.alloc (.cells #[.bool qb, .string qn, .string qd] 23)) := ⟨_, rfl⟩
     have hBs : Below w.heap.size w s15 := by rw [hws]; exact ((hBo).alloc (by exact hBo.size) _)
     obtain ⟨Y, hdY⟩ : ∃ b, b = s14.heap.size := ⟨_, rfl⟩
     have hsz : s15.heap.size = s14.heap.size + 1 := by rw [hws]; simp
     have hQC : ∀ p v, s14.cell? p = some v → s15.cell? p = some v := fun p v h => by rw [hws]; exact (alK h)
     have hQZ : ∀ b, b < s14.heap.size → b < s15.heap.size := fun b h => by omega
     replace kA0 := hQC _ _ kA0; replace kA1 := hQC _ _ kA1; replace kA2 := hQC _ _ kA2; replace zA := hQZ _ zA
     replace kX0 := hQC _ _ kX0; replace kX1 := hQC _ _ kX1; replace kX2 := hQC _ _ kX2; replace zX := hQZ _ zX
     clear hQC hQZ
     have kY0 : s15.cell? ⟨Y, 0, none⟩ = some (.bool qb) := by rw [hws]; simp [go_sem, hdY]
     have kY1 : s15.cell? ⟨Y, 1, none⟩ = some (.string qn) := by rw [hws]; simp [go_sem, hdY]
     have kY2 : s15.cell? ⟨Y, 2, none⟩ = some (.string qd) := by rw [hws]; simp [go_sem, hdY]
     have zY : Y < s15.heap.size := by omega
     have lY : w.heap.size ≤ Y := by have := hBo.size; omega
     rw [← hws]
     try rw [← hdY]
     clear hBo
     clear hws hsz hdY
     have hBo := hBs; clear hBs
     refine (H3.out _).mono ?_; rintro e s16 ⟨rfl, hb⟩
     replace kA0 := belK hb kA0 zA; replace kA1 := belK hb kA1 zA; replace kA2 := belK hb kA2 zA; replace zA := belZ zA hb
     replace kX0 := belK hb kX0 zX; replace kX1 := belK hb kX1 zX; replace kX2 := belK hb kX2 zX; replace zX := belZ zX hb
     replace kY0 := belK hb kY0 zY; replace kY1 := belK hb kY1 zY; replace kY2 := belK hb kY2 zY; replace zY := belZ zY hb
     replace hBo := hBo.trans (hb.mono hBo.size)
     clear hb
     go_wp2_with fail
     obtain ⟨s17, hws⟩ : ∃ s, s = (s16.alloc (.cells #[.bool (rb u), .string (rn u), .string (rd u)] 23)) := ⟨_, rfl⟩
     have hBs : Below w.heap.size w s17 := by rw [hws]; exact ((hBo).alloc (by exact hBo.size) _)
     obtain ⟨S, hdS⟩ : ∃ b, b = s16.heap.size := ⟨_, rfl⟩
     have hsz : s17.heap.size = s16.heap.size + 1 := by rw [hws]; simp
     have hQC : ∀ p v, s16.cell? p = some v → s17.cell? p = some v := fun p v h => by rw [hws]; exact (alK h)
     have hQZ : ∀ b, b < s16.heap.size → b < s17.heap.size := fun b h => by omega
     replace kA0 := hQC _ _ kA0; replace kA1 := hQC _ _ kA1; replace kA2 := hQC _ _ kA2; replace zA := hQZ _ zA
     replace kX0 := hQC _ _ kX0; replace kX1 := hQC _ _ kX1; replace kX2 := hQC _ _ kX2; replace zX := hQZ _ zX
     replace kY0 := hQC _ _ kY0; replace kY1 := hQC _ _ kY1; replace kY2 := hQC _ _ kY2; replace zY := hQZ _ zY
     clear hQC hQZ
     have kS0 : s17.cell? ⟨S, 0, none⟩ = some (.bool (rb u)) := by rw [hws]; simp [go_sem, hdS]
     have kS1 : s17.cell? ⟨S, 1, none⟩ = some (.string (rn u)) := by rw [hws]; simp [go_sem, hdS]
     have kS2 : s17.cell? ⟨S, 2, none⟩ = some (.string (rd u)) := by rw [hws]; simp [go_sem, hdS]
     have zS : S < s17.heap.size := by omega
     have lS : w.heap.size ≤ S := by have := hBo.size; omega
     rw [← hws]
     try rw [← hdS]
     clear hBo
     clear hws hsz hdS
     have hBo := hBs; clear hBs
     refine (H4.out _).mono ?_; rintro e s18 ⟨rfl, hb⟩
     replace kA0 := belK hb kA0 zA; replace kA1 := belK hb kA1 zA; replace kA2 := belK hb kA2 zA; replace zA := belZ zA hb
     replace kX0 := belK hb kX0 zX; replace kX1 := belK hb kX1 zX; replace kX2 := belK hb kX2 zX; replace zX := belZ zX hb
     replace kY0 := belK hb kY0 zY; replace kY1 := belK hb kY1 zY; replace kY2 := belK hb kY2 zY; replace zY := belZ zY hb
     replace kS0 := belK hb kS0 zS; replace kS1 := belK hb kS1 zS; replace kS2 := belK hb kS2 zS; replace zS := belZ zS hb
     replace hBo := hBo.trans (hb.mono hBo.size)
     clear hb
     go_wp2_with fail
     obtain ⟨s19, hws⟩ : ∃ s, s = (s18.alloc (.cells #[.bool (rb z), .string (rn z), .string (rd z)] 23)) := ⟨_, rfl⟩
     have hBs : Below w.heap.size w s19 := by rw [hws]; exact ((hBo).alloc (by exact hBo.size) _)
     obtain ⟨Z, hdZ⟩ : ∃ b, b = s18.heap.size := ⟨_, rfl⟩
     have hsz : s19.heap.size = s18.heap.size + 1 := by rw [hws]; simp
     have hQC : ∀ p v, s18.cell? p = some v → s19.cell? p = some v := fun p v h => by rw [hws]; exact (alK h)
     have hQZ : ∀ b, b < s18.heap.size → b < s19.heap.size := fun b h => by omega
     replace kA0 := hQC _ _ kA0; replace kA1 := hQC _ _ kA1; replace kA2 := hQC _ _ kA2; replace zA := hQZ _ zA
     replace kX0 := hQC _ _ kX0; replace kX1 := hQC _ _ kX1; replace kX2 := hQC _ _ kX2; replace zX := hQZ _ zX
     replace kY0 := hQC _ _ kY0; replace kY1 := hQC _ _ kY1; replace kY2 := hQC _ _ kY2; replace zY := hQZ _ zY
     replace kS0 := hQC _ _ kS0; replace kS1 := hQC _ _ kS1; replace kS2 := hQC _ _ kS2; replace zS := hQZ _ zS
     clear hQC hQZ
     have kZ0 : s19.cell? ⟨Z, 0, none⟩ = some (.bool (rb z)) := by rw [hws]; simp [go_sem, hdZ]
     have kZ1 : s19.cell? ⟨Z, 1, none⟩ = some (.string (rn z)) := by rw [hws]; simp [go_sem, hdZ]
     have kZ2 : s19.cell? ⟨Z, 2, none⟩ = some (.string (rd z)) := by rw [hws]; simp [go_sem, hdZ]
     have zZ : Z < s19.heap.size := by omega
     have lZ : w.heap.size ≤ Z := by have := hBo.size; omega
     rw [← hws]
     try rw [← hdZ]
     clear hBo
     clear hws hsz hdZ
     have hBo := hBs; clear hBs
     have hud : undef = Value.tuple #[] := rfl
     have HF : Hid (∀ W, Below s19.heap.size s19 W → Below w.heap.size w W) := fun W hW => hBo.trans (hW.mono hBo.size)
     clear hBo
     first | (go_region_with (first
       | (rw [if_neg (by exact Bool.false_ne_true)])
       | (go_at_call 18; refine (HK.out _).mono ?_; rintro e x20 ⟨rfl, hbx⟩; have hTx : Below s19.heap.size s19 x20 := (by first | exact (Below.refl _ _).drew.trans hbx | exact Below.trans (by assumption) (hbx.mono (Below.size (by assumption))) | exact (Below.refl _ _).trans hbx); obtain ⟨hcx, hfx⟩ := bcell hTx))) | fail
     all_goals go_wp2_with fail
     all_goals first | go_ret | go_ret2
     all_goals exact ⟨rfl, HF.out _ (by assumption)⟩
end Go.Proofs.YtbgmnpabclfjaaaGreatDoor
