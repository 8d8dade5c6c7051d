/-
 POWERS OF NUMBERS, WALKED: the document's, of great exponents, and all.
-/
import Derived.Test.YtbgmnpabclfjaaaGreatDoorRound21
namespace Go.Proofs.YtbgmnpabclfjaaaGreatDoor
open Go.RowKit Go.Shelf
set_option linter.unusedSimpArgs false
set_option linter.unusedVariables false

set_option maxRecDepth 100000 in
set_option maxHeartbeats 16000000 in
theorem refPow6_far (neg : Bool) (a d : ByteArray) (n : Int) (q : Rt) (c : Int) (w : World) (ha : a.size ≤ 140737488351232) (hd : d.size ≤ 140737488351232)
   (h0 : (wl neg a d).num ≠ 0) (h1 : ¬ ((wl neg a d).num = 1 ∧ (wl neg a d).den = 1)) (hn : 300 < n ∨ n < -300) (hq : powR (wl neg a d) n = q) (hc : powE (wl neg a d) n = c) :
   Calls Tryz.prog 29 #[.agg #[.bool neg, .string a, .string d], .int .i64 n] w fun e w' => e = .returned (.tuple #[.agg #[.bool (rb q), .string (rn q), .string (rd q)], .int .i64 c]) ∧ Below w.heap.size w w' := by
 have HW := Lib.hid (fun w => refWell5_any neg a d _ w ha hd rfl)
 have hok := wl_ok neg a d
 generalize wl neg a d = Q at *
 have sN : (rn Q).size ≤ 32 := rn_size hok
 have sD : (rd Q).size ≤ 32 := rd_size hok
 have hS := fun w => refSign5_any (rb Q) (rn Q) (rd Q) _ w (by omega) (by omega) rfl
 have hA := fun w => refAbs5_any (rb Q) (rn Q) (rd Q) _ w (by omega) (by omega) rfl
 rw [wl_of_ok hok] at hS hA
 have HA : Hid (∀ w, Calls Tryz.prog 33 #[.agg #[.bool (rb Q), .string (rn Q), .string (rd Q)]] w fun e w' => e = .returned (.agg #[.bool false, .string (rn Q), .string (rd Q)]) ∧ Below w.heap.size w w') := hA
 have hs0 := sign_ne h0
 have hs1 : (cmpI' (topI Q) 0 == 0) = false := by simpa using hs0
 have HO := Lib.hid refOf1
 have hn1 : ¬ n = 0 := by omega
 have hn2 : (n == 0) = false := by simpa using hn1
 have gn : rn Q ≠ ⟨#[1]⟩ ∨ rd Q ≠ ⟨#[1]⟩ := by
   rw [← E_one]
   by_cases h : Q.num = 1
   · exact .inr fun h2 => h1 ⟨h, Nt.E_inj h2⟩
   · exact .inl fun h2 => h (Nt.E_inj h2)
 obtain ⟨b1, b2⟩ := pow_far hok h0 h1 (n := n) (by omega)
 rw [b1] at hq
 rw [b2] at hc
 subst hq hc
 rw [rz.1, rz.2.1, rz.2.2]
 generalize cmpI' (topI Q) 0 = sg at *
 have HS := Lib.hid hS
 clear hS hA h1 h0 hok sN sD ha hd b1 b2
 generalize rb Q = nb at *
 generalize rn Q = nn at *
 generalize rd Q = nd at *
 have hn3 : 300 < n ∨ (¬ 300 < n ∧ n < -300) := by omega
 clear hn
 rcases gn with gn | gn <;> rcases hn3 with hn3 | ⟨hn3, hn4⟩
 all_goals
   have hnb := toList_one gn
   clear gn
   go_enter Tryz.func29, Tryz.ntmps29
   go_wp2_with fail
   obtain ⟨s1, hws⟩ : ∃ s, s = ((w.alloc (.cells #[.bool neg, .string a, .string d] 23)).alloc (.cells #[.bool false, .string ⟨#[]⟩, .string ⟨#[]⟩] 23)) := ⟨_, rfl⟩
   have hBs : Below w.heap.size w s1 := by rw [hws]; exact (((Below.refl w.heap.size w).alloc (by simp) _).alloc (by simp) _)
   obtain ⟨A, hdA⟩ : ∃ b, b = w.heap.size := ⟨_, rfl⟩
   obtain ⟨C, hdC⟩ : ∃ b, b = w.heap.size + 1 := ⟨_, rfl⟩
   have hsz : s1.heap.size = w.heap.size + 1 + 1 := by rw [hws]; simp
   have dAC : A ≠ C := by omega
   have dCA : C ≠ A := by omega
   have kA0 : s1.cell? ⟨A, 0, none⟩ = some (.bool neg) := by rw [hws]; simp [go_sem, hdA, hdC]
   have fA0 : s1.frozen? ⟨A, 0, none⟩ = false := by rw [hws]; simp [go_sem, hdA, hdC]
   have kA1 : s1.cell? ⟨A, 1, none⟩ = some (.string a) := by rw [hws]; simp [go_sem, hdA, hdC]
   have fA1 : s1.frozen? ⟨A, 1, none⟩ = false := by rw [hws]; simp [go_sem, hdA, hdC]
   have kA2 : s1.cell? ⟨A, 2, none⟩ = some (.string d) := by rw [hws]; simp [go_sem, hdA, hdC]
   have fA2 : s1.frozen? ⟨A, 2, none⟩ = false := by rw [hws]; simp [go_sem, hdA, hdC]
   have zA : A < s1.heap.size := by omega
   have lA : w.heap.size ≤ A := by have := Nat.le_refl w.heap.size; omega
   have kC0 : s1.cell? ⟨C, 0, none⟩ = some (.bool false) := by rw [hws]; simp [go_sem, hdA, hdC]
   have fC0 : s1.frozen? ⟨C, 0, none⟩ = false := by rw [hws]; simp [go_sem, hdA, hdC]
   have kC1 : s1.cell? ⟨C, 1, none⟩ = some (.string ⟨#[]⟩) := by rw [hws]; simp [go_sem, hdA, hdC]
   have fC1 : s1.frozen? ⟨C, 1, none⟩ = false := by rw [hws]; simp [go_sem, hdA, hdC]
   have kC2 : s1.cell? ⟨C, 2, none⟩ = some (.string ⟨#[]⟩) := by rw [hws]; simp [go_sem, hdA, hdC]
   have fC2 : s1.frozen? ⟨C, 2, none⟩ = false := by rw [hws]; simp [go_sem, hdA, hdC]
   have zC : C < s1.heap.size := by omega
   have lC : w.heap.size ≤ C := by have := Nat.le_refl w.heap.size; omega
   rw [← hws]
   try rw [← hdC]
   try rw [← hdA]
   clear hws hsz hdA hdC
   have hBo := hBs; clear hBs
   refine (HW.out _).mono ?_; rintro e s2 ⟨rfl, hb⟩
   replace kA0 := belK hb kA0 zA; replace fA0 := belF hb fA0 zA; replace kA1 := belK hb kA1 zA; replace fA1 := belF hb fA1 zA; replace kA2 := belK hb kA2 zA; replace fA2 := belF hb fA2 zA; replace zA := belZ zA hb
   replace kC0 := belK hb kC0 zC; replace fC0 := belF hb fC0 zC; replace kC1 := belK hb kC1 zC; replace fC1 := belF hb fC1 zC; replace kC2 := belK hb kC2 zC; replace fC2 := belF hb fC2 zC; replace zC := belZ zC hb
   replace hBo := hBo.trans (hb.mono hBo.size)
   clear hb
   go_wp2_with fail
   obtain ⟨s3, hws⟩ : ∃ s, s = (((s2.setCell ⟨A, 0, none⟩ (.bool nb)).setCell ⟨A, 1, none⟩ (.string nn)).setCell ⟨A, 2, none⟩ (.string nd)) := ⟨_, rfl⟩
   have hBs : Below w.heap.size w s3 := by rw [hws]; exact ((((hBo).setCell lA _).setCell lA _).setCell lA _)
   have hsz : s3.heap.size = s2.heap.size := by rw [hws]; simp
   have hQC : ∀ b j v, s2.cell? ⟨b, j, none⟩ = some v → A ≠ b → s3.cell? ⟨b, j, none⟩ = some v := fun b j v h dA => by rw [hws]; exact (stK (stK (stK h dA) dA) dA)
   replace kC0 := hQC _ _ _ kC0 dAC; replace kC1 := hQC _ _ _ kC1 dAC; replace kC2 := hQC _ _ _ kC2 dAC
   clear hQC
   have kA0_ : s3.cell? ⟨A, 0, none⟩ = some (.bool nb) := by rw [hws]; simp [go_sem, kA0, kA1, kA2, fA0, fA1, fA2]
   have kA1_ : s3.cell? ⟨A, 1, none⟩ = some (.string nn) := by rw [hws]; simp [go_sem, kA0, kA1, kA2, fA0, fA1, fA2]
   have kA2_ : s3.cell? ⟨A, 2, none⟩ = some (.string nd) := by rw [hws]; simp [go_sem, kA0, kA1, kA2, fA0, fA1, fA2]
   replace kA0 := kA0_; clear kA0_; replace kA1 := kA1_; clear kA1_; replace kA2 := kA2_; clear kA2_
   have hQF : ∀ p, s3.frozen? p = s2.frozen? p := fun p => by rw [hws]; simp [go_sem]
   replace fA0 := (hQF _).trans fA0; replace fA1 := (hQF _).trans fA1; replace fA2 := (hQF _).trans fA2
   replace fC0 := (hQF _).trans fC0; replace fC1 := (hQF _).trans fC1; replace fC2 := (hQF _).trans fC2
   clear hQF
   replace zA : A < s3.heap.size := by omega
   replace zC : C < s3.heap.size := by omega
   rw [← hws]
   clear hBo hws hsz
   have hBo := hBs; clear hBs
   refine (HS.out _).mono ?_; rintro e s4 ⟨rfl, hb⟩
   replace kA0 := belK hb kA0 zA; replace fA0 := belF hb fA0 zA; replace kA1 := belK hb kA1 zA; replace fA1 := belF hb fA1 zA; replace kA2 := belK hb kA2 zA; replace fA2 := belF hb fA2 zA; replace zA := belZ zA hb
   replace kC0 := belK hb kC0 zC; replace fC0 := belF hb fC0 zC; replace kC1 := belK hb kC1 zC; replace fC1 := belF hb fC1 zC; replace kC2 := belK hb kC2 zC; replace fC2 := belF hb fC2 zC; replace zC := belZ zC hb
   replace hBo := hBo.trans (hb.mono hBo.size)
   clear hb
   go_wp2_with fail
   refine (HS.out _).mono ?_; rintro e s5 ⟨rfl, hb⟩
   replace kA0 := belK hb kA0 zA; replace fA0 := belF hb fA0 zA; replace kA1 := belK hb kA1 zA; replace fA1 := belF hb fA1 zA; replace kA2 := belK hb kA2 zA; replace fA2 := belF hb fA2 zA; replace zA := belZ zA hb
   replace kC0 := belK hb kC0 zC; replace fC0 := belF hb fC0 zC; replace kC1 := belK hb kC1 zC; replace fC1 := belF hb fC1 zC; replace kC2 := belK hb kC2 zC; replace fC2 := belF hb fC2 zC; replace zC := belZ zC hb
   replace hBo := hBo.trans (hb.mono hBo.size)
   clear hb
   go_wp2_with fail
   refine (HA.out _).mono ?_; rintro e s6 ⟨rfl, hb⟩
   replace kA0 := belK hb kA0 zA; replace fA0 := belF hb fA0 zA; replace kA1 := belK hb kA1 zA; replace fA1 := belF hb fA1 zA; replace kA2 := belK hb kA2 zA; replace fA2 := belF hb fA2 zA; replace zA := belZ zA hb
   replace kC0 := belK hb kC0 zC; replace fC0 := belF hb fC0 zC; replace kC1 := belK hb kC1 zC; replace fC1 := belF hb fC1 zC; replace kC2 := belK hb kC2 zC; replace fC2 := belF hb fC2 zC; replace zC := belZ zC hb
   replace hBo := hBo.trans (hb.mono hBo.size)
   clear hb
   go_wp2_with fail
   refine (HO.out _).mono ?_; rintro e s7 ⟨rfl, hb⟩
   replace kA0 := belK hb kA0 zA; replace fA0 := belF hb fA0 zA; replace kA1 := belK hb kA1 zA; replace fA1 := belF hb fA1 zA; replace kA2 := belK hb kA2 zA; replace fA2 := belF hb fA2 zA; replace zA := belZ zA hb
   replace kC0 := belK hb kC0 zC; replace fC0 := belF hb fC0 zC; replace kC1 := belK hb kC1 zC; replace fC1 := belF hb fC1 zC; replace kC2 := belK hb kC2 zC; replace fC2 := belF hb fC2 zC; replace zC := belZ zC hb
   replace hBo := hBo.trans (hb.mono hBo.size)
   clear hb
   all_goals go_wp2_with fail
   all_goals refine bodyPost_ret (v := .tuple #[.agg #[.bool false, .string ⟨#[]⟩, .string ⟨#[]⟩], .int .i64 4]) (by simp [results, Tryz.results29, go_sem, kC0, kC1, kC2, zC]) rfl ⟨rfl, ?_⟩
   all_goals exact (((hBo.setCell lC _).setCell lC _).setCell lC _)
theorem refPow6_any (neg : Bool) (a d : ByteArray) (n : Int) (q : Rt) (c : Int) (w : World) (ha : a.size ≤ 140737488351232) (hd : d.size ≤ 140737488351232)
   (hq : powR (wl neg a d) n = q) (hc : powE (wl neg a d) n = c) :
   Calls Tryz.prog 29 #[.agg #[.bool neg, .string a, .string d], .int .i64 n] w fun e w' => e = .returned (.tuple #[.agg #[.bool (rb q), .string (rn q), .string (rd q)], .int .i64 c]) ∧ Below w.heap.size w w' := by
 by_cases hn : n = 0
 · subst hn; exact refPow6_none neg a d q c w ha hd hq hc
 by_cases h0 : (wl neg a d).num = 0
 · exact refPow6_zero neg a d n q c w ha hd h0 hn hq hc
 by_cases h1 : (wl neg a d).num = 1 ∧ (wl neg a d).den = 1
 · have he : wl neg a d = ⟨(wl neg a d).neg, 1, 1⟩ := by
     obtain ⟨e1, e2⟩ := h1
     revert e1 e2
     cases wl neg a d with
     | mk x y z => intro e1 e2; show (⟨x, y, z⟩ : Rt) = ⟨x, 1, 1⟩; rw [show y = 1 from e1, show z = 1 from e2]
   exact refPow6_one neg a d n _ q c w ha hd he hn hq hc
 by_cases hf : 300 < n ∨ n < -300
 · exact refPow6_far neg a d n q c w ha hd h0 h1 hf hq hc
 by_cases hp : 0 ≤ n
 · obtain ⟨t, rfl⟩ : ∃ t : Nat, n = (t : Int) := ⟨n.toNat, by omega⟩
   exact refPow6_up neg a d t q c w ha hd h0 h1 (by omega) (by omega) hq hc
 · exact refPow6_down neg a d n.natAbs n q c w ha hd h0 h1 (by omega) (by omega) (by omega) hq hc
end Go.Proofs.YtbgmnpabclfjaaaGreatDoor
