/-
 POWERS OF NUMBERS, WALKED: the document's, where it does not multiply.
-/
import Derived.Test.YtbgmnpabclfjaaaGreatDoorRound13
namespace Go.Proofs.YtbgmnpabclfjaaaGreatDoor
open Go.RowKit Go.Shelf
set_option linter.unusedSimpArgs false
set_option linter.unusedVariables false

theorem sign_ways (x : Int) : cmpI' x 0 = -1 ∨ cmpI' x 0 = 0 ∨ cmpI' x 0 = 1 := by
 unfold cmpI'
 split
 · exact .inl rfl
 · split
   · exact .inr (.inl rfl)
   · exact .inr (.inr rfl)
theorem sign_ne {q : Rt} (h : q.num ≠ 0) : cmpI' (topI q) 0 ≠ 0 := by
 have : topI q ≠ 0 := fun h2 => h ((sI_zero_iff q.neg q.num).1 h2)
 unfold cmpI'
 split
 · omega
 · first | omega | (rw [if_neg this]; omega)
set_option maxRecDepth 100000 in
set_option maxHeartbeats 16000000 in
theorem refPow6_none (neg : Bool) (a d : ByteArray) (q : Rt) (c : Int) (w : World) (ha : a.size ≤ 140737488351232) (hd : d.size ≤ 140737488351232)
   (hq : powR (wl neg a d) 0 = q) (hc : powE (wl neg a d) 0 = c) :
   Calls Tryz.prog 29 #[.agg #[.bool neg, .string a, .string d], .int .i64 0] w fun e w' => e = .returned (.tuple #[.agg #[.bool (rb q), .string (rn q), .string (rd q)], .int .i64 c]) ∧ Below w.heap.size w w' := by
 have HW := Lib.hid (fun w => refWell5_any neg a d _ w ha hd rfl)
 have hok := wl_ok neg a d
 have hS := fun w => refSign5_any (rb (wl neg a d)) (rn (wl neg a d)) (rd (wl neg a d)) _ w (by have := rn_size hok; omega) (by have := rd_size hok; omega) rfl
 rw [wl_of_ok hok] at hS
 rw [(pow_none _).1] at hq
 rw [(pow_none _).2] at hc
 subst hq hc
 show Calls _ _ _ _ fun e w' => e = .returned (.tuple #[.agg #[.bool false, .string ⟨#[1]⟩, .string ⟨#[1]⟩], .int .i64 0]) ∧ _
 have HO := Lib.hid refOf1
 have hs := sign_ways (topI (wl neg a d))
 generalize cmpI' (topI (wl neg a d)) 0 = sg at *
 generalize rb (wl neg a d) = nb at *
 generalize rn (wl neg a d) = nn at *
 generalize rd (wl neg a d) = nd at *
 have HS := Lib.hid hS
 clear hS hok ha hd
 rcases hs with rfl | rfl | rfl
 all_goals
   go_enter Tryz.func29, Tryz.ntmps29
   go_wp2_with fail
   obtain ⟨s1, hws⟩ : ∃ s, s = ((w.alloc (.cells #[.bool neg, .string a, .string d] 23)).alloc (.cells #[.bool false, .string ⟨#[]⟩, .string ⟨#[]⟩] 23)) := ⟨_, rfl⟩
   have hBs : Below w.heap.size w s1 := by rw [hws]; exact (((Below.refl w.heap.size w).alloc (by simp) _).alloc (by simp) _)
   obtain ⟨A, hdA⟩ : ∃ b, b = w.heap.size := ⟨_, rfl⟩
   obtain ⟨C, hdC⟩ : ∃ b, b = w.heap.size + 1 := ⟨_, rfl⟩
   have hsz : s1.heap.size = w.heap.size + 1 + 1 := by rw [hws]; simp
   have dAC : A ≠ C := by omega
   have dCA : C ≠ A := by omega
   have kA0 : s1.cell? ⟨A, 0, none⟩ = some (.bool neg) := by rw [hws]; simp [go_sem, hdA, hdC]
   have fA0 : s1.frozen? ⟨A, 0, none⟩ = false := by rw [hws]; simp [go_sem, hdA, hdC]
   have kA1 : s1.cell? ⟨A, 1, none⟩ = some (.string a) := by rw [hws]; simp [go_sem, hdA, hdC]
   have fA1 : s1.frozen? ⟨A, 1, none⟩ = false := by rw [hws]; simp [go_sem, hdA, hdC]
   have kA2 : s1.cell? ⟨A, 2, none⟩ = some (.string d) := by rw [hws]; simp [go_sem, hdA, hdC]
   have fA2 : s1.frozen? ⟨A, 2, none⟩ = false := by rw [hws]; simp [go_sem, hdA, hdC]
   have zA : A < s1.heap.size := by omega
   have lA : w.heap.size ≤ A := by have := Nat.le_refl w.heap.size; omega
   have kC0 : s1.cell? ⟨C, 0, none⟩ = some (.bool false) := by rw [hws]; simp [go_sem, hdA, hdC]
   have fC0 : s1.frozen? ⟨C, 0, none⟩ = false := by rw [hws]; simp [go_sem, hdA, hdC]
   have kC1 : s1.cell? ⟨C, 1, none⟩ = some (.string ⟨#[]⟩) := by rw [hws]; simp [go_sem, hdA, hdC]
   have fC1 : s1.frozen? ⟨C, 1, none⟩ = false := by rw [hws]; simp [go_sem, hdA, hdC]
   have kC2 : s1.cell? ⟨C, 2, none⟩ = some (.string ⟨#[]⟩) := by rw [hws]; simp [go_sem, hdA, hdC]
   have fC2 : s1.frozen? ⟨C, 2, none⟩ = false := by rw [hws]; simp [go_sem, hdA, hdC]
   have zC : C < s1.heap.size := by omega
   have lC : w.heap.size ≤ C := by have := Nat.le_refl w.heap.size; omega
   rw [← hws]
   try rw [← hdC]
   try rw [← hdA]
   clear hws hsz hdA hdC
   have hBo := hBs; clear hBs
   refine (HW.out _).mono ?_; rintro e s2 ⟨rfl, hb⟩
   replace kA0 := belK hb kA0 zA; replace fA0 := belF hb fA0 zA; replace kA1 := belK hb kA1 zA; replace fA1 := belF hb fA1 zA; replace kA2 := belK hb kA2 zA; replace fA2 := belF hb fA2 zA; replace zA := belZ zA hb
   replace kC0 := belK hb kC0 zC; replace fC0 := belF hb fC0 zC; replace kC1 := belK hb kC1 zC; replace fC1 := belF hb fC1 zC; replace kC2 := belK hb kC2 zC; replace fC2 := belF hb fC2 zC; replace zC := belZ zC hb
   replace hBo := hBo.trans (hb.mono hBo.size)
   clear hb
   go_wp2_with fail
   obtain ⟨s3, hws⟩ : ∃ s, s = (((s2.setCell ⟨A, 0, none⟩ (.bool nb)).setCell ⟨A, 1, none⟩ (.string nn)).setCell ⟨A, 2, none⟩ (.string nd)) := ⟨_, rfl⟩
   have hBs : Below w.heap.size w s3 := by rw [hws]; exact ((((hBo).setCell lA _).setCell lA _).setCell lA _)
   have hsz : s3.heap.size = s2.heap.size := by rw [hws]; simp
   have hQC : ∀ b j v, s2.cell? ⟨b, j, none⟩ = some v → A ≠ b → s3.cell? ⟨b, j, none⟩ = some v := fun b j v h dA => by rw [hws]; exact (stK (stK (stK h dA) dA) dA)
   replace kC0 := hQC _ _ _ kC0 dAC; replace kC1 := hQC _ _ _ kC1 dAC; replace kC2 := hQC _ _ _ kC2 dAC
   clear hQC
   have kA0_ : s3.cell? ⟨A, 0, none⟩ = some (.bool nb) := by rw [hws]; simp [go_sem, kA0, kA1, kA2, fA0, fA1, fA2]
   have kA1_ : s3.cell? ⟨A, 1, none⟩ = some (.string nn) := by rw [hws]; simp [go_sem, kA0, kA1, kA2, fA0, fA1, fA2]
   have kA2_ : s3.cell? ⟨A, 2, none⟩ = some (.string nd) := by rw [hws]; simp [go_sem, kA0, kA1, kA2, fA0, fA1, fA2]
   replace kA0 := kA0_; clear kA0_; replace kA1 := kA1_; clear kA1_; replace kA2 := kA2_; clear kA2_
   have hQF : ∀ p, s3.frozen? p = s2.frozen? p := fun p => by rw [hws]; simp [go_sem]
   replace fA0 := (hQF _).trans fA0; replace fA1 := (hQF _).trans fA1; replace fA2 := (hQF _).trans fA2
   replace fC0 := (hQF _).trans fC0; replace fC1 := (hQF _).trans fC1; replace fC2 := (hQF _).trans fC2
   clear hQF
   replace zA : A < s3.heap.size := by omega
   replace zC : C < s3.heap.size := by omega
   rw [← hws]
   clear hBo hws hsz
   have hBo := hBs; clear hBs
   refine (HS.out _).mono ?_; rintro e s4 ⟨rfl, hb⟩
   replace kA0 := belK hb kA0 zA; replace fA0 := belF hb fA0 zA; replace kA1 := belK hb kA1 zA; replace fA1 := belF hb fA1 zA; replace kA2 := belK hb kA2 zA; replace fA2 := belF hb fA2 zA; replace zA := belZ zA hb
   replace kC0 := belK hb kC0 zC; replace fC0 := belF hb fC0 zC; replace kC1 := belK hb kC1 zC; replace fC1 := belF hb fC1 zC; replace kC2 := belK hb kC2 zC; replace fC2 := belF hb fC2 zC; replace zC := belZ zC hb
   replace hBo := hBo.trans (hb.mono hBo.size)
   clear hb
   go_wp2_with fail
   refine (HO.out _).mono ?_; rintro e s5 ⟨rfl, hb⟩
   replace kA0 := belK hb kA0 zA; replace fA0 := belF hb fA0 zA; replace kA1 := belK hb kA1 zA; replace fA1 := belF hb fA1 zA; replace kA2 := belK hb kA2 zA; replace fA2 := belF hb fA2 zA; replace zA := belZ zA hb
   replace kC0 := belK hb kC0 zC; replace fC0 := belF hb fC0 zC; replace kC1 := belK hb kC1 zC; replace fC1 := belF hb fC1 zC; replace kC2 := belK hb kC2 zC; replace fC2 := belF hb fC2 zC; replace zC := belZ zC hb
   replace hBo := hBo.trans (hb.mono hBo.size)
   clear hb
   all_goals go_wp2_with fail
   all_goals refine bodyPost_ret (v := .tuple #[.agg #[.bool false, .string ⟨#[1]⟩, .string ⟨#[1]⟩], .int .i64 0]) (by simp [results, Tryz.results29, go_sem, kC0, kC1, kC2, zC]) rfl ⟨rfl, ?_⟩
   all_goals exact (((hBo.setCell lC _).setCell lC _).setCell lC _)
set_option maxRecDepth 100000 in
set_option maxHeartbeats 16000000 in
theorem refPow6_one (neg : Bool) (a d : ByteArray) (n : Int) (v : Bool) (q : Rt) (c : Int) (w : World) (ha : a.size ≤ 140737488351232) (hd : d.size ≤ 140737488351232)
   (h1 : wl neg a d = ⟨v, 1, 1⟩) (hn : n ≠ 0) (hq : powR (wl neg a d) n = q) (hc : powE (wl neg a d) n = c) :
   Calls Tryz.prog 29 #[.agg #[.bool neg, .string a, .string d], .int .i64 n] w fun e w' => e = .returned (.tuple #[.agg #[.bool (rb q), .string (rn q), .string (rd q)], .int .i64 c]) ∧ Below w.heap.size w w' := by
 have hW := fun w => refWell5_any neg a d _ w ha hd rfl
 rw [h1] at hq hc hW
 rw [(pow_one v n).1] at hq
 rw [(pow_one v n).2] at hc
 subst hq hc
 have HW : Hid (∀ w, Calls Tryz.prog 50 #[.agg #[.bool neg, .string a, .string d]] w fun e w' => e = .returned (.agg #[.bool v, .string ⟨#[1]⟩, .string ⟨#[1]⟩]) ∧ Below w.heap.size w w') := hW
 show Calls _ _ _ _ fun e w' => e = .returned (.tuple #[.agg #[.bool (v && pwO n), .string ⟨#[1]⟩, .string ⟨#[1]⟩], .int .i64 0]) ∧ _
 have hw1 : wl v ⟨#[1]⟩ ⟨#[1]⟩ = ⟨v, 1, 1⟩ := wl_of_ok (q := ⟨v, 1, 1⟩) (by cases v <;> decide)
 have hS := fun w => refSign5_any v ⟨#[1]⟩ ⟨#[1]⟩ _ w (by decide) (by decide) rfl
 have hA := fun w => refAbs5_any v ⟨#[1]⟩ ⟨#[1]⟩ _ w (by decide) (by decide) rfl
 rw [hw1] at hS hA
 have hs : cmpI' (topI ⟨v, 1, 1⟩) 0 = -1 ∨ cmpI' (topI ⟨v, 1, 1⟩) 0 = 1 := by cases v <;> decide
 have HA : Hid (∀ w, Calls Tryz.prog 33 #[.agg #[.bool v, .string ⟨#[1]⟩, .string ⟨#[1]⟩]] w fun e w' => e = .returned (.agg #[.bool false, .string ⟨#[1]⟩, .string ⟨#[1]⟩]) ∧ Below w.heap.size w w') := hA
 have HO := Lib.hid refOf1
 have hn0 : (n == 0) = false := by simpa using hn
 have hodd : n.tmod 2 = 0 ↔ pwO n = false := by
   unfold pwO
   rw [decide_eq_false_iff_not]
   have : (n.tmod 2).natAbs = n.natAbs % 2 := by rw [Int.natAbs_tmod]; rfl
   omega
 generalize cmpI' (topI ⟨v, 1, 1⟩) 0 = sg at *
 have HS := Lib.hid hS
 clear hS hW h1 ha hd hA hw1
 cases hp : pwO n with
 | false =>
   have ho := hodd.2 hp
   clear hodd hp
   rw [Bool.and_false]
   rcases hs with rfl | rfl
   all_goals
     go_enter Tryz.func29, Tryz.ntmps29
     go_wp2_with fail
     obtain ⟨s6, hws⟩ : ∃ s, s = ((w.alloc (.cells #[.bool neg, .string a, .string d] 23)).alloc (.cells #[.bool false, .string ⟨#[]⟩, .string ⟨#[]⟩] 23)) := ⟨_, rfl⟩
     have hBs : Below w.heap.size w s6 := by rw [hws]; exact (((Below.refl w.heap.size w).alloc (by simp) _).alloc (by simp) _)
     obtain ⟨A, hdA⟩ : ∃ b, b = w.heap.size := ⟨_, rfl⟩
     obtain ⟨C, hdC⟩ : ∃ b, b = w.heap.size + 1 := ⟨_, rfl⟩
     have hsz : s6.heap.size = w.heap.size + 1 + 1 := by rw [hws]; simp
     have dAC : A ≠ C := by omega
     have dCA : C ≠ A := by omega
     have kA0 : s6.cell? ⟨A, 0, none⟩ = some (.bool neg) := by rw [hws]; simp [go_sem, hdA, hdC]
     have fA0 : s6.frozen? ⟨A, 0, none⟩ = false := by rw [hws]; simp [go_sem, hdA, hdC]
     have kA1 : s6.cell? ⟨A, 1, none⟩ = some (.string a) := by rw [hws]; simp [go_sem, hdA, hdC]
     have fA1 : s6.frozen? ⟨A, 1, none⟩ = false := by rw [hws]; simp [go_sem, hdA, hdC]
     have kA2 : s6.cell? ⟨A, 2, none⟩ = some (.string d) := by rw [hws]; simp [go_sem, hdA, hdC]
     have fA2 : s6.frozen? ⟨A, 2, none⟩ = false := by rw [hws]; simp [go_sem, hdA, hdC]
     have zA : A < s6.heap.size := by omega
     have lA : w.heap.size ≤ A := by have := Nat.le_refl w.heap.size; omega
     have kC0 : s6.cell? ⟨C, 0, none⟩ = some (.bool false) := by rw [hws]; simp [go_sem, hdA, hdC]
     have fC0 : s6.frozen? ⟨C, 0, none⟩ = false := by rw [hws]; simp [go_sem, hdA, hdC]
     have kC1 : s6.cell? ⟨C, 1, none⟩ = some (.string ⟨#[]⟩) := by rw [hws]; simp [go_sem, hdA, hdC]
     have fC1 : s6.frozen? ⟨C, 1, none⟩ = false := by rw [hws]; simp [go_sem, hdA, hdC]
     have kC2 : s6.cell? ⟨C, 2, none⟩ = some (.string ⟨#[]⟩) := by rw [hws]; simp [go_sem, hdA, hdC]
     have fC2 : s6.frozen? ⟨C, 2, none⟩ = false := by rw [hws]; simp [go_sem, hdA, hdC]
     have zC : C < s6.heap.size := by omega
     have lC : w.heap.size ≤ C := by have := Nat.le_refl w.heap.size; omega
     rw [← hws]
     try rw [← hdC]
     try rw [← hdA]
     clear hws hsz hdA hdC
     have hBo := hBs; clear hBs
     refine (HW.out _).mono ?_; rintro e s7 ⟨rfl, hb⟩
     replace kA0 := belK hb kA0 zA; replace fA0 := belF hb fA0 zA; replace kA1 := belK hb kA1 zA; replace fA1 := belF hb fA1 zA; replace kA2 := belK hb kA2 zA; replace fA2 := belF hb fA2 zA; replace zA := belZ zA hb
     replace kC0 := belK hb kC0 zC; replace fC0 := belF hb fC0 zC; replace kC1 := belK hb kC1 zC; replace fC1 := belF hb fC1 zC; replace kC2 := belK hb kC2 zC; replace fC2 := belF hb fC2 zC; replace zC := belZ zC hb
     replace hBo := hBo.trans (hb.mono hBo.size)
     clear hb
     go_wp2_with fail
     obtain ⟨s8, hws⟩ : ∃ s, s = (((s7.setCell ⟨A, 0, none⟩ (.bool v)).setCell ⟨A, 1, none⟩ (.string ⟨#[1]⟩)).setCell ⟨A, 2, none⟩ (.string ⟨#[1]⟩)) := ⟨_, rfl⟩
     have hBs : Below w.heap.size w s8 := by rw [hws]; exact ((((hBo).setCell lA _).setCell lA _).setCell lA _)
     have hsz : s8.heap.size = s7.heap.size := by rw [hws]; simp
     have hQC : ∀ b j v, s7.cell? ⟨b, j, none⟩ = some v → A ≠ b → s8.cell? ⟨b, j, none⟩ = some v := fun b j v h dA => by rw [hws]; exact (stK (stK (stK h dA) dA) dA)
     replace kC0 := hQC _ _ _ kC0 dAC; replace kC1 := hQC _ _ _ kC1 dAC; replace kC2 := hQC _ _ _ kC2 dAC
     clear hQC
     have kA0_ : s8.cell? ⟨A, 0, none⟩ = some (.bool v) := by rw [hws]; simp [go_sem, kA0, kA1, kA2, fA0, fA1, fA2]
     have kA1_ : s8.cell? ⟨A, 1, none⟩ = some (.string ⟨#[1]⟩) := by rw [hws]; simp [go_sem, kA0, kA1, kA2, fA0, fA1, fA2]
     have kA2_ : s8.cell? ⟨A, 2, none⟩ = some (.string ⟨#[1]⟩) := by rw [hws]; simp [go_sem, kA0, kA1, kA2, fA0, fA1, fA2]
     replace kA0 := kA0_; clear kA0_; replace kA1 := kA1_; clear kA1_; replace kA2 := kA2_; clear kA2_
     have hQF : ∀ p, s8.frozen? p = s7.frozen? p := fun p => by rw [hws]; simp [go_sem]
     replace fA0 := (hQF _).trans fA0; replace fA1 := (hQF _).trans fA1; replace fA2 := (hQF _).trans fA2
     replace fC0 := (hQF _).trans fC0; replace fC1 := (hQF _).trans fC1; replace fC2 := (hQF _).trans fC2
     clear hQF
     replace zA : A < s8.heap.size := by omega
     replace zC : C < s8.heap.size := by omega
     rw [← hws]
     clear hBo hws hsz
     have hBo := hBs; clear hBs
     refine (HS.out _).mono ?_; rintro e s9 ⟨rfl, hb⟩
     replace kA0 := belK hb kA0 zA; replace fA0 := belF hb fA0 zA; replace kA1 := belK hb kA1 zA; replace fA1 := belF hb fA1 zA; replace kA2 := belK hb kA2 zA; replace fA2 := belF hb fA2 zA; replace zA := belZ zA hb
     replace kC0 := belK hb kC0 zC; replace fC0 := belF hb fC0 zC; replace kC1 := belK hb kC1 zC; replace fC1 := belF hb fC1 zC; replace kC2 := belK hb kC2 zC; replace fC2 := belF hb fC2 zC; replace zC := belZ zC hb
     replace hBo := hBo.trans (hb.mono hBo.size)
     clear hb
     go_wp2_with fail
     refine (HS.out _).mono ?_; rintro e s10 ⟨rfl, hb⟩
     replace kA0 := belK hb kA0 zA; replace fA0 := belF hb fA0 zA; replace kA1 := belK hb kA1 zA; replace fA1 := belF hb fA1 zA; replace kA2 := belK hb kA2 zA; replace fA2 := belF hb fA2 zA; replace zA := belZ zA hb
     replace kC0 := belK hb kC0 zC; replace fC0 := belF hb fC0 zC; replace kC1 := belK hb kC1 zC; replace fC1 := belF hb fC1 zC; replace kC2 := belK hb kC2 zC; replace fC2 := belF hb fC2 zC; replace zC := belZ zC hb
     replace hBo := hBo.trans (hb.mono hBo.size)
     clear hb
     go_wp2_with fail
     refine (HA.out _).mono ?_; rintro e s11 ⟨rfl, hb⟩
     replace kA0 := belK hb kA0 zA; replace fA0 := belF hb fA0 zA; replace kA1 := belK hb kA1 zA; replace fA1 := belF hb fA1 zA; replace kA2 := belK hb kA2 zA; replace fA2 := belF hb fA2 zA; replace zA := belZ zA hb
     replace kC0 := belK hb kC0 zC; replace fC0 := belF hb fC0 zC; replace kC1 := belK hb kC1 zC; replace fC1 := belF hb fC1 zC; replace kC2 := belK hb kC2 zC; replace fC2 := belF hb fC2 zC; replace zC := belZ zC hb
     replace hBo := hBo.trans (hb.mono hBo.size)
     clear hb
     go_wp2_with fail
     refine (HO.out _).mono ?_; rintro e s12 ⟨rfl, hb⟩
     replace kA0 := belK hb kA0 zA; replace fA0 := belF hb fA0 zA; replace kA1 := belK hb kA1 zA; replace fA1 := belF hb fA1 zA; replace kA2 := belK hb kA2 zA; replace fA2 := belF hb fA2 zA; replace zA := belZ zA hb
     replace kC0 := belK hb kC0 zC; replace fC0 := belF hb fC0 zC; replace kC1 := belK hb kC1 zC; replace fC1 := belF hb fC1 zC; replace kC2 := belK hb kC2 zC; replace fC2 := belF hb fC2 zC; replace zC := belZ zC hb
     replace hBo := hBo.trans (hb.mono hBo.size)
     clear hb
     go_wp2_with fail
     refine (HO.out _).mono ?_; rintro e s13 ⟨rfl, hb⟩
     replace kA0 := belK hb kA0 zA; replace fA0 := belF hb fA0 zA; replace kA1 := belK hb kA1 zA; replace fA1 := belF hb fA1 zA; replace kA2 := belK hb kA2 zA; replace fA2 := belF hb fA2 zA; replace zA := belZ zA hb
     replace kC0 := belK hb kC0 zC; replace fC0 := belF hb fC0 zC; replace kC1 := belK hb kC1 zC; replace fC1 := belF hb fC1 zC; replace kC2 := belK hb kC2 zC; replace fC2 := belF hb fC2 zC; replace zC := belZ zC hb
     replace hBo := hBo.trans (hb.mono hBo.size)
     clear hb
     all_goals go_wp2_with fail
     all_goals refine bodyPost_ret (v := .tuple #[.agg #[.bool false, .string ⟨#[1]⟩, .string ⟨#[1]⟩], .int .i64 0]) (by simp [results, Tryz.results29, go_sem, kC0, kC1, kC2, zC]) rfl ⟨rfl, ?_⟩
     all_goals exact (((hBo.setCell lC _).setCell lC _).setCell lC _)
 | true =>
   have ho : ¬ n.tmod 2 = 0 := fun h => by rw [hodd.1 h] at hp; cases hp
   have ho2 : (n.tmod 2 == 0) = false := by simpa using ho
   clear hodd hp
   rw [Bool.and_true]
   rcases hs with rfl | rfl
   all_goals
     go_enter Tryz.func29, Tryz.ntmps29
     go_wp2_with fail
     obtain ⟨s14, hws⟩ : ∃ s, s = ((w.alloc (.cells #[.bool neg, .string a, .string d] 23)).alloc (.cells #[.bool false, .string ⟨#[]⟩, .string ⟨#[]⟩] 23)) := ⟨_, rfl⟩
     have hBs : Below w.heap.size w s14 := by rw [hws]; exact (((Below.refl w.heap.size w).alloc (by simp) _).alloc (by simp) _)
     obtain ⟨A, hdA⟩ : ∃ b, b = w.heap.size := ⟨_, rfl⟩
     obtain ⟨C, hdC⟩ : ∃ b, b = w.heap.size + 1 := ⟨_, rfl⟩
     have hsz : s14.heap.size = w.heap.size + 1 + 1 := by rw [hws]; simp
     have dAC : A ≠ C := by omega
     have dCA : C ≠ A := by omega
     have kA0 : s14.cell? ⟨A, 0, none⟩ = some (.bool neg) := by rw [hws]; simp [go_sem, hdA, hdC]
     have fA0 : s14.frozen? ⟨A, 0, none⟩ = false := by rw [hws]; simp [go_sem, hdA, hdC]
     have kA1 : s14.cell? ⟨A, 1, none⟩ = some (.string a) := by rw [hws]; simp [go_sem, hdA, hdC]
     have fA1 : s14.frozen? ⟨A, 1, none⟩ = false := by rw [hws]; simp [go_sem, hdA, hdC]
     have kA2 : s14.cell? ⟨A, 2, none⟩ = some (.string d) := by rw [hws]; simp [go_sem, hdA, hdC]
     have fA2 : s14.frozen? ⟨A, 2, none⟩ = false := by rw [hws]; simp [go_sem, hdA, hdC]
     have zA : A < s14.heap.size := by omega
     have lA : w.heap.size ≤ A := by have := Nat.le_refl w.heap.size; omega
     have kC0 : s14.cell? ⟨C, 0, none⟩ = some (.bool false) := by rw [hws]; simp [go_sem, hdA, hdC]
     have fC0 : s14.frozen? ⟨C, 0, none⟩ = false := by rw [hws]; simp [go_sem, hdA, hdC]
     have kC1 : s14.cell? ⟨C, 1, none⟩ = some (.string ⟨#[]⟩) := by rw [hws]; simp [go_sem, hdA, hdC]
     have fC1 : s14.frozen? ⟨C, 1, none⟩ = false := by rw [hws]; simp [go_sem, hdA, hdC]
     have kC2 : s14.cell? ⟨C, 2, none⟩ = some (.string ⟨#[]⟩) := by rw [hws]; simp [go_sem, hdA, hdC]
     have fC2 : s14.frozen? ⟨C, 2, none⟩ = false := by rw [hws]; simp [go_sem, hdA, hdC]
     have zC : C < s14.heap.size := by omega
     have lC : w.heap.size ≤ C := by have := Nat.le_refl w.heap.size; omega
     rw [← hws]
     try rw [← hdC]
     try rw [← hdA]
     clear hws hsz hdA hdC
     have hBo := hBs; clear hBs
     refine (HW.out _).mono ?_; rintro e s15 ⟨rfl, hb⟩
     replace kA0 := belK hb kA0 zA; replace fA0 := belF hb fA0 zA; replace kA1 := belK hb kA1 zA; replace fA1 := belF hb fA1 zA; replace kA2 := belK hb kA2 zA; replace fA2 := belF hb fA2 zA; replace zA := belZ zA hb
     replace kC0 := belK hb kC0 zC; replace fC0 := belF hb fC0 zC; replace kC1 := belK hb kC1 zC; replace fC1 := belF hb fC1 zC; replace kC2 := belK hb kC2 zC; replace fC2 := belF hb fC2 zC; replace zC := belZ zC hb
     replace hBo := hBo.trans (hb.mono hBo.size)
     clear hb
     go_wp2_with fail
     obtain ⟨s16, hws⟩ : ∃ s, s = (((s15.setCell ⟨A, 0, none⟩ (.bool v)).setCell ⟨A, 1, none⟩ (.string ⟨#[1]⟩)).setCell ⟨A, 2, none⟩ (.string ⟨#[1]⟩)) := ⟨_, rfl⟩
     have hBs : Below w.heap.size w s16 := by rw [hws]; exact ((((hBo).setCell lA _).setCell lA _).setCell lA _)
     have hsz : s16.heap.size = s15.heap.size := by rw [hws]; simp
     have hQC : ∀ b j v, s15.cell? ⟨b, j, none⟩ = some v → A ≠ b → s16.cell? ⟨b, j, none⟩ = some v := fun b j v h dA => by rw [hws]; exact (stK (stK (stK h dA) dA) dA)
     replace kC0 := hQC _ _ _ kC0 dAC; replace kC1 := hQC _ _ _ kC1 dAC; replace kC2 := hQC _ _ _ kC2 dAC
     clear hQC
     have kA0_ : s16.cell? ⟨A, 0, none⟩ = some (.bool v) := by rw [hws]; simp [go_sem, kA0, kA1, kA2, fA0, fA1, fA2]
     have kA1_ : s16.cell? ⟨A, 1, none⟩ = some (.string ⟨#[1]⟩) := by rw [hws]; simp [go_sem, kA0, kA1, kA2, fA0, fA1, fA2]
     have kA2_ : s16.cell? ⟨A, 2, none⟩ = some (.string ⟨#[1]⟩) := by rw [hws]; simp [go_sem, kA0, kA1, kA2, fA0, fA1, fA2]
     replace kA0 := kA0_; clear kA0_; replace kA1 := kA1_; clear kA1_; replace kA2 := kA2_; clear kA2_
     have hQF : ∀ p, s16.frozen? p = s15.frozen? p := fun p => by rw [hws]; simp [go_sem]
     replace fA0 := (hQF _).trans fA0; replace fA1 := (hQF _).trans fA1; replace fA2 := (hQF _).trans fA2
     replace fC0 := (hQF _).trans fC0; replace fC1 := (hQF _).trans fC1; replace fC2 := (hQF _).trans fC2
     clear hQF
     replace zA : A < s16.heap.size := by omega
     replace zC : C < s16.heap.size := by omega
     rw [← hws]
     clear hBo hws hsz
     have hBo := hBs; clear hBs
     refine (HS.out _).mono ?_; rintro e s17 ⟨rfl, hb⟩
     replace kA0 := belK hb kA0 zA; replace fA0 := belF hb fA0 zA; replace kA1 := belK hb kA1 zA; replace fA1 := belF hb fA1 zA; replace kA2 := belK hb kA2 zA; replace fA2 := belF hb fA2 zA; replace zA := belZ zA hb
     replace kC0 := belK hb kC0 zC; replace fC0 := belF hb fC0 zC; replace kC1 := belK hb kC1 zC; replace fC1 := belF hb fC1 zC; replace kC2 := belK hb kC2 zC; replace fC2 := belF hb fC2 zC; replace zC := belZ zC hb
     replace hBo := hBo.trans (hb.mono hBo.size)
     clear hb
     go_wp2_with fail
     refine (HS.out _).mono ?_; rintro e s18 ⟨rfl, hb⟩
     replace kA0 := belK hb kA0 zA; replace fA0 := belF hb fA0 zA; replace kA1 := belK hb kA1 zA; replace fA1 := belF hb fA1 zA; replace kA2 := belK hb kA2 zA; replace fA2 := belF hb fA2 zA; replace zA := belZ zA hb
     replace kC0 := belK hb kC0 zC; replace fC0 := belF hb fC0 zC; replace kC1 := belK hb kC1 zC; replace fC1 := belF hb fC1 zC; replace kC2 := belK hb kC2 zC; replace fC2 := belF hb fC2 zC; replace zC := belZ zC hb
     replace hBo := hBo.trans (hb.mono hBo.size)
     clear hb
     go_wp2_with fail
     refine (HA.out _).mono ?_; rintro e s19 ⟨rfl, hb⟩
     replace kA0 := belK hb kA0 zA; replace fA0 := belF hb fA0 zA; replace kA1 := belK hb kA1 zA; replace fA1 := belF hb fA1 zA; replace kA2 := belK hb kA2 zA; replace fA2 := belF hb fA2 zA; replace zA := belZ zA hb
     replace kC0 := belK hb kC0 zC; replace fC0 := belF hb fC0 zC; replace kC1 := belK hb kC1 zC; replace fC1 := belF hb fC1 zC; replace kC2 := belK hb kC2 zC; replace fC2 := belF hb fC2 zC; replace zC := belZ zC hb
     replace hBo := hBo.trans (hb.mono hBo.size)
     clear hb
     go_wp2_with fail
     refine (HO.out _).mono ?_; rintro e s20 ⟨rfl, hb⟩
     replace kA0 := belK hb kA0 zA; replace fA0 := belF hb fA0 zA; replace kA1 := belK hb kA1 zA; replace fA1 := belF hb fA1 zA; replace kA2 := belK hb kA2 zA; replace fA2 := belF hb fA2 zA; replace zA := belZ zA hb
     replace kC0 := belK hb kC0 zC; replace fC0 := belF hb fC0 zC; replace kC1 := belK hb kC1 zC; replace fC1 := belF hb fC1 zC; replace kC2 := belK hb kC2 zC; replace fC2 := belF hb fC2 zC; replace zC := belZ zC hb
     replace hBo := hBo.trans (hb.mono hBo.size)
     clear hb
     all_goals go_wp2_with fail
     all_goals refine bodyPost_ret (v := .tuple #[.agg #[.bool v, .string ⟨#[1]⟩, .string ⟨#[1]⟩], .int .i64 0]) (by simp [results, Tryz.results29, go_sem, kC0, kC1, kC2, zC]) rfl ⟨rfl, ?_⟩
     all_goals exact (((hBo.setCell lC _).setCell lC _).setCell lC _)
end Go.Proofs.YtbgmnpabclfjaaaGreatDoor
