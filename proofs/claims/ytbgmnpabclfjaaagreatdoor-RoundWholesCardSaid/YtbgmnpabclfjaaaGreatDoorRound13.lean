/-
 POWERS OF NUMBERS, WALKED: the document's, where it does not multiply.
-/
import Derived.Test.YtbgmnpabclfjaaaGreatDoorRound11
namespace Go.Proofs.YtbgmnpabclfjaaaGreatDoor
open Go.RowKit Go.Shelf
set_option linter.unusedSimpArgs false
set_option linter.unusedVariables false

theorem zero_rt {q : Rt} (h : RtOk q) (h0 : q.num = 0) : q = ⟨false, 0, 1⟩ := by
 obtain ⟨neg, N, D⟩ := q
 obtain ⟨_, h2, _, _, h5⟩ := h
 have h0 : N = 0 := h0
 subst h0
 have h5 : neg = false := h5 rfl
 have h2 : Nat.gcd 0 D = 1 := h2
 rw [Nat.gcd_zero_left] at h2
 rw [h5, h2]
theorem pow_zero_neg {n : Int} (h : n < 0) : powR ⟨false, 0, 1⟩ n = ⟨false, 0, 0⟩ ∧ powE ⟨false, 0, 1⟩ n = 5 := by
 have e0 : (0 : Nat) ^ n.natAbs = 0 := Nat.zero_pow (by omega)
 have e1 : (1 : Nat) ^ n.natAbs = 1 := Nat.one_pow _
 obtain ⟨r1, r2⟩ := pow_fit (q := ⟨false, 0, 1⟩) (n := n) (by show Nt.blen (0 ^ n.natAbs) ≤ 256; rw [e0]; decide) (by show Nt.blen (1 ^ n.natAbs) ≤ 256; rw [e1]; decide)
 rw [r1, r2]
 exact mk_zero (by unfold pwY; rw [if_pos h]; show ((0 ^ n.natAbs : Nat) : Int) = 0; rw [e0]; rfl)
theorem pow_zero_pos {n : Int} (h : 0 < n) : powR ⟨false, 0, 1⟩ n = ⟨false, 0, 1⟩ ∧ powE ⟨false, 0, 1⟩ n = 0 := by
 have e0 : (0 : Nat) ^ n.natAbs = 0 := Nat.zero_pow (by omega)
 have e1 : (1 : Nat) ^ n.natAbs = 1 := Nat.one_pow _
 obtain ⟨r1, r2⟩ := pow_fit (q := ⟨false, 0, 1⟩) (n := n) (by show Nt.blen (0 ^ n.natAbs) ≤ 256; rw [e0]; decide) (by show Nt.blen (1 ^ n.natAbs) ≤ 256; rw [e1]; decide)
 have ex : pwX ⟨false, 0, 1⟩ n = 0 := by unfold pwX; rw [if_neg (by omega)]; show sI (false && pwO n) (0 ^ n.natAbs) = 0; rw [e0]; rfl
 have ey : pwY ⟨false, 0, 1⟩ n = 1 := by unfold pwY; rw [if_neg (by omega)]; show ((1 ^ n.natAbs : Nat) : Int) = 1; rw [e1]; rfl
 rw [r1, r2, ex, ey]
 obtain ⟨a, b⟩ := mk_one (f := 0) (by decide)
 rw [a, b]
 exact ⟨rfl, rfl⟩
theorem pow_none (q : Rt) : powR q 0 = ⟨false, 1, 1⟩ ∧ powE q 0 = 0 := by
 obtain ⟨r1, r2⟩ := pow_fit (q := q) (n := 0) (by show Nt.blen (q.num ^ 0) ≤ 256; rw [Nat.pow_zero]; decide) (by show Nt.blen (q.den ^ 0) ≤ 256; rw [Nat.pow_zero]; decide)
 have ex : pwX q 0 = 1 := by
   unfold pwX
   rw [if_neg (by omega), show pwO 0 = false from by decide, Bool.and_false]
   show sI false (q.num ^ 0) = 1
   rw [Nat.pow_zero]; rfl
 have ey : pwY q 0 = 1 := by unfold pwY; rw [if_neg (by omega)]; show ((q.den ^ 0 : Nat) : Int) = 1; rw [Nat.pow_zero]; rfl
 rw [r1, r2, ex, ey]
 obtain ⟨a, b⟩ := mk_one (f := 1) (by decide)
 rw [a, b]
 exact ⟨rfl, rfl⟩
theorem pow_one (s : Bool) (n : Int) : powR ⟨s, 1, 1⟩ n = ⟨s && pwO n, 1, 1⟩ ∧ powE ⟨s, 1, 1⟩ n = 0 := by
 have e1 : (1 : Nat) ^ n.natAbs = 1 := Nat.one_pow _
 obtain ⟨r1, r2⟩ := pow_fit (q := ⟨s, 1, 1⟩) (n := n) (by show Nt.blen (1 ^ n.natAbs) ≤ 256; rw [e1]; decide) (by show Nt.blen (1 ^ n.natAbs) ≤ 256; rw [e1]; decide)
 have ex : pwX ⟨s, 1, 1⟩ n = sI (s && pwO n) 1 := by unfold pwX; show sI (s && pwO n) (if n < 0 then 1 ^ n.natAbs else 1 ^ n.natAbs) = _; rw [e1]; simp
 have ey : pwY ⟨s, 1, 1⟩ n = sI false 1 := by unfold pwY; show ((if n < 0 then 1 ^ n.natAbs else 1 ^ n.natAbs : Nat) : Int) = _; rw [e1]; simp; rfl
 rw [r1, r2, ex, ey]
 obtain ⟨m1, _⟩ := mk_cop (s && pwO n) false 1 1 (by decide) (by decide) (by decide)
 rw [Bool.bne_false] at m1
 exact m1 ⟨by decide, by decide⟩
theorem pow_more {v t : Nat} (hv : 2 ≤ v) (ht : 256 ≤ t) : 256 < Nt.blen (v ^ t) := by
 obtain ⟨K, hK⟩ : ∃ K, K = 256 := ⟨_, rfl⟩
 rw [← hK] at ht ⊢
 refine Nat.lt_of_not_le fun h => ?_
 rw [blen_le_iff] at h
 have h1 : 2 ^ K ≤ 2 ^ t := Nat.pow_le_pow_right (by omega) ht
 have h2 : 2 ^ t ≤ v ^ t := Nat.pow_le_pow_left hv _
 omega
theorem pow_far {q : Rt} (h : RtOk q) (h0 : q.num ≠ 0) (h1 : ¬ (q.num = 1 ∧ q.den = 1)) {n : Int} (hn : 256 ≤ n.natAbs) : powR q n = ⟨false, 0, 0⟩ ∧ powE q n = 4 := by
 apply pow_big
 have hd := h.1
 by_cases ha : q.num = 1
 · exact .inr (pow_more (by omega) hn)
 · exact .inl (pow_more (by omega) hn)
theorem refOf1 (w : World) : Calls Tryz.prog 20 #[.int .i64 1] w fun e w' => e = .returned (.agg #[.bool false, .string ⟨#[1]⟩, .string ⟨#[1]⟩]) ∧ Below w.heap.size w w' := by
 have h := refOf5_any 1 _ w (by omega) (by omega) rfl
 rw [(mk_one (f := 1) (by decide)).1] at h
 exact h

set_option maxRecDepth 100000 in
set_option maxHeartbeats 16000000 in
theorem refPow6_zero (neg : Bool) (a d : ByteArray) (n : Int) (q : Rt) (c : Int) (w : World) (ha : a.size ≤ 140737488351232) (hd : d.size ≤ 140737488351232)
   (h0 : (wl neg a d).num = 0) (hn : n ≠ 0) (hq : powR (wl neg a d) n = q) (hc : powE (wl neg a d) n = c) :
   Calls Tryz.prog 29 #[.agg #[.bool neg, .string a, .string d], .int .i64 n] w fun e w' => e = .returned (.tuple #[.agg #[.bool (rb q), .string (rn q), .string (rd q)], .int .i64 c]) ∧ Below w.heap.size w w' := by
 have hW := fun w => refWell5_any neg a d _ w ha hd rfl
 rw [zero_rt (wl_ok neg a d) h0] at hq hc hW
 have hS := fun w => refSign5_any false ⟨#[]⟩ ⟨#[1]⟩ _ w (by decide) (by decide) rfl
 rw [show cmpI' (topI (wl false ⟨#[]⟩ ⟨#[1]⟩)) 0 = 0 from by decide] at hS
 have HS := Lib.hid hS
 have HW : Hid (∀ w, Calls Tryz.prog 50 #[.agg #[.bool neg, .string a, .string d]] w fun e w' => e = .returned (.agg #[.bool false, .string ⟨#[]⟩, .string ⟨#[1]⟩]) ∧ Below w.heap.size w w') := hW
 clear hS hW h0 ha hd
 by_cases hneg : n < 0
 · obtain ⟨e1, e2⟩ := pow_zero_neg hneg
   rw [e1] at hq
   rw [e2] at hc
   subst hq hc
   rw [rz.1, rz.2.1, rz.2.2]
   clear hn e1 e2
   go_enter Tryz.func29, Tryz.ntmps29
   go_wp2_with fail
   obtain ⟨s1, hws⟩ : ∃ s, s = ((w.alloc (.cells #[.bool neg, .string a, .string d] 23)).alloc (.cells #[.bool false, .string ⟨#[]⟩, .string ⟨#[]⟩] 23)) := ⟨_, rfl⟩
   have hBs : Below w.heap.size w s1 := by rw [hws]; exact (((Below.refl w.heap.size w).alloc (by simp) _).alloc (by simp) _)
   obtain ⟨A, hdA⟩ : ∃ b, b = w.heap.size := ⟨_, rfl⟩
   obtain ⟨C, hdC⟩ : ∃ b, b = w.heap.size + 1 := ⟨_, rfl⟩
   have hsz : s1.heap.size = w.heap.size + 1 + 1 := by rw [hws]; simp
   have dAC : A ≠ C := by omega
   have dCA : C ≠ A := by omega
   have kA0 : s1.cell? ⟨A, 0, none⟩ = some (.bool neg) := by rw [hws]; simp [go_sem, hdA, hdC]
   have fA0 : s1.frozen? ⟨A, 0, none⟩ = false := by rw [hws]; simp [go_sem, hdA, hdC]
   have kA1 : s1.cell? ⟨A, 1, none⟩ = some (.string a) := by rw [hws]; simp [go_sem, hdA, hdC]
   have fA1 : s1.frozen? ⟨A, 1, none⟩ = false := by rw [hws]; simp [go_sem, hdA, hdC]
   have kA2 : s1.cell? ⟨A, 2, none⟩ = some (.string d) := by rw [hws]; simp [go_sem, hdA, hdC]
   have fA2 : s1.frozen? ⟨A, 2, none⟩ = false := by rw [hws]; simp [go_sem, hdA, hdC]
   have zA : A < s1.heap.size := by omega
   have lA : w.heap.size ≤ A := by have := Nat.le_refl w.heap.size; omega
   have kC0 : s1.cell? ⟨C, 0, none⟩ = some (.bool false) := by rw [hws]; simp [go_sem, hdA, hdC]
   have fC0 : s1.frozen? ⟨C, 0, none⟩ = false := by rw [hws]; simp [go_sem, hdA, hdC]
   have kC1 : s1.cell? ⟨C, 1, none⟩ = some (.string ⟨#[]⟩) := by rw [hws]; simp [go_sem, hdA, hdC]
   have fC1 : s1.frozen? ⟨C, 1, none⟩ = false := by rw [hws]; simp [go_sem, hdA, hdC]
   have kC2 : s1.cell? ⟨C, 2, none⟩ = some (.string ⟨#[]⟩) := by rw [hws]; simp [go_sem, hdA, hdC]
   have fC2 : s1.frozen? ⟨C, 2, none⟩ = false := by rw [hws]; simp [go_sem, hdA, hdC]
   have zC : C < s1.heap.size := by omega
   have lC : w.heap.size ≤ C := by have := Nat.le_refl w.heap.size; omega
   rw [← hws]
   try rw [← hdC]
   try rw [← hdA]
   clear hws hsz hdA hdC
   have hBo := hBs; clear hBs
   refine (HW.out _).mono ?_; rintro e s2 ⟨rfl, hb⟩
   replace kA0 := belK hb kA0 zA; replace fA0 := belF hb fA0 zA; replace kA1 := belK hb kA1 zA; replace fA1 := belF hb fA1 zA; replace kA2 := belK hb kA2 zA; replace fA2 := belF hb fA2 zA; replace zA := belZ zA hb
   replace kC0 := belK hb kC0 zC; replace fC0 := belF hb fC0 zC; replace kC1 := belK hb kC1 zC; replace fC1 := belF hb fC1 zC; replace kC2 := belK hb kC2 zC; replace fC2 := belF hb fC2 zC; replace zC := belZ zC hb
   replace hBo := hBo.trans (hb.mono hBo.size)
   clear hb
   go_wp2_with fail
   obtain ⟨s3, hws⟩ : ∃ s, s = (((s2.setCell ⟨A, 0, none⟩ (.bool false)).setCell ⟨A, 1, none⟩ (.string ⟨#[]⟩)).setCell ⟨A, 2, none⟩ (.string ⟨#[1]⟩)) := ⟨_, rfl⟩
   have hBs : Below w.heap.size w s3 := by rw [hws]; exact ((((hBo).setCell lA _).setCell lA _).setCell lA _)
   have hsz : s3.heap.size = s2.heap.size := by rw [hws]; simp
   have hQC : ∀ b j v, s2.cell? ⟨b, j, none⟩ = some v → A ≠ b → s3.cell? ⟨b, j, none⟩ = some v := fun b j v h dA => by rw [hws]; exact (stK (stK (stK h dA) dA) dA)
   replace kC0 := hQC _ _ _ kC0 dAC; replace kC1 := hQC _ _ _ kC1 dAC; replace kC2 := hQC _ _ _ kC2 dAC
   clear hQC
   have kA0_ : s3.cell? ⟨A, 0, none⟩ = some (.bool false) := by rw [hws]; simp [go_sem, kA0, kA1, kA2, fA0, fA1, fA2]
   have kA1_ : s3.cell? ⟨A, 1, none⟩ = some (.string ⟨#[]⟩) := by rw [hws]; simp [go_sem, kA0, kA1, kA2, fA0, fA1, fA2]
   have kA2_ : s3.cell? ⟨A, 2, none⟩ = some (.string ⟨#[1]⟩) := by rw [hws]; simp [go_sem, kA0, kA1, kA2, fA0, fA1, fA2]
   replace kA0 := kA0_; clear kA0_; replace kA1 := kA1_; clear kA1_; replace kA2 := kA2_; clear kA2_
   have hQF : ∀ p, s3.frozen? p = s2.frozen? p := fun p => by rw [hws]; simp [go_sem]
   replace fA0 := (hQF _).trans fA0; replace fA1 := (hQF _).trans fA1; replace fA2 := (hQF _).trans fA2
   replace fC0 := (hQF _).trans fC0; replace fC1 := (hQF _).trans fC1; replace fC2 := (hQF _).trans fC2
   clear hQF
   replace zA : A < s3.heap.size := by omega
   replace zC : C < s3.heap.size := by omega
   rw [← hws]
   clear hBo hws hsz
   have hBo := hBs; clear hBs
   refine (HS.out _).mono ?_; rintro e s4 ⟨rfl, hb⟩
   replace kA0 := belK hb kA0 zA; replace fA0 := belF hb fA0 zA; replace kA1 := belK hb kA1 zA; replace fA1 := belF hb fA1 zA; replace kA2 := belK hb kA2 zA; replace fA2 := belF hb fA2 zA; replace zA := belZ zA hb
   replace kC0 := belK hb kC0 zC; replace fC0 := belF hb fC0 zC; replace kC1 := belK hb kC1 zC; replace fC1 := belF hb fC1 zC; replace kC2 := belK hb kC2 zC; replace fC2 := belF hb fC2 zC; replace zC := belZ zC hb
   replace hBo := hBo.trans (hb.mono hBo.size)
   clear hb
   all_goals go_wp2_with fail
   all_goals refine bodyPost_ret (v := .tuple #[.agg #[.bool false, .string ⟨#[]⟩, .string ⟨#[]⟩], .int .i64 5]) (by simp [results, Tryz.results29, go_sem, kC0, kC1, kC2, zC]) rfl ⟨rfl, ?_⟩
   all_goals exact (((hBo.setCell lC _).setCell lC _).setCell lC _)
 · obtain ⟨e1, e2⟩ := pow_zero_pos (n := n) (by omega)
   rw [e1] at hq
   rw [e2] at hc
   subst hq hc
   show Calls _ _ _ _ fun e w' => e = .returned (.tuple #[.agg #[.bool false, .string ⟨#[]⟩, .string ⟨#[1]⟩], .int .i64 0]) ∧ _
   clear e1 e2
   go_enter Tryz.func29, Tryz.ntmps29
   go_wp2_with fail
   obtain ⟨s5, hws⟩ : ∃ s, s = ((w.alloc (.cells #[.bool neg, .string a, .string d] 23)).alloc (.cells #[.bool false, .string ⟨#[]⟩, .string ⟨#[]⟩] 23)) := ⟨_, rfl⟩
   have hBs : Below w.heap.size w s5 := by rw [hws]; exact (((Below.refl w.heap.size w).alloc (by simp) _).alloc (by simp) _)
   obtain ⟨A, hdA⟩ : ∃ b, b = w.heap.size := ⟨_, rfl⟩
   obtain ⟨C, hdC⟩ : ∃ b, b = w.heap.size + 1 := ⟨_, rfl⟩
   have hsz : s5.heap.size = w.heap.size + 1 + 1 := by rw [hws]; simp
   have dAC : A ≠ C := by omega
   have dCA : C ≠ A := by omega
   have kA0 : s5.cell? ⟨A, 0, none⟩ = some (.bool neg) := by rw [hws]; simp [go_sem, hdA, hdC]
   have fA0 : s5.frozen? ⟨A, 0, none⟩ = false := by rw [hws]; simp [go_sem, hdA, hdC]
   have kA1 : s5.cell? ⟨A, 1, none⟩ = some (.string a) := by rw [hws]; simp [go_sem, hdA, hdC]
   have fA1 : s5.frozen? ⟨A, 1, none⟩ = false := by rw [hws]; simp [go_sem, hdA, hdC]
   have kA2 : s5.cell? ⟨A, 2, none⟩ = some (.string d) := by rw [hws]; simp [go_sem, hdA, hdC]
   have fA2 : s5.frozen? ⟨A, 2, none⟩ = false := by rw [hws]; simp [go_sem, hdA, hdC]
   have zA : A < s5.heap.size := by omega
   have lA : w.heap.size ≤ A := by have := Nat.le_refl w.heap.size; omega
   have kC0 : s5.cell? ⟨C, 0, none⟩ = some (.bool false) := by rw [hws]; simp [go_sem, hdA, hdC]
   have fC0 : s5.frozen? ⟨C, 0, none⟩ = false := by rw [hws]; simp [go_sem, hdA, hdC]
   have kC1 : s5.cell? ⟨C, 1, none⟩ = some (.string ⟨#[]⟩) := by rw [hws]; simp [go_sem, hdA, hdC]
   have fC1 : s5.frozen? ⟨C, 1, none⟩ = false := by rw [hws]; simp [go_sem, hdA, hdC]
   have kC2 : s5.cell? ⟨C, 2, none⟩ = some (.string ⟨#[]⟩) := by rw [hws]; simp [go_sem, hdA, hdC]
   have fC2 : s5.frozen? ⟨C, 2, none⟩ = false := by rw [hws]; simp [go_sem, hdA, hdC]
   have zC : C < s5.heap.size := by omega
   have lC : w.heap.size ≤ C := by have := Nat.le_refl w.heap.size; omega
   rw [← hws]
   try rw [← hdC]
   try rw [← hdA]
   clear hws hsz hdA hdC
   have hBo := hBs; clear hBs
   refine (HW.out _).mono ?_; rintro e s6 ⟨rfl, hb⟩
   replace kA0 := belK hb kA0 zA; replace fA0 := belF hb fA0 zA; replace kA1 := belK hb kA1 zA; replace fA1 := belF hb fA1 zA; replace kA2 := belK hb kA2 zA; replace fA2 := belF hb fA2 zA; replace zA := belZ zA hb
   replace kC0 := belK hb kC0 zC; replace fC0 := belF hb fC0 zC; replace kC1 := belK hb kC1 zC; replace fC1 := belF hb fC1 zC; replace kC2 := belK hb kC2 zC; replace fC2 := belF hb fC2 zC; replace zC := belZ zC hb
   replace hBo := hBo.trans (hb.mono hBo.size)
   clear hb
   go_wp2_with fail
   obtain ⟨s7, hws⟩ : ∃ s, s = (((s6.setCell ⟨A, 0, none⟩ (.bool false)).setCell ⟨A, 1, none⟩ (.string ⟨#[]⟩)).setCell ⟨A, 2, none⟩ (.string ⟨#[1]⟩)) := ⟨_, rfl⟩
   have hBs : Below w.heap.size w s7 := by rw [hws]; exact ((((hBo).setCell lA _).setCell lA _).setCell lA _)
   have hsz : s7.heap.size = s6.heap.size := by rw [hws]; simp
   have hQC : ∀ b j v, s6.cell? ⟨b, j, none⟩ = some v → A ≠ b → s7.cell? ⟨b, j, none⟩ = some v := fun b j v h dA => by rw [hws]; exact (stK (stK (stK h dA) dA) dA)
   replace kC0 := hQC _ _ _ kC0 dAC; replace kC1 := hQC _ _ _ kC1 dAC; replace kC2 := hQC _ _ _ kC2 dAC
   clear hQC
   have kA0_ : s7.cell? ⟨A, 0, none⟩ = some (.bool false) := by rw [hws]; simp [go_sem, kA0, kA1, kA2, fA0, fA1, fA2]
   have kA1_ : s7.cell? ⟨A, 1, none⟩ = some (.string ⟨#[]⟩) := by rw [hws]; simp [go_sem, kA0, kA1, kA2, fA0, fA1, fA2]
   have kA2_ : s7.cell? ⟨A, 2, none⟩ = some (.string ⟨#[1]⟩) := by rw [hws]; simp [go_sem, kA0, kA1, kA2, fA0, fA1, fA2]
   replace kA0 := kA0_; clear kA0_; replace kA1 := kA1_; clear kA1_; replace kA2 := kA2_; clear kA2_
   have hQF : ∀ p, s7.frozen? p = s6.frozen? p := fun p => by rw [hws]; simp [go_sem]
   replace fA0 := (hQF _).trans fA0; replace fA1 := (hQF _).trans fA1; replace fA2 := (hQF _).trans fA2
   replace fC0 := (hQF _).trans fC0; replace fC1 := (hQF _).trans fC1; replace fC2 := (hQF _).trans fC2
   clear hQF
   replace zA : A < s7.heap.size := by omega
   replace zC : C < s7.heap.size := by omega
   rw [← hws]
   clear hBo hws hsz
   have hBo := hBs; clear hBs
   refine (HS.out _).mono ?_; rintro e s8 ⟨rfl, hb⟩
   replace kA0 := belK hb kA0 zA; replace fA0 := belF hb fA0 zA; replace kA1 := belK hb kA1 zA; replace fA1 := belF hb fA1 zA; replace kA2 := belK hb kA2 zA; replace fA2 := belF hb fA2 zA; replace zA := belZ zA hb
   replace kC0 := belK hb kC0 zC; replace fC0 := belF hb fC0 zC; replace kC1 := belK hb kC1 zC; replace fC1 := belF hb fC1 zC; replace kC2 := belK hb kC2 zC; replace fC2 := belF hb fC2 zC; replace zC := belZ zC hb
   replace hBo := hBo.trans (hb.mono hBo.size)
   clear hb
   go_wp2_with fail
   refine (HS.out _).mono ?_; rintro e s9 ⟨rfl, hb⟩
   replace kA0 := belK hb kA0 zA; replace fA0 := belF hb fA0 zA; replace kA1 := belK hb kA1 zA; replace fA1 := belF hb fA1 zA; replace kA2 := belK hb kA2 zA; replace fA2 := belF hb fA2 zA; replace zA := belZ zA hb
   replace kC0 := belK hb kC0 zC; replace fC0 := belF hb fC0 zC; replace kC1 := belK hb kC1 zC; replace fC1 := belF hb fC1 zC; replace kC2 := belK hb kC2 zC; replace fC2 := belF hb fC2 zC; replace zC := belZ zC hb
   replace hBo := hBo.trans (hb.mono hBo.size)
   clear hb
   all_goals go_wp2_with fail
   all_goals refine bodyPost_ret (v := .tuple #[.agg #[.bool false, .string ⟨#[]⟩, .string ⟨#[1]⟩], .int .i64 0]) (by simp [results, Tryz.results29, go_sem, kC0, kC1, kC2, zC]) rfl ⟨rfl, ?_⟩
   all_goals exact (((hBo.setCell lC _).setCell lC _).setCell lC _)
end Go.Proofs.YtbgmnpabclfjaaaGreatDoor
