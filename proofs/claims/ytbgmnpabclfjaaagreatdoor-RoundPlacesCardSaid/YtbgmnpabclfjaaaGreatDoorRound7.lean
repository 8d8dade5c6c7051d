/-
  NUMBERS, ROUNDED TO PLACES, IN THE DOCUMENT.
-/
import Derived.Test.YtbgmnpabclfjaaaGreatDoorRound6
namespace Go.Proofs.YtbgmnpabclfjaaaGreatDoor
open Go.RowKit Go.Shelf
set_option linter.unusedSimpArgs false
set_option linter.unusedVariables false

theorem stepI_nat (P : Away) (a b : Nat) (hb : b ≠ 0) : stepI P (a : Int) (b : Int) = ((a / b + if P (a % b) b then 1 else 0 : Nat) : Int) := by
  have e1 : flq (a : Int) (b : Int) = ((a / b : Nat) : Int) := by unfold flq; rw [if_pos (by omega)]; simp
  have e2 : (flr (a : Int) (b : Int)).natAbs = a % b := by
    rw [flr_pos (by omega)]
    rw [← Int.natCast_emod, Int.natAbs_natCast]
  unfold stepI
  rw [e1, e2, Int.natAbs_natCast]
  split <;> simp
theorem sI_mulT (neg : Bool) (a t : Nat) : sI neg (a * t) = sI neg a * (t : Int) := by unfold sI; cases neg <;> simp [Int.neg_mul]
theorem tenN_neg {n : Int} (h : n ≤ 0) : tenN n = 1 := by unfold tenN; rw [show n.toNat = 0 from by omega]
theorem tenN_abs (n : Int) : (10 : Nat) ^ (max n (-n)).toNat = if 0 ≤ n then tenN n else tenN (-n) := by
  unfold tenN
  split <;> (congr 1; omega)
set_option maxRecDepth 100000 in
set_option maxHeartbeats 16000000 in
theorem places_any (P : Away) (how : Int) (HS : ∀ (a b p : Int) (w : World), (zt a).size ≤ 200 → (zt b).size ≤ 200 → 0 ≤ a → 0 < b → stepI P a b = p → Calls Tryz.prog 100 #[.agg #[.bool (zb a), .string (zt a)], .agg #[.bool (zb b), .string (zt b)], .int .i64 how] w fun e w' => e = .returned (.agg #[.bool (zb p), .string (zt p)]) ∧ Below w.heap.size w w')
    (neg : Bool) (a d : ByteArray) (n : Int) (q : Rt) (c : Int) (w : World) (ha : a.size ≤ 140737488351232) (hd : d.size ≤ 140737488351232) (hq : rdR P (wl neg a d) n = q) (hc : rdE P (wl neg a d) n = c) :
    Calls Tryz.prog 60 #[.agg #[.bool neg, .string a, .string d], .int .i64 n, .int .i64 how] w fun e w' => e = .returned (.tuple #[.agg #[.bool (rb q), .string (rn q), .string (rd q)], .int .i64 c]) ∧ Below w.heap.size w w' := by
  unfold rdR at hq
  unfold rdE at hc
  by_cases hn : n < -60 ∨ 60 < n
  · rw [if_pos hn] at hq hc
    subst hq hc
    rw [rz.1, rz.2.1, rz.2.2]
    clear HS ha hd
    rcases hn with h | h
    · go_enter Tryz.func60, Tryz.ntmps60
      go_wp2_with fail
      refine bodyPost_ret (v := .tuple #[.agg #[.bool false, .string ⟨#[]⟩, .string ⟨#[]⟩], .int .i64 2]) (by simp [results, Tryz.results60, go_sem]) rfl ⟨rfl, ?_⟩
      exact ((Below.refl _ _).alloc (Nat.le_refl _) _).alloc (by simp) _
    · have h2 : ¬ n < -60 := by omega
      go_enter Tryz.func60, Tryz.ntmps60
      go_wp2_with fail
      refine bodyPost_ret (v := .tuple #[.agg #[.bool false, .string ⟨#[]⟩, .string ⟨#[]⟩], .int .i64 2]) (by simp [results, Tryz.results60, go_sem]) rfl ⟨rfl, ?_⟩
      exact ((Below.refl _ _).alloc (Nat.le_refl _) _).alloc (by simp) _
  rw [if_neg hn] at hq hc
  have hn1 : ¬ n < -60 := by omega
  have hn2 : ¬ 60 < n := by omega
  have hneg : -9223372036854775808 ≤ n ∧ n ≤ 9223372036854775807 := by omega
  have hok := wl_ok neg a d
  have hT := fun w => refTop_g neg a d w ha hd
  have hL := fun w => refLow_g neg a d w ha hd
  have hS := fun w => refSign5_any neg a d _ w ha hd rfl
  have sx := top_size neg a d
  have sy := low_size neg a d
  have hy0 := low_pos neg a d
  have hxa := topI_abs (wl neg a d)
  have hlw : lowI (wl neg a d) = ((wl neg a d).den : Int) := rfl
  have hxn := topI_neg hok
  have hx2 : rdX P (wl neg a d) n = sI (wl neg a d).neg (rdS P (wl neg a d) n * tenN (-n)) := rfl
  have hS2 : rdS P (wl neg a d) n = (wl neg a d).num * tenN n / ((wl neg a d).den * tenN (-n)) + if P ((wl neg a d).num * tenN n % ((wl neg a d).den * tenN (-n))) ((wl neg a d).den * tenN (-n)) then 1 else 0 := rfl
  have hd0 := hok.1
  generalize topI (wl neg a d) = x at *
  generalize lowI (wl neg a d) = y at *
  generalize (wl neg a d).num = N at *
  generalize (wl neg a d).den = D at *
  generalize (wl neg a d).neg = ng at *
  generalize rdX P (wl neg a d) n = X at *
  generalize rdS P (wl neg a d) n = SS at *
  clear hok
  have hpw := fun w => refPow_any ⟨#[10]⟩ (max n (-n)) w (by decide) (by omega)
  rw [show Nt.V (⟨#[10]⟩ : ByteArray) = 10 from by decide, powOut, if_neg (by omega), tenN_abs] at hpw
  have hmA := fun w => refMake_z false (zt x) (x.natAbs : Int) w (by rw [V_zt]; rfl)
  have sA : (zt (x.natAbs : Int)).size ≤ 32 := by rw [zt_cast]; exact sx
  have hOne := Lib.hid refOne_any
  have F1 := fW1 (zb x) (zt x)
  have hsg : cmpI' x 0 < 0 ↔ x < 0 := by unfold cmpI'; split <;> (first | omega | (split <;> omega))
  rw [hxa] at hmA sA
  by_cases h0 : 0 ≤ n
  · rw [if_pos h0, if_neg (by have := tenN_size (n := n) (by omega); omega)] at hpw
    rw [tenN_neg (n := -n) (by omega), Nat.mul_one] at hx2
    rw [tenN_neg (n := -n) (by omega), Nat.mul_one] at hS2
    have sT := tenN_size (n := n) (by omega)
    have hmT := fun w => refMake_z false (Nt.E (tenN n)) (tenN n : Int) w (by rw [Nt.V_E]; rfl)
    have sT2 : (zt (tenN n : Int)).size ≤ 60 := by rw [zt_cast]; exact sT
    have hml := fun w => refMul_zz (N : Int) (tenN n : Int) ((N * tenN n : Nat) : Int) w (by omega) (by omega) (by simp)
    have sM : (zt ((N * tenN n : Nat) : Int)).size ≤ 92 := by
      have := zt_mul_size (N : Int) (tenN n : Int)
      rw [← Int.natCast_mul] at this; omega
    have hst := fun w => HS ((N * tenN n : Nat) : Int) y (SS : Int) w (by omega) (by omega) (by omega) hy0 (by rw [hlw, stepI_nat P _ _ hd0, hS2])
    have sS : (zt (SS : Int)).size ≤ 93 := by
      rw [zt_cast, hS2]
      have h1 : (Nt.E (N * tenN n / D)).size ≤ 92 := Nat.le_trans (Nt.E_size_le (Nat.div_le_self _ _)) (by rw [zt_cast] at sM; exact sM)
      split
      · exact E_add_size h1 (by decide)
      · simpa using Nat.le_trans h1 (by omega)
    generalize Nt.E (tenN n) = tT at *
    have hng := fun w => refNeg_z (zb (SS : Int)) (zt (SS : Int)) (-(SS : Int)) w (by rw [sI_z])
    have hmk : ∀ (z : Int) (w : World), z = X → Calls Tryz.prog 44 #[.agg #[.bool (zb z), .string (zt z)], .agg #[.bool (zb ((tenN n : Int))), .string (zt ((tenN n : Int)))]] w fun e w' => e = .returned (.tuple #[.agg #[.bool (rb q), .string (rn q), .string (rd q)], .int .i64 c]) ∧ Below w.heap.size w w' := fun z w hz =>
      refMake5_any (zb z) (zb (tenN n : Int)) (zt z) (zt (tenN n : Int)) q c w (by rw [hz, hx2]; unfold zt; rw [sI_abs]; rw [zt_cast] at sS; omega) (by omega) (by rw [sI_z, sI_z, hz, hq]) (by rw [sI_z, sI_z, hz, hc])
    generalize ((N * tenN n : Nat) : Int) = M at *
    generalize (tenN n : Int) = T at *
    generalize (N : Int) = NN at *
    have HPW := Lib.hid hpw
    have HMT := Lib.hid hmT
    have HTop := Lib.hid hT
    have HMA := Lib.hid hmA
    have HLow := Lib.hid hL
    have HML := Lib.hid hml
    have HST := Lib.hid hst
    have HSG := Lib.hid hS
    by_cases hx : x < 0
    · have hX : -(SS : Int) = X := by rw [hx2, hxn.1 hx]; rfl
      rw [hX] at hng
      have hc0 := hsg.2 hx
      generalize cmpI' x 0 = sg at *
      have HK := Lib.hid (fun w => hmk X w rfl)
      have HNG := Lib.hid hng
      generalize (SS : Int) = S' at *
      clear HS hpw hmT hT hmA hL hml hst hS hng hmk ha hd hq hc hn sx sy hy0 hxa hlw hxn hx2 hS2 hd0 sA sT sT2 sM sS hsg hx hX
      go_enter Tryz.func60, Tryz.ntmps60
      go_wp2_with fail
      obtain ⟨s1, hws⟩ : ∃ s, s = ((w.alloc (.cells #[.bool neg, .string a, .string d] 23)).alloc (.cells #[.bool false, .string ⟨#[]⟩, .string ⟨#[]⟩] 23)) := ⟨_, rfl⟩
      have hBs : Below w.heap.size w s1 := by rw [hws]; exact (((Below.refl w.heap.size w).alloc (by simp) _).alloc (by simp) _)
      obtain ⟨A, hdA⟩ : ∃ b, b = w.heap.size := ⟨_, rfl⟩
      obtain ⟨C, hdC⟩ : ∃ b, b = w.heap.size + 1 := ⟨_, rfl⟩
      have hsz : s1.heap.size = w.heap.size + 1 + 1 := by rw [hws]; simp
      have dCA : C ≠ A := by omega
      have kA0 : s1.cell? ⟨A, 0, none⟩ = some (.bool neg) := by rw [hws]; simp [go_sem, hdA, hdC]
      have kA1 : s1.cell? ⟨A, 1, none⟩ = some (.string a) := by rw [hws]; simp [go_sem, hdA, hdC]
      have kA2 : s1.cell? ⟨A, 2, none⟩ = some (.string d) := by rw [hws]; simp [go_sem, hdA, hdC]
      have zA : A < s1.heap.size := by omega
      have lA : w.heap.size ≤ A := by have := Nat.le_refl w.heap.size; omega
      have kC0 : s1.cell? ⟨C, 0, none⟩ = some (.bool false) := by rw [hws]; simp [go_sem, hdA, hdC]
      have fC0 : s1.frozen? ⟨C, 0, none⟩ = false := by rw [hws]; simp [go_sem, hdA, hdC]
      have kC1 : s1.cell? ⟨C, 1, none⟩ = some (.string ⟨#[]⟩) := by rw [hws]; simp [go_sem, hdA, hdC]
      have fC1 : s1.frozen? ⟨C, 1, none⟩ = false := by rw [hws]; simp [go_sem, hdA, hdC]
      have kC2 : s1.cell? ⟨C, 2, none⟩ = some (.string ⟨#[]⟩) := by rw [hws]; simp [go_sem, hdA, hdC]
      have fC2 : s1.frozen? ⟨C, 2, none⟩ = false := by rw [hws]; simp [go_sem, hdA, hdC]
      have zC : C < s1.heap.size := by omega
      have lC : w.heap.size ≤ C := by have := Nat.le_refl w.heap.size; omega
      rw [← hws]
      try rw [← hdC]
      try rw [← hdA]
      clear hws hsz hdA hdC
      have hBo := hBs; clear hBs
      refine (HPW.out _).mono ?_; rintro e s2 ⟨rfl, hb⟩
      replace kA0 := belK hb kA0 zA; replace kA1 := belK hb kA1 zA; replace kA2 := belK hb kA2 zA; replace zA := Nat.lt_of_lt_of_le zA hb.size
      replace kC0 := belK hb kC0 zC; replace fC0 := belF hb fC0 zC; replace kC1 := belK hb kC1 zC; replace fC1 := belF hb fC1 zC; replace kC2 := belK hb kC2 zC; replace fC2 := belF hb fC2 zC; replace zC := Nat.lt_of_lt_of_le zC hb.size
      replace hBo := hBo.trans (hb.mono hBo.size)
      clear hb
      go_wp2_with fail
      refine (HMT.out _).mono ?_; rintro e s3 ⟨rfl, hb⟩
      replace kA0 := belK hb kA0 zA; replace kA1 := belK hb kA1 zA; replace kA2 := belK hb kA2 zA; replace zA := Nat.lt_of_lt_of_le zA hb.size
      replace kC0 := belK hb kC0 zC; replace fC0 := belF hb fC0 zC; replace kC1 := belK hb kC1 zC; replace fC1 := belF hb fC1 zC; replace kC2 := belK hb kC2 zC; replace fC2 := belF hb fC2 zC; replace zC := Nat.lt_of_lt_of_le zC hb.size
      replace hBo := hBo.trans (hb.mono hBo.size)
      clear hb
      go_wp2_with fail
      obtain ⟨s4, hws⟩ : ∃ s, s = (s3.alloc (.cells #[.bool (zb T), .string (zt T)] 44)) := ⟨_, rfl⟩
      have hBs : Below w.heap.size w s4 := by rw [hws]; exact ((hBo).alloc (by exact hBo.size) _)
      obtain ⟨E, hdE⟩ : ∃ b, b = s3.heap.size := ⟨_, rfl⟩
      have hsz : s4.heap.size = s3.heap.size + 1 := by rw [hws]; simp
      have dCE : C ≠ E := by omega
      have hQC : ∀ p v, s3.cell? p = some v → s4.cell? p = some v := fun p v h => by rw [hws]; exact (alK h)
      have hQZ : ∀ b, b < s3.heap.size → b < s4.heap.size := fun b h => by omega
      have hQF : ∀ b j, b < s3.heap.size → s3.frozen? ⟨b, j, none⟩ = false → s4.frozen? ⟨b, j, none⟩ = false := fun b j z h => by rw [hws]; exact (alF z h)
      replace kA0 := hQC _ _ kA0; replace kA1 := hQC _ _ kA1; replace kA2 := hQC _ _ kA2; replace zA := hQZ _ zA
      replace kC0 := hQC _ _ kC0; replace fC0 := hQF _ _ zC fC0; replace kC1 := hQC _ _ kC1; replace fC1 := hQF _ _ zC fC1; replace kC2 := hQC _ _ kC2; replace fC2 := hQF _ _ zC fC2; replace zC := hQZ _ zC
      clear hQC hQZ hQF
      have kE0 : s4.cell? ⟨E, 0, none⟩ = some (.bool (zb T)) := by rw [hws]; simp [go_sem, hdE]
      have kE1 : s4.cell? ⟨E, 1, none⟩ = some (.string (zt T)) := by rw [hws]; simp [go_sem, hdE]
      have zE : E < s4.heap.size := by omega
      have lE : w.heap.size ≤ E := by have := hBo.size; omega
      rw [← hws]
      try rw [← hdE]
      clear hBo
      clear hws hsz hdE
      have hBo := hBs; clear hBs
      refine (HTop.out _).mono ?_; rintro e s5 ⟨rfl, hb⟩
      replace kA0 := belK hb kA0 zA; replace kA1 := belK hb kA1 zA; replace kA2 := belK hb kA2 zA; replace zA := Nat.lt_of_lt_of_le zA hb.size
      replace kC0 := belK hb kC0 zC; replace fC0 := belF hb fC0 zC; replace kC1 := belK hb kC1 zC; replace fC1 := belF hb fC1 zC; replace kC2 := belK hb kC2 zC; replace fC2 := belF hb fC2 zC; replace zC := Nat.lt_of_lt_of_le zC hb.size
      replace kE0 := belK hb kE0 zE; replace kE1 := belK hb kE1 zE; replace zE := Nat.lt_of_lt_of_le zE hb.size
      replace hBo := hBo.trans (hb.mono hBo.size)
      clear hb
      go_wp2_with fail
      refine (HMA.out _).mono ?_; rintro e s6 ⟨rfl, hb⟩
      replace kA0 := belK hb kA0 zA; replace kA1 := belK hb kA1 zA; replace kA2 := belK hb kA2 zA; replace zA := Nat.lt_of_lt_of_le zA hb.size
      replace kC0 := belK hb kC0 zC; replace fC0 := belF hb fC0 zC; replace kC1 := belK hb kC1 zC; replace fC1 := belF hb fC1 zC; replace kC2 := belK hb kC2 zC; replace fC2 := belF hb fC2 zC; replace zC := Nat.lt_of_lt_of_le zC hb.size
      replace kE0 := belK hb kE0 zE; replace kE1 := belK hb kE1 zE; replace zE := Nat.lt_of_lt_of_le zE hb.size
      replace hBo := hBo.trans (hb.mono hBo.size)
      clear hb
      go_wp2_with fail
      obtain ⟨s7, hws⟩ : ∃ s, s = (s6.alloc (.cells #[.bool (zb NN), .string (zt NN)] 44)) := ⟨_, rfl⟩
      have hBs : Below w.heap.size w s7 := by rw [hws]; exact ((hBo).alloc (by exact hBo.size) _)
      obtain ⟨O, hdO⟩ : ∃ b, b = s6.heap.size := ⟨_, rfl⟩
      have hsz : s7.heap.size = s6.heap.size + 1 := by rw [hws]; simp
      have dCO : C ≠ O := by omega
      have dOA : O ≠ A := by omega
      have dOC : O ≠ C := by omega
      have dOE : O ≠ E := by omega
      have hQC : ∀ p v, s6.cell? p = some v → s7.cell? p = some v := fun p v h => by rw [hws]; exact (alK h)
      have hQZ : ∀ b, b < s6.heap.size → b < s7.heap.size := fun b h => by omega
      have hQF : ∀ b j, b < s6.heap.size → s6.frozen? ⟨b, j, none⟩ = false → s7.frozen? ⟨b, j, none⟩ = false := fun b j z h => by rw [hws]; exact (alF z h)
      replace kA0 := hQC _ _ kA0; replace kA1 := hQC _ _ kA1; replace kA2 := hQC _ _ kA2; replace zA := hQZ _ zA
      replace kC0 := hQC _ _ kC0; replace fC0 := hQF _ _ zC fC0; replace kC1 := hQC _ _ kC1; replace fC1 := hQF _ _ zC fC1; replace kC2 := hQC _ _ kC2; replace fC2 := hQF _ _ zC fC2; replace zC := hQZ _ zC
      replace kE0 := hQC _ _ kE0; replace kE1 := hQC _ _ kE1; replace zE := hQZ _ zE
      clear hQC hQZ hQF
      have kO0 : s7.cell? ⟨O, 0, none⟩ = some (.bool (zb NN)) := by rw [hws]; simp [go_sem, hdO]
      have fO0 : s7.frozen? ⟨O, 0, none⟩ = false := by rw [hws]; simp [go_sem, hdO]
      have kO1 : s7.cell? ⟨O, 1, none⟩ = some (.string (zt NN)) := by rw [hws]; simp [go_sem, hdO]
      have fO1 : s7.frozen? ⟨O, 1, none⟩ = false := by rw [hws]; simp [go_sem, hdO]
      have zO : O < s7.heap.size := by omega
      have lO : w.heap.size ≤ O := by have := hBo.size; omega
      rw [← hws]
      try rw [← hdO]
      clear hBo
      clear hws hsz hdO
      have hBo := hBs; clear hBs
      refine (HLow.out _).mono ?_; rintro e s8 ⟨rfl, hb⟩
      replace kA0 := belK hb kA0 zA; replace kA1 := belK hb kA1 zA; replace kA2 := belK hb kA2 zA; replace zA := Nat.lt_of_lt_of_le zA hb.size
      replace kC0 := belK hb kC0 zC; replace fC0 := belF hb fC0 zC; replace kC1 := belK hb kC1 zC; replace fC1 := belF hb fC1 zC; replace kC2 := belK hb kC2 zC; replace fC2 := belF hb fC2 zC; replace zC := Nat.lt_of_lt_of_le zC hb.size
      replace kE0 := belK hb kE0 zE; replace kE1 := belK hb kE1 zE; replace zE := Nat.lt_of_lt_of_le zE hb.size
      replace kO0 := belK hb kO0 zO; replace fO0 := belF hb fO0 zO; replace kO1 := belK hb kO1 zO; replace fO1 := belF hb fO1 zO; replace zO := Nat.lt_of_lt_of_le zO hb.size
      replace hBo := hBo.trans (hb.mono hBo.size)
      clear hb
      go_wp2_with fail
      obtain ⟨s9, hws⟩ : ∃ s, s = (s8.alloc (.cells #[.bool (zb y), .string (zt y)] 44)) := ⟨_, rfl⟩
      have hBs : Below w.heap.size w s9 := by rw [hws]; exact ((hBo).alloc (by exact hBo.size) _)
      obtain ⟨U, hdU⟩ : ∃ b, b = s8.heap.size := ⟨_, rfl⟩
      have hsz : s9.heap.size = s8.heap.size + 1 := by rw [hws]; simp
      have dCU : C ≠ U := by omega
      have dOU : O ≠ U := by omega
      have hQC : ∀ p v, s8.cell? p = some v → s9.cell? p = some v := fun p v h => by rw [hws]; exact (alK h)
      have hQZ : ∀ b, b < s8.heap.size → b < s9.heap.size := fun b h => by omega
      have hQF : ∀ b j, b < s8.heap.size → s8.frozen? ⟨b, j, none⟩ = false → s9.frozen? ⟨b, j, none⟩ = false := fun b j z h => by rw [hws]; exact (alF z h)
      replace kA0 := hQC _ _ kA0; replace kA1 := hQC _ _ kA1; replace kA2 := hQC _ _ kA2; replace zA := hQZ _ zA
      replace kC0 := hQC _ _ kC0; replace fC0 := hQF _ _ zC fC0; replace kC1 := hQC _ _ kC1; replace fC1 := hQF _ _ zC fC1; replace kC2 := hQC _ _ kC2; replace fC2 := hQF _ _ zC fC2; replace zC := hQZ _ zC
      replace kE0 := hQC _ _ kE0; replace kE1 := hQC _ _ kE1; replace zE := hQZ _ zE
      replace kO0 := hQC _ _ kO0; replace fO0 := hQF _ _ zO fO0; replace kO1 := hQC _ _ kO1; replace fO1 := hQF _ _ zO fO1; replace zO := hQZ _ zO
      clear hQC hQZ hQF
      have kU0 : s9.cell? ⟨U, 0, none⟩ = some (.bool (zb y)) := by rw [hws]; simp [go_sem, hdU]
      have kU1 : s9.cell? ⟨U, 1, none⟩ = some (.string (zt y)) := by rw [hws]; simp [go_sem, hdU]
      have zU : U < s9.heap.size := by omega
      have lU : w.heap.size ≤ U := by have := hBo.size; omega
      rw [← hws]
      try rw [← hdU]
      clear hBo
      clear hws hsz hdU
      have hBo := hBs; clear hBs
      refine (HML.out _).mono ?_; rintro e s10 ⟨rfl, hb⟩
      replace kA0 := belK hb kA0 zA; replace kA1 := belK hb kA1 zA; replace kA2 := belK hb kA2 zA; replace zA := Nat.lt_of_lt_of_le zA hb.size
      replace kC0 := belK hb kC0 zC; replace fC0 := belF hb fC0 zC; replace kC1 := belK hb kC1 zC; replace fC1 := belF hb fC1 zC; replace kC2 := belK hb kC2 zC; replace fC2 := belF hb fC2 zC; replace zC := Nat.lt_of_lt_of_le zC hb.size
      replace kE0 := belK hb kE0 zE; replace kE1 := belK hb kE1 zE; replace zE := Nat.lt_of_lt_of_le zE hb.size
      replace kO0 := belK hb kO0 zO; replace fO0 := belF hb fO0 zO; replace kO1 := belK hb kO1 zO; replace fO1 := belF hb fO1 zO; replace zO := Nat.lt_of_lt_of_le zO hb.size
      replace kU0 := belK hb kU0 zU; replace kU1 := belK hb kU1 zU; replace zU := Nat.lt_of_lt_of_le zU hb.size
      replace hBo := hBo.trans (hb.mono hBo.size)
      clear hb
      go_wp2_with fail
      obtain ⟨s11, hws⟩ : ∃ s, s = ((s10.setCell ⟨O, 0, none⟩ (.bool (zb M))).setCell ⟨O, 1, none⟩ (.string (zt M))) := ⟨_, rfl⟩
      have hBs : Below w.heap.size w s11 := by rw [hws]; exact (((hBo).setCell lO _).setCell lO _)
      have hsz : s11.heap.size = s10.heap.size := by rw [hws]; simp
      have hQC : ∀ b j v, s10.cell? ⟨b, j, none⟩ = some v → O ≠ b → s11.cell? ⟨b, j, none⟩ = some v := fun b j v h dO => by rw [hws]; exact (stK (stK h dO) dO)
      replace kA0 := hQC _ _ _ kA0 dOA; replace kA1 := hQC _ _ _ kA1 dOA; replace kA2 := hQC _ _ _ kA2 dOA
      replace kC0 := hQC _ _ _ kC0 dOC; replace kC1 := hQC _ _ _ kC1 dOC; replace kC2 := hQC _ _ _ kC2 dOC
      replace kE0 := hQC _ _ _ kE0 dOE; replace kE1 := hQC _ _ _ kE1 dOE
      replace kU0 := hQC _ _ _ kU0 dOU; replace kU1 := hQC _ _ _ kU1 dOU
      clear hQC
      have kO0_ : s11.cell? ⟨O, 0, none⟩ = some (.bool (zb M)) := by rw [hws]; simp [go_sem, kO0, kO1, fO0, fO1]
      have kO1_ : s11.cell? ⟨O, 1, none⟩ = some (.string (zt M)) := by rw [hws]; simp [go_sem, kO0, kO1, fO0, fO1]
      replace kO0 := kO0_; clear kO0_; replace kO1 := kO1_; clear kO1_
      have hQF : ∀ p, s11.frozen? p = s10.frozen? p := fun p => by rw [hws]; simp [go_sem]
      replace fC0 := (hQF _).trans fC0; replace fC1 := (hQF _).trans fC1; replace fC2 := (hQF _).trans fC2
      replace fO0 := (hQF _).trans fO0; replace fO1 := (hQF _).trans fO1
      clear hQF
      replace zA : A < s11.heap.size := by omega
      replace zC : C < s11.heap.size := by omega
      replace zE : E < s11.heap.size := by omega
      replace zO : O < s11.heap.size := by omega
      replace zU : U < s11.heap.size := by omega
      rw [← hws]
      clear hBo hws hsz
      have hBo := hBs; clear hBs
      refine (HST.out _).mono ?_; rintro e s12 ⟨rfl, hb⟩
      replace kA0 := belK hb kA0 zA; replace kA1 := belK hb kA1 zA; replace kA2 := belK hb kA2 zA; replace zA := Nat.lt_of_lt_of_le zA hb.size
      replace kC0 := belK hb kC0 zC; replace fC0 := belF hb fC0 zC; replace kC1 := belK hb kC1 zC; replace fC1 := belF hb fC1 zC; replace kC2 := belK hb kC2 zC; replace fC2 := belF hb fC2 zC; replace zC := Nat.lt_of_lt_of_le zC hb.size
      replace kE0 := belK hb kE0 zE; replace kE1 := belK hb kE1 zE; replace zE := Nat.lt_of_lt_of_le zE hb.size
      replace kO0 := belK hb kO0 zO; replace fO0 := belF hb fO0 zO; replace kO1 := belK hb kO1 zO; replace fO1 := belF hb fO1 zO; replace zO := Nat.lt_of_lt_of_le zO hb.size
      replace kU0 := belK hb kU0 zU; replace kU1 := belK hb kU1 zU; replace zU := Nat.lt_of_lt_of_le zU hb.size
      replace hBo := hBo.trans (hb.mono hBo.size)
      clear hb
      go_wp2_with fail
      obtain ⟨s13, hws⟩ : ∃ s, s = (s12.alloc (.cells #[.bool (zb S'), .string (zt S')] 44)) := ⟨_, rfl⟩
      have hBs : Below w.heap.size w s13 := by rw [hws]; exact ((hBo).alloc (by exact hBo.size) _)
      obtain ⟨V, hdV⟩ : ∃ b, b = s12.heap.size := ⟨_, rfl⟩
      have hsz : s13.heap.size = s12.heap.size + 1 := by rw [hws]; simp
      have dCV : C ≠ V := by omega
      have dOV : O ≠ V := by omega
      have dVA : V ≠ A := by omega
      have dVC : V ≠ C := by omega
      have dVE : V ≠ E := by omega
      have dVO : V ≠ O := by omega
      have dVU : V ≠ U := by omega
      have hQC : ∀ p v, s12.cell? p = some v → s13.cell? p = some v := fun p v h => by rw [hws]; exact (alK h)
      have hQZ : ∀ b, b < s12.heap.size → b < s13.heap.size := fun b h => by omega
      have hQF : ∀ b j, b < s12.heap.size → s12.frozen? ⟨b, j, none⟩ = false → s13.frozen? ⟨b, j, none⟩ = false := fun b j z h => by rw [hws]; exact (alF z h)
      replace kA0 := hQC _ _ kA0; replace kA1 := hQC _ _ kA1; replace kA2 := hQC _ _ kA2; replace zA := hQZ _ zA
      replace kC0 := hQC _ _ kC0; replace fC0 := hQF _ _ zC fC0; replace kC1 := hQC _ _ kC1; replace fC1 := hQF _ _ zC fC1; replace kC2 := hQC _ _ kC2; replace fC2 := hQF _ _ zC fC2; replace zC := hQZ _ zC
      replace kE0 := hQC _ _ kE0; replace kE1 := hQC _ _ kE1; replace zE := hQZ _ zE
      replace kO0 := hQC _ _ kO0; replace fO0 := hQF _ _ zO fO0; replace kO1 := hQC _ _ kO1; replace fO1 := hQF _ _ zO fO1; replace zO := hQZ _ zO
      replace kU0 := hQC _ _ kU0; replace kU1 := hQC _ _ kU1; replace zU := hQZ _ zU
      clear hQC hQZ hQF
      have kV0 : s13.cell? ⟨V, 0, none⟩ = some (.bool (zb S')) := by rw [hws]; simp [go_sem, hdV]
      have fV0 : s13.frozen? ⟨V, 0, none⟩ = false := by rw [hws]; simp [go_sem, hdV]
      have kV1 : s13.cell? ⟨V, 1, none⟩ = some (.string (zt S')) := by rw [hws]; simp [go_sem, hdV]
      have fV1 : s13.frozen? ⟨V, 1, none⟩ = false := by rw [hws]; simp [go_sem, hdV]
      have zV : V < s13.heap.size := by omega
      have lV : w.heap.size ≤ V := by have := hBo.size; omega
      rw [← hws]
      try rw [← hdV]
      clear hBo
      clear hws hsz hdV
      have hBo := hBs; clear hBs
      refine (HSG.out _).mono ?_; rintro e s14 ⟨rfl, hb⟩
      replace kA0 := belK hb kA0 zA; replace kA1 := belK hb kA1 zA; replace kA2 := belK hb kA2 zA; replace zA := Nat.lt_of_lt_of_le zA hb.size
      replace kC0 := belK hb kC0 zC; replace fC0 := belF hb fC0 zC; replace kC1 := belK hb kC1 zC; replace fC1 := belF hb fC1 zC; replace kC2 := belK hb kC2 zC; replace fC2 := belF hb fC2 zC; replace zC := Nat.lt_of_lt_of_le zC hb.size
      replace kE0 := belK hb kE0 zE; replace kE1 := belK hb kE1 zE; replace zE := Nat.lt_of_lt_of_le zE hb.size
      replace kO0 := belK hb kO0 zO; replace fO0 := belF hb fO0 zO; replace kO1 := belK hb kO1 zO; replace fO1 := belF hb fO1 zO; replace zO := Nat.lt_of_lt_of_le zO hb.size
      replace kU0 := belK hb kU0 zU; replace kU1 := belK hb kU1 zU; replace zU := Nat.lt_of_lt_of_le zU hb.size
      replace kV0 := belK hb kV0 zV; replace fV0 := belF hb fV0 zV; replace kV1 := belK hb kV1 zV; replace fV1 := belF hb fV1 zV; replace zV := Nat.lt_of_lt_of_le zV hb.size
      replace hBo := hBo.trans (hb.mono hBo.size)
      clear hb
      go_wp2_with fail
      refine (HNG.out _).mono ?_; rintro e s15 ⟨rfl, hb⟩
      replace kA0 := belK hb kA0 zA; replace kA1 := belK hb kA1 zA; replace kA2 := belK hb kA2 zA; replace zA := Nat.lt_of_lt_of_le zA hb.size
      replace kC0 := belK hb kC0 zC; replace fC0 := belF hb fC0 zC; replace kC1 := belK hb kC1 zC; replace fC1 := belF hb fC1 zC; replace kC2 := belK hb kC2 zC; replace fC2 := belF hb fC2 zC; replace zC := Nat.lt_of_lt_of_le zC hb.size
      replace kE0 := belK hb kE0 zE; replace kE1 := belK hb kE1 zE; replace zE := Nat.lt_of_lt_of_le zE hb.size
      replace kO0 := belK hb kO0 zO; replace fO0 := belF hb fO0 zO; replace kO1 := belK hb kO1 zO; replace fO1 := belF hb fO1 zO; replace zO := Nat.lt_of_lt_of_le zO hb.size
      replace kU0 := belK hb kU0 zU; replace kU1 := belK hb kU1 zU; replace zU := Nat.lt_of_lt_of_le zU hb.size
      replace kV0 := belK hb kV0 zV; replace fV0 := belF hb fV0 zV; replace kV1 := belK hb kV1 zV; replace fV1 := belF hb fV1 zV; replace zV := Nat.lt_of_lt_of_le zV hb.size
      replace hBo := hBo.trans (hb.mono hBo.size)
      clear hb
      go_wp2_with fail
      obtain ⟨s16, hws⟩ : ∃ s, s = ((s15.setCell ⟨V, 0, none⟩ (.bool (zb X))).setCell ⟨V, 1, none⟩ (.string (zt X))) := ⟨_, rfl⟩
      have hBs : Below w.heap.size w s16 := by rw [hws]; exact (((hBo).setCell lV _).setCell lV _)
      have hsz : s16.heap.size = s15.heap.size := by rw [hws]; simp
      have hQC : ∀ b j v, s15.cell? ⟨b, j, none⟩ = some v → V ≠ b → s16.cell? ⟨b, j, none⟩ = some v := fun b j v h dV => by rw [hws]; exact (stK (stK h dV) dV)
      replace kA0 := hQC _ _ _ kA0 dVA; replace kA1 := hQC _ _ _ kA1 dVA; replace kA2 := hQC _ _ _ kA2 dVA
      replace kC0 := hQC _ _ _ kC0 dVC; replace kC1 := hQC _ _ _ kC1 dVC; replace kC2 := hQC _ _ _ kC2 dVC
      replace kE0 := hQC _ _ _ kE0 dVE; replace kE1 := hQC _ _ _ kE1 dVE
      replace kO0 := hQC _ _ _ kO0 dVO; replace kO1 := hQC _ _ _ kO1 dVO
      replace kU0 := hQC _ _ _ kU0 dVU; replace kU1 := hQC _ _ _ kU1 dVU
      clear hQC
      have kV0_ : s16.cell? ⟨V, 0, none⟩ = some (.bool (zb X)) := by rw [hws]; simp [go_sem, kV0, kV1, fV0, fV1]
      have kV1_ : s16.cell? ⟨V, 1, none⟩ = some (.string (zt X)) := by rw [hws]; simp [go_sem, kV0, kV1, fV0, fV1]
      replace kV0 := kV0_; clear kV0_; replace kV1 := kV1_; clear kV1_
      have hQF : ∀ p, s16.frozen? p = s15.frozen? p := fun p => by rw [hws]; simp [go_sem]
      replace fC0 := (hQF _).trans fC0; replace fC1 := (hQF _).trans fC1; replace fC2 := (hQF _).trans fC2
      replace fO0 := (hQF _).trans fO0; replace fO1 := (hQF _).trans fO1
      replace fV0 := (hQF _).trans fV0; replace fV1 := (hQF _).trans fV1
      clear hQF
      replace zA : A < s16.heap.size := by omega
      replace zC : C < s16.heap.size := by omega
      replace zE : E < s16.heap.size := by omega
      replace zO : O < s16.heap.size := by omega
      replace zU : U < s16.heap.size := by omega
      replace zV : V < s16.heap.size := by omega
      rw [← hws]
      clear hBo hws hsz
      have hBo := hBs; clear hBs
      refine (HK.out _).mono ?_; rintro e s17 ⟨rfl, hb⟩
      replace kA0 := belK hb kA0 zA; replace kA1 := belK hb kA1 zA; replace kA2 := belK hb kA2 zA; replace zA := Nat.lt_of_lt_of_le zA hb.size
      replace kC0 := belK hb kC0 zC; replace fC0 := belF hb fC0 zC; replace kC1 := belK hb kC1 zC; replace fC1 := belF hb fC1 zC; replace kC2 := belK hb kC2 zC; replace fC2 := belF hb fC2 zC; replace zC := Nat.lt_of_lt_of_le zC hb.size
      replace kE0 := belK hb kE0 zE; replace kE1 := belK hb kE1 zE; replace zE := Nat.lt_of_lt_of_le zE hb.size
      replace kO0 := belK hb kO0 zO; replace fO0 := belF hb fO0 zO; replace kO1 := belK hb kO1 zO; replace fO1 := belF hb fO1 zO; replace zO := Nat.lt_of_lt_of_le zO hb.size
      replace kU0 := belK hb kU0 zU; replace kU1 := belK hb kU1 zU; replace zU := Nat.lt_of_lt_of_le zU hb.size
      replace kV0 := belK hb kV0 zV; replace fV0 := belF hb fV0 zV; replace kV1 := belK hb kV1 zV; replace fV1 := belF hb fV1 zV; replace zV := Nat.lt_of_lt_of_le zV hb.size
      replace hBo := hBo.trans (hb.mono hBo.size)
      clear hb
      all_goals go_wp2_with fail
      all_goals refine bodyPost_ret (v := .tuple #[.agg #[.bool (rb q), .string (rn q), .string (rd q)], .int .i64 c]) (by simp [results, Tryz.results60, go_sem, kC0, kC1, kC2, zC]) rfl ⟨rfl, ?_⟩
      all_goals exact (((hBo.setCell lC _).setCell lC _).setCell lC _)
    · have hX : (SS : Int) = X := by
        rw [hx2, show ng = false from by cases hb : ng with | false => rfl | true => exact absurd (hxn.2 hb) hx]; rfl
      have hc0 : ¬ cmpI' x 0 < 0 := fun h => hx (hsg.1 h)
      generalize cmpI' x 0 = sg at *
      have HK := Lib.hid (fun w => hmk (SS : Int) w hX)
      generalize (SS : Int) = S' at *
      clear HS hpw hmT hT hmA hL hml hst hS hng hmk ha hd hq hc hn sx sy hy0 hxa hlw hxn hx2 hS2 hd0 sA sT sT2 sM sS hsg hx hX
      go_enter Tryz.func60, Tryz.ntmps60
      go_wp2_with fail
      obtain ⟨s18, hws⟩ : ∃ s, s = ((w.alloc (.cells #[.bool neg, .string a, .string d] 23)).alloc (.cells #[.bool false, .string ⟨#[]⟩, .string ⟨#[]⟩] 23)) := ⟨_, rfl⟩
      have hBs : Below w.heap.size w s18 := by rw [hws]; exact (((Below.refl w.heap.size w).alloc (by simp) _).alloc (by simp) _)
      obtain ⟨A, hdA⟩ : ∃ b, b = w.heap.size := ⟨_, rfl⟩
      obtain ⟨C, hdC⟩ : ∃ b, b = w.heap.size + 1 := ⟨_, rfl⟩
      have hsz : s18.heap.size = w.heap.size + 1 + 1 := by rw [hws]; simp
      have dCA : C ≠ A := by omega
      have kA0 : s18.cell? ⟨A, 0, none⟩ = some (.bool neg) := by rw [hws]; simp [go_sem, hdA, hdC]
      have kA1 : s18.cell? ⟨A, 1, none⟩ = some (.string a) := by rw [hws]; simp [go_sem, hdA, hdC]
      have kA2 : s18.cell? ⟨A, 2, none⟩ = some (.string d) := by rw [hws]; simp [go_sem, hdA, hdC]
      have zA : A < s18.heap.size := by omega
      have lA : w.heap.size ≤ A := by have := Nat.le_refl w.heap.size; omega
      have kC0 : s18.cell? ⟨C, 0, none⟩ = some (.bool false) := by rw [hws]; simp [go_sem, hdA, hdC]
      have fC0 : s18.frozen? ⟨C, 0, none⟩ = false := by rw [hws]; simp [go_sem, hdA, hdC]
      have kC1 : s18.cell? ⟨C, 1, none⟩ = some (.string ⟨#[]⟩) := by rw [hws]; simp [go_sem, hdA, hdC]
      have fC1 : s18.frozen? ⟨C, 1, none⟩ = false := by rw [hws]; simp [go_sem, hdA, hdC]
      have kC2 : s18.cell? ⟨C, 2, none⟩ = some (.string ⟨#[]⟩) := by rw [hws]; simp [go_sem, hdA, hdC]
      have fC2 : s18.frozen? ⟨C, 2, none⟩ = false := by rw [hws]; simp [go_sem, hdA, hdC]
      have zC : C < s18.heap.size := by omega
      have lC : w.heap.size ≤ C := by have := Nat.le_refl w.heap.size; omega
      rw [← hws]
      try rw [← hdC]
      try rw [← hdA]
      clear hws hsz hdA hdC
      have hBo := hBs; clear hBs
      refine (HPW.out _).mono ?_; rintro e s19 ⟨rfl, hb⟩
      replace kA0 := belK hb kA0 zA; replace kA1 := belK hb kA1 zA; replace kA2 := belK hb kA2 zA; replace zA := Nat.lt_of_lt_of_le zA hb.size
      replace kC0 := belK hb kC0 zC; replace fC0 := belF hb fC0 zC; replace kC1 := belK hb kC1 zC; replace fC1 := belF hb fC1 zC; replace kC2 := belK hb kC2 zC; replace fC2 := belF hb fC2 zC; replace zC := Nat.lt_of_lt_of_le zC hb.size
      replace hBo := hBo.trans (hb.mono hBo.size)
      clear hb
      go_wp2_with fail
      refine (HMT.out _).mono ?_; rintro e s20 ⟨rfl, hb⟩
      replace kA0 := belK hb kA0 zA; replace kA1 := belK hb kA1 zA; replace kA2 := belK hb kA2 zA; replace zA := Nat.lt_of_lt_of_le zA hb.size
      replace kC0 := belK hb kC0 zC; replace fC0 := belF hb fC0 zC; replace kC1 := belK hb kC1 zC; replace fC1 := belF hb fC1 zC; replace kC2 := belK hb kC2 zC; replace fC2 := belF hb fC2 zC; replace zC := Nat.lt_of_lt_of_le zC hb.size
      replace hBo := hBo.trans (hb.mono hBo.size)
      clear hb
      go_wp2_with fail
      obtain ⟨s21, hws⟩ : ∃ s, s = (s20.alloc (.cells #[.bool (zb T), .string (zt T)] 44)) := ⟨_, rfl⟩
      have hBs : Below w.heap.size w s21 := by rw [hws]; exact ((hBo).alloc (by exact hBo.size) _)
      obtain ⟨E, hdE⟩ : ∃ b, b = s20.heap.size := ⟨_, rfl⟩
      have hsz : s21.heap.size = s20.heap.size + 1 := by rw [hws]; simp
      have dCE : C ≠ E := by omega
      have hQC : ∀ p v, s20.cell? p = some v → s21.cell? p = some v := fun p v h => by rw [hws]; exact (alK h)
      have hQZ : ∀ b, b < s20.heap.size → b < s21.heap.size := fun b h => by omega
      have hQF : ∀ b j, b < s20.heap.size → s20.frozen? ⟨b, j, none⟩ = false → s21.frozen? ⟨b, j, none⟩ = false := fun b j z h => by rw [hws]; exact (alF z h)
      replace kA0 := hQC _ _ kA0; replace kA1 := hQC _ _ kA1; replace kA2 := hQC _ _ kA2; replace zA := hQZ _ zA
      replace kC0 := hQC _ _ kC0; replace fC0 := hQF _ _ zC fC0; replace kC1 := hQC _ _ kC1; replace fC1 := hQF _ _ zC fC1; replace kC2 := hQC _ _ kC2; replace fC2 := hQF _ _ zC fC2; replace zC := hQZ _ zC
      clear hQC hQZ hQF
      have kE0 : s21.cell? ⟨E, 0, none⟩ = some (.bool (zb T)) := by rw [hws]; simp [go_sem, hdE]
      have kE1 : s21.cell? ⟨E, 1, none⟩ = some (.string (zt T)) := by rw [hws]; simp [go_sem, hdE]
      have zE : E < s21.heap.size := by omega
      have lE : w.heap.size ≤ E := by have := hBo.size; omega
      rw [← hws]
      try rw [← hdE]
      clear hBo
      clear hws hsz hdE
      have hBo := hBs; clear hBs
      refine (HTop.out _).mono ?_; rintro e s22 ⟨rfl, hb⟩
      replace kA0 := belK hb kA0 zA; replace kA1 := belK hb kA1 zA; replace kA2 := belK hb kA2 zA; replace zA := Nat.lt_of_lt_of_le zA hb.size
      replace kC0 := belK hb kC0 zC; replace fC0 := belF hb fC0 zC; replace kC1 := belK hb kC1 zC; replace fC1 := belF hb fC1 zC; replace kC2 := belK hb kC2 zC; replace fC2 := belF hb fC2 zC; replace zC := Nat.lt_of_lt_of_le zC hb.size
      replace kE0 := belK hb kE0 zE; replace kE1 := belK hb kE1 zE; replace zE := Nat.lt_of_lt_of_le zE hb.size
      replace hBo := hBo.trans (hb.mono hBo.size)
      clear hb
      go_wp2_with fail
      refine (HMA.out _).mono ?_; rintro e s23 ⟨rfl, hb⟩
      replace kA0 := belK hb kA0 zA; replace kA1 := belK hb kA1 zA; replace kA2 := belK hb kA2 zA; replace zA := Nat.lt_of_lt_of_le zA hb.size
      replace kC0 := belK hb kC0 zC; replace fC0 := belF hb fC0 zC; replace kC1 := belK hb kC1 zC; replace fC1 := belF hb fC1 zC; replace kC2 := belK hb kC2 zC; replace fC2 := belF hb fC2 zC; replace zC := Nat.lt_of_lt_of_le zC hb.size
      replace kE0 := belK hb kE0 zE; replace kE1 := belK hb kE1 zE; replace zE := Nat.lt_of_lt_of_le zE hb.size
      replace hBo := hBo.trans (hb.mono hBo.size)
      clear hb
      go_wp2_with fail
      obtain ⟨s24, hws⟩ : ∃ s, s = (s23.alloc (.cells #[.bool (zb NN), .string (zt NN)] 44)) := ⟨_, rfl⟩
      have hBs : Below w.heap.size w s24 := by rw [hws]; exact ((hBo).alloc (by exact hBo.size) _)
      obtain ⟨O, hdO⟩ : ∃ b, b = s23.heap.size := ⟨_, rfl⟩
      have hsz : s24.heap.size = s23.heap.size + 1 := by rw [hws]; simp
      have dCO : C ≠ O := by omega
      have dOA : O ≠ A := by omega
      have dOC : O ≠ C := by omega
      have dOE : O ≠ E := by omega
      have hQC : ∀ p v, s23.cell? p = some v → s24.cell? p = some v := fun p v h => by rw [hws]; exact (alK h)
      have hQZ : ∀ b, b < s23.heap.size → b < s24.heap.size := fun b h => by omega
      have hQF : ∀ b j, b < s23.heap.size → s23.frozen? ⟨b, j, none⟩ = false → s24.frozen? ⟨b, j, none⟩ = false := fun b j z h => by rw [hws]; exact (alF z h)
      replace kA0 := hQC _ _ kA0; replace kA1 := hQC _ _ kA1; replace kA2 := hQC _ _ kA2; replace zA := hQZ _ zA
      replace kC0 := hQC _ _ kC0; replace fC0 := hQF _ _ zC fC0; replace kC1 := hQC _ _ kC1; replace fC1 := hQF _ _ zC fC1; replace kC2 := hQC _ _ kC2; replace fC2 := hQF _ _ zC fC2; replace zC := hQZ _ zC
      replace kE0 := hQC _ _ kE0; replace kE1 := hQC _ _ kE1; replace zE := hQZ _ zE
      clear hQC hQZ hQF
      have kO0 : s24.cell? ⟨O, 0, none⟩ = some (.bool (zb NN)) := by rw [hws]; simp [go_sem, hdO]
      have fO0 : s24.frozen? ⟨O, 0, none⟩ = false := by rw [hws]; simp [go_sem, hdO]
      have kO1 : s24.cell? ⟨O, 1, none⟩ = some (.string (zt NN)) := by rw [hws]; simp [go_sem, hdO]
      have fO1 : s24.frozen? ⟨O, 1, none⟩ = false := by rw [hws]; simp [go_sem, hdO]
      have zO : O < s24.heap.size := by omega
      have lO : w.heap.size ≤ O := by have := hBo.size; omega
      rw [← hws]
      try rw [← hdO]
      clear hBo
      clear hws hsz hdO
      have hBo := hBs; clear hBs
      refine (HLow.out _).mono ?_; rintro e s25 ⟨rfl, hb⟩
      replace kA0 := belK hb kA0 zA; replace kA1 := belK hb kA1 zA; replace kA2 := belK hb kA2 zA; replace zA := Nat.lt_of_lt_of_le zA hb.size
      replace kC0 := belK hb kC0 zC; replace fC0 := belF hb fC0 zC; replace kC1 := belK hb kC1 zC; replace fC1 := belF hb fC1 zC; replace kC2 := belK hb kC2 zC; replace fC2 := belF hb fC2 zC; replace zC := Nat.lt_of_lt_of_le zC hb.size
      replace kE0 := belK hb kE0 zE; replace kE1 := belK hb kE1 zE; replace zE := Nat.lt_of_lt_of_le zE hb.size
      replace kO0 := belK hb kO0 zO; replace fO0 := belF hb fO0 zO; replace kO1 := belK hb kO1 zO; replace fO1 := belF hb fO1 zO; replace zO := Nat.lt_of_lt_of_le zO hb.size
      replace hBo := hBo.trans (hb.mono hBo.size)
      clear hb
      go_wp2_with fail
      obtain ⟨s26, hws⟩ : ∃ s, s = (s25.alloc (.cells #[.bool (zb y), .string (zt y)] 44)) := ⟨_, rfl⟩
      have hBs : Below w.heap.size w s26 := by rw [hws]; exact ((hBo).alloc (by exact hBo.size) _)
      obtain ⟨U, hdU⟩ : ∃ b, b = s25.heap.size := ⟨_, rfl⟩
      have hsz : s26.heap.size = s25.heap.size + 1 := by rw [hws]; simp
      have dCU : C ≠ U := by omega
      have dOU : O ≠ U := by omega
      have hQC : ∀ p v, s25.cell? p = some v → s26.cell? p = some v := fun p v h => by rw [hws]; exact (alK h)
      have hQZ : ∀ b, b < s25.heap.size → b < s26.heap.size := fun b h => by omega
      have hQF : ∀ b j, b < s25.heap.size → s25.frozen? ⟨b, j, none⟩ = false → s26.frozen? ⟨b, j, none⟩ = false := fun b j z h => by rw [hws]; exact (alF z h)
      replace kA0 := hQC _ _ kA0; replace kA1 := hQC _ _ kA1; replace kA2 := hQC _ _ kA2; replace zA := hQZ _ zA
      replace kC0 := hQC _ _ kC0; replace fC0 := hQF _ _ zC fC0; replace kC1 := hQC _ _ kC1; replace fC1 := hQF _ _ zC fC1; replace kC2 := hQC _ _ kC2; replace fC2 := hQF _ _ zC fC2; replace zC := hQZ _ zC
      replace kE0 := hQC _ _ kE0; replace kE1 := hQC _ _ kE1; replace zE := hQZ _ zE
      replace kO0 := hQC _ _ kO0; replace fO0 := hQF _ _ zO fO0; replace kO1 := hQC _ _ kO1; replace fO1 := hQF _ _ zO fO1; replace zO := hQZ _ zO
      clear hQC hQZ hQF
      have kU0 : s26.cell? ⟨U, 0, none⟩ = some (.bool (zb y)) := by rw [hws]; simp [go_sem, hdU]
      have kU1 : s26.cell? ⟨U, 1, none⟩ = some (.string (zt y)) := by rw [hws]; simp [go_sem, hdU]
      have zU : U < s26.heap.size := by omega
      have lU : w.heap.size ≤ U := by have := hBo.size; omega
      rw [← hws]
      try rw [← hdU]
      clear hBo
      clear hws hsz hdU
      have hBo := hBs; clear hBs
      refine (HML.out _).mono ?_; rintro e s27 ⟨rfl, hb⟩
      replace kA0 := belK hb kA0 zA; replace kA1 := belK hb kA1 zA; replace kA2 := belK hb kA2 zA; replace zA := Nat.lt_of_lt_of_le zA hb.size
      replace kC0 := belK hb kC0 zC; replace fC0 := belF hb fC0 zC; replace kC1 := belK hb kC1 zC; replace fC1 := belF hb fC1 zC; replace kC2 := belK hb kC2 zC; replace fC2 := belF hb fC2 zC; replace zC := Nat.lt_of_lt_of_le zC hb.size
      replace kE0 := belK hb kE0 zE; replace kE1 := belK hb kE1 zE; replace zE := Nat.lt_of_lt_of_le zE hb.size
      replace kO0 := belK hb kO0 zO; replace fO0 := belF hb fO0 zO; replace kO1 := belK hb kO1 zO; replace fO1 := belF hb fO1 zO; replace zO := Nat.lt_of_lt_of_le zO hb.size
      replace kU0 := belK hb kU0 zU; replace kU1 := belK hb kU1 zU; replace zU := Nat.lt_of_lt_of_le zU hb.size
      replace hBo := hBo.trans (hb.mono hBo.size)
      clear hb
      go_wp2_with fail
      obtain ⟨s28, hws⟩ : ∃ s, s = ((s27.setCell ⟨O, 0, none⟩ (.bool (zb M))).setCell ⟨O, 1, none⟩ (.string (zt M))) := ⟨_, rfl⟩
      have hBs : Below w.heap.size w s28 := by rw [hws]; exact (((hBo).setCell lO _).setCell lO _)
      have hsz : s28.heap.size = s27.heap.size := by rw [hws]; simp
      have hQC : ∀ b j v, s27.cell? ⟨b, j, none⟩ = some v → O ≠ b → s28.cell? ⟨b, j, none⟩ = some v := fun b j v h dO => by rw [hws]; exact (stK (stK h dO) dO)
      replace kA0 := hQC _ _ _ kA0 dOA; replace kA1 := hQC _ _ _ kA1 dOA; replace kA2 := hQC _ _ _ kA2 dOA
      replace kC0 := hQC _ _ _ kC0 dOC; replace kC1 := hQC _ _ _ kC1 dOC; replace kC2 := hQC _ _ _ kC2 dOC
      replace kE0 := hQC _ _ _ kE0 dOE; replace kE1 := hQC _ _ _ kE1 dOE
      replace kU0 := hQC _ _ _ kU0 dOU; replace kU1 := hQC _ _ _ kU1 dOU
      clear hQC
      have kO0_ : s28.cell? ⟨O, 0, none⟩ = some (.bool (zb M)) := by rw [hws]; simp [go_sem, kO0, kO1, fO0, fO1]
      have kO1_ : s28.cell? ⟨O, 1, none⟩ = some (.string (zt M)) := by rw [hws]; simp [go_sem, kO0, kO1, fO0, fO1]
      replace kO0 := kO0_; clear kO0_; replace kO1 := kO1_; clear kO1_
      have hQF : ∀ p, s28.frozen? p = s27.frozen? p := fun p => by rw [hws]; simp [go_sem]
      replace fC0 := (hQF _).trans fC0; replace fC1 := (hQF _).trans fC1; replace fC2 := (hQF _).trans fC2
      replace fO0 := (hQF _).trans fO0; replace fO1 := (hQF _).trans fO1
      clear hQF
      replace zA : A < s28.heap.size := by omega
      replace zC : C < s28.heap.size := by omega
      replace zE : E < s28.heap.size := by omega
      replace zO : O < s28.heap.size := by omega
      replace zU : U < s28.heap.size := by omega
      rw [← hws]
      clear hBo hws hsz
      have hBo := hBs; clear hBs
      refine (HST.out _).mono ?_; rintro e s29 ⟨rfl, hb⟩
      replace kA0 := belK hb kA0 zA; replace kA1 := belK hb kA1 zA; replace kA2 := belK hb kA2 zA; replace zA := Nat.lt_of_lt_of_le zA hb.size
      replace kC0 := belK hb kC0 zC; replace fC0 := belF hb fC0 zC; replace kC1 := belK hb kC1 zC; replace fC1 := belF hb fC1 zC; replace kC2 := belK hb kC2 zC; replace fC2 := belF hb fC2 zC; replace zC := Nat.lt_of_lt_of_le zC hb.size
      replace kE0 := belK hb kE0 zE; replace kE1 := belK hb kE1 zE; replace zE := Nat.lt_of_lt_of_le zE hb.size
      replace kO0 := belK hb kO0 zO; replace fO0 := belF hb fO0 zO; replace kO1 := belK hb kO1 zO; replace fO1 := belF hb fO1 zO; replace zO := Nat.lt_of_lt_of_le zO hb.size
      replace kU0 := belK hb kU0 zU; replace kU1 := belK hb kU1 zU; replace zU := Nat.lt_of_lt_of_le zU hb.size
      replace hBo := hBo.trans (hb.mono hBo.size)
      clear hb
      go_wp2_with fail
      obtain ⟨s30, hws⟩ : ∃ s, s = (s29.alloc (.cells #[.bool (zb S'), .string (zt S')] 44)) := ⟨_, rfl⟩
      have hBs : Below w.heap.size w s30 := by rw [hws]; exact ((hBo).alloc (by exact hBo.size) _)
      obtain ⟨V, hdV⟩ : ∃ b, b = s29.heap.size := ⟨_, rfl⟩
      have hsz : s30.heap.size = s29.heap.size + 1 := by rw [hws]; simp
      have dCV : C ≠ V := by omega
      have dOV : O ≠ V := by omega
      have dVA : V ≠ A := by omega
      have dVC : V ≠ C := by omega
      have dVE : V ≠ E := by omega
      have dVO : V ≠ O := by omega
      have dVU : V ≠ U := by omega
      have hQC : ∀ p v, s29.cell? p = some v → s30.cell? p = some v := fun p v h => by rw [hws]; exact (alK h)
      have hQZ : ∀ b, b < s29.heap.size → b < s30.heap.size := fun b h => by omega
      have hQF : ∀ b j, b < s29.heap.size → s29.frozen? ⟨b, j, none⟩ = false → s30.frozen? ⟨b, j, none⟩ = false := fun b j z h => by rw [hws]; exact (alF z h)
      replace kA0 := hQC _ _ kA0; replace kA1 := hQC _ _ kA1; replace kA2 := hQC _ _ kA2; replace zA := hQZ _ zA
      replace kC0 := hQC _ _ kC0; replace fC0 := hQF _ _ zC fC0; replace kC1 := hQC _ _ kC1; replace fC1 := hQF _ _ zC fC1; replace kC2 := hQC _ _ kC2; replace fC2 := hQF _ _ zC fC2; replace zC := hQZ _ zC
      replace kE0 := hQC _ _ kE0; replace kE1 := hQC _ _ kE1; replace zE := hQZ _ zE
      replace kO0 := hQC _ _ kO0; replace fO0 := hQF _ _ zO fO0; replace kO1 := hQC _ _ kO1; replace fO1 := hQF _ _ zO fO1; replace zO := hQZ _ zO
      replace kU0 := hQC _ _ kU0; replace kU1 := hQC _ _ kU1; replace zU := hQZ _ zU
      clear hQC hQZ hQF
      have kV0 : s30.cell? ⟨V, 0, none⟩ = some (.bool (zb S')) := by rw [hws]; simp [go_sem, hdV]
      have fV0 : s30.frozen? ⟨V, 0, none⟩ = false := by rw [hws]; simp [go_sem, hdV]
      have kV1 : s30.cell? ⟨V, 1, none⟩ = some (.string (zt S')) := by rw [hws]; simp [go_sem, hdV]
      have fV1 : s30.frozen? ⟨V, 1, none⟩ = false := by rw [hws]; simp [go_sem, hdV]
      have zV : V < s30.heap.size := by omega
      have lV : w.heap.size ≤ V := by have := hBo.size; omega
      rw [← hws]
      try rw [← hdV]
      clear hBo
      clear hws hsz hdV
      have hBo := hBs; clear hBs
      refine (HSG.out _).mono ?_; rintro e s31 ⟨rfl, hb⟩
      replace kA0 := belK hb kA0 zA; replace kA1 := belK hb kA1 zA; replace kA2 := belK hb kA2 zA; replace zA := Nat.lt_of_lt_of_le zA hb.size
      replace kC0 := belK hb kC0 zC; replace fC0 := belF hb fC0 zC; replace kC1 := belK hb kC1 zC; replace fC1 := belF hb fC1 zC; replace kC2 := belK hb kC2 zC; replace fC2 := belF hb fC2 zC; replace zC := Nat.lt_of_lt_of_le zC hb.size
      replace kE0 := belK hb kE0 zE; replace kE1 := belK hb kE1 zE; replace zE := Nat.lt_of_lt_of_le zE hb.size
      replace kO0 := belK hb kO0 zO; replace fO0 := belF hb fO0 zO; replace kO1 := belK hb kO1 zO; replace fO1 := belF hb fO1 zO; replace zO := Nat.lt_of_lt_of_le zO hb.size
      replace kU0 := belK hb kU0 zU; replace kU1 := belK hb kU1 zU; replace zU := Nat.lt_of_lt_of_le zU hb.size
      replace kV0 := belK hb kV0 zV; replace fV0 := belF hb fV0 zV; replace kV1 := belK hb kV1 zV; replace fV1 := belF hb fV1 zV; replace zV := Nat.lt_of_lt_of_le zV hb.size
      replace hBo := hBo.trans (hb.mono hBo.size)
      clear hb
      go_wp2_with fail
      refine (HK.out _).mono ?_; rintro e s32 ⟨rfl, hb⟩
      replace kA0 := belK hb kA0 zA; replace kA1 := belK hb kA1 zA; replace kA2 := belK hb kA2 zA; replace zA := Nat.lt_of_lt_of_le zA hb.size
      replace kC0 := belK hb kC0 zC; replace fC0 := belF hb fC0 zC; replace kC1 := belK hb kC1 zC; replace fC1 := belF hb fC1 zC; replace kC2 := belK hb kC2 zC; replace fC2 := belF hb fC2 zC; replace zC := Nat.lt_of_lt_of_le zC hb.size
      replace kE0 := belK hb kE0 zE; replace kE1 := belK hb kE1 zE; replace zE := Nat.lt_of_lt_of_le zE hb.size
      replace kO0 := belK hb kO0 zO; replace fO0 := belF hb fO0 zO; replace kO1 := belK hb kO1 zO; replace fO1 := belF hb fO1 zO; replace zO := Nat.lt_of_lt_of_le zO hb.size
      replace kU0 := belK hb kU0 zU; replace kU1 := belK hb kU1 zU; replace zU := Nat.lt_of_lt_of_le zU hb.size
      replace kV0 := belK hb kV0 zV; replace fV0 := belF hb fV0 zV; replace kV1 := belK hb kV1 zV; replace fV1 := belF hb fV1 zV; replace zV := Nat.lt_of_lt_of_le zV hb.size
      replace hBo := hBo.trans (hb.mono hBo.size)
      clear hb
      all_goals go_wp2_with fail
      all_goals refine bodyPost_ret (v := .tuple #[.agg #[.bool (rb q), .string (rn q), .string (rd q)], .int .i64 c]) (by simp [results, Tryz.results60, go_sem, kC0, kC1, kC2, zC]) rfl ⟨rfl, ?_⟩
      all_goals exact (((hBo.setCell lC _).setCell lC _).setCell lC _)
  · rw [if_neg h0, if_neg (by have := tenN_size (n := -n) (by omega); omega)] at hpw
    rw [tenN_neg (n := n) (by omega), Nat.mul_one] at hS2
    rw [tenN_neg (n := n) (by omega)] at hq hc
    have sT := tenN_size (n := -n) (by omega)
    have hmT := fun w => refMake_z false (Nt.E (tenN (-n))) (tenN (-n) : Int) w (by rw [Nt.V_E]; rfl)
    have sT2 : (zt (tenN (-n) : Int)).size ≤ 60 := by rw [zt_cast]; exact sT
    have hml := fun w => refMul_zz y (tenN (-n) : Int) ((D * tenN (-n) : Nat) : Int) w (by omega) (by omega) (by rw [hlw]; simp)
    have sM : (zt ((D * tenN (-n) : Nat) : Int)).size ≤ 92 := by
      have := zt_mul_size (D : Int) (tenN (-n) : Int)
      rw [← Int.natCast_mul] at this
      rw [hlw] at sy
      omega
    have hM0 : D * tenN (-n) ≠ 0 := Nat.mul_ne_zero hd0 (tenN_pos _)
    have hst := fun w => HS (N : Int) ((D * tenN (-n) : Nat) : Int) (SS : Int) w (by omega) (by omega) (by omega) (by omega) (by rw [stepI_nat P _ _ hM0, hS2])
    have sS : (zt (SS : Int)).size ≤ 33 := by
      rw [zt_cast, hS2]
      have h1 : (Nt.E (N / (D * tenN (-n)))).size ≤ 32 := Nat.le_trans (Nt.E_size_le (Nat.div_le_self _ _)) (by rw [zt_cast] at sA; exact sA)
      split
      · exact E_add_size h1 (by decide)
      · simpa using Nat.le_trans h1 (by omega)
    generalize Nt.E (tenN (-n)) = tT at *
    have hng := fun w => refNeg_z (zb (SS : Int)) (zt (SS : Int)) (-(SS : Int)) w (by rw [sI_z])
    have hx3 : X = sI ng SS * (tenN (-n) : Int) := by rw [hx2, sI_mulT]
    have hm2 : ∀ (z : Int) (w : World), z = sI ng SS → Calls Tryz.prog 53 #[.agg #[.bool (zb z), .string (zt z)], .agg #[.bool (zb ((tenN (-n) : Int))), .string (zt ((tenN (-n) : Int)))]] w fun e w' => e = .returned (.agg #[.bool (zb X), .string (zt X)]) ∧ Below w.heap.size w w' := fun z w hz =>
      refMul_zz z (tenN (-n) : Int) X w (by rw [hz]; unfold zt; rw [sI_abs]; rw [zt_cast] at sS; omega) (by omega) (by rw [hz, hx3])
    have sX : (zt X).size ≤ 93 := by
      have h1 := zt_mul_size (sI ng SS) (tenN (-n) : Int)
      have h2 : (zt (sI ng SS)).size ≤ 33 := by unfold zt; rw [sI_abs]; rw [zt_cast] at sS; exact sS
      rw [hx3]; omega
    have hmk := fun w => refMake5_any (zb X) (zb 1) (zt X) (zt 1) q c w (by omega) (by decide) (by rw [sI_z, sI_z]; exact hq) (by rw [sI_z, sI_z]; exact hc)
    generalize ((D * tenN (-n) : Nat) : Int) = M at *
    generalize (tenN (-n) : Int) = T at *
    generalize (N : Int) = NN at *
    have HPW := Lib.hid hpw
    have HMT := Lib.hid hmT
    have HTop := Lib.hid hT
    have HMA := Lib.hid hmA
    have HLow := Lib.hid hL
    have HML := Lib.hid hml
    have HST := Lib.hid hst
    have HSG := Lib.hid hS
    have HK := Lib.hid hmk
    by_cases hx : x < 0
    · have hX : -(SS : Int) = sI ng SS := by rw [hxn.1 hx]; rfl
      have hc0 := hsg.2 hx
      generalize cmpI' x 0 = sg at *
      have HM2 := Lib.hid (fun w => hm2 _ w hX)
      have HNG := Lib.hid hng
      generalize -(SS : Int) = S2 at *
      generalize (SS : Int) = S' at *
      clear HS hpw hmT hT hmA hL hml hst hS hng hmk ha hd hq hc hn sx sy hy0 hxa hlw hxn hx2 hS2 hd0 sA sT sT2 sM sS hsg hx hX hx3 hm2 sX hM0
      go_enter Tryz.func60, Tryz.ntmps60
      go_wp2_with fail
      obtain ⟨s33, hws⟩ : ∃ s, s = ((w.alloc (.cells #[.bool neg, .string a, .string d] 23)).alloc (.cells #[.bool false, .string ⟨#[]⟩, .string ⟨#[]⟩] 23)) := ⟨_, rfl⟩
      have hBs : Below w.heap.size w s33 := by rw [hws]; exact (((Below.refl w.heap.size w).alloc (by simp) _).alloc (by simp) _)
      obtain ⟨A, hdA⟩ : ∃ b, b = w.heap.size := ⟨_, rfl⟩
      obtain ⟨C, hdC⟩ : ∃ b, b = w.heap.size + 1 := ⟨_, rfl⟩
      have hsz : s33.heap.size = w.heap.size + 1 + 1 := by rw [hws]; simp
      have dCA : C ≠ A := by omega
      have kA0 : s33.cell? ⟨A, 0, none⟩ = some (.bool neg) := by rw [hws]; simp [go_sem, hdA, hdC]
      have kA1 : s33.cell? ⟨A, 1, none⟩ = some (.string a) := by rw [hws]; simp [go_sem, hdA, hdC]
      have kA2 : s33.cell? ⟨A, 2, none⟩ = some (.string d) := by rw [hws]; simp [go_sem, hdA, hdC]
      have zA : A < s33.heap.size := by omega
      have lA : w.heap.size ≤ A := by have := Nat.le_refl w.heap.size; omega
      have kC0 : s33.cell? ⟨C, 0, none⟩ = some (.bool false) := by rw [hws]; simp [go_sem, hdA, hdC]
      have fC0 : s33.frozen? ⟨C, 0, none⟩ = false := by rw [hws]; simp [go_sem, hdA, hdC]
      have kC1 : s33.cell? ⟨C, 1, none⟩ = some (.string ⟨#[]⟩) := by rw [hws]; simp [go_sem, hdA, hdC]
      have fC1 : s33.frozen? ⟨C, 1, none⟩ = false := by rw [hws]; simp [go_sem, hdA, hdC]
      have kC2 : s33.cell? ⟨C, 2, none⟩ = some (.string ⟨#[]⟩) := by rw [hws]; simp [go_sem, hdA, hdC]
      have fC2 : s33.frozen? ⟨C, 2, none⟩ = false := by rw [hws]; simp [go_sem, hdA, hdC]
      have zC : C < s33.heap.size := by omega
      have lC : w.heap.size ≤ C := by have := Nat.le_refl w.heap.size; omega
      rw [← hws]
      try rw [← hdC]
      try rw [← hdA]
      clear hws hsz hdA hdC
      have hBo := hBs; clear hBs
      refine (HPW.out _).mono ?_; rintro e s34 ⟨rfl, hb⟩
      replace kA0 := belK hb kA0 zA; replace kA1 := belK hb kA1 zA; replace kA2 := belK hb kA2 zA; replace zA := Nat.lt_of_lt_of_le zA hb.size
      replace kC0 := belK hb kC0 zC; replace fC0 := belF hb fC0 zC; replace kC1 := belK hb kC1 zC; replace fC1 := belF hb fC1 zC; replace kC2 := belK hb kC2 zC; replace fC2 := belF hb fC2 zC; replace zC := Nat.lt_of_lt_of_le zC hb.size
      replace hBo := hBo.trans (hb.mono hBo.size)
      clear hb
      go_wp2_with fail
      refine (HMT.out _).mono ?_; rintro e s35 ⟨rfl, hb⟩
      replace kA0 := belK hb kA0 zA; replace kA1 := belK hb kA1 zA; replace kA2 := belK hb kA2 zA; replace zA := Nat.lt_of_lt_of_le zA hb.size
      replace kC0 := belK hb kC0 zC; replace fC0 := belF hb fC0 zC; replace kC1 := belK hb kC1 zC; replace fC1 := belF hb fC1 zC; replace kC2 := belK hb kC2 zC; replace fC2 := belF hb fC2 zC; replace zC := Nat.lt_of_lt_of_le zC hb.size
      replace hBo := hBo.trans (hb.mono hBo.size)
      clear hb
      go_wp2_with fail
      obtain ⟨s36, hws⟩ : ∃ s, s = (s35.alloc (.cells #[.bool (zb T), .string (zt T)] 44)) := ⟨_, rfl⟩
      have hBs : Below w.heap.size w s36 := by rw [hws]; exact ((hBo).alloc (by exact hBo.size) _)
      obtain ⟨E, hdE⟩ : ∃ b, b = s35.heap.size := ⟨_, rfl⟩
      have hsz : s36.heap.size = s35.heap.size + 1 := by rw [hws]; simp
      have dCE : C ≠ E := by omega
      have hQC : ∀ p v, s35.cell? p = some v → s36.cell? p = some v := fun p v h => by rw [hws]; exact (alK h)
      have hQZ : ∀ b, b < s35.heap.size → b < s36.heap.size := fun b h => by omega
      have hQF : ∀ b j, b < s35.heap.size → s35.frozen? ⟨b, j, none⟩ = false → s36.frozen? ⟨b, j, none⟩ = false := fun b j z h => by rw [hws]; exact (alF z h)
      replace kA0 := hQC _ _ kA0; replace kA1 := hQC _ _ kA1; replace kA2 := hQC _ _ kA2; replace zA := hQZ _ zA
      replace kC0 := hQC _ _ kC0; replace fC0 := hQF _ _ zC fC0; replace kC1 := hQC _ _ kC1; replace fC1 := hQF _ _ zC fC1; replace kC2 := hQC _ _ kC2; replace fC2 := hQF _ _ zC fC2; replace zC := hQZ _ zC
      clear hQC hQZ hQF
      have kE0 : s36.cell? ⟨E, 0, none⟩ = some (.bool (zb T)) := by rw [hws]; simp [go_sem, hdE]
      have kE1 : s36.cell? ⟨E, 1, none⟩ = some (.string (zt T)) := by rw [hws]; simp [go_sem, hdE]
      have zE : E < s36.heap.size := by omega
      have lE : w.heap.size ≤ E := by have := hBo.size; omega
      rw [← hws]
      try rw [← hdE]
      clear hBo
      clear hws hsz hdE
      have hBo := hBs; clear hBs
      refine (HTop.out _).mono ?_; rintro e s37 ⟨rfl, hb⟩
      replace kA0 := belK hb kA0 zA; replace kA1 := belK hb kA1 zA; replace kA2 := belK hb kA2 zA; replace zA := Nat.lt_of_lt_of_le zA hb.size
      replace kC0 := belK hb kC0 zC; replace fC0 := belF hb fC0 zC; replace kC1 := belK hb kC1 zC; replace fC1 := belF hb fC1 zC; replace kC2 := belK hb kC2 zC; replace fC2 := belF hb fC2 zC; replace zC := Nat.lt_of_lt_of_le zC hb.size
      replace kE0 := belK hb kE0 zE; replace kE1 := belK hb kE1 zE; replace zE := Nat.lt_of_lt_of_le zE hb.size
      replace hBo := hBo.trans (hb.mono hBo.size)
      clear hb
      go_wp2_with fail
      refine (HMA.out _).mono ?_; rintro e s38 ⟨rfl, hb⟩
      replace kA0 := belK hb kA0 zA; replace kA1 := belK hb kA1 zA; replace kA2 := belK hb kA2 zA; replace zA := Nat.lt_of_lt_of_le zA hb.size
      replace kC0 := belK hb kC0 zC; replace fC0 := belF hb fC0 zC; replace kC1 := belK hb kC1 zC; replace fC1 := belF hb fC1 zC; replace kC2 := belK hb kC2 zC; replace fC2 := belF hb fC2 zC; replace zC := Nat.lt_of_lt_of_le zC hb.size
      replace kE0 := belK hb kE0 zE; replace kE1 := belK hb kE1 zE; replace zE := Nat.lt_of_lt_of_le zE hb.size
      replace hBo := hBo.trans (hb.mono hBo.size)
      clear hb
      go_wp2_with fail
      obtain ⟨s39, hws⟩ : ∃ s, s = (s38.alloc (.cells #[.bool (zb NN), .string (zt NN)] 44)) := ⟨_, rfl⟩
      have hBs : Below w.heap.size w s39 := by rw [hws]; exact ((hBo).alloc (by exact hBo.size) _)
      obtain ⟨O, hdO⟩ : ∃ b, b = s38.heap.size := ⟨_, rfl⟩
      have hsz : s39.heap.size = s38.heap.size + 1 := by rw [hws]; simp
      have dCO : C ≠ O := by omega
      have hQC : ∀ p v, s38.cell? p = some v → s39.cell? p = some v := fun p v h => by rw [hws]; exact (alK h)
      have hQZ : ∀ b, b < s38.heap.size → b < s39.heap.size := fun b h => by omega
      have hQF : ∀ b j, b < s38.heap.size → s38.frozen? ⟨b, j, none⟩ = false → s39.frozen? ⟨b, j, none⟩ = false := fun b j z h => by rw [hws]; exact (alF z h)
      replace kA0 := hQC _ _ kA0; replace kA1 := hQC _ _ kA1; replace kA2 := hQC _ _ kA2; replace zA := hQZ _ zA
      replace kC0 := hQC _ _ kC0; replace fC0 := hQF _ _ zC fC0; replace kC1 := hQC _ _ kC1; replace fC1 := hQF _ _ zC fC1; replace kC2 := hQC _ _ kC2; replace fC2 := hQF _ _ zC fC2; replace zC := hQZ _ zC
      replace kE0 := hQC _ _ kE0; replace kE1 := hQC _ _ kE1; replace zE := hQZ _ zE
      clear hQC hQZ hQF
      have kO0 : s39.cell? ⟨O, 0, none⟩ = some (.bool (zb NN)) := by rw [hws]; simp [go_sem, hdO]
      have kO1 : s39.cell? ⟨O, 1, none⟩ = some (.string (zt NN)) := by rw [hws]; simp [go_sem, hdO]
      have zO : O < s39.heap.size := by omega
      have lO : w.heap.size ≤ O := by have := hBo.size; omega
      rw [← hws]
      try rw [← hdO]
      clear hBo
      clear hws hsz hdO
      have hBo := hBs; clear hBs
      refine (HLow.out _).mono ?_; rintro e s40 ⟨rfl, hb⟩
      replace kA0 := belK hb kA0 zA; replace kA1 := belK hb kA1 zA; replace kA2 := belK hb kA2 zA; replace zA := Nat.lt_of_lt_of_le zA hb.size
      replace kC0 := belK hb kC0 zC; replace fC0 := belF hb fC0 zC; replace kC1 := belK hb kC1 zC; replace fC1 := belF hb fC1 zC; replace kC2 := belK hb kC2 zC; replace fC2 := belF hb fC2 zC; replace zC := Nat.lt_of_lt_of_le zC hb.size
      replace kE0 := belK hb kE0 zE; replace kE1 := belK hb kE1 zE; replace zE := Nat.lt_of_lt_of_le zE hb.size
      replace kO0 := belK hb kO0 zO; replace kO1 := belK hb kO1 zO; replace zO := Nat.lt_of_lt_of_le zO hb.size
      replace hBo := hBo.trans (hb.mono hBo.size)
      clear hb
      go_wp2_with fail
      obtain ⟨s41, hws⟩ : ∃ s, s = (s40.alloc (.cells #[.bool (zb y), .string (zt y)] 44)) := ⟨_, rfl⟩
      have hBs : Below w.heap.size w s41 := by rw [hws]; exact ((hBo).alloc (by exact hBo.size) _)
      obtain ⟨U, hdU⟩ : ∃ b, b = s40.heap.size := ⟨_, rfl⟩
      have hsz : s41.heap.size = s40.heap.size + 1 := by rw [hws]; simp
      have dCU : C ≠ U := by omega
      have dUA : U ≠ A := by omega
      have dUC : U ≠ C := by omega
      have dUE : U ≠ E := by omega
      have dUO : U ≠ O := by omega
      have hQC : ∀ p v, s40.cell? p = some v → s41.cell? p = some v := fun p v h => by rw [hws]; exact (alK h)
      have hQZ : ∀ b, b < s40.heap.size → b < s41.heap.size := fun b h => by omega
      have hQF : ∀ b j, b < s40.heap.size → s40.frozen? ⟨b, j, none⟩ = false → s41.frozen? ⟨b, j, none⟩ = false := fun b j z h => by rw [hws]; exact (alF z h)
      replace kA0 := hQC _ _ kA0; replace kA1 := hQC _ _ kA1; replace kA2 := hQC _ _ kA2; replace zA := hQZ _ zA
      replace kC0 := hQC _ _ kC0; replace fC0 := hQF _ _ zC fC0; replace kC1 := hQC _ _ kC1; replace fC1 := hQF _ _ zC fC1; replace kC2 := hQC _ _ kC2; replace fC2 := hQF _ _ zC fC2; replace zC := hQZ _ zC
      replace kE0 := hQC _ _ kE0; replace kE1 := hQC _ _ kE1; replace zE := hQZ _ zE
      replace kO0 := hQC _ _ kO0; replace kO1 := hQC _ _ kO1; replace zO := hQZ _ zO
      clear hQC hQZ hQF
      have kU0 : s41.cell? ⟨U, 0, none⟩ = some (.bool (zb y)) := by rw [hws]; simp [go_sem, hdU]
      have fU0 : s41.frozen? ⟨U, 0, none⟩ = false := by rw [hws]; simp [go_sem, hdU]
      have kU1 : s41.cell? ⟨U, 1, none⟩ = some (.string (zt y)) := by rw [hws]; simp [go_sem, hdU]
      have fU1 : s41.frozen? ⟨U, 1, none⟩ = false := by rw [hws]; simp [go_sem, hdU]
      have zU : U < s41.heap.size := by omega
      have lU : w.heap.size ≤ U := by have := hBo.size; omega
      rw [← hws]
      try rw [← hdU]
      clear hBo
      clear hws hsz hdU
      have hBo := hBs; clear hBs
      refine (HML.out _).mono ?_; rintro e s42 ⟨rfl, hb⟩
      replace kA0 := belK hb kA0 zA; replace kA1 := belK hb kA1 zA; replace kA2 := belK hb kA2 zA; replace zA := Nat.lt_of_lt_of_le zA hb.size
      replace kC0 := belK hb kC0 zC; replace fC0 := belF hb fC0 zC; replace kC1 := belK hb kC1 zC; replace fC1 := belF hb fC1 zC; replace kC2 := belK hb kC2 zC; replace fC2 := belF hb fC2 zC; replace zC := Nat.lt_of_lt_of_le zC hb.size
      replace kE0 := belK hb kE0 zE; replace kE1 := belK hb kE1 zE; replace zE := Nat.lt_of_lt_of_le zE hb.size
      replace kO0 := belK hb kO0 zO; replace kO1 := belK hb kO1 zO; replace zO := Nat.lt_of_lt_of_le zO hb.size
      replace kU0 := belK hb kU0 zU; replace fU0 := belF hb fU0 zU; replace kU1 := belK hb kU1 zU; replace fU1 := belF hb fU1 zU; replace zU := Nat.lt_of_lt_of_le zU hb.size
      replace hBo := hBo.trans (hb.mono hBo.size)
      clear hb
      go_wp2_with fail
      obtain ⟨s43, hws⟩ : ∃ s, s = ((s42.setCell ⟨U, 0, none⟩ (.bool (zb M))).setCell ⟨U, 1, none⟩ (.string (zt M))) := ⟨_, rfl⟩
      have hBs : Below w.heap.size w s43 := by rw [hws]; exact (((hBo).setCell lU _).setCell lU _)
      have hsz : s43.heap.size = s42.heap.size := by rw [hws]; simp
      have hQC : ∀ b j v, s42.cell? ⟨b, j, none⟩ = some v → U ≠ b → s43.cell? ⟨b, j, none⟩ = some v := fun b j v h dU => by rw [hws]; exact (stK (stK h dU) dU)
      replace kA0 := hQC _ _ _ kA0 dUA; replace kA1 := hQC _ _ _ kA1 dUA; replace kA2 := hQC _ _ _ kA2 dUA
      replace kC0 := hQC _ _ _ kC0 dUC; replace kC1 := hQC _ _ _ kC1 dUC; replace kC2 := hQC _ _ _ kC2 dUC
      replace kE0 := hQC _ _ _ kE0 dUE; replace kE1 := hQC _ _ _ kE1 dUE
      replace kO0 := hQC _ _ _ kO0 dUO; replace kO1 := hQC _ _ _ kO1 dUO
      clear hQC
      have kU0_ : s43.cell? ⟨U, 0, none⟩ = some (.bool (zb M)) := by rw [hws]; simp [go_sem, kU0, kU1, fU0, fU1]
      have kU1_ : s43.cell? ⟨U, 1, none⟩ = some (.string (zt M)) := by rw [hws]; simp [go_sem, kU0, kU1, fU0, fU1]
      replace kU0 := kU0_; clear kU0_; replace kU1 := kU1_; clear kU1_
      have hQF : ∀ p, s43.frozen? p = s42.frozen? p := fun p => by rw [hws]; simp [go_sem]
      replace fC0 := (hQF _).trans fC0; replace fC1 := (hQF _).trans fC1; replace fC2 := (hQF _).trans fC2
      replace fU0 := (hQF _).trans fU0; replace fU1 := (hQF _).trans fU1
      clear hQF
      replace zA : A < s43.heap.size := by omega
      replace zC : C < s43.heap.size := by omega
      replace zE : E < s43.heap.size := by omega
      replace zO : O < s43.heap.size := by omega
      replace zU : U < s43.heap.size := by omega
      rw [← hws]
      clear hBo hws hsz
      have hBo := hBs; clear hBs
      refine (HST.out _).mono ?_; rintro e s44 ⟨rfl, hb⟩
      replace kA0 := belK hb kA0 zA; replace kA1 := belK hb kA1 zA; replace kA2 := belK hb kA2 zA; replace zA := Nat.lt_of_lt_of_le zA hb.size
      replace kC0 := belK hb kC0 zC; replace fC0 := belF hb fC0 zC; replace kC1 := belK hb kC1 zC; replace fC1 := belF hb fC1 zC; replace kC2 := belK hb kC2 zC; replace fC2 := belF hb fC2 zC; replace zC := Nat.lt_of_lt_of_le zC hb.size
      replace kE0 := belK hb kE0 zE; replace kE1 := belK hb kE1 zE; replace zE := Nat.lt_of_lt_of_le zE hb.size
      replace kO0 := belK hb kO0 zO; replace kO1 := belK hb kO1 zO; replace zO := Nat.lt_of_lt_of_le zO hb.size
      replace kU0 := belK hb kU0 zU; replace fU0 := belF hb fU0 zU; replace kU1 := belK hb kU1 zU; replace fU1 := belF hb fU1 zU; replace zU := Nat.lt_of_lt_of_le zU hb.size
      replace hBo := hBo.trans (hb.mono hBo.size)
      clear hb
      go_wp2_with fail
      obtain ⟨s45, hws⟩ : ∃ s, s = (s44.alloc (.cells #[.bool (zb S'), .string (zt S')] 44)) := ⟨_, rfl⟩
      have hBs : Below w.heap.size w s45 := by rw [hws]; exact ((hBo).alloc (by exact hBo.size) _)
      obtain ⟨V, hdV⟩ : ∃ b, b = s44.heap.size := ⟨_, rfl⟩
      have hsz : s45.heap.size = s44.heap.size + 1 := by rw [hws]; simp
      have dCV : C ≠ V := by omega
      have dUV : U ≠ V := by omega
      have dVA : V ≠ A := by omega
      have dVC : V ≠ C := by omega
      have dVE : V ≠ E := by omega
      have dVO : V ≠ O := by omega
      have dVU : V ≠ U := by omega
      have hQC : ∀ p v, s44.cell? p = some v → s45.cell? p = some v := fun p v h => by rw [hws]; exact (alK h)
      have hQZ : ∀ b, b < s44.heap.size → b < s45.heap.size := fun b h => by omega
      have hQF : ∀ b j, b < s44.heap.size → s44.frozen? ⟨b, j, none⟩ = false → s45.frozen? ⟨b, j, none⟩ = false := fun b j z h => by rw [hws]; exact (alF z h)
      replace kA0 := hQC _ _ kA0; replace kA1 := hQC _ _ kA1; replace kA2 := hQC _ _ kA2; replace zA := hQZ _ zA
      replace kC0 := hQC _ _ kC0; replace fC0 := hQF _ _ zC fC0; replace kC1 := hQC _ _ kC1; replace fC1 := hQF _ _ zC fC1; replace kC2 := hQC _ _ kC2; replace fC2 := hQF _ _ zC fC2; replace zC := hQZ _ zC
      replace kE0 := hQC _ _ kE0; replace kE1 := hQC _ _ kE1; replace zE := hQZ _ zE
      replace kO0 := hQC _ _ kO0; replace kO1 := hQC _ _ kO1; replace zO := hQZ _ zO
      replace kU0 := hQC _ _ kU0; replace fU0 := hQF _ _ zU fU0; replace kU1 := hQC _ _ kU1; replace fU1 := hQF _ _ zU fU1; replace zU := hQZ _ zU
      clear hQC hQZ hQF
      have kV0 : s45.cell? ⟨V, 0, none⟩ = some (.bool (zb S')) := by rw [hws]; simp [go_sem, hdV]
      have fV0 : s45.frozen? ⟨V, 0, none⟩ = false := by rw [hws]; simp [go_sem, hdV]
      have kV1 : s45.cell? ⟨V, 1, none⟩ = some (.string (zt S')) := by rw [hws]; simp [go_sem, hdV]
      have fV1 : s45.frozen? ⟨V, 1, none⟩ = false := by rw [hws]; simp [go_sem, hdV]
      have zV : V < s45.heap.size := by omega
      have lV : w.heap.size ≤ V := by have := hBo.size; omega
      rw [← hws]
      try rw [← hdV]
      clear hBo
      clear hws hsz hdV
      have hBo := hBs; clear hBs
      refine (HSG.out _).mono ?_; rintro e s46 ⟨rfl, hb⟩
      replace kA0 := belK hb kA0 zA; replace kA1 := belK hb kA1 zA; replace kA2 := belK hb kA2 zA; replace zA := Nat.lt_of_lt_of_le zA hb.size
      replace kC0 := belK hb kC0 zC; replace fC0 := belF hb fC0 zC; replace kC1 := belK hb kC1 zC; replace fC1 := belF hb fC1 zC; replace kC2 := belK hb kC2 zC; replace fC2 := belF hb fC2 zC; replace zC := Nat.lt_of_lt_of_le zC hb.size
      replace kE0 := belK hb kE0 zE; replace kE1 := belK hb kE1 zE; replace zE := Nat.lt_of_lt_of_le zE hb.size
      replace kO0 := belK hb kO0 zO; replace kO1 := belK hb kO1 zO; replace zO := Nat.lt_of_lt_of_le zO hb.size
      replace kU0 := belK hb kU0 zU; replace fU0 := belF hb fU0 zU; replace kU1 := belK hb kU1 zU; replace fU1 := belF hb fU1 zU; replace zU := Nat.lt_of_lt_of_le zU hb.size
      replace kV0 := belK hb kV0 zV; replace fV0 := belF hb fV0 zV; replace kV1 := belK hb kV1 zV; replace fV1 := belF hb fV1 zV; replace zV := Nat.lt_of_lt_of_le zV hb.size
      replace hBo := hBo.trans (hb.mono hBo.size)
      clear hb
      go_wp2_with fail
      refine (HNG.out _).mono ?_; rintro e s47 ⟨rfl, hb⟩
      replace kA0 := belK hb kA0 zA; replace kA1 := belK hb kA1 zA; replace kA2 := belK hb kA2 zA; replace zA := Nat.lt_of_lt_of_le zA hb.size
      replace kC0 := belK hb kC0 zC; replace fC0 := belF hb fC0 zC; replace kC1 := belK hb kC1 zC; replace fC1 := belF hb fC1 zC; replace kC2 := belK hb kC2 zC; replace fC2 := belF hb fC2 zC; replace zC := Nat.lt_of_lt_of_le zC hb.size
      replace kE0 := belK hb kE0 zE; replace kE1 := belK hb kE1 zE; replace zE := Nat.lt_of_lt_of_le zE hb.size
      replace kO0 := belK hb kO0 zO; replace kO1 := belK hb kO1 zO; replace zO := Nat.lt_of_lt_of_le zO hb.size
      replace kU0 := belK hb kU0 zU; replace fU0 := belF hb fU0 zU; replace kU1 := belK hb kU1 zU; replace fU1 := belF hb fU1 zU; replace zU := Nat.lt_of_lt_of_le zU hb.size
      replace kV0 := belK hb kV0 zV; replace fV0 := belF hb fV0 zV; replace kV1 := belK hb kV1 zV; replace fV1 := belF hb fV1 zV; replace zV := Nat.lt_of_lt_of_le zV hb.size
      replace hBo := hBo.trans (hb.mono hBo.size)
      clear hb
      go_wp2_with fail
      obtain ⟨s48, hws⟩ : ∃ s, s = ((s47.setCell ⟨V, 0, none⟩ (.bool (zb S2))).setCell ⟨V, 1, none⟩ (.string (zt S2))) := ⟨_, rfl⟩
      have hBs : Below w.heap.size w s48 := by rw [hws]; exact (((hBo).setCell lV _).setCell lV _)
      have hsz : s48.heap.size = s47.heap.size := by rw [hws]; simp
      have hQC : ∀ b j v, s47.cell? ⟨b, j, none⟩ = some v → V ≠ b → s48.cell? ⟨b, j, none⟩ = some v := fun b j v h dV => by rw [hws]; exact (stK (stK h dV) dV)
      replace kA0 := hQC _ _ _ kA0 dVA; replace kA1 := hQC _ _ _ kA1 dVA; replace kA2 := hQC _ _ _ kA2 dVA
      replace kC0 := hQC _ _ _ kC0 dVC; replace kC1 := hQC _ _ _ kC1 dVC; replace kC2 := hQC _ _ _ kC2 dVC
      replace kE0 := hQC _ _ _ kE0 dVE; replace kE1 := hQC _ _ _ kE1 dVE
      replace kO0 := hQC _ _ _ kO0 dVO; replace kO1 := hQC _ _ _ kO1 dVO
      replace kU0 := hQC _ _ _ kU0 dVU; replace kU1 := hQC _ _ _ kU1 dVU
      clear hQC
      have kV0_ : s48.cell? ⟨V, 0, none⟩ = some (.bool (zb S2)) := by rw [hws]; simp [go_sem, kV0, kV1, fV0, fV1]
      have kV1_ : s48.cell? ⟨V, 1, none⟩ = some (.string (zt S2)) := by rw [hws]; simp [go_sem, kV0, kV1, fV0, fV1]
      replace kV0 := kV0_; clear kV0_; replace kV1 := kV1_; clear kV1_
      have hQF : ∀ p, s48.frozen? p = s47.frozen? p := fun p => by rw [hws]; simp [go_sem]
      replace fC0 := (hQF _).trans fC0; replace fC1 := (hQF _).trans fC1; replace fC2 := (hQF _).trans fC2
      replace fU0 := (hQF _).trans fU0; replace fU1 := (hQF _).trans fU1
      replace fV0 := (hQF _).trans fV0; replace fV1 := (hQF _).trans fV1
      clear hQF
      replace zA : A < s48.heap.size := by omega
      replace zC : C < s48.heap.size := by omega
      replace zE : E < s48.heap.size := by omega
      replace zO : O < s48.heap.size := by omega
      replace zU : U < s48.heap.size := by omega
      replace zV : V < s48.heap.size := by omega
      rw [← hws]
      clear hBo hws hsz
      have hBo := hBs; clear hBs
      refine (HM2.out _).mono ?_; rintro e s49 ⟨rfl, hb⟩
      replace kA0 := belK hb kA0 zA; replace kA1 := belK hb kA1 zA; replace kA2 := belK hb kA2 zA; replace zA := Nat.lt_of_lt_of_le zA hb.size
      replace kC0 := belK hb kC0 zC; replace fC0 := belF hb fC0 zC; replace kC1 := belK hb kC1 zC; replace fC1 := belF hb fC1 zC; replace kC2 := belK hb kC2 zC; replace fC2 := belF hb fC2 zC; replace zC := Nat.lt_of_lt_of_le zC hb.size
      replace kE0 := belK hb kE0 zE; replace kE1 := belK hb kE1 zE; replace zE := Nat.lt_of_lt_of_le zE hb.size
      replace kO0 := belK hb kO0 zO; replace kO1 := belK hb kO1 zO; replace zO := Nat.lt_of_lt_of_le zO hb.size
      replace kU0 := belK hb kU0 zU; replace fU0 := belF hb fU0 zU; replace kU1 := belK hb kU1 zU; replace fU1 := belF hb fU1 zU; replace zU := Nat.lt_of_lt_of_le zU hb.size
      replace kV0 := belK hb kV0 zV; replace fV0 := belF hb fV0 zV; replace kV1 := belK hb kV1 zV; replace fV1 := belF hb fV1 zV; replace zV := Nat.lt_of_lt_of_le zV hb.size
      replace hBo := hBo.trans (hb.mono hBo.size)
      clear hb
      go_wp2_with fail
      refine (hOne.out _).mono ?_; rintro e s50 ⟨rfl, hb⟩
      replace kA0 := belK hb kA0 zA; replace kA1 := belK hb kA1 zA; replace kA2 := belK hb kA2 zA; replace zA := Nat.lt_of_lt_of_le zA hb.size
      replace kC0 := belK hb kC0 zC; replace fC0 := belF hb fC0 zC; replace kC1 := belK hb kC1 zC; replace fC1 := belF hb fC1 zC; replace kC2 := belK hb kC2 zC; replace fC2 := belF hb fC2 zC; replace zC := Nat.lt_of_lt_of_le zC hb.size
      replace kE0 := belK hb kE0 zE; replace kE1 := belK hb kE1 zE; replace zE := Nat.lt_of_lt_of_le zE hb.size
      replace kO0 := belK hb kO0 zO; replace kO1 := belK hb kO1 zO; replace zO := Nat.lt_of_lt_of_le zO hb.size
      replace kU0 := belK hb kU0 zU; replace fU0 := belF hb fU0 zU; replace kU1 := belK hb kU1 zU; replace fU1 := belF hb fU1 zU; replace zU := Nat.lt_of_lt_of_le zU hb.size
      replace kV0 := belK hb kV0 zV; replace fV0 := belF hb fV0 zV; replace kV1 := belK hb kV1 zV; replace fV1 := belF hb fV1 zV; replace zV := Nat.lt_of_lt_of_le zV hb.size
      replace hBo := hBo.trans (hb.mono hBo.size)
      clear hb
      go_wp2_with fail
      refine (HK.out _).mono ?_; rintro e s51 ⟨rfl, hb⟩
      replace kA0 := belK hb kA0 zA; replace kA1 := belK hb kA1 zA; replace kA2 := belK hb kA2 zA; replace zA := Nat.lt_of_lt_of_le zA hb.size
      replace kC0 := belK hb kC0 zC; replace fC0 := belF hb fC0 zC; replace kC1 := belK hb kC1 zC; replace fC1 := belF hb fC1 zC; replace kC2 := belK hb kC2 zC; replace fC2 := belF hb fC2 zC; replace zC := Nat.lt_of_lt_of_le zC hb.size
      replace kE0 := belK hb kE0 zE; replace kE1 := belK hb kE1 zE; replace zE := Nat.lt_of_lt_of_le zE hb.size
      replace kO0 := belK hb kO0 zO; replace kO1 := belK hb kO1 zO; replace zO := Nat.lt_of_lt_of_le zO hb.size
      replace kU0 := belK hb kU0 zU; replace fU0 := belF hb fU0 zU; replace kU1 := belK hb kU1 zU; replace fU1 := belF hb fU1 zU; replace zU := Nat.lt_of_lt_of_le zU hb.size
      replace kV0 := belK hb kV0 zV; replace fV0 := belF hb fV0 zV; replace kV1 := belK hb kV1 zV; replace fV1 := belF hb fV1 zV; replace zV := Nat.lt_of_lt_of_le zV hb.size
      replace hBo := hBo.trans (hb.mono hBo.size)
      clear hb
      all_goals go_wp2_with fail
      all_goals refine bodyPost_ret (v := .tuple #[.agg #[.bool (rb q), .string (rn q), .string (rd q)], .int .i64 c]) (by simp [results, Tryz.results60, go_sem, kC0, kC1, kC2, zC]) rfl ⟨rfl, ?_⟩
      all_goals exact (((hBo.setCell lC _).setCell lC _).setCell lC _)
    · have hX : (SS : Int) = sI ng SS := by
        rw [show ng = false from by cases hb : ng with | false => rfl | true => exact absurd (hxn.2 hb) hx]; rfl
      have hc0 : ¬ cmpI' x 0 < 0 := fun h => hx (hsg.1 h)
      generalize cmpI' x 0 = sg at *
      have HM2 := Lib.hid (fun w => hm2 (SS : Int) w hX)
      generalize (SS : Int) = S' at *
      clear HS hpw hmT hT hmA hL hml hst hS hng hmk ha hd hq hc hn sx sy hy0 hxa hlw hxn hx2 hS2 hd0 sA sT sT2 sM sS hsg hx hX hx3 hm2 sX hM0
      go_enter Tryz.func60, Tryz.ntmps60
      go_wp2_with fail
      obtain ⟨s52, hws⟩ : ∃ s, s = ((w.alloc (.cells #[.bool neg, .string a, .string d] 23)).alloc (.cells #[.bool false, .string ⟨#[]⟩, .string ⟨#[]⟩] 23)) := ⟨_, rfl⟩
      have hBs : Below w.heap.size w s52 := by rw [hws]; exact (((Below.refl w.heap.size w).alloc (by simp) _).alloc (by simp) _)
      obtain ⟨A, hdA⟩ : ∃ b, b = w.heap.size := ⟨_, rfl⟩
      obtain ⟨C, hdC⟩ : ∃ b, b = w.heap.size + 1 := ⟨_, rfl⟩
      have hsz : s52.heap.size = w.heap.size + 1 + 1 := by rw [hws]; simp
      have dCA : C ≠ A := by omega
      have kA0 : s52.cell? ⟨A, 0, none⟩ = some (.bool neg) := by rw [hws]; simp [go_sem, hdA, hdC]
      have kA1 : s52.cell? ⟨A, 1, none⟩ = some (.string a) := by rw [hws]; simp [go_sem, hdA, hdC]
      have kA2 : s52.cell? ⟨A, 2, none⟩ = some (.string d) := by rw [hws]; simp [go_sem, hdA, hdC]
      have zA : A < s52.heap.size := by omega
      have lA : w.heap.size ≤ A := by have := Nat.le_refl w.heap.size; omega
      have kC0 : s52.cell? ⟨C, 0, none⟩ = some (.bool false) := by rw [hws]; simp [go_sem, hdA, hdC]
      have fC0 : s52.frozen? ⟨C, 0, none⟩ = false := by rw [hws]; simp [go_sem, hdA, hdC]
      have kC1 : s52.cell? ⟨C, 1, none⟩ = some (.string ⟨#[]⟩) := by rw [hws]; simp [go_sem, hdA, hdC]
      have fC1 : s52.frozen? ⟨C, 1, none⟩ = false := by rw [hws]; simp [go_sem, hdA, hdC]
      have kC2 : s52.cell? ⟨C, 2, none⟩ = some (.string ⟨#[]⟩) := by rw [hws]; simp [go_sem, hdA, hdC]
      have fC2 : s52.frozen? ⟨C, 2, none⟩ = false := by rw [hws]; simp [go_sem, hdA, hdC]
      have zC : C < s52.heap.size := by omega
      have lC : w.heap.size ≤ C := by have := Nat.le_refl w.heap.size; omega
      rw [← hws]
      try rw [← hdC]
      try rw [← hdA]
      clear hws hsz hdA hdC
      have hBo := hBs; clear hBs
      refine (HPW.out _).mono ?_; rintro e s53 ⟨rfl, hb⟩
      replace kA0 := belK hb kA0 zA; replace kA1 := belK hb kA1 zA; replace kA2 := belK hb kA2 zA; replace zA := Nat.lt_of_lt_of_le zA hb.size
      replace kC0 := belK hb kC0 zC; replace fC0 := belF hb fC0 zC; replace kC1 := belK hb kC1 zC; replace fC1 := belF hb fC1 zC; replace kC2 := belK hb kC2 zC; replace fC2 := belF hb fC2 zC; replace zC := Nat.lt_of_lt_of_le zC hb.size
      replace hBo := hBo.trans (hb.mono hBo.size)
      clear hb
      go_wp2_with fail
      refine (HMT.out _).mono ?_; rintro e s54 ⟨rfl, hb⟩
      replace kA0 := belK hb kA0 zA; replace kA1 := belK hb kA1 zA; replace kA2 := belK hb kA2 zA; replace zA := Nat.lt_of_lt_of_le zA hb.size
      replace kC0 := belK hb kC0 zC; replace fC0 := belF hb fC0 zC; replace kC1 := belK hb kC1 zC; replace fC1 := belF hb fC1 zC; replace kC2 := belK hb kC2 zC; replace fC2 := belF hb fC2 zC; replace zC := Nat.lt_of_lt_of_le zC hb.size
      replace hBo := hBo.trans (hb.mono hBo.size)
      clear hb
      go_wp2_with fail
      obtain ⟨s55, hws⟩ : ∃ s, s = (s54.alloc (.cells #[.bool (zb T), .string (zt T)] 44)) := ⟨_, rfl⟩
      have hBs : Below w.heap.size w s55 := by rw [hws]; exact ((hBo).alloc (by exact hBo.size) _)
      obtain ⟨E, hdE⟩ : ∃ b, b = s54.heap.size := ⟨_, rfl⟩
      have hsz : s55.heap.size = s54.heap.size + 1 := by rw [hws]; simp
      have dCE : C ≠ E := by omega
      have hQC : ∀ p v, s54.cell? p = some v → s55.cell? p = some v := fun p v h => by rw [hws]; exact (alK h)
      have hQZ : ∀ b, b < s54.heap.size → b < s55.heap.size := fun b h => by omega
      have hQF : ∀ b j, b < s54.heap.size → s54.frozen? ⟨b, j, none⟩ = false → s55.frozen? ⟨b, j, none⟩ = false := fun b j z h => by rw [hws]; exact (alF z h)
      replace kA0 := hQC _ _ kA0; replace kA1 := hQC _ _ kA1; replace kA2 := hQC _ _ kA2; replace zA := hQZ _ zA
      replace kC0 := hQC _ _ kC0; replace fC0 := hQF _ _ zC fC0; replace kC1 := hQC _ _ kC1; replace fC1 := hQF _ _ zC fC1; replace kC2 := hQC _ _ kC2; replace fC2 := hQF _ _ zC fC2; replace zC := hQZ _ zC
      clear hQC hQZ hQF
      have kE0 : s55.cell? ⟨E, 0, none⟩ = some (.bool (zb T)) := by rw [hws]; simp [go_sem, hdE]
      have kE1 : s55.cell? ⟨E, 1, none⟩ = some (.string (zt T)) := by rw [hws]; simp [go_sem, hdE]
      have zE : E < s55.heap.size := by omega
      have lE : w.heap.size ≤ E := by have := hBo.size; omega
      rw [← hws]
      try rw [← hdE]
      clear hBo
      clear hws hsz hdE
      have hBo := hBs; clear hBs
      refine (HTop.out _).mono ?_; rintro e s56 ⟨rfl, hb⟩
      replace kA0 := belK hb kA0 zA; replace kA1 := belK hb kA1 zA; replace kA2 := belK hb kA2 zA; replace zA := Nat.lt_of_lt_of_le zA hb.size
      replace kC0 := belK hb kC0 zC; replace fC0 := belF hb fC0 zC; replace kC1 := belK hb kC1 zC; replace fC1 := belF hb fC1 zC; replace kC2 := belK hb kC2 zC; replace fC2 := belF hb fC2 zC; replace zC := Nat.lt_of_lt_of_le zC hb.size
      replace kE0 := belK hb kE0 zE; replace kE1 := belK hb kE1 zE; replace zE := Nat.lt_of_lt_of_le zE hb.size
      replace hBo := hBo.trans (hb.mono hBo.size)
      clear hb
      go_wp2_with fail
      refine (HMA.out _).mono ?_; rintro e s57 ⟨rfl, hb⟩
      replace kA0 := belK hb kA0 zA; replace kA1 := belK hb kA1 zA; replace kA2 := belK hb kA2 zA; replace zA := Nat.lt_of_lt_of_le zA hb.size
      replace kC0 := belK hb kC0 zC; replace fC0 := belF hb fC0 zC; replace kC1 := belK hb kC1 zC; replace fC1 := belF hb fC1 zC; replace kC2 := belK hb kC2 zC; replace fC2 := belF hb fC2 zC; replace zC := Nat.lt_of_lt_of_le zC hb.size
      replace kE0 := belK hb kE0 zE; replace kE1 := belK hb kE1 zE; replace zE := Nat.lt_of_lt_of_le zE hb.size
      replace hBo := hBo.trans (hb.mono hBo.size)
      clear hb
      go_wp2_with fail
      obtain ⟨s58, hws⟩ : ∃ s, s = (s57.alloc (.cells #[.bool (zb NN), .string (zt NN)] 44)) := ⟨_, rfl⟩
      have hBs : Below w.heap.size w s58 := by rw [hws]; exact ((hBo).alloc (by exact hBo.size) _)
      obtain ⟨O, hdO⟩ : ∃ b, b = s57.heap.size := ⟨_, rfl⟩
      have hsz : s58.heap.size = s57.heap.size + 1 := by rw [hws]; simp
      have dCO : C ≠ O := by omega
      have hQC : ∀ p v, s57.cell? p = some v → s58.cell? p = some v := fun p v h => by rw [hws]; exact (alK h)
      have hQZ : ∀ b, b < s57.heap.size → b < s58.heap.size := fun b h => by omega
      have hQF : ∀ b j, b < s57.heap.size → s57.frozen? ⟨b, j, none⟩ = false → s58.frozen? ⟨b, j, none⟩ = false := fun b j z h => by rw [hws]; exact (alF z h)
      replace kA0 := hQC _ _ kA0; replace kA1 := hQC _ _ kA1; replace kA2 := hQC _ _ kA2; replace zA := hQZ _ zA
      replace kC0 := hQC _ _ kC0; replace fC0 := hQF _ _ zC fC0; replace kC1 := hQC _ _ kC1; replace fC1 := hQF _ _ zC fC1; replace kC2 := hQC _ _ kC2; replace fC2 := hQF _ _ zC fC2; replace zC := hQZ _ zC
      replace kE0 := hQC _ _ kE0; replace kE1 := hQC _ _ kE1; replace zE := hQZ _ zE
      clear hQC hQZ hQF
      have kO0 : s58.cell? ⟨O, 0, none⟩ = some (.bool (zb NN)) := by rw [hws]; simp [go_sem, hdO]
      have kO1 : s58.cell? ⟨O, 1, none⟩ = some (.string (zt NN)) := by rw [hws]; simp [go_sem, hdO]
      have zO : O < s58.heap.size := by omega
      have lO : w.heap.size ≤ O := by have := hBo.size; omega
      rw [← hws]
      try rw [← hdO]
      clear hBo
      clear hws hsz hdO
      have hBo := hBs; clear hBs
      refine (HLow.out _).mono ?_; rintro e s59 ⟨rfl, hb⟩
      replace kA0 := belK hb kA0 zA; replace kA1 := belK hb kA1 zA; replace kA2 := belK hb kA2 zA; replace zA := Nat.lt_of_lt_of_le zA hb.size
      replace kC0 := belK hb kC0 zC; replace fC0 := belF hb fC0 zC; replace kC1 := belK hb kC1 zC; replace fC1 := belF hb fC1 zC; replace kC2 := belK hb kC2 zC; replace fC2 := belF hb fC2 zC; replace zC := Nat.lt_of_lt_of_le zC hb.size
      replace kE0 := belK hb kE0 zE; replace kE1 := belK hb kE1 zE; replace zE := Nat.lt_of_lt_of_le zE hb.size
      replace kO0 := belK hb kO0 zO; replace kO1 := belK hb kO1 zO; replace zO := Nat.lt_of_lt_of_le zO hb.size
      replace hBo := hBo.trans (hb.mono hBo.size)
      clear hb
      go_wp2_with fail
      obtain ⟨s60, hws⟩ : ∃ s, s = (s59.alloc (.cells #[.bool (zb y), .string (zt y)] 44)) := ⟨_, rfl⟩
      have hBs : Below w.heap.size w s60 := by rw [hws]; exact ((hBo).alloc (by exact hBo.size) _)
      obtain ⟨U, hdU⟩ : ∃ b, b = s59.heap.size := ⟨_, rfl⟩
      have hsz : s60.heap.size = s59.heap.size + 1 := by rw [hws]; simp
      have dCU : C ≠ U := by omega
      have dUA : U ≠ A := by omega
      have dUC : U ≠ C := by omega
      have dUE : U ≠ E := by omega
      have dUO : U ≠ O := by omega
      have hQC : ∀ p v, s59.cell? p = some v → s60.cell? p = some v := fun p v h => by rw [hws]; exact (alK h)
      have hQZ : ∀ b, b < s59.heap.size → b < s60.heap.size := fun b h => by omega
      have hQF : ∀ b j, b < s59.heap.size → s59.frozen? ⟨b, j, none⟩ = false → s60.frozen? ⟨b, j, none⟩ = false := fun b j z h => by rw [hws]; exact (alF z h)
      replace kA0 := hQC _ _ kA0; replace kA1 := hQC _ _ kA1; replace kA2 := hQC _ _ kA2; replace zA := hQZ _ zA
      replace kC0 := hQC _ _ kC0; replace fC0 := hQF _ _ zC fC0; replace kC1 := hQC _ _ kC1; replace fC1 := hQF _ _ zC fC1; replace kC2 := hQC _ _ kC2; replace fC2 := hQF _ _ zC fC2; replace zC := hQZ _ zC
      replace kE0 := hQC _ _ kE0; replace kE1 := hQC _ _ kE1; replace zE := hQZ _ zE
      replace kO0 := hQC _ _ kO0; replace kO1 := hQC _ _ kO1; replace zO := hQZ _ zO
      clear hQC hQZ hQF
      have kU0 : s60.cell? ⟨U, 0, none⟩ = some (.bool (zb y)) := by rw [hws]; simp [go_sem, hdU]
      have fU0 : s60.frozen? ⟨U, 0, none⟩ = false := by rw [hws]; simp [go_sem, hdU]
      have kU1 : s60.cell? ⟨U, 1, none⟩ = some (.string (zt y)) := by rw [hws]; simp [go_sem, hdU]
      have fU1 : s60.frozen? ⟨U, 1, none⟩ = false := by rw [hws]; simp [go_sem, hdU]
      have zU : U < s60.heap.size := by omega
      have lU : w.heap.size ≤ U := by have := hBo.size; omega
      rw [← hws]
      try rw [← hdU]
      clear hBo
      clear hws hsz hdU
      have hBo := hBs; clear hBs
      refine (HML.out _).mono ?_; rintro e s61 ⟨rfl, hb⟩
      replace kA0 := belK hb kA0 zA; replace kA1 := belK hb kA1 zA; replace kA2 := belK hb kA2 zA; replace zA := Nat.lt_of_lt_of_le zA hb.size
      replace kC0 := belK hb kC0 zC; replace fC0 := belF hb fC0 zC; replace kC1 := belK hb kC1 zC; replace fC1 := belF hb fC1 zC; replace kC2 := belK hb kC2 zC; replace fC2 := belF hb fC2 zC; replace zC := Nat.lt_of_lt_of_le zC hb.size
      replace kE0 := belK hb kE0 zE; replace kE1 := belK hb kE1 zE; replace zE := Nat.lt_of_lt_of_le zE hb.size
      replace kO0 := belK hb kO0 zO; replace kO1 := belK hb kO1 zO; replace zO := Nat.lt_of_lt_of_le zO hb.size
      replace kU0 := belK hb kU0 zU; replace fU0 := belF hb fU0 zU; replace kU1 := belK hb kU1 zU; replace fU1 := belF hb fU1 zU; replace zU := Nat.lt_of_lt_of_le zU hb.size
      replace hBo := hBo.trans (hb.mono hBo.size)
      clear hb
      go_wp2_with fail
      obtain ⟨s62, hws⟩ : ∃ s, s = ((s61.setCell ⟨U, 0, none⟩ (.bool (zb M))).setCell ⟨U, 1, none⟩ (.string (zt M))) := ⟨_, rfl⟩
      have hBs : Below w.heap.size w s62 := by rw [hws]; exact (((hBo).setCell lU _).setCell lU _)
      have hsz : s62.heap.size = s61.heap.size := by rw [hws]; simp
      have hQC : ∀ b j v, s61.cell? ⟨b, j, none⟩ = some v → U ≠ b → s62.cell? ⟨b, j, none⟩ = some v := fun b j v h dU => by rw [hws]; exact (stK (stK h dU) dU)
      replace kA0 := hQC _ _ _ kA0 dUA; replace kA1 := hQC _ _ _ kA1 dUA; replace kA2 := hQC _ _ _ kA2 dUA
      replace kC0 := hQC _ _ _ kC0 dUC; replace kC1 := hQC _ _ _ kC1 dUC; replace kC2 := hQC _ _ _ kC2 dUC
      replace kE0 := hQC _ _ _ kE0 dUE; replace kE1 := hQC _ _ _ kE1 dUE
      replace kO0 := hQC _ _ _ kO0 dUO; replace kO1 := hQC _ _ _ kO1 dUO
      clear hQC
      have kU0_ : s62.cell? ⟨U, 0, none⟩ = some (.bool (zb M)) := by rw [hws]; simp [go_sem, kU0, kU1, fU0, fU1]
      have kU1_ : s62.cell? ⟨U, 1, none⟩ = some (.string (zt M)) := by rw [hws]; simp [go_sem, kU0, kU1, fU0, fU1]
      replace kU0 := kU0_; clear kU0_; replace kU1 := kU1_; clear kU1_
      have hQF : ∀ p, s62.frozen? p = s61.frozen? p := fun p => by rw [hws]; simp [go_sem]
      replace fC0 := (hQF _).trans fC0; replace fC1 := (hQF _).trans fC1; replace fC2 := (hQF _).trans fC2
      replace fU0 := (hQF _).trans fU0; replace fU1 := (hQF _).trans fU1
      clear hQF
      replace zA : A < s62.heap.size := by omega
      replace zC : C < s62.heap.size := by omega
      replace zE : E < s62.heap.size := by omega
      replace zO : O < s62.heap.size := by omega
      replace zU : U < s62.heap.size := by omega
      rw [← hws]
      clear hBo hws hsz
      have hBo := hBs; clear hBs
      refine (HST.out _).mono ?_; rintro e s63 ⟨rfl, hb⟩
      replace kA0 := belK hb kA0 zA; replace kA1 := belK hb kA1 zA; replace kA2 := belK hb kA2 zA; replace zA := Nat.lt_of_lt_of_le zA hb.size
      replace kC0 := belK hb kC0 zC; replace fC0 := belF hb fC0 zC; replace kC1 := belK hb kC1 zC; replace fC1 := belF hb fC1 zC; replace kC2 := belK hb kC2 zC; replace fC2 := belF hb fC2 zC; replace zC := Nat.lt_of_lt_of_le zC hb.size
      replace kE0 := belK hb kE0 zE; replace kE1 := belK hb kE1 zE; replace zE := Nat.lt_of_lt_of_le zE hb.size
      replace kO0 := belK hb kO0 zO; replace kO1 := belK hb kO1 zO; replace zO := Nat.lt_of_lt_of_le zO hb.size
      replace kU0 := belK hb kU0 zU; replace fU0 := belF hb fU0 zU; replace kU1 := belK hb kU1 zU; replace fU1 := belF hb fU1 zU; replace zU := Nat.lt_of_lt_of_le zU hb.size
      replace hBo := hBo.trans (hb.mono hBo.size)
      clear hb
      go_wp2_with fail
      obtain ⟨s64, hws⟩ : ∃ s, s = (s63.alloc (.cells #[.bool (zb S'), .string (zt S')] 44)) := ⟨_, rfl⟩
      have hBs : Below w.heap.size w s64 := by rw [hws]; exact ((hBo).alloc (by exact hBo.size) _)
      obtain ⟨V, hdV⟩ : ∃ b, b = s63.heap.size := ⟨_, rfl⟩
      have hsz : s64.heap.size = s63.heap.size + 1 := by rw [hws]; simp
      have dCV : C ≠ V := by omega
      have dUV : U ≠ V := by omega
      have dVA : V ≠ A := by omega
      have dVC : V ≠ C := by omega
      have dVE : V ≠ E := by omega
      have dVO : V ≠ O := by omega
      have dVU : V ≠ U := by omega
      have hQC : ∀ p v, s63.cell? p = some v → s64.cell? p = some v := fun p v h => by rw [hws]; exact (alK h)
      have hQZ : ∀ b, b < s63.heap.size → b < s64.heap.size := fun b h => by omega
      have hQF : ∀ b j, b < s63.heap.size → s63.frozen? ⟨b, j, none⟩ = false → s64.frozen? ⟨b, j, none⟩ = false := fun b j z h => by rw [hws]; exact (alF z h)
      replace kA0 := hQC _ _ kA0; replace kA1 := hQC _ _ kA1; replace kA2 := hQC _ _ kA2; replace zA := hQZ _ zA
      replace kC0 := hQC _ _ kC0; replace fC0 := hQF _ _ zC fC0; replace kC1 := hQC _ _ kC1; replace fC1 := hQF _ _ zC fC1; replace kC2 := hQC _ _ kC2; replace fC2 := hQF _ _ zC fC2; replace zC := hQZ _ zC
      replace kE0 := hQC _ _ kE0; replace kE1 := hQC _ _ kE1; replace zE := hQZ _ zE
      replace kO0 := hQC _ _ kO0; replace kO1 := hQC _ _ kO1; replace zO := hQZ _ zO
      replace kU0 := hQC _ _ kU0; replace fU0 := hQF _ _ zU fU0; replace kU1 := hQC _ _ kU1; replace fU1 := hQF _ _ zU fU1; replace zU := hQZ _ zU
      clear hQC hQZ hQF
      have kV0 : s64.cell? ⟨V, 0, none⟩ = some (.bool (zb S')) := by rw [hws]; simp [go_sem, hdV]
      have fV0 : s64.frozen? ⟨V, 0, none⟩ = false := by rw [hws]; simp [go_sem, hdV]
      have kV1 : s64.cell? ⟨V, 1, none⟩ = some (.string (zt S')) := by rw [hws]; simp [go_sem, hdV]
      have fV1 : s64.frozen? ⟨V, 1, none⟩ = false := by rw [hws]; simp [go_sem, hdV]
      have zV : V < s64.heap.size := by omega
      have lV : w.heap.size ≤ V := by have := hBo.size; omega
      rw [← hws]
      try rw [← hdV]
      clear hBo
      clear hws hsz hdV
      have hBo := hBs; clear hBs
      refine (HSG.out _).mono ?_; rintro e s65 ⟨rfl, hb⟩
      replace kA0 := belK hb kA0 zA; replace kA1 := belK hb kA1 zA; replace kA2 := belK hb kA2 zA; replace zA := Nat.lt_of_lt_of_le zA hb.size
      replace kC0 := belK hb kC0 zC; replace fC0 := belF hb fC0 zC; replace kC1 := belK hb kC1 zC; replace fC1 := belF hb fC1 zC; replace kC2 := belK hb kC2 zC; replace fC2 := belF hb fC2 zC; replace zC := Nat.lt_of_lt_of_le zC hb.size
      replace kE0 := belK hb kE0 zE; replace kE1 := belK hb kE1 zE; replace zE := Nat.lt_of_lt_of_le zE hb.size
      replace kO0 := belK hb kO0 zO; replace kO1 := belK hb kO1 zO; replace zO := Nat.lt_of_lt_of_le zO hb.size
      replace kU0 := belK hb kU0 zU; replace fU0 := belF hb fU0 zU; replace kU1 := belK hb kU1 zU; replace fU1 := belF hb fU1 zU; replace zU := Nat.lt_of_lt_of_le zU hb.size
      replace kV0 := belK hb kV0 zV; replace fV0 := belF hb fV0 zV; replace kV1 := belK hb kV1 zV; replace fV1 := belF hb fV1 zV; replace zV := Nat.lt_of_lt_of_le zV hb.size
      replace hBo := hBo.trans (hb.mono hBo.size)
      clear hb
      go_wp2_with fail
      refine (HM2.out _).mono ?_; rintro e s66 ⟨rfl, hb⟩
      replace kA0 := belK hb kA0 zA; replace kA1 := belK hb kA1 zA; replace kA2 := belK hb kA2 zA; replace zA := Nat.lt_of_lt_of_le zA hb.size
      replace kC0 := belK hb kC0 zC; replace fC0 := belF hb fC0 zC; replace kC1 := belK hb kC1 zC; replace fC1 := belF hb fC1 zC; replace kC2 := belK hb kC2 zC; replace fC2 := belF hb fC2 zC; replace zC := Nat.lt_of_lt_of_le zC hb.size
      replace kE0 := belK hb kE0 zE; replace kE1 := belK hb kE1 zE; replace zE := Nat.lt_of_lt_of_le zE hb.size
      replace kO0 := belK hb kO0 zO; replace kO1 := belK hb kO1 zO; replace zO := Nat.lt_of_lt_of_le zO hb.size
      replace kU0 := belK hb kU0 zU; replace fU0 := belF hb fU0 zU; replace kU1 := belK hb kU1 zU; replace fU1 := belF hb fU1 zU; replace zU := Nat.lt_of_lt_of_le zU hb.size
      replace kV0 := belK hb kV0 zV; replace fV0 := belF hb fV0 zV; replace kV1 := belK hb kV1 zV; replace fV1 := belF hb fV1 zV; replace zV := Nat.lt_of_lt_of_le zV hb.size
      replace hBo := hBo.trans (hb.mono hBo.size)
      clear hb
      go_wp2_with fail
      refine (hOne.out _).mono ?_; rintro e s67 ⟨rfl, hb⟩
      replace kA0 := belK hb kA0 zA; replace kA1 := belK hb kA1 zA; replace kA2 := belK hb kA2 zA; replace zA := Nat.lt_of_lt_of_le zA hb.size
      replace kC0 := belK hb kC0 zC; replace fC0 := belF hb fC0 zC; replace kC1 := belK hb kC1 zC; replace fC1 := belF hb fC1 zC; replace kC2 := belK hb kC2 zC; replace fC2 := belF hb fC2 zC; replace zC := Nat.lt_of_lt_of_le zC hb.size
      replace kE0 := belK hb kE0 zE; replace kE1 := belK hb kE1 zE; replace zE := Nat.lt_of_lt_of_le zE hb.size
      replace kO0 := belK hb kO0 zO; replace kO1 := belK hb kO1 zO; replace zO := Nat.lt_of_lt_of_le zO hb.size
      replace kU0 := belK hb kU0 zU; replace fU0 := belF hb fU0 zU; replace kU1 := belK hb kU1 zU; replace fU1 := belF hb fU1 zU; replace zU := Nat.lt_of_lt_of_le zU hb.size
      replace kV0 := belK hb kV0 zV; replace fV0 := belF hb fV0 zV; replace kV1 := belK hb kV1 zV; replace fV1 := belF hb fV1 zV; replace zV := Nat.lt_of_lt_of_le zV hb.size
      replace hBo := hBo.trans (hb.mono hBo.size)
      clear hb
      go_wp2_with fail
      refine (HK.out _).mono ?_; rintro e s68 ⟨rfl, hb⟩
      replace kA0 := belK hb kA0 zA; replace kA1 := belK hb kA1 zA; replace kA2 := belK hb kA2 zA; replace zA := Nat.lt_of_lt_of_le zA hb.size
      replace kC0 := belK hb kC0 zC; replace fC0 := belF hb fC0 zC; replace kC1 := belK hb kC1 zC; replace fC1 := belF hb fC1 zC; replace kC2 := belK hb kC2 zC; replace fC2 := belF hb fC2 zC; replace zC := Nat.lt_of_lt_of_le zC hb.size
      replace kE0 := belK hb kE0 zE; replace kE1 := belK hb kE1 zE; replace zE := Nat.lt_of_lt_of_le zE hb.size
      replace kO0 := belK hb kO0 zO; replace kO1 := belK hb kO1 zO; replace zO := Nat.lt_of_lt_of_le zO hb.size
      replace kU0 := belK hb kU0 zU; replace fU0 := belF hb fU0 zU; replace kU1 := belK hb kU1 zU; replace fU1 := belF hb fU1 zU; replace zU := Nat.lt_of_lt_of_le zU hb.size
      replace kV0 := belK hb kV0 zV; replace fV0 := belF hb fV0 zV; replace kV1 := belK hb kV1 zV; replace fV1 := belF hb fV1 zV; replace zV := Nat.lt_of_lt_of_le zV hb.size
      replace hBo := hBo.trans (hb.mono hBo.size)
      clear hb
      all_goals go_wp2_with fail
      all_goals refine bodyPost_ret (v := .tuple #[.agg #[.bool (rb q), .string (rn q), .string (rd q)], .int .i64 c]) (by simp [results, Tryz.results60, go_sem, kC0, kC1, kC2, zC]) rfl ⟨rfl, ?_⟩
      all_goals exact (((hBo.setCell lC _).setCell lC _).setCell lC _)

set_option maxRecDepth 100000 in
set_option maxHeartbeats 4000000 in
theorem refDown6_any (neg : Bool) (a d : ByteArray) (n : Int) (q : Rt) (c : Int) (w : World) (ha : a.size ≤ 140737488351232) (hd : d.size ≤ 140737488351232) (hq : rdR awayDown (wl neg a d) n = q) (hc : rdE awayDown (wl neg a d) n = c) :
    Calls Tryz.prog 25 #[.agg #[.bool neg, .string a, .string d], .int .i64 n] w fun e w' => e = .returned (.tuple #[.agg #[.bool (rb q), .string (rn q), .string (rd q)], .int .i64 c]) ∧ Below w.heap.size w w' := by
  have HR := Lib.hid (fun w => places_any awayDown 0 (fun a b p w h1 h2 h3 h4 h5 => stepDown_any a b p w h1 h2 h3 h4 h5) neg a d n q c w ha hd hq hc)
  clear hq hc ha hd
  go_enter Tryz.func25, Tryz.ntmps25
  go_wp2_with fail
  obtain ⟨s69, hws⟩ : ∃ s, s = ((w.alloc (.cells #[.bool neg, .string a, .string d] 23)).alloc (.cells #[.bool false, .string ⟨#[]⟩, .string ⟨#[]⟩] 23)) := ⟨_, rfl⟩
  have hBs : Below w.heap.size w s69 := by rw [hws]; exact (((Below.refl w.heap.size w).alloc (by simp) _).alloc (by simp) _)
  obtain ⟨A, hdA⟩ : ∃ b, b = w.heap.size := ⟨_, rfl⟩
  obtain ⟨C, hdC⟩ : ∃ b, b = w.heap.size + 1 := ⟨_, rfl⟩
  have hsz : s69.heap.size = w.heap.size + 1 + 1 := by rw [hws]; simp
  have dCA : C ≠ A := by omega
  have kA0 : s69.cell? ⟨A, 0, none⟩ = some (.bool neg) := by rw [hws]; simp [go_sem, hdA, hdC]
  have kA1 : s69.cell? ⟨A, 1, none⟩ = some (.string a) := by rw [hws]; simp [go_sem, hdA, hdC]
  have kA2 : s69.cell? ⟨A, 2, none⟩ = some (.string d) := by rw [hws]; simp [go_sem, hdA, hdC]
  have zA : A < s69.heap.size := by omega
  have lA : w.heap.size ≤ A := by have := Nat.le_refl w.heap.size; omega
  have kC0 : s69.cell? ⟨C, 0, none⟩ = some (.bool false) := by rw [hws]; simp [go_sem, hdA, hdC]
  have fC0 : s69.frozen? ⟨C, 0, none⟩ = false := by rw [hws]; simp [go_sem, hdA, hdC]
  have kC1 : s69.cell? ⟨C, 1, none⟩ = some (.string ⟨#[]⟩) := by rw [hws]; simp [go_sem, hdA, hdC]
  have fC1 : s69.frozen? ⟨C, 1, none⟩ = false := by rw [hws]; simp [go_sem, hdA, hdC]
  have kC2 : s69.cell? ⟨C, 2, none⟩ = some (.string ⟨#[]⟩) := by rw [hws]; simp [go_sem, hdA, hdC]
  have fC2 : s69.frozen? ⟨C, 2, none⟩ = false := by rw [hws]; simp [go_sem, hdA, hdC]
  have zC : C < s69.heap.size := by omega
  have lC : w.heap.size ≤ C := by have := Nat.le_refl w.heap.size; omega
  rw [← hws]
  try rw [← hdC]
  try rw [← hdA]
  clear hws hsz hdA hdC
  have hBo := hBs; clear hBs
  refine (HR.out _).mono ?_; rintro e s70 ⟨rfl, hb⟩
  replace kA0 := belK hb kA0 zA; replace kA1 := belK hb kA1 zA; replace kA2 := belK hb kA2 zA; replace zA := Nat.lt_of_lt_of_le zA hb.size
  replace kC0 := belK hb kC0 zC; replace fC0 := belF hb fC0 zC; replace kC1 := belK hb kC1 zC; replace fC1 := belF hb fC1 zC; replace kC2 := belK hb kC2 zC; replace fC2 := belF hb fC2 zC; replace zC := Nat.lt_of_lt_of_le zC hb.size
  replace hBo := hBo.trans (hb.mono hBo.size)
  clear hb
  all_goals go_wp2_with fail
  all_goals refine bodyPost_ret (v := .tuple #[.agg #[.bool (rb q), .string (rn q), .string (rd q)], .int .i64 c]) (by simp [results, Tryz.results25, go_sem, kC0, kC1, kC2, zC]) rfl ⟨rfl, ?_⟩
  all_goals exact (((hBo.setCell lC _).setCell lC _).setCell lC _)

set_option maxRecDepth 100000 in
set_option maxHeartbeats 4000000 in
theorem refUp6_any (neg : Bool) (a d : ByteArray) (n : Int) (q : Rt) (c : Int) (w : World) (ha : a.size ≤ 140737488351232) (hd : d.size ≤ 140737488351232) (hq : rdR awayUp (wl neg a d) n = q) (hc : rdE awayUp (wl neg a d) n = c) :
    Calls Tryz.prog 27 #[.agg #[.bool neg, .string a, .string d], .int .i64 n] w fun e w' => e = .returned (.tuple #[.agg #[.bool (rb q), .string (rn q), .string (rd q)], .int .i64 c]) ∧ Below w.heap.size w w' := by
  have HR := Lib.hid (fun w => places_any awayUp 1 (fun a b p w h1 h2 h3 h4 h5 => stepUp_any a b p w h1 h2 h3 h4 h5) neg a d n q c w ha hd hq hc)
  clear hq hc ha hd
  go_enter Tryz.func27, Tryz.ntmps27
  go_wp2_with fail
  obtain ⟨s71, hws⟩ : ∃ s, s = ((w.alloc (.cells #[.bool neg, .string a, .string d] 23)).alloc (.cells #[.bool false, .string ⟨#[]⟩, .string ⟨#[]⟩] 23)) := ⟨_, rfl⟩
  have hBs : Below w.heap.size w s71 := by rw [hws]; exact (((Below.refl w.heap.size w).alloc (by simp) _).alloc (by simp) _)
  obtain ⟨A, hdA⟩ : ∃ b, b = w.heap.size := ⟨_, rfl⟩
  obtain ⟨C, hdC⟩ : ∃ b, b = w.heap.size + 1 := ⟨_, rfl⟩
  have hsz : s71.heap.size = w.heap.size + 1 + 1 := by rw [hws]; simp
  have dCA : C ≠ A := by omega
  have kA0 : s71.cell? ⟨A, 0, none⟩ = some (.bool neg) := by rw [hws]; simp [go_sem, hdA, hdC]
  have kA1 : s71.cell? ⟨A, 1, none⟩ = some (.string a) := by rw [hws]; simp [go_sem, hdA, hdC]
  have kA2 : s71.cell? ⟨A, 2, none⟩ = some (.string d) := by rw [hws]; simp [go_sem, hdA, hdC]
  have zA : A < s71.heap.size := by omega
  have lA : w.heap.size ≤ A := by have := Nat.le_refl w.heap.size; omega
  have kC0 : s71.cell? ⟨C, 0, none⟩ = some (.bool false) := by rw [hws]; simp [go_sem, hdA, hdC]
  have fC0 : s71.frozen? ⟨C, 0, none⟩ = false := by rw [hws]; simp [go_sem, hdA, hdC]
  have kC1 : s71.cell? ⟨C, 1, none⟩ = some (.string ⟨#[]⟩) := by rw [hws]; simp [go_sem, hdA, hdC]
  have fC1 : s71.frozen? ⟨C, 1, none⟩ = false := by rw [hws]; simp [go_sem, hdA, hdC]
  have kC2 : s71.cell? ⟨C, 2, none⟩ = some (.string ⟨#[]⟩) := by rw [hws]; simp [go_sem, hdA, hdC]
  have fC2 : s71.frozen? ⟨C, 2, none⟩ = false := by rw [hws]; simp [go_sem, hdA, hdC]
  have zC : C < s71.heap.size := by omega
  have lC : w.heap.size ≤ C := by have := Nat.le_refl w.heap.size; omega
  rw [← hws]
  try rw [← hdC]
  try rw [← hdA]
  clear hws hsz hdA hdC
  have hBo := hBs; clear hBs
  refine (HR.out _).mono ?_; rintro e s72 ⟨rfl, hb⟩
  replace kA0 := belK hb kA0 zA; replace kA1 := belK hb kA1 zA; replace kA2 := belK hb kA2 zA; replace zA := Nat.lt_of_lt_of_le zA hb.size
  replace kC0 := belK hb kC0 zC; replace fC0 := belF hb fC0 zC; replace kC1 := belK hb kC1 zC; replace fC1 := belF hb fC1 zC; replace kC2 := belK hb kC2 zC; replace fC2 := belF hb fC2 zC; replace zC := Nat.lt_of_lt_of_le zC hb.size
  replace hBo := hBo.trans (hb.mono hBo.size)
  clear hb
  all_goals go_wp2_with fail
  all_goals refine bodyPost_ret (v := .tuple #[.agg #[.bool (rb q), .string (rn q), .string (rd q)], .int .i64 c]) (by simp [results, Tryz.results27, go_sem, kC0, kC1, kC2, zC]) rfl ⟨rfl, ?_⟩
  all_goals exact (((hBo.setCell lC _).setCell lC _).setCell lC _)

set_option maxRecDepth 100000 in
set_option maxHeartbeats 4000000 in
theorem refHalf6_any (neg : Bool) (a d : ByteArray) (n : Int) (q : Rt) (c : Int) (w : World) (ha : a.size ≤ 140737488351232) (hd : d.size ≤ 140737488351232) (hq : rdR awayHalf (wl neg a d) n = q) (hc : rdE awayHalf (wl neg a d) n = c) :
    Calls Tryz.prog 23 #[.agg #[.bool neg, .string a, .string d], .int .i64 n] w fun e w' => e = .returned (.tuple #[.agg #[.bool (rb q), .string (rn q), .string (rd q)], .int .i64 c]) ∧ Below w.heap.size w w' := by
  have HR := Lib.hid (fun w => places_any awayHalf 2 (fun a b p w h1 h2 h3 h4 h5 => stepHalf_any a b p w h1 h2 h3 h4 h5) neg a d n q c w ha hd hq hc)
  clear hq hc ha hd
  go_enter Tryz.func23, Tryz.ntmps23
  go_wp2_with fail
  obtain ⟨s73, hws⟩ : ∃ s, s = ((w.alloc (.cells #[.bool neg, .string a, .string d] 23)).alloc (.cells #[.bool false, .string ⟨#[]⟩, .string ⟨#[]⟩] 23)) := ⟨_, rfl⟩
  have hBs : Below w.heap.size w s73 := by rw [hws]; exact (((Below.refl w.heap.size w).alloc (by simp) _).alloc (by simp) _)
  obtain ⟨A, hdA⟩ : ∃ b, b = w.heap.size := ⟨_, rfl⟩
  obtain ⟨C, hdC⟩ : ∃ b, b = w.heap.size + 1 := ⟨_, rfl⟩
  have hsz : s73.heap.size = w.heap.size + 1 + 1 := by rw [hws]; simp
  have dCA : C ≠ A := by omega
  have kA0 : s73.cell? ⟨A, 0, none⟩ = some (.bool neg) := by rw [hws]; simp [go_sem, hdA, hdC]
  have kA1 : s73.cell? ⟨A, 1, none⟩ = some (.string a) := by rw [hws]; simp [go_sem, hdA, hdC]
  have kA2 : s73.cell? ⟨A, 2, none⟩ = some (.string d) := by rw [hws]; simp [go_sem, hdA, hdC]
  have zA : A < s73.heap.size := by omega
  have lA : w.heap.size ≤ A := by have := Nat.le_refl w.heap.size; omega
  have kC0 : s73.cell? ⟨C, 0, none⟩ = some (.bool false) := by rw [hws]; simp [go_sem, hdA, hdC]
  have fC0 : s73.frozen? ⟨C, 0, none⟩ = false := by rw [hws]; simp [go_sem, hdA, hdC]
  have kC1 : s73.cell? ⟨C, 1, none⟩ = some (.string ⟨#[]⟩) := by rw [hws]; simp [go_sem, hdA, hdC]
  have fC1 : s73.frozen? ⟨C, 1, none⟩ = false := by rw [hws]; simp [go_sem, hdA, hdC]
  have kC2 : s73.cell? ⟨C, 2, none⟩ = some (.string ⟨#[]⟩) := by rw [hws]; simp [go_sem, hdA, hdC]
  have fC2 : s73.frozen? ⟨C, 2, none⟩ = false := by rw [hws]; simp [go_sem, hdA, hdC]
  have zC : C < s73.heap.size := by omega
  have lC : w.heap.size ≤ C := by have := Nat.le_refl w.heap.size; omega
  rw [← hws]
  try rw [← hdC]
  try rw [← hdA]
  clear hws hsz hdA hdC
  have hBo := hBs; clear hBs
  refine (HR.out _).mono ?_; rintro e s74 ⟨rfl, hb⟩
  replace kA0 := belK hb kA0 zA; replace kA1 := belK hb kA1 zA; replace kA2 := belK hb kA2 zA; replace zA := Nat.lt_of_lt_of_le zA hb.size
  replace kC0 := belK hb kC0 zC; replace fC0 := belF hb fC0 zC; replace kC1 := belK hb kC1 zC; replace fC1 := belF hb fC1 zC; replace kC2 := belK hb kC2 zC; replace fC2 := belF hb fC2 zC; replace zC := Nat.lt_of_lt_of_le zC hb.size
  replace hBo := hBo.trans (hb.mono hBo.size)
  clear hb
  all_goals go_wp2_with fail
  all_goals refine bodyPost_ret (v := .tuple #[.agg #[.bool (rb q), .string (rn q), .string (rd q)], .int .i64 c]) (by simp [results, Tryz.results23, go_sem, kC0, kC1, kC2, zC]) rfl ⟨rfl, ?_⟩
  all_goals exact (((hBo.setCell lC _).setCell lC _).setCell lC _)
end Go.Proofs.YtbgmnpabclfjaaaGreatDoor
