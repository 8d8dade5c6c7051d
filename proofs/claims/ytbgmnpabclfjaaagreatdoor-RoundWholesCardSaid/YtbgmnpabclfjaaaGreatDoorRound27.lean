/-
 LAYER 6's STATEMENTS, WALKED: the whole numbers beside a number.
-/
import Derived.Test.YtbgmnpabclfjaaaGreatDoorRound18
import Derived.Test.YtbgmnpabclfjaaaGreatDoorRound17
import Derived.Test.YtbgmnpabclfjaaaGreatDoorRound4
import Derived.Test.YtbgmnpabclfjaaaGreatDoorRound2
import Derived.Test.YtbgmnpabclfjaaaGreatDoorRound1
namespace Go.Proofs.YtbgmnpabclfjaaaGreatDoor
open Go.RowKit Go.Shelf
set_option linter.unusedSimpArgs false
set_option linter.unusedVariables false

def CutR (s : World) (v0 v1 v2 n : Value) (p r : Value) (wx : World) : Prop := ∃ Q, p = .pointer (some ⟨Q, 0, none⟩) ∧ r = n ∧ s.heap.size ≤ Q ∧ wx.cell? ⟨Q, 0, none⟩ = some v0 ∧ wx.cell? ⟨Q, 1, none⟩ = some v1 ∧ wx.cell? ⟨Q, 2, none⟩ = some v2 ∧ Below s.heap.size s wx
theorem trunc_same {Q : Rt} (h : RtOk Q) : rdR awayDown Q 0 = truncR Q := by
 have hf : flq ((Q.num : Nat) : Int) (lowI Q) = ((Q.num / Q.den : Nat) : Int) := by
   unfold lowI flq
   rw [if_pos (by omega)]
   simp
 have h1 : rdR awayDown Q 0 = mkR (sI Q.neg (Q.num / Q.den)) 1 := by
   unfold rdR rdX rdS
   rw [if_neg (by omega)]
   have e1 : tenN 0 = 1 := by decide
   have e2 : tenN (-0) = 1 := by decide
   rw [e1, e2]
   show mkR (sI Q.neg ((Q.num * 1 / (Q.den * 1) + if awayDown (Q.num * 1 % (Q.den * 1)) (Q.den * 1) then 1 else 0) * 1)) ((1 : Nat) : Int) = _
   rw [Nat.mul_one, Nat.mul_one, Nat.mul_one]
   rfl
 rw [h1]
 unfold truncR
 by_cases hn : topI Q < 0
 · rw [if_pos hn]
   have hg := (topI_neg h).1 hn
   have ht : -topI Q = ((Q.num : Nat) : Int) := by unfold topI; rw [hg]; show -(-(Q.num : Int)) = _; omega
   rw [ht, hf, hg]
   rfl
 · rw [if_neg hn]
   have hg : Q.neg = false := by
     cases hh : Q.neg with
     | false => rfl
     | true => exact absurd ((topI_neg h).2 hh) hn
   have ht : topI Q = ((Q.num : Nat) : Int) := by unfold topI; rw [hg]; rfl
   rw [ht, hf, hg]
   rfl
theorem one_blen {f : Int} (h : mkE f 1 = 0) : Nt.blen f.natAbs ≤ 256 := by
 have hN : mkN f 1 = f.natAbs := by unfold mkN; simp
 refine Nat.le_of_not_lt fun h2 => ?_
 rw [(mk_big (x := f) (y := 1) (by omega) (.inl (by rw [hN]; exact h2))).2] at h
 omega

set_option maxRecDepth 100000 in
set_option maxHeartbeats 16000000 in
theorem roundWholes_any (neg : Bool) (a d : ByteArray) (w : World) (ha : a.size ≤ 140737488351232) (hd : d.size ≤ 140737488351232) :
   Calls Tryz.prog 3 #[.agg #[.bool neg, .string a, .string d]] w fun e w' => e = .returned (.bool true) ∧ Below w.heap.size w w' := by
 have HK := Lib.hid known6_any
 have hok := wl_ok neg a d
 obtain ⟨fl1, fl2⟩ := floor_le _ hok
 have htb := top_blen neg a d
 have hfb := flq_blen (topI (wl neg a d)) (lowI (wl neg a d)) htb
 obtain ⟨_, cw2, _, _⟩ := ceil_ways (topI (wl neg a d)) (lowI (wl neg a d)) htb
 obtain ⟨z, hz⟩ : ∃ z, (if lowI (wl neg a d) = 1 then smI (topI (wl neg a d)) else 0) = z := ⟨_, rfl⟩
 obtain ⟨b, hb⟩ : ∃ b, (if lowI (wl neg a d) = 1 then smB (topI (wl neg a d)) else false) = b := ⟨_, rfl⟩
 have H1 := Lib.hid (fun w => roundSmall_any neg a d z b w ha hd hz hb)
 have H2 := Lib.hid (fun w => refSmall6_any neg a d z b w ha hd hz hb)
 obtain ⟨f, hf⟩ : ∃ f, flq (topI (wl neg a d)) (lowI (wl neg a d)) = f := ⟨_, rfl⟩
 rw [hf] at fl1 fl2 hfb
 obtain ⟨m1, m2⟩ := mk_one hfb
 have hokF := one_ok hfb
 have H3 := Lib.hid (fun w => roundFloor_any neg a d ⟨zb f, f.natAbs, 1⟩ 0 w ha hd (by rw [hf]; exact m1) (by rw [hf]; exact m2))
 have H4 := Lib.hid (fun w => refFloor6_any neg a d ⟨zb f, f.natAbs, 1⟩ 0 w ha hd (by rw [hf]; exact m1) (by rw [hf]; exact m2))
 obtain ⟨g, hg⟩ : ∃ g, mkR (-flq (-topI (wl neg a d)) (lowI (wl neg a d))) 1 = g := ⟨_, rfl⟩
 have H5 := Lib.hid (fun w => roundCeil_any neg a d g 0 w ha hd hg cw2)
 have H6 := Lib.hid (fun w => refCeil6_any neg a d g w ha hd hg)
 have H7 := Lib.hid (fun w => roundWhole_any neg a d w ha hd)
 have H8 := Lib.hid (fun w => refWhole6_any neg a d w ha hd)
 obtain ⟨tr, htr⟩ : ∃ t, truncR (wl neg a d) = t := ⟨_, rfl⟩
 have H9 := Lib.hid (fun w => roundTrunc_any neg a d tr w ha hd ((trunc_same hok).trans htr))
 have H10 := Lib.hid (fun w => refTrunc6_any neg a d tr w ha hd htr)
 have HO := Lib.hid refOf1
 have h11 : wl false ⟨#[1]⟩ ⟨#[1]⟩ = ⟨false, 1, 1⟩ := wl_of_ok (q := ⟨false, 1, 1⟩) (by decide)
 obtain ⟨tF, lF⟩ := one_num hfb
 obtain ⟨F, hF⟩ : ∃ F : Rt, F = ⟨zb f, f.natAbs, 1⟩ := ⟨_, rfl⟩
 rw [← hF] at hokF tF lF H3 H4
 have sn := rn_size hokF
 have sd := rd_size hokF
 obtain ⟨x, hx⟩ : ∃ x, mkR (f + 1) 1 = x := ⟨_, rfl⟩
 obtain ⟨cx, hcx⟩ : ∃ c, mkE (f + 1) 1 = c := ⟨_, rfl⟩
 have H11 := Lib.hid (fun w => refAdd5_any (rb F) false (rn F) (rd F) ⟨#[1]⟩ ⟨#[1]⟩ x cx w (by omega) (by omega) (by decide) (by decide)
   (by rw [wl_of_ok hokF, h11, tF, lF]; show mkR (f * 1 + 1 * 1) (1 * 1) = x; rw [Int.mul_one]; exact hx) (by rw [wl_of_ok hokF, h11, tF, lF]; show mkE (f * 1 + 1 * 1) (1 * 1) = cx; rw [Int.mul_one]; exact hcx))
 obtain ⟨c1, hc1⟩ : ∃ c, cmpI' (f * lowI (wl neg a d)) (topI (wl neg a d) * 1) = c := ⟨_, rfl⟩
 have H12 := Lib.hid (fun w => refCmp5_any (rb F) neg (rn F) (rd F) a d c1 w (by omega) (by omega) ha hd (by rw [wl_of_ok hokF, tF, lF]; exact hc1))
 have hc1n : c1 ≤ 0 := by rw [← hc1]; exact cmpI_le fl1
 rcases mkE_ways (f + 1) 1 with h0 | h0
 · rw [h0] at hcx
   subst hcx
   have hxb := one_blen h0
   have hokX := one_ok hxb
   obtain ⟨tX, lX⟩ := one_num hxb
   rw [← (mk_one hxb).1, hx] at hokX tX lX
   have sn2 := rn_size hokX
   have sd2 := rd_size hokX
   obtain ⟨c2, hc2⟩ : ∃ c, cmpI' (topI (wl neg a d) * 1) ((f + 1) * lowI (wl neg a d)) = c := ⟨_, rfl⟩
   have H13 := Lib.hid (fun w => refCmp5_any neg (rb x) a d (rn x) (rd x) c2 w ha hd (by omega) (by omega) (by rw [wl_of_ok hokX, tX, lX]; exact hc2))
   have hc2n : c2 < 0 := by rw [← hc2]; exact cmpI_lt fl2
   clear hok fl1 fl2 htb hfb cw2 hz hb hf m1 m2 hokF hg htr h11 tF lF hF sn sd hx hc1 h0 hxb hokX tX lX sn2 sd2 hc2 ha hd
   generalize decide (lowI (wl neg a d) = 1) = wh at *
   go_enter Tryz.func3, Tryz.ntmps3
   go_wp2_with fail
   obtain ⟨s1, hws⟩ : ∃ s, s = (w.alloc (.cells #[.bool neg, .string a, .string d] 23)) := ⟨_, rfl⟩
   have hBs : Below w.heap.size w s1 := by rw [hws]; exact ((Below.refl w.heap.size w).alloc (by simp) _)
   obtain ⟨A, hdA⟩ : ∃ b, b = w.heap.size := ⟨_, rfl⟩
   have hsz : s1.heap.size = w.heap.size + 1 := by rw [hws]; simp
   have kA0 : s1.cell? ⟨A, 0, none⟩ = some (.bool neg) := by rw [hws]; simp [go_sem, hdA]
   have kA1 : s1.cell? ⟨A, 1, none⟩ = some (.string a) := by rw [hws]; simp [go_sem, hdA]
   have kA2 : s1.cell? ⟨A, 2, none⟩ = some (.string d) := by rw [hws]; simp [go_sem, hdA]
   have zA : A < s1.heap.size := by omega
   have lA : w.heap.size ≤ A := by have := Nat.le_refl w.heap.size; omega
   rw [← hws]
   try rw [← hdA]
   clear hws hsz hdA
   have hBo := hBs; clear hBs
   refine (H1.out _).mono ?_; rintro e s2 ⟨rfl, hb⟩
   replace kA0 := belK hb kA0 zA; replace kA1 := belK hb kA1 zA; replace kA2 := belK hb kA2 zA; replace zA := belZ zA hb
   replace hBo := hBo.trans (hb.mono hBo.size)
   clear hb
   go_wp2_with fail
   refine (H2.out _).mono ?_; rintro e s3 ⟨rfl, hb⟩
   replace kA0 := belK hb kA0 zA; replace kA1 := belK hb kA1 zA; replace kA2 := belK hb kA2 zA; replace zA := belZ zA hb
   replace hBo := hBo.trans (hb.mono hBo.size)
   clear hb
   go_wp2_with fail
   refine (H3.out _).mono ?_; rintro e s4 ⟨rfl, hb⟩
   replace kA0 := belK hb kA0 zA; replace kA1 := belK hb kA1 zA; replace kA2 := belK hb kA2 zA; replace zA := belZ zA hb
   replace hBo := hBo.trans (hb.mono hBo.size)
   clear hb
   go_wp2_with fail
   obtain ⟨s5, hws⟩ : ∃ s, s = (s4.alloc (.cells #[.bool (rb F), .string (rn F), .string (rd F)] 23)) := ⟨_, rfl⟩
   have hBs : Below w.heap.size w s5 := by rw [hws]; exact ((hBo).alloc (by exact hBo.size) _)
   obtain ⟨B, hdB⟩ : ∃ b, b = s4.heap.size := ⟨_, rfl⟩
   have hsz : s5.heap.size = s4.heap.size + 1 := by rw [hws]; simp
   have hQC : ∀ p v, s4.cell? p = some v → s5.cell? p = some v := fun p v h => by rw [hws]; exact (alK h)
   have hQZ : ∀ b, b < s4.heap.size → b < s5.heap.size := fun b h => by omega
   replace kA0 := hQC _ _ kA0; replace kA1 := hQC _ _ kA1; replace kA2 := hQC _ _ kA2; replace zA := hQZ _ zA
   clear hQC hQZ
   have kB0 : s5.cell? ⟨B, 0, none⟩ = some (.bool (rb F)) := by rw [hws]; simp [go_sem, hdB]
   have kB1 : s5.cell? ⟨B, 1, none⟩ = some (.string (rn F)) := by rw [hws]; simp [go_sem, hdB]
   have kB2 : s5.cell? ⟨B, 2, none⟩ = some (.string (rd F)) := by rw [hws]; simp [go_sem, hdB]
   have zB : B < s5.heap.size := by omega
   have lB : w.heap.size ≤ B := by have := hBo.size; omega
   rw [← hws]
   try rw [← hdB]
   clear hBo
   clear hws hsz hdB
   have hBo := hBs; clear hBs
   refine (H4.out _).mono ?_; rintro e s6 ⟨rfl, hb⟩
   replace kA0 := belK hb kA0 zA; replace kA1 := belK hb kA1 zA; replace kA2 := belK hb kA2 zA; replace zA := belZ zA hb
   replace kB0 := belK hb kB0 zB; replace kB1 := belK hb kB1 zB; replace kB2 := belK hb kB2 zB; replace zB := belZ zB hb
   replace hBo := hBo.trans (hb.mono hBo.size)
   clear hb
   go_wp2_with fail
   obtain ⟨s7, hws⟩ : ∃ s, s = (s6.alloc (.cells #[.bool (rb F), .string (rn F), .string (rd F)] 23)) := ⟨_, rfl⟩
   have hBs : Below w.heap.size w s7 := by rw [hws]; exact ((hBo).alloc (by exact hBo.size) _)
   obtain ⟨C, hdC⟩ : ∃ b, b = s6.heap.size := ⟨_, rfl⟩
   have hsz : s7.heap.size = s6.heap.size + 1 := by rw [hws]; simp
   have hQC : ∀ p v, s6.cell? p = some v → s7.cell? p = some v := fun p v h => by rw [hws]; exact (alK h)
   have hQZ : ∀ b, b < s6.heap.size → b < s7.heap.size := fun b h => by omega
   replace kA0 := hQC _ _ kA0; replace kA1 := hQC _ _ kA1; replace kA2 := hQC _ _ kA2; replace zA := hQZ _ zA
   replace kB0 := hQC _ _ kB0; replace kB1 := hQC _ _ kB1; replace kB2 := hQC _ _ kB2; replace zB := hQZ _ zB
   clear hQC hQZ
   have kC0 : s7.cell? ⟨C, 0, none⟩ = some (.bool (rb F)) := by rw [hws]; simp [go_sem, hdC]
   have kC1 : s7.cell? ⟨C, 1, none⟩ = some (.string (rn F)) := by rw [hws]; simp [go_sem, hdC]
   have kC2 : s7.cell? ⟨C, 2, none⟩ = some (.string (rd F)) := by rw [hws]; simp [go_sem, hdC]
   have zC : C < s7.heap.size := by omega
   have lC : w.heap.size ≤ C := by have := hBo.size; omega
   rw [← hws]
   try rw [← hdC]
   clear hBo
   clear hws hsz hdC
   have hBo := hBs; clear hBs
   refine (H5.out _).mono ?_; rintro e s8 ⟨rfl, hb⟩
   replace kA0 := belK hb kA0 zA; replace kA1 := belK hb kA1 zA; replace kA2 := belK hb kA2 zA; replace zA := belZ zA hb
   replace kB0 := belK hb kB0 zB; replace kB1 := belK hb kB1 zB; replace kB2 := belK hb kB2 zB; replace zB := belZ zB hb
   replace kC0 := belK hb kC0 zC; replace kC1 := belK hb kC1 zC; replace kC2 := belK hb kC2 zC; replace zC := belZ zC hb
   replace hBo := hBo.trans (hb.mono hBo.size)
   clear hb
   go_wp2_with fail
   obtain ⟨s9, hws⟩ : ∃ s, s = (s8.alloc (.cells #[.bool (rb g), .string (rn g), .string (rd g)] 23)) := ⟨_, rfl⟩
   have hBs : Below w.heap.size w s9 := by rw [hws]; exact ((hBo).alloc (by exact hBo.size) _)
   obtain ⟨D, hdD⟩ : ∃ b, b = s8.heap.size := ⟨_, rfl⟩
   have hsz : s9.heap.size = s8.heap.size + 1 := by rw [hws]; simp
   have hQC : ∀ p v, s8.cell? p = some v → s9.cell? p = some v := fun p v h => by rw [hws]; exact (alK h)
   have hQZ : ∀ b, b < s8.heap.size → b < s9.heap.size := fun b h => by omega
   replace kA0 := hQC _ _ kA0; replace kA1 := hQC _ _ kA1; replace kA2 := hQC _ _ kA2; replace zA := hQZ _ zA
   replace kB0 := hQC _ _ kB0; replace kB1 := hQC _ _ kB1; replace kB2 := hQC _ _ kB2; replace zB := hQZ _ zB
   replace kC0 := hQC _ _ kC0; replace kC1 := hQC _ _ kC1; replace kC2 := hQC _ _ kC2; replace zC := hQZ _ zC
   clear hQC hQZ
   have kD0 : s9.cell? ⟨D, 0, none⟩ = some (.bool (rb g)) := by rw [hws]; simp [go_sem, hdD]
   have kD1 : s9.cell? ⟨D, 1, none⟩ = some (.string (rn g)) := by rw [hws]; simp [go_sem, hdD]
   have kD2 : s9.cell? ⟨D, 2, none⟩ = some (.string (rd g)) := by rw [hws]; simp [go_sem, hdD]
   have zD : D < s9.heap.size := by omega
   have lD : w.heap.size ≤ D := by have := hBo.size; omega
   rw [← hws]
   try rw [← hdD]
   clear hBo
   clear hws hsz hdD
   have hBo := hBs; clear hBs
   refine (H6.out _).mono ?_; rintro e s10 ⟨rfl, hb⟩
   replace kA0 := belK hb kA0 zA; replace kA1 := belK hb kA1 zA; replace kA2 := belK hb kA2 zA; replace zA := belZ zA hb
   replace kB0 := belK hb kB0 zB; replace kB1 := belK hb kB1 zB; replace kB2 := belK hb kB2 zB; replace zB := belZ zB hb
   replace kC0 := belK hb kC0 zC; replace kC1 := belK hb kC1 zC; replace kC2 := belK hb kC2 zC; replace zC := belZ zC hb
   replace kD0 := belK hb kD0 zD; replace kD1 := belK hb kD1 zD; replace kD2 := belK hb kD2 zD; replace zD := belZ zD hb
   replace hBo := hBo.trans (hb.mono hBo.size)
   clear hb
   go_wp2_with fail
   obtain ⟨s11, hws⟩ : ∃ s, s = (s10.alloc (.cells #[.bool (rb g), .string (rn g), .string (rd g)] 23)) := ⟨_, rfl⟩
   have hBs : Below w.heap.size w s11 := by rw [hws]; exact ((hBo).alloc (by exact hBo.size) _)
   obtain ⟨E, hdE⟩ : ∃ b, b = s10.heap.size := ⟨_, rfl⟩
   have hsz : s11.heap.size = s10.heap.size + 1 := by rw [hws]; simp
   have hQC : ∀ p v, s10.cell? p = some v → s11.cell? p = some v := fun p v h => by rw [hws]; exact (alK h)
   have hQZ : ∀ b, b < s10.heap.size → b < s11.heap.size := fun b h => by omega
   replace kA0 := hQC _ _ kA0; replace kA1 := hQC _ _ kA1; replace kA2 := hQC _ _ kA2; replace zA := hQZ _ zA
   replace kB0 := hQC _ _ kB0; replace kB1 := hQC _ _ kB1; replace kB2 := hQC _ _ kB2; replace zB := hQZ _ zB
   replace kC0 := hQC _ _ kC0; replace kC1 := hQC _ _ kC1; replace kC2 := hQC _ _ kC2; replace zC := hQZ _ zC
   replace kD0 := hQC _ _ kD0; replace kD1 := hQC _ _ kD1; replace kD2 := hQC _ _ kD2; replace zD := hQZ _ zD
   clear hQC hQZ
   have kE0 : s11.cell? ⟨E, 0, none⟩ = some (.bool (rb g)) := by rw [hws]; simp [go_sem, hdE]
   have kE1 : s11.cell? ⟨E, 1, none⟩ = some (.string (rn g)) := by rw [hws]; simp [go_sem, hdE]
   have kE2 : s11.cell? ⟨E, 2, none⟩ = some (.string (rd g)) := by rw [hws]; simp [go_sem, hdE]
   have zE : E < s11.heap.size := by omega
   have lE : w.heap.size ≤ E := by have := hBo.size; omega
   rw [← hws]
   try rw [← hdE]
   clear hBo
   clear hws hsz hdE
   have hBo := hBs; clear hBs
   have HF : Hid (∀ W, Below s11.heap.size s11 W → Below w.heap.size w W) := fun W hW => hBo.trans (hW.mono hBo.size)
   clear hBo
   first | (go_region_held3 (fun w' => w'.cell? ⟨A, 0, none⟩ = some (.bool neg) ∧ w'.cell? ⟨A, 1, none⟩ = some (.string a) ∧ w'.cell? ⟨A, 2, none⟩ = some (.string d) ∧ w'.cell? ⟨B, 0, none⟩ = some (.bool (rb F)) ∧ w'.cell? ⟨B, 1, none⟩ = some (.string (rn F)) ∧ w'.cell? ⟨B, 2, none⟩ = some (.string (rd F)) ∧ w'.cell? ⟨C, 0, none⟩ = some (.bool (rb F)) ∧ w'.cell? ⟨C, 1, none⟩ = some (.string (rn F)) ∧ w'.cell? ⟨C, 2, none⟩ = some (.string (rd F)) ∧ w'.cell? ⟨D, 0, none⟩ = some (.bool (rb g)) ∧ w'.cell? ⟨D, 1, none⟩ = some (.string (rn g)) ∧ w'.cell? ⟨D, 2, none⟩ = some (.string (rd g)) ∧ w'.cell? ⟨E, 0, none⟩ = some (.bool (rb g)) ∧ w'.cell? ⟨E, 1, none⟩ = some (.string (rn g)) ∧ w'.cell? ⟨E, 2, none⟩ = some (.string (rd g)))
     (go_keep) (first
     | (go_at_call 14; refine (H7.out _).mono ?_; rintro e x12 ⟨rfl, hbx⟩; have hTx : Below s11.heap.size s11 x12 := (by first | exact (Below.refl _ _).drew.trans hbx | exact Below.trans (by assumption) (hbx.mono (Below.size (by assumption))) | exact (Below.refl _ _).trans hbx); obtain ⟨hcx, hfx⟩ := bcell hTx)
     | (go_at_call 15; refine (H8.out _).mono ?_; rintro e x12 ⟨rfl, hbx⟩; have hTx : Below s11.heap.size s11 x12 := (by first | exact (Below.refl _ _).drew.trans hbx | exact Below.trans (by assumption) (hbx.mono (Below.size (by assumption))) | exact (Below.refl _ _).trans hbx); obtain ⟨hcx, hfx⟩ := bcell hTx)
     | (go_at_call 16; refine (H9.out _).mono ?_; rintro e x12 ⟨rfl, hbx⟩; have hTx : Below s11.heap.size s11 x12 := (by first | exact (Below.refl _ _).drew.trans hbx | exact Below.trans (by assumption) (hbx.mono (Below.size (by assumption))) | exact (Below.refl _ _).trans hbx); obtain ⟨hcx, hfx⟩ := bcell hTx)
     | (go_at_call 17; refine (H10.out _).mono ?_; rintro e x12 ⟨rfl, hbx⟩; have hTx : Below s11.heap.size s11 x12 := (by first | exact (Below.refl _ _).drew.trans hbx | exact Below.trans (by assumption) (hbx.mono (Below.size (by assumption))) | exact (Below.refl _ _).trans hbx); obtain ⟨hcx, hfx⟩ := bcell hTx))) | fail
   go_upto_region 11 with (fail)
   replace kA0 := (hcx A 0 zA).trans kA0
   replace kA1 := (hcx A 1 zA).trans kA1
   replace kA2 := (hcx A 2 zA).trans kA2
   replace zA := belZ zA hTx
   replace kB0 := (hcx B 0 zB).trans kB0
   replace kB1 := (hcx B 1 zB).trans kB1
   replace kB2 := (hcx B 2 zB).trans kB2
   replace zB := belZ zB hTx
   replace kC0 := (hcx C 0 zC).trans kC0
   replace kC1 := (hcx C 1 zC).trans kC1
   replace kC2 := (hcx C 2 zC).trans kC2
   replace zC := belZ zC hTx
   replace kD0 := (hcx D 0 zD).trans kD0
   replace kD1 := (hcx D 1 zD).trans kD1
   replace kD2 := (hcx D 2 zD).trans kD2
   replace zD := belZ zD hTx
   replace kE0 := (hcx E 0 zE).trans kE0
   replace kE1 := (hcx E 1 zE).trans kE1
   replace kE2 := (hcx E 2 zE).trans kE2
   replace zE := belZ zE hTx
   have hBo := HF.out _ hTx
   clear HF hcx hfx hTx
   go_cut [15, 16] (CutR x12 (.bool (rb x)) (.string (rn x)) (.string (rd x)) (.int .i64 0))
   case first =>
     have HF : Hid (∀ W, Below x12.heap.size x12 W → Below w.heap.size w W) := fun W hW => hBo.trans (hW.mono hBo.size)
     clear hBo
     first | (go_region_held3 (fun w' => w'.cell? ⟨A, 0, none⟩ = some (.bool neg) ∧ w'.cell? ⟨A, 1, none⟩ = some (.string a) ∧ w'.cell? ⟨A, 2, none⟩ = some (.string d) ∧ w'.cell? ⟨B, 0, none⟩ = some (.bool (rb F)) ∧ w'.cell? ⟨B, 1, none⟩ = some (.string (rn F)) ∧ w'.cell? ⟨B, 2, none⟩ = some (.string (rd F)) ∧ w'.cell? ⟨C, 0, none⟩ = some (.bool (rb F)) ∧ w'.cell? ⟨C, 1, none⟩ = some (.string (rn F)) ∧ w'.cell? ⟨C, 2, none⟩ = some (.string (rd F)) ∧ w'.cell? ⟨D, 0, none⟩ = some (.bool (rb g)) ∧ w'.cell? ⟨D, 1, none⟩ = some (.string (rn g)) ∧ w'.cell? ⟨D, 2, none⟩ = some (.string (rd g)) ∧ w'.cell? ⟨E, 0, none⟩ = some (.bool (rb g)) ∧ w'.cell? ⟨E, 1, none⟩ = some (.string (rn g)) ∧ w'.cell? ⟨E, 2, none⟩ = some (.string (rd g)))
       (first | go_keep | ((repeat' apply And.intro) <;> ((repeat (with_reducible first | apply cell_al | apply cell_dr | refine cell_set ?_ (by (try dsimp only); omega))) <;> first | assumption | (rw [hcx _ _ (by assumption)]; assumption)))) (first
       | (go_at_call 20; refine (HO.out _).mono ?_; rintro e x13 ⟨rfl, hbx⟩; have hTx : Below x12.heap.size x12 x13 := (by first | exact (Below.refl _ _).drew.trans hbx | exact (Below.refl _ _).trans hbx | (rename_i hTp; exact hTp.trans (hbx.mono hTp.size)) | exact Below.trans (by assumption) (hbx.mono (Below.size (by assumption))) | exact Below.trans (by repeat (with_reducible first | assumption | exact Below.refl _ _ | apply al_below | apply Below.drew)) (hbx.mono (Below.size (by repeat (with_reducible first | assumption | exact Below.refl _ _ | apply al_below | apply Below.drew))))); obtain ⟨hcx, hfx⟩ := bcell hTx; have hzx := hbx.size; (try simp at hzx); (try have hQZ := Nat.lt_of_succ_le hzx); (try have hzm := Nat.lt_of_succ_lt (Nat.lt_of_succ_le hzx)); have hzq := hTx.size; (try have hzo : x12.heap.size < x13.heap.size := (by omega)); (try have hzp : x12.heap.size + 1 < x13.heap.size := (by omega)); have hzt : ∀ b, b < _ → b < _ := fun b h => Nat.lt_of_lt_of_le h hbx.size; obtain ⟨hcy, hfy⟩ := bcell hbx; clear hbx)
       | (go_at_call 19; refine (H11.out _).mono ?_; rintro e x13 ⟨rfl, hbx⟩; have hTx : Below x12.heap.size x12 x13 := (by first | exact (Below.refl _ _).drew.trans hbx | exact (Below.refl _ _).trans hbx | (rename_i hTp; exact hTp.trans (hbx.mono hTp.size)) | exact Below.trans (by assumption) (hbx.mono (Below.size (by assumption))) | exact Below.trans (by repeat (with_reducible first | assumption | exact Below.refl _ _ | apply al_below | apply Below.drew)) (hbx.mono (Below.size (by repeat (with_reducible first | assumption | exact Below.refl _ _ | apply al_below | apply Below.drew))))); obtain ⟨hcx, hfx⟩ := bcell hTx; have hzx := hbx.size; (try simp at hzx); (try have hQZ := Nat.lt_of_succ_le hzx); (try have hzm := Nat.lt_of_succ_lt (Nat.lt_of_succ_le hzx)); have hzq := hTx.size; (try have hzo : x12.heap.size < x13.heap.size := (by omega)); (try have hzp : x12.heap.size + 1 < x13.heap.size := (by omega)); have hzt : ∀ b, b < _ → b < _ := fun b h => Nat.lt_of_lt_of_le h hbx.size; obtain ⟨hcy, hfy⟩ := bcell hbx; clear hbx))) | fail
     all_goals go_wp2_with fail
     all_goals go_meet
     all_goals refine ⟨_, rfl, rfl, ?_, ?_, ?_, ?_, ?_⟩
     all_goals first | omega | (simp [*, go_sem]; done) | ((repeat (with_reducible refine cell_set ?_ (by (try dsimp only); omega))); simp (maxDischargeDepth := 7) [*, go_sem]; done) | (repeat (with_reducible first | assumption | exact Below.refl _ _ | apply al_below | apply Below.drew | refine set_below ?_ (by (try dsimp only); omega)))
   case rest =>
     obtain ⟨X, rfl, rfl, hX, kX0, kX1, kX2, hT⟩ := hcut
     obtain ⟨hcx, hfx⟩ := bcell hT
     replace kA0 := (hcx A 0 zA).trans kA0
     replace kA1 := (hcx A 1 zA).trans kA1
     replace kA2 := (hcx A 2 zA).trans kA2
     replace zA := belZ zA hT
     replace kB0 := (hcx B 0 zB).trans kB0
     replace kB1 := (hcx B 1 zB).trans kB1
     replace kB2 := (hcx B 2 zB).trans kB2
     replace zB := belZ zB hT
     replace kC0 := (hcx C 0 zC).trans kC0
     replace kC1 := (hcx C 1 zC).trans kC1
     replace kC2 := (hcx C 2 zC).trans kC2
     replace zC := belZ zC hT
     replace kD0 := (hcx D 0 zD).trans kD0
     replace kD1 := (hcx D 1 zD).trans kD1
     replace kD2 := (hcx D 2 zD).trans kD2
     replace zD := belZ zD hT
     replace kE0 := (hcx E 0 zE).trans kE0
     replace kE1 := (hcx E 1 zE).trans kE1
     replace kE2 := (hcx E 2 zE).trans kE2
     replace zE := belZ zE hT
     have lX := Nat.le_trans hBo.size hX
     have zX := World.block_lt_of_cell? _ _ kX0
     replace hBo := hBo.trans (hT.mono hBo.size)
     clear hT hcx hfx hX
     go_wp2_with fail
     refine (H12.out _).mono ?_; rintro e s14 ⟨rfl, hb⟩
     replace kA0 := belK hb kA0 zA; replace kA1 := belK hb kA1 zA; replace kA2 := belK hb kA2 zA; replace zA := belZ zA hb
     replace kB0 := belK hb kB0 zB; replace kB1 := belK hb kB1 zB; replace kB2 := belK hb kB2 zB; replace zB := belZ zB hb
     replace kC0 := belK hb kC0 zC; replace kC1 := belK hb kC1 zC; replace kC2 := belK hb kC2 zC; replace zC := belZ zC hb
     replace kD0 := belK hb kD0 zD; replace kD1 := belK hb kD1 zD; replace kD2 := belK hb kD2 zD; replace zD := belZ zD hb
     replace kE0 := belK hb kE0 zE; replace kE1 := belK hb kE1 zE; replace kE2 := belK hb kE2 zE; replace zE := belZ zE hb
     replace kX0 := belK hb kX0 zX; replace kX1 := belK hb kX1 zX; replace kX2 := belK hb kX2 zX; replace zX := belZ zX hb
     replace hBo := hBo.trans (hb.mono hBo.size)
     clear hb
     go_wp2_with fail
     refine (H13.out _).mono ?_; rintro e s15 ⟨rfl, hb⟩
     replace kA0 := belK hb kA0 zA; replace kA1 := belK hb kA1 zA; replace kA2 := belK hb kA2 zA; replace zA := belZ zA hb
     replace kB0 := belK hb kB0 zB; replace kB1 := belK hb kB1 zB; replace kB2 := belK hb kB2 zB; replace zB := belZ zB hb
     replace kC0 := belK hb kC0 zC; replace kC1 := belK hb kC1 zC; replace kC2 := belK hb kC2 zC; replace zC := belZ zC hb
     replace kD0 := belK hb kD0 zD; replace kD1 := belK hb kD1 zD; replace kD2 := belK hb kD2 zD; replace zD := belZ zD hb
     replace kE0 := belK hb kE0 zE; replace kE1 := belK hb kE1 zE; replace kE2 := belK hb kE2 zE; replace zE := belZ zE hb
     replace kX0 := belK hb kX0 zX; replace kX1 := belK hb kX1 zX; replace kX2 := belK hb kX2 zX; replace zX := belZ zX hb
     replace hBo := hBo.trans (hb.mono hBo.size)
     clear hb
     go_wp2_with fail
     refine (HK.out _).mono ?_; rintro e s16 ⟨rfl, hb⟩
     replace kA0 := belK hb kA0 zA; replace kA1 := belK hb kA1 zA; replace kA2 := belK hb kA2 zA; replace zA := belZ zA hb
     replace kB0 := belK hb kB0 zB; replace kB1 := belK hb kB1 zB; replace kB2 := belK hb kB2 zB; replace zB := belZ zB hb
     replace kC0 := belK hb kC0 zC; replace kC1 := belK hb kC1 zC; replace kC2 := belK hb kC2 zC; replace zC := belZ zC hb
     replace kD0 := belK hb kD0 zD; replace kD1 := belK hb kD1 zD; replace kD2 := belK hb kD2 zD; replace zD := belZ zD hb
     replace kE0 := belK hb kE0 zE; replace kE1 := belK hb kE1 zE; replace kE2 := belK hb kE2 zE; replace zE := belZ zE hb
     replace kX0 := belK hb kX0 zX; replace kX1 := belK hb kX1 zX; replace kX2 := belK hb kX2 zX; replace zX := belZ zX hb
     replace hBo := hBo.trans (hb.mono hBo.size)
     clear hb
     all_goals go_wp2_with fail
     all_goals first | go_ret | go_ret2
     all_goals exact ⟨rfl, hBo⟩
 · have h00 : ¬ cx = 0 := by omega
   have h01 : (cx == 0) = false := by simpa using h00
   have h02 : (cx != 0) = true := by simpa using h00
   clear hok fl1 fl2 htb hfb cw2 hz hb hf m1 m2 hokF hg htr h11 tF lF hF sn sd hx hc1 h0 ha hd hcx
   generalize decide (lowI (wl neg a d) = 1) = wh at *
   go_enter Tryz.func3, Tryz.ntmps3
   go_wp2_with fail
   obtain ⟨s17, hws⟩ : ∃ s, s = (w.alloc (.cells #[.bool neg, .string a, .string d] 23)) := ⟨_, rfl⟩
   have hBs : Below w.heap.size w s17 := by rw [hws]; exact ((Below.refl w.heap.size w).alloc (by simp) _)
   obtain ⟨A, hdA⟩ : ∃ b, b = w.heap.size := ⟨_, rfl⟩
   have hsz : s17.heap.size = w.heap.size + 1 := by rw [hws]; simp
   have kA0 : s17.cell? ⟨A, 0, none⟩ = some (.bool neg) := by rw [hws]; simp [go_sem, hdA]
   have kA1 : s17.cell? ⟨A, 1, none⟩ = some (.string a) := by rw [hws]; simp [go_sem, hdA]
   have kA2 : s17.cell? ⟨A, 2, none⟩ = some (.string d) := by rw [hws]; simp [go_sem, hdA]
   have zA : A < s17.heap.size := by omega
   have lA : w.heap.size ≤ A := by have := Nat.le_refl w.heap.size; omega
   rw [← hws]
   try rw [← hdA]
   clear hws hsz hdA
   have hBo := hBs; clear hBs
   refine (H1.out _).mono ?_; rintro e s18 ⟨rfl, hb⟩
   replace kA0 := belK hb kA0 zA; replace kA1 := belK hb kA1 zA; replace kA2 := belK hb kA2 zA; replace zA := belZ zA hb
   replace hBo := hBo.trans (hb.mono hBo.size)
   clear hb
   go_wp2_with fail
   refine (H2.out _).mono ?_; rintro e s19 ⟨rfl, hb⟩
   replace kA0 := belK hb kA0 zA; replace kA1 := belK hb kA1 zA; replace kA2 := belK hb kA2 zA; replace zA := belZ zA hb
   replace hBo := hBo.trans (hb.mono hBo.size)
   clear hb
   go_wp2_with fail
   refine (H3.out _).mono ?_; rintro e s20 ⟨rfl, hb⟩
   replace kA0 := belK hb kA0 zA; replace kA1 := belK hb kA1 zA; replace kA2 := belK hb kA2 zA; replace zA := belZ zA hb
   replace hBo := hBo.trans (hb.mono hBo.size)
   clear hb
   go_wp2_with fail
   obtain ⟨s21, hws⟩ : ∃ s, s = (s20.alloc (.cells #[.bool (rb F), .string (rn F), .string (rd F)] 23)) := ⟨_, rfl⟩
   have hBs : Below w.heap.size w s21 := by rw [hws]; exact ((hBo).alloc (by exact hBo.size) _)
   obtain ⟨B, hdB⟩ : ∃ b, b = s20.heap.size := ⟨_, rfl⟩
   have hsz : s21.heap.size = s20.heap.size + 1 := by rw [hws]; simp
   have hQC : ∀ p v, s20.cell? p = some v → s21.cell? p = some v := fun p v h => by rw [hws]; exact (alK h)
   have hQZ : ∀ b, b < s20.heap.size → b < s21.heap.size := fun b h => by omega
   replace kA0 := hQC _ _ kA0; replace kA1 := hQC _ _ kA1; replace kA2 := hQC _ _ kA2; replace zA := hQZ _ zA
   clear hQC hQZ
   have kB0 : s21.cell? ⟨B, 0, none⟩ = some (.bool (rb F)) := by rw [hws]; simp [go_sem, hdB]
   have kB1 : s21.cell? ⟨B, 1, none⟩ = some (.string (rn F)) := by rw [hws]; simp [go_sem, hdB]
   have kB2 : s21.cell? ⟨B, 2, none⟩ = some (.string (rd F)) := by rw [hws]; simp [go_sem, hdB]
   have zB : B < s21.heap.size := by omega
   have lB : w.heap.size ≤ B := by have := hBo.size; omega
   rw [← hws]
   try rw [← hdB]
   clear hBo
   clear hws hsz hdB
   have hBo := hBs; clear hBs
   refine (H4.out _).mono ?_; rintro e s22 ⟨rfl, hb⟩
   replace kA0 := belK hb kA0 zA; replace kA1 := belK hb kA1 zA; replace kA2 := belK hb kA2 zA; replace zA := belZ zA hb
   replace kB0 := belK hb kB0 zB; replace kB1 := belK hb kB1 zB; replace kB2 := belK hb kB2 zB; replace zB := belZ zB hb
   replace hBo := hBo.trans (hb.mono hBo.size)
   clear hb
   go_wp2_with fail
   obtain ⟨s23, hws⟩ : ∃ s, s = (s22.alloc (.cells #[.bool (rb F), .string (rn F), .string (rd F)] 23)) := ⟨_, rfl⟩
   have hBs : Below w.heap.size w s23 := by rw [hws]; exact ((hBo).alloc (by exact hBo.size) _)
   obtain ⟨C, hdC⟩ : ∃ b, b = s22.heap.size := ⟨_, rfl⟩
   have hsz : s23.heap.size = s22.heap.size + 1 := by rw [hws]; simp
   have hQC : ∀ p v, s22.cell? p = some v → s23.cell? p = some v := fun p v h => by rw [hws]; exact (alK h)
   have hQZ : ∀ b, b < s22.heap.size → b < s23.heap.size := fun b h => by omega
   replace kA0 := hQC _ _ kA0; replace kA1 := hQC _ _ kA1; replace kA2 := hQC _ _ kA2; replace zA := hQZ _ zA
   replace kB0 := hQC _ _ kB0; replace kB1 := hQC _ _ kB1; replace kB2 := hQC _ _ kB2; replace zB := hQZ _ zB
   clear hQC hQZ
   have kC0 : s23.cell? ⟨C, 0, none⟩ = some (.bool (rb F)) := by rw [hws]; simp [go_sem, hdC]
   have kC1 : s23.cell? ⟨C, 1, none⟩ = some (.string (rn F)) := by rw [hws]; simp [go_sem, hdC]
   have kC2 : s23.cell? ⟨C, 2, none⟩ = some (.string (rd F)) := by rw [hws]; simp [go_sem, hdC]
   have zC : C < s23.heap.size := by omega
   have lC : w.heap.size ≤ C := by have := hBo.size; omega
   rw [← hws]
   try rw [← hdC]
   clear hBo
   clear hws hsz hdC
   have hBo := hBs; clear hBs
   refine (H5.out _).mono ?_; rintro e s24 ⟨rfl, hb⟩
   replace kA0 := belK hb kA0 zA; replace kA1 := belK hb kA1 zA; replace kA2 := belK hb kA2 zA; replace zA := belZ zA hb
   replace kB0 := belK hb kB0 zB; replace kB1 := belK hb kB1 zB; replace kB2 := belK hb kB2 zB; replace zB := belZ zB hb
   replace kC0 := belK hb kC0 zC; replace kC1 := belK hb kC1 zC; replace kC2 := belK hb kC2 zC; replace zC := belZ zC hb
   replace hBo := hBo.trans (hb.mono hBo.size)
   clear hb
   go_wp2_with fail
   obtain ⟨s25, hws⟩ : ∃ s, s = (s24.alloc (.cells #[.bool (rb g), .string (rn g), .string (rd g)] 23)) := ⟨_, rfl⟩
   have hBs : Below w.heap.size w s25 := by rw [hws]; exact ((hBo).alloc (by exact hBo.size) _)
   obtain ⟨D, hdD⟩ : ∃ b, b = s24.heap.size := ⟨_, rfl⟩
   have hsz : s25.heap.size = s24.heap.size + 1 := by rw [hws]; simp
   have hQC : ∀ p v, s24.cell? p = some v → s25.cell? p = some v := fun p v h => by rw [hws]; exact (alK h)
   have hQZ : ∀ b, b < s24.heap.size → b < s25.heap.size := fun b h => by omega
   replace kA0 := hQC _ _ kA0; replace kA1 := hQC _ _ kA1; replace kA2 := hQC _ _ kA2; replace zA := hQZ _ zA
   replace kB0 := hQC _ _ kB0; replace kB1 := hQC _ _ kB1; replace kB2 := hQC _ _ kB2; replace zB := hQZ _ zB
   replace kC0 := hQC _ _ kC0; replace kC1 := hQC _ _ kC1; replace kC2 := hQC _ _ kC2; replace zC := hQZ _ zC
   clear hQC hQZ
   have kD0 : s25.cell? ⟨D, 0, none⟩ = some (.bool (rb g)) := by rw [hws]; simp [go_sem, hdD]
   have kD1 : s25.cell? ⟨D, 1, none⟩ = some (.string (rn g)) := by rw [hws]; simp [go_sem, hdD]
   have kD2 : s25.cell? ⟨D, 2, none⟩ = some (.string (rd g)) := by rw [hws]; simp [go_sem, hdD]
   have zD : D < s25.heap.size := by omega
   have lD : w.heap.size ≤ D := by have := hBo.size; omega
   rw [← hws]
   try rw [← hdD]
   clear hBo
   clear hws hsz hdD
   have hBo := hBs; clear hBs
   refine (H6.out _).mono ?_; rintro e s26 ⟨rfl, hb⟩
   replace kA0 := belK hb kA0 zA; replace kA1 := belK hb kA1 zA; replace kA2 := belK hb kA2 zA; replace zA := belZ zA hb
   replace kB0 := belK hb kB0 zB; replace kB1 := belK hb kB1 zB; replace kB2 := belK hb kB2 zB; replace zB := belZ zB hb
   replace kC0 := belK hb kC0 zC; replace kC1 := belK hb kC1 zC; replace kC2 := belK hb kC2 zC; replace zC := belZ zC hb
   replace kD0 := belK hb kD0 zD; replace kD1 := belK hb kD1 zD; replace kD2 := belK hb kD2 zD; replace zD := belZ zD hb
   replace hBo := hBo.trans (hb.mono hBo.size)
   clear hb
   go_wp2_with fail
   obtain ⟨s27, hws⟩ : ∃ s, s = (s26.alloc (.cells #[.bool (rb g), .string (rn g), .string (rd g)] 23)) := ⟨_, rfl⟩
   have hBs : Below w.heap.size w s27 := by rw [hws]; exact ((hBo).alloc (by exact hBo.size) _)
   obtain ⟨E, hdE⟩ : ∃ b, b = s26.heap.size := ⟨_, rfl⟩
   have hsz : s27.heap.size = s26.heap.size + 1 := by rw [hws]; simp
   have hQC : ∀ p v, s26.cell? p = some v → s27.cell? p = some v := fun p v h => by rw [hws]; exact (alK h)
   have hQZ : ∀ b, b < s26.heap.size → b < s27.heap.size := fun b h => by omega
   replace kA0 := hQC _ _ kA0; replace kA1 := hQC _ _ kA1; replace kA2 := hQC _ _ kA2; replace zA := hQZ _ zA
   replace kB0 := hQC _ _ kB0; replace kB1 := hQC _ _ kB1; replace kB2 := hQC _ _ kB2; replace zB := hQZ _ zB
   replace kC0 := hQC _ _ kC0; replace kC1 := hQC _ _ kC1; replace kC2 := hQC _ _ kC2; replace zC := hQZ _ zC
   replace kD0 := hQC _ _ kD0; replace kD1 := hQC _ _ kD1; replace kD2 := hQC _ _ kD2; replace zD := hQZ _ zD
   clear hQC hQZ
   have kE0 : s27.cell? ⟨E, 0, none⟩ = some (.bool (rb g)) := by rw [hws]; simp [go_sem, hdE]
   have kE1 : s27.cell? ⟨E, 1, none⟩ = some (.string (rn g)) := by rw [hws]; simp [go_sem, hdE]
   have kE2 : s27.cell? ⟨E, 2, none⟩ = some (.string (rd g)) := by rw [hws]; simp [go_sem, hdE]
   have zE : E < s27.heap.size := by omega
   have lE : w.heap.size ≤ E := by have := hBo.size; omega
   rw [← hws]
   try rw [← hdE]
   clear hBo
   clear hws hsz hdE
   have hBo := hBs; clear hBs
   have HF : Hid (∀ W, Below s27.heap.size s27 W → Below w.heap.size w W) := fun W hW => hBo.trans (hW.mono hBo.size)
   clear hBo
   first | (go_region_held3 (fun w' => w'.cell? ⟨A, 0, none⟩ = some (.bool neg) ∧ w'.cell? ⟨A, 1, none⟩ = some (.string a) ∧ w'.cell? ⟨A, 2, none⟩ = some (.string d) ∧ w'.cell? ⟨B, 0, none⟩ = some (.bool (rb F)) ∧ w'.cell? ⟨B, 1, none⟩ = some (.string (rn F)) ∧ w'.cell? ⟨B, 2, none⟩ = some (.string (rd F)) ∧ w'.cell? ⟨C, 0, none⟩ = some (.bool (rb F)) ∧ w'.cell? ⟨C, 1, none⟩ = some (.string (rn F)) ∧ w'.cell? ⟨C, 2, none⟩ = some (.string (rd F)) ∧ w'.cell? ⟨D, 0, none⟩ = some (.bool (rb g)) ∧ w'.cell? ⟨D, 1, none⟩ = some (.string (rn g)) ∧ w'.cell? ⟨D, 2, none⟩ = some (.string (rd g)) ∧ w'.cell? ⟨E, 0, none⟩ = some (.bool (rb g)) ∧ w'.cell? ⟨E, 1, none⟩ = some (.string (rn g)) ∧ w'.cell? ⟨E, 2, none⟩ = some (.string (rd g)))
     (go_keep) (first
     | (go_at_call 14; refine (H7.out _).mono ?_; rintro e x28 ⟨rfl, hbx⟩; have hTx : Below s27.heap.size s27 x28 := (by first | exact (Below.refl _ _).drew.trans hbx | exact Below.trans (by assumption) (hbx.mono (Below.size (by assumption))) | exact (Below.refl _ _).trans hbx); obtain ⟨hcx, hfx⟩ := bcell hTx)
     | (go_at_call 15; refine (H8.out _).mono ?_; rintro e x28 ⟨rfl, hbx⟩; have hTx : Below s27.heap.size s27 x28 := (by first | exact (Below.refl _ _).drew.trans hbx | exact Below.trans (by assumption) (hbx.mono (Below.size (by assumption))) | exact (Below.refl _ _).trans hbx); obtain ⟨hcx, hfx⟩ := bcell hTx)
     | (go_at_call 16; refine (H9.out _).mono ?_; rintro e x28 ⟨rfl, hbx⟩; have hTx : Below s27.heap.size s27 x28 := (by first | exact (Below.refl _ _).drew.trans hbx | exact Below.trans (by assumption) (hbx.mono (Below.size (by assumption))) | exact (Below.refl _ _).trans hbx); obtain ⟨hcx, hfx⟩ := bcell hTx)
     | (go_at_call 17; refine (H10.out _).mono ?_; rintro e x28 ⟨rfl, hbx⟩; have hTx : Below s27.heap.size s27 x28 := (by first | exact (Below.refl _ _).drew.trans hbx | exact Below.trans (by assumption) (hbx.mono (Below.size (by assumption))) | exact (Below.refl _ _).trans hbx); obtain ⟨hcx, hfx⟩ := bcell hTx))) | fail
   go_upto_region 11 with (fail)
   replace kA0 := (hcx A 0 zA).trans kA0
   replace kA1 := (hcx A 1 zA).trans kA1
   replace kA2 := (hcx A 2 zA).trans kA2
   replace zA := belZ zA hTx
   replace kB0 := (hcx B 0 zB).trans kB0
   replace kB1 := (hcx B 1 zB).trans kB1
   replace kB2 := (hcx B 2 zB).trans kB2
   replace zB := belZ zB hTx
   replace kC0 := (hcx C 0 zC).trans kC0
   replace kC1 := (hcx C 1 zC).trans kC1
   replace kC2 := (hcx C 2 zC).trans kC2
   replace zC := belZ zC hTx
   replace kD0 := (hcx D 0 zD).trans kD0
   replace kD1 := (hcx D 1 zD).trans kD1
   replace kD2 := (hcx D 2 zD).trans kD2
   replace zD := belZ zD hTx
   replace kE0 := (hcx E 0 zE).trans kE0
   replace kE1 := (hcx E 1 zE).trans kE1
   replace kE2 := (hcx E 2 zE).trans kE2
   replace zE := belZ zE hTx
   have hBo := HF.out _ hTx
   clear HF hcx hfx hTx
   go_cut [15, 16] (CutR x28 (.bool (rb x)) (.string (rn x)) (.string (rd x)) (.int .i64 cx))
   case first =>
     have HF : Hid (∀ W, Below x28.heap.size x28 W → Below w.heap.size w W) := fun W hW => hBo.trans (hW.mono hBo.size)
     clear hBo
     first | (go_region_held3 (fun w' => w'.cell? ⟨A, 0, none⟩ = some (.bool neg) ∧ w'.cell? ⟨A, 1, none⟩ = some (.string a) ∧ w'.cell? ⟨A, 2, none⟩ = some (.string d) ∧ w'.cell? ⟨B, 0, none⟩ = some (.bool (rb F)) ∧ w'.cell? ⟨B, 1, none⟩ = some (.string (rn F)) ∧ w'.cell? ⟨B, 2, none⟩ = some (.string (rd F)) ∧ w'.cell? ⟨C, 0, none⟩ = some (.bool (rb F)) ∧ w'.cell? ⟨C, 1, none⟩ = some (.string (rn F)) ∧ w'.cell? ⟨C, 2, none⟩ = some (.string (rd F)) ∧ w'.cell? ⟨D, 0, none⟩ = some (.bool (rb g)) ∧ w'.cell? ⟨D, 1, none⟩ = some (.string (rn g)) ∧ w'.cell? ⟨D, 2, none⟩ = some (.string (rd g)) ∧ w'.cell? ⟨E, 0, none⟩ = some (.bool (rb g)) ∧ w'.cell? ⟨E, 1, none⟩ = some (.string (rn g)) ∧ w'.cell? ⟨E, 2, none⟩ = some (.string (rd g)))
       (first | go_keep | ((repeat' apply And.intro) <;> ((repeat (with_reducible first | apply cell_al | apply cell_dr | refine cell_set ?_ (by (try dsimp only); omega))) <;> first | assumption | (rw [hcx _ _ (by assumption)]; assumption)))) (first
       | (go_at_call 20; refine (HO.out _).mono ?_; rintro e x29 ⟨rfl, hbx⟩; have hTx : Below x28.heap.size x28 x29 := (by first | exact (Below.refl _ _).drew.trans hbx | exact (Below.refl _ _).trans hbx | (rename_i hTp; exact hTp.trans (hbx.mono hTp.size)) | exact Below.trans (by assumption) (hbx.mono (Below.size (by assumption))) | exact Below.trans (by repeat (with_reducible first | assumption | exact Below.refl _ _ | apply al_below | apply Below.drew)) (hbx.mono (Below.size (by repeat (with_reducible first | assumption | exact Below.refl _ _ | apply al_below | apply Below.drew))))); obtain ⟨hcx, hfx⟩ := bcell hTx; have hzx := hbx.size; (try simp at hzx); (try have hQZ := Nat.lt_of_succ_le hzx); (try have hzm := Nat.lt_of_succ_lt (Nat.lt_of_succ_le hzx)); have hzq := hTx.size; (try have hzo : x28.heap.size < x29.heap.size := (by omega)); (try have hzp : x28.heap.size + 1 < x29.heap.size := (by omega)); have hzt : ∀ b, b < _ → b < _ := fun b h => Nat.lt_of_lt_of_le h hbx.size; obtain ⟨hcy, hfy⟩ := bcell hbx; clear hbx)
       | (go_at_call 19; refine (H11.out _).mono ?_; rintro e x29 ⟨rfl, hbx⟩; have hTx : Below x28.heap.size x28 x29 := (by first | exact (Below.refl _ _).drew.trans hbx | exact (Below.refl _ _).trans hbx | (rename_i hTp; exact hTp.trans (hbx.mono hTp.size)) | exact Below.trans (by assumption) (hbx.mono (Below.size (by assumption))) | exact Below.trans (by repeat (with_reducible first | assumption | exact Below.refl _ _ | apply al_below | apply Below.drew)) (hbx.mono (Below.size (by repeat (with_reducible first | assumption | exact Below.refl _ _ | apply al_below | apply Below.drew))))); obtain ⟨hcx, hfx⟩ := bcell hTx; have hzx := hbx.size; (try simp at hzx); (try have hQZ := Nat.lt_of_succ_le hzx); (try have hzm := Nat.lt_of_succ_lt (Nat.lt_of_succ_le hzx)); have hzq := hTx.size; (try have hzo : x28.heap.size < x29.heap.size := (by omega)); (try have hzp : x28.heap.size + 1 < x29.heap.size := (by omega)); have hzt : ∀ b, b < _ → b < _ := fun b h => Nat.lt_of_lt_of_le h hbx.size; obtain ⟨hcy, hfy⟩ := bcell hbx; clear hbx))) | fail
     all_goals go_wp2_with fail
     all_goals go_meet
     all_goals refine ⟨_, rfl, rfl, ?_, ?_, ?_, ?_, ?_⟩
     all_goals first | omega | (simp [*, go_sem]; done) | ((repeat (with_reducible refine cell_set ?_ (by (try dsimp only); omega))); simp (maxDischargeDepth := 7) [*, go_sem]; done) | (repeat (with_reducible first | assumption | exact Below.refl _ _ | apply al_below | apply Below.drew | refine set_below ?_ (by (try dsimp only); omega)))
   case rest =>
     obtain ⟨X, rfl, rfl, hX, kX0, kX1, kX2, hT⟩ := hcut
     obtain ⟨hcx, hfx⟩ := bcell hT
     replace kA0 := (hcx A 0 zA).trans kA0
     replace kA1 := (hcx A 1 zA).trans kA1
     replace kA2 := (hcx A 2 zA).trans kA2
     replace zA := belZ zA hT
     replace kB0 := (hcx B 0 zB).trans kB0
     replace kB1 := (hcx B 1 zB).trans kB1
     replace kB2 := (hcx B 2 zB).trans kB2
     replace zB := belZ zB hT
     replace kC0 := (hcx C 0 zC).trans kC0
     replace kC1 := (hcx C 1 zC).trans kC1
     replace kC2 := (hcx C 2 zC).trans kC2
     replace zC := belZ zC hT
     replace kD0 := (hcx D 0 zD).trans kD0
     replace kD1 := (hcx D 1 zD).trans kD1
     replace kD2 := (hcx D 2 zD).trans kD2
     replace zD := belZ zD hT
     replace kE0 := (hcx E 0 zE).trans kE0
     replace kE1 := (hcx E 1 zE).trans kE1
     replace kE2 := (hcx E 2 zE).trans kE2
     replace zE := belZ zE hT
     have lX := Nat.le_trans hBo.size hX
     have zX := World.block_lt_of_cell? _ _ kX0
     replace hBo := hBo.trans (hT.mono hBo.size)
     clear hT hcx hfx hX
     go_wp2_with fail
     refine (H12.out _).mono ?_; rintro e s30 ⟨rfl, hb⟩
     replace kA0 := belK hb kA0 zA; replace kA1 := belK hb kA1 zA; replace kA2 := belK hb kA2 zA; replace zA := belZ zA hb
     replace kB0 := belK hb kB0 zB; replace kB1 := belK hb kB1 zB; replace kB2 := belK hb kB2 zB; replace zB := belZ zB hb
     replace kC0 := belK hb kC0 zC; replace kC1 := belK hb kC1 zC; replace kC2 := belK hb kC2 zC; replace zC := belZ zC hb
     replace kD0 := belK hb kD0 zD; replace kD1 := belK hb kD1 zD; replace kD2 := belK hb kD2 zD; replace zD := belZ zD hb
     replace kE0 := belK hb kE0 zE; replace kE1 := belK hb kE1 zE; replace kE2 := belK hb kE2 zE; replace zE := belZ zE hb
     replace kX0 := belK hb kX0 zX; replace kX1 := belK hb kX1 zX; replace kX2 := belK hb kX2 zX; replace zX := belZ zX hb
     replace hBo := hBo.trans (hb.mono hBo.size)
     clear hb
     go_wp2_with fail
     refine (HK.out _).mono ?_; rintro e s31 ⟨rfl, hb⟩
     replace kA0 := belK hb kA0 zA; replace kA1 := belK hb kA1 zA; replace kA2 := belK hb kA2 zA; replace zA := belZ zA hb
     replace kB0 := belK hb kB0 zB; replace kB1 := belK hb kB1 zB; replace kB2 := belK hb kB2 zB; replace zB := belZ zB hb
     replace kC0 := belK hb kC0 zC; replace kC1 := belK hb kC1 zC; replace kC2 := belK hb kC2 zC; replace zC := belZ zC hb
     replace kD0 := belK hb kD0 zD; replace kD1 := belK hb kD1 zD; replace kD2 := belK hb kD2 zD; replace zD := belZ zD hb
     replace kE0 := belK hb kE0 zE; replace kE1 := belK hb kE1 zE; replace kE2 := belK hb kE2 zE; replace zE := belZ zE hb
     replace kX0 := belK hb kX0 zX; replace kX1 := belK hb kX1 zX; replace kX2 := belK hb kX2 zX; replace zX := belZ zX hb
     replace hBo := hBo.trans (hb.mono hBo.size)
     clear hb
     all_goals go_wp2_with fail
     all_goals first | go_ret | go_ret2
     all_goals exact ⟨rfl, hBo⟩
end Go.Proofs.YtbgmnpabclfjaaaGreatDoor
