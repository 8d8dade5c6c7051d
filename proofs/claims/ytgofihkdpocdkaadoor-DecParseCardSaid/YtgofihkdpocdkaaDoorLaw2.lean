/-
  LAYER 2's STATEMENTS, WALKED: each returns true, and nothing that lay has turned.
  LAYER 2's STATEMENTS, WALKED: divisors, powers and shifts, roots.
-/
import Derived.Test.YtgofihkdpocdkaaDoorLaw1
import Derived.Test.YtgofihkdpocdkaaDoorLong3
import Derived.Test.YtgofihkdpocdkaaDoorPow1
namespace Go.Proofs.YtgofihkdpocdkaaDoor
open Go.RowKit Go.Shelf

/-- the greatest number whose square is not above v. -/
def Nt.rt : Nat → Nat
  | 0 => 0
  | n + 1 => if (Nt.rt n + 1) * (Nt.rt n + 1) ≤ n + 1 then Nt.rt n + 1 else Nt.rt n
theorem Nt.rt_is : ∀ v, Nt.IsRoot (Nt.rt v) v
  | 0 => ⟨Nat.le_refl _, by decide⟩
  | n + 1 => by
    have h := Nt.rt_is n
    unfold Nt.rt
    split
    · rename_i h1
      refine ⟨h1, ?_⟩
      have h2 := h.2
      have h3 : (Nt.rt n + 1 + 1) * (Nt.rt n + 1 + 1) = (Nt.rt n + 1) * (Nt.rt n + 1) + 2 * (Nt.rt n + 1) + 1 := by simp only [Nat.add_mul, Nat.mul_add]; omega
      omega
    · rename_i h1
      exact ⟨Nat.le_trans h.1 (Nat.le_succ _), by omega⟩
theorem natRoot_any (a : ByteArray) (w : World) (ha : a.size ≤ 1000) : Calls Tryd.prog 39 #[.string a] w fun e w' => e = .returned (.string (Nt.E (Nt.rt (Nt.V a)))) ∧ Below w.heap.size w w' := by
  refine (natRoot_of divMod_ok a w ha).mono ?_
  rintro e w' ⟨⟨r, hr, rfl⟩, hb⟩
  rw [hr.eq (Nt.rt_is _)]
  exact ⟨rfl, hb⟩
theorem refRootFn_any (a : ByteArray) (w : World) (ha : a.size ≤ 1000) : Calls Tryd.prog 40 #[.string a] w fun e w' => e = .returned (.string (Nt.E (Nt.rt (Nt.V a)))) ∧ Below w.heap.size w w' := by
  refine (refRoot_any a w ha).mono ?_
  rintro e w' ⟨⟨r, hr, rfl⟩, hb⟩
  rw [hr.eq (Nt.rt_is _)]
  exact ⟨rfl, hb⟩

set_option maxRecDepth 100000 in
set_option maxHeartbeats 2000000 in
theorem known2_any (w : World) : Calls Tryd.prog 28 #[] w fun e w' => e = .returned (.bool true) ∧ Below w.heap.size w w' := by
  have h1 := fun w => divMod_ok ⟨#[3, 232]⟩ ⟨#[7]⟩ w (by decide) (by decide)
  have h2 := fun w => divMod_ok ⟨#[1]⟩ ⟨#[0]⟩ w (by decide) (by decide)
  have h3 := fun w => natPow_any ⟨#[2]⟩ ((9 : Nat) : Int) w (by decide) (by decide)
  have h4 := fun w => gcd_of limbsOk ⟨#[12]⟩ ⟨#[18]⟩ w (by decide) (by decide)
  have h5 := fun w => natRoot_any ⟨#[99]⟩ w (by decide)
  have e0 : Nt.V ⟨#[3, 232]⟩ = 1000 := by decide
  have e1 : Nt.V ⟨#[7]⟩ = 7 := by decide
  have e2 : Nt.V ⟨#[0]⟩ = 0 := by decide
  have e3 : Nt.V ⟨#[2]⟩ = 2 := by decide
  have e4 : Nt.V ⟨#[12]⟩ = 12 := by decide
  have e5 : Nt.V ⟨#[18]⟩ = 18 := by decide
  have e6 : Nt.V ⟨#[99]⟩ = 99 := by decide
  have d1 : divOut 1000 7 = .tuple #[.string ⟨#[142]⟩, .string ⟨#[6]⟩, .int .i64 0] := by
    rw [divOut, if_neg (by decide)]
    have a1 : Nt.E (1000 / 7) = ⟨#[142]⟩ := by decide
    have a2 : Nt.E (1000 % 7) = ⟨#[6]⟩ := by decide
    rw [a1, a2]
  have d3 : powOut 2 ((9 : Nat) : Int) = .tuple #[.string ⟨#[2, 0]⟩, .int .i64 0] := by
    have a1 : Nt.E (2 ^ 9) = ⟨#[2, 0]⟩ := by decide
    rw [powOut_fit 2 9 (by rw [a1]; decide), a1]
  have d4 : Nt.E (Nat.gcd 12 18) = ⟨#[6]⟩ := by decide
  have d5 : Nt.E (Nt.rt 99) = ⟨#[9]⟩ := by
    rw [show Nt.rt 99 = 9 from (Nt.rt_is 99).eq ⟨by decide, by decide⟩]; decide
  rw [e0, e1, d1] at h1
  rw [e2, divOut_zero] at h2
  rw [e3, d3] at h3
  rw [e4, e5, d4] at h4
  rw [e6, d5] at h5
  have H1 := Lib.hid h1
  have H2 := Lib.hid h2
  have H3 := Lib.hid h3
  have H4 := Lib.hid h4
  have H5 := Lib.hid h5
  have hB := Below.refl w.heap.size w
  clear h1 h2 h3 h4 h5 e0 e1 e2 e3 e4 e5 e6 d1 d3 d4 d5
  go_enter Tryd.func28, Tryd.ntmps28
  go_wp2_with fail
  refine (chain hB (H1.out _)).mono ?_; clear hB; rintro e w1 ⟨rfl, hB⟩
  go_wp2_with fail
  refine (chain hB (H2.out _)).mono ?_; clear hB; rintro e w1 ⟨rfl, hB⟩
  go_wp2_with (first
    | (go_at_call 33; refine (chain hB (H3.out _)).mono ?_; clear hB; rintro e w1 ⟨rfl, hB⟩)
    | (go_at_call 31; refine (chain hB (H4.out _)).mono ?_; clear hB; rintro e w1 ⟨rfl, hB⟩)
    | (go_at_call 39; refine (chain hB (H5.out _)).mono ?_; clear hB; rintro e w1 ⟨rfl, hB⟩))
  go_ret
  exact ⟨rfl, hB⟩

set_option maxRecDepth 100000 in
set_option maxHeartbeats 2000000 in
theorem divideMods_any (a b : ByteArray) (w : World) (ham : a.size ≤ maxLen) (hbm : b.size ≤ maxLen) :
    Calls Tryd.prog 6 #[.string a, .string b] w fun e w' => e = .returned (.bool true) ∧ Below w.heap.size w w' := by
  unfold maxLen at ham hbm
  have HK := Lib.hid known2_any
  have hB := Below.refl w.heap.size w
  by_cases h : a.size ≤ 150 ∧ b.size ≤ 150
  · obtain ⟨ha, hb⟩ := h
    have h1 := fun w => divMod_ok a b w (by omega) (by omega)
    have h2 := fun w => refDivMod_any a b w (by omega) (by omega)
    by_cases h0 : Nt.V b = 0
    · rw [h0, divOut_zero] at h1 h2
      have H1 := Lib.hid h1
      have H2 := Lib.hid h2
      generalize Nt.E 0 = z at *
      clear h1 h2 h0
      go_enter Tryd.func6, Tryd.ntmps6
      go_wp2_with (first
        | (go_at_call 29; refine (chain hB (H1.out _)).mono ?_; clear hB; rintro e w1 ⟨rfl, hB⟩)
        | (go_at_call 30; refine (chain hB (H2.out _)).mono ?_; clear hB; rintro e w1 ⟨rfl, hB⟩)
        | (go_at_call 28; refine (chain hB (HK.out _)).mono ?_; clear hB; rintro e w1 ⟨rfl, hB⟩))
      go_ret
      exact ⟨rfl, hB⟩
    · have hp : 0 < Nt.V b := by omega
      rw [divOut, if_neg h0] at h1 h2
      have hva := Nt.E_size_V a
      have hq := Nat.le_trans (Nt.E_size_le (Nat.div_le_self (Nt.V a) (Nt.V b))) hva
      have hr := Nat.le_trans (Nt.E_size_le (Nat.mod_le (Nt.V a) (Nt.V b))) hva
      have hm := Nat.le_trans (Nt.E_size_le (Nat.div_mul_le_self (Nt.V a) (Nt.V b))) hva
      have h3 := fun w => refMul_any (Nt.E (Nt.V a / Nt.V b)) b w (by omega) (by omega)
      have h4 := fun w => refAdd_any (Nt.E (Nt.V a / Nt.V b * Nt.V b)) (Nt.E (Nt.V a % Nt.V b)) w (by omega) (by omega)
      have h5 := fun w => refTrim_any a w
      have h6 := fun w => refCmp_any (Nt.E (Nt.V a % Nt.V b)) b w (by omega) (by omega)
      have hz : Nt.cmpZ (Nt.V a % Nt.V b) (Nt.V b) = -1 := by unfold Nt.cmpZ; rw [if_pos (Nat.mod_lt _ hp)]
      rw [Nt.V_E] at h3
      rw [Nt.V_E, Nt.V_E, Nat.div_add_mod'] at h4
      rw [Nt.V_E, hz] at h6
      have H1 := Lib.hid h1
      have H2 := Lib.hid h2
      have H3 := Lib.hid h3
      have H4 := Lib.hid h4
      have H5 := Lib.hid h5
      have H6 := Lib.hid h6
      generalize Nt.E (Nt.V a / Nt.V b * Nt.V b) = m at *
      generalize Nt.E (Nt.V a / Nt.V b) = q at *
      generalize Nt.E (Nt.V a % Nt.V b) = r at *
      generalize Nt.E (Nt.V a) = ta at *
      clear h1 h2 h3 h4 h5 h6 h0 hp hz hq hr hm hva
      go_enter Tryd.func6, Tryd.ntmps6
      go_wp2_with (first
        | (go_at_call 29; refine (chain hB (H1.out _)).mono ?_; clear hB; rintro e w1 ⟨rfl, hB⟩)
        | (go_at_call 30; refine (chain hB (H2.out _)).mono ?_; clear hB; rintro e w1 ⟨rfl, hB⟩)
        | (go_at_call 27; refine (chain hB (H3.out _)).mono ?_; clear hB; rintro e w1 ⟨rfl, hB⟩)
        | (go_at_call 23; refine (chain hB (H4.out _)).mono ?_; clear hB; rintro e w1 ⟨rfl, hB⟩)
        | (go_at_call 16; refine (H5.out _).mono ?_; rintro e w1 ⟨rfl, rfl⟩)
        | (go_at_call 21; refine (H6.out _).mono ?_; rintro e w1 ⟨rfl, rfl⟩)
        | (go_at_call 28; refine (chain hB (HK.out _)).mono ?_; clear hB; rintro e w1 ⟨rfl, hB⟩))
      go_ret
      exact ⟨rfl, hB⟩
  · go_enter Tryd.func6, Tryd.ntmps6
    go_wp2_with (go_at_call 28; refine (chain hB (HK.out _)).mono ?_; clear hB; rintro e w1 ⟨rfl, hB⟩)
    all_goals first
      | (exfalso; omega)
      | (go_ret; exact ⟨rfl, hB⟩)
end Go.Proofs.YtgofihkdpocdkaaDoor
namespace Go.Proofs.YtgofihkdpocdkaaDoor
open Go.RowKit Go.Shelf

theorem powOut_form (v : Nat) (k : Int) : ∃ (s : ByteArray) (c : Int), powOut v k = .tuple #[.string s, .int .i64 c] := by
  unfold powOut; repeat' split
  all_goals exact ⟨_, _, rfl⟩
theorem shlOut_form (v : Nat) (k : Int) : ∃ (s : ByteArray) (c : Int), shlOut v k = .tuple #[.string s, .int .i64 c] := by
  unfold shlOut; repeat' split
  all_goals exact ⟨_, _, rfl⟩
theorem E_toList_ne (n : Nat) (h : n ≠ 0) : ¬ (Nt.E n).toList = [] := fun e => h (by
  have h1 := isEmpty_E n
  rw [e] at h1
  simpa using h1.symm)
set_option maxRecDepth 100000 in
set_option maxHeartbeats 2000000 in
theorem divideGcds_any (a b : ByteArray) (w : World) (ham : a.size ≤ maxLen) (hbm : b.size ≤ maxLen) :
    Calls Tryd.prog 7 #[.string a, .string b] w fun e w' => e = .returned (.bool true) ∧ Below w.heap.size w w' := by
  unfold maxLen at ham hbm
  have HK := Lib.hid known2_any
  have hB := Below.refl w.heap.size w
  by_cases h : a.size ≤ 40 ∧ b.size ≤ 40
  · obtain ⟨ha, hb⟩ := h
    have h1 := fun w => gcd_of limbsOk a b w (by omega) (by omega)
    have h2 := fun w => refGcd_any a b w (by omega) (by omega)
    have hsa := Nt.E_size_V a
    have hsb := Nt.E_size_V b
    obtain ⟨g, hg⟩ : ∃ g, g = Nat.gcd (Nt.V a) (Nt.V b) := ⟨_, rfl⟩
    rw [← hg] at h1 h2
    by_cases h0 : g = 0
    · have h3 := fun w => refTrim_any a w
      have h4 := fun w => refTrim_any b w
      have hab := Nat.gcd_eq_zero_iff.1 (hg.symm.trans h0)
      rw [hab.1] at h3
      rw [hab.2] at h4
      rw [h0] at h1 h2
      have e0 : Nt.E 0 = ⟨#[]⟩ := rfl
      rw [e0] at h1 h2 h3 h4
      have H1 := Lib.hid h1
      have H2 := Lib.hid h2
      have H3 := Lib.hid h3
      have H4 := Lib.hid h4
      clear h1 h2 h3 h4 hab h0 hg hsa hsb e0
      go_enter Tryd.func7, Tryd.ntmps7
      go_wp2_with (first
        | (go_at_call 31; refine (chain hB (H1.out _)).mono ?_; clear hB; rintro e w1 ⟨rfl, hB⟩)
        | (go_at_call 32; refine (chain hB (H2.out _)).mono ?_; clear hB; rintro e w1 ⟨rfl, hB⟩)
        | (go_at_call_of 16 a; refine (H3.out _).mono ?_; rintro e w1 ⟨rfl, rfl⟩)
        | (go_at_call_of 16 b; refine (H4.out _).mono ?_; rintro e w1 ⟨rfl, rfl⟩)
        | (go_at_call 28; refine (chain hB (HK.out _)).mono ?_; clear hB; rintro e w1 ⟨rfl, hB⟩))
      go_ret
      exact ⟨rfl, hB⟩
    · have hgp : 0 < g := by omega
      have hda : g ∣ Nt.V a := by rw [hg]; exact Nat.gcd_dvd_left _ _
      have hdb : g ∣ Nt.V b := by rw [hg]; exact Nat.gcd_dvd_right _ _
      have hgs : (Nt.E g).size ≤ 1000 := by
        rcases Nat.eq_zero_or_pos (Nt.V a) with hz | hz
        · have hg2 : g = Nt.V b := by rw [hg, hz, Nat.gcd_zero_left]
          rw [hg2]; omega
        · exact Nat.le_trans (Nt.E_size_le (Nat.le_of_dvd hz hda)) (by omega)
      have h3 := fun w => divMod_ok a (Nt.E g) w (by omega) (by omega)
      have h4 := fun w => divMod_ok b (Nt.E g) w (by omega) (by omega)
      have e0 : Nt.E 0 = ⟨#[]⟩ := rfl
      simp only [Nt.V_E] at h3 h4
      rw [divOut, if_neg h0, Nat.mod_eq_zero_of_dvd hda, e0] at h3
      rw [divOut, if_neg h0, Nat.mod_eq_zero_of_dvd hdb, e0] at h4
      have hxs := Nat.le_trans (Nt.E_size_le (Nat.div_le_self (Nt.V a) g)) hsa
      have hys := Nat.le_trans (Nt.E_size_le (Nat.div_le_self (Nt.V b) g)) hsb
      have h5 := fun w => gcd_of limbsOk (Nt.E (Nt.V a / g)) (Nt.E (Nt.V b / g)) w (by omega) (by omega)
      have hone : Nat.gcd (Nt.V a / g) (Nt.V b / g) = 1 := by
        rw [Nat.gcd_div hda hdb, ← hg, Nat.div_self hgp]
      simp only [Nt.V_E] at h5
      rw [hone, E_one] at h5
      have hne : ¬ (Nt.E g).toList = [] := E_toList_ne g h0
      have hne2 : (Nt.E g).toList.isEmpty = false := by rw [isEmpty_E]; simpa using h0
      have H1 := Lib.hid h1
      have H2 := Lib.hid h2
      have H3 := Lib.hid h3
      have H4 := Lib.hid h4
      have H5 := Lib.hid h5
      generalize Nt.E g = G at *
      generalize Nt.E (Nt.V a / g) = x at *
      generalize Nt.E (Nt.V b / g) = y at *
      clear h1 h2 h3 h4 h5 h0 hg hgp hda hdb hxs hys hone hsa hsb e0 hgs
      go_enter Tryd.func7, Tryd.ntmps7
      go_wp2_with (first
        | (go_at_call_of 31 a; refine (chain hB (H1.out _)).mono ?_; clear hB; rintro e w1 ⟨rfl, hB⟩)
        | (go_at_call_of 31 x; refine (chain hB (H5.out _)).mono ?_; clear hB; rintro e w1 ⟨rfl, hB⟩)
        | (go_at_call 32; refine (chain hB (H2.out _)).mono ?_; clear hB; rintro e w1 ⟨rfl, hB⟩)
        | (go_at_call_of 29 a; refine (chain hB (H3.out _)).mono ?_; clear hB; rintro e w1 ⟨rfl, hB⟩)
        | (go_at_call_of 29 b; refine (chain hB (H4.out _)).mono ?_; clear hB; rintro e w1 ⟨rfl, hB⟩)
        | (go_at_call 28; refine (chain hB (HK.out _)).mono ?_; clear hB; rintro e w1 ⟨rfl, hB⟩))
      go_ret
      exact ⟨rfl, hB⟩
  · go_enter Tryd.func7, Tryd.ntmps7
    go_wp2_with (go_at_call 28; refine (chain hB (HK.out _)).mono ?_; clear hB; rintro e w1 ⟨rfl, hB⟩)
    all_goals first
      | (exfalso; omega)
      | (go_ret; exact ⟨rfl, hB⟩)

set_option maxRecDepth 100000 in
set_option maxHeartbeats 2000000 in
theorem dividePows_any (a : ByteArray) (n by' : Int) (w : World) (ham : a.size ≤ maxLen) (hb1 : by' ≤ 9223372036854775807) :
    Calls Tryd.prog 8 #[.string a, .int .i64 n, .int .i64 by'] w fun e w' => e = .returned (.bool true) ∧ Below w.heap.size w w' := by
  unfold maxLen at ham
  have HK := Lib.hid known2_any
  have hB := Below.refl w.heap.size w
  by_cases h : a.size ≤ 60 ∧ n ≤ 9000
  · obtain ⟨ha, hn⟩ := h
    have h1 := fun w => natPow_any a n w (by omega) (by omega)
    have h2 := fun w => refPow_any a n w (by omega) (by omega)
    have h3 := fun w => natShl_any a by' w (by omega) hb1
    have h4 := fun w => refShl_any a by' w (by omega) hb1
    obtain ⟨s, c, hs⟩ := powOut_form (Nt.V a) n
    obtain ⟨s2, c2, hs2⟩ := shlOut_form (Nt.V a) by'
    rw [hs] at h1 h2
    rw [hs2] at h3 h4
    have H1 := Lib.hid h1
    have H2 := Lib.hid h2
    have H3 := Lib.hid h3
    have H4 := Lib.hid h4
    have H5 := Lib.hid (fun w => natShr_any a by' w (by omega) hb1)
    have H6 := Lib.hid (fun w => refShr_any a by' w (by omega) hb1)
    generalize Nt.E (shrNum (Nt.V a) by') = t at *
    clear h1 h2 h3 h4 hs hs2 hb1
    go_enter Tryd.func8, Tryd.ntmps8
    go_wp2_with (first
      | (go_at_call 33; refine (chain hB (H1.out _)).mono ?_; clear hB; rintro e w1 ⟨rfl, hB⟩)
      | (go_at_call 34; refine (chain hB (H2.out _)).mono ?_; clear hB; rintro e w1 ⟨rfl, hB⟩)
      | (go_at_call 35; refine (chain hB (H3.out _)).mono ?_; clear hB; rintro e w1 ⟨rfl, hB⟩)
      | (go_at_call 36; refine (chain hB (H4.out _)).mono ?_; clear hB; rintro e w1 ⟨rfl, hB⟩)
      | (go_at_call 37; refine (chain hB (H5.out _)).mono ?_; clear hB; rintro e w1 ⟨rfl, hB⟩)
      | (go_at_call 38; refine (chain hB (H6.out _)).mono ?_; clear hB; rintro e w1 ⟨rfl, hB⟩)
      | (go_at_call 28; refine (chain hB (HK.out _)).mono ?_; clear hB; rintro e w1 ⟨rfl, hB⟩))
    go_ret
    exact ⟨rfl, hB⟩
  · go_enter Tryd.func8, Tryd.ntmps8
    go_wp2_with (go_at_call 28; refine (chain hB (HK.out _)).mono ?_; clear hB; rintro e w1 ⟨rfl, hB⟩)
    all_goals first
      | (exfalso; omega)
      | (go_ret; exact ⟨rfl, hB⟩)

set_option maxRecDepth 100000 in
set_option maxHeartbeats 2000000 in
theorem divideRoots_any (a : ByteArray) (w : World) (ham : a.size ≤ maxLen) :
    Calls Tryd.prog 9 #[.string a] w fun e w' => e = .returned (.bool true) ∧ Below w.heap.size w w' := by
  unfold maxLen at ham
  have HK := Lib.hid known2_any
  have hB := Below.refl w.heap.size w
  by_cases h : a.size ≤ 60
  · have hr := Nt.rt_is (Nt.V a)
    have hsa := Nt.E_size_V a
    have h1 := fun w => natRoot_any a w (by omega)
    have h2 := fun w => refRootFn_any a w (by omega)
    have h3 := fun w => refTrim_any a w
    have hrl : Nt.rt (Nt.V a) ≤ Nt.V a := by
      refine Nat.le_trans ?_ hr.1
      rcases Nat.eq_zero_or_pos (Nt.rt (Nt.V a)) with h0 | h0
      · rw [h0]; exact Nat.zero_le _
      · have := Nat.mul_le_mul_left (Nt.rt (Nt.V a)) h0; omega
    have hrs := Nat.le_trans (Nt.E_size_le hrl) hsa
    have hns : (Nt.E (Nt.rt (Nt.V a) + 1)).size ≤ 61 := by
      have h0 := add_lt (V_lt_of (a := Nt.E (Nt.rt (Nt.V a))) (k := 60) (by omega)) (show 1 < 256 ^ 60 by decide)
      rw [Nt.V_E] at h0
      exact E_le h0
    have h4 := fun w => refAdd_any (Nt.E (Nt.rt (Nt.V a))) ⟨#[1]⟩ w (by omega) (by decide)
    have h5 := fun w => refMul_any (Nt.E (Nt.rt (Nt.V a))) (Nt.E (Nt.rt (Nt.V a))) w (by omega) (by omega)
    have h6 := fun w => refMul_any (Nt.E (Nt.rt (Nt.V a) + 1)) (Nt.E (Nt.rt (Nt.V a) + 1)) w (by omega) (by omega)
    have h7 := fun w => refMul_any a a w (by omega) (by omega)
    have hq1 := Nat.le_trans (Nt.sq_size (Nt.rt (Nt.V a))) (show _ ≤ 200 by omega)
    have hq2 := Nat.le_trans (Nt.sq_size (Nt.rt (Nt.V a) + 1)) (show _ ≤ 200 by omega)
    have hq3 := Nat.le_trans (Nt.sq_size (Nt.V a)) (show _ ≤ 200 by omega)
    have h8 := fun w => refCmp_any (Nt.E (Nt.rt (Nt.V a) * Nt.rt (Nt.V a))) a w (by omega) (by omega)
    have h9 := fun w => refCmp_any (Nt.E ((Nt.rt (Nt.V a) + 1) * (Nt.rt (Nt.V a) + 1))) a w (by omega) (by omega)
    have h10 := fun w => natRoot_any (Nt.E (Nt.V a * Nt.V a)) w (by omega)
    have e1 : Nt.V ⟨#[1]⟩ = 1 := by decide
    have c1 : Nt.cmpZ (Nt.rt (Nt.V a) * Nt.rt (Nt.V a)) (Nt.V a) ≤ 0 := by
      unfold Nt.cmpZ
      have := hr.1
      split
      · omega
      · rw [if_pos (by omega)]; omega
    have c2 : 0 < Nt.cmpZ ((Nt.rt (Nt.V a) + 1) * (Nt.rt (Nt.V a) + 1)) (Nt.V a) := by
      unfold Nt.cmpZ
      have := hr.2
      rw [if_neg (by omega), if_neg (by omega)]; omega
    have e2 : Nt.rt (Nt.V a * Nt.V a) = Nt.V a := (Nt.rt_is _).eq ⟨Nat.le_refl _, Nat.mul_lt_mul'' (Nat.lt_succ_self _) (Nat.lt_succ_self _)⟩
    simp only [Nt.V_E] at h4 h5 h6 h8 h9 h10
    rw [e1] at h4
    rw [e2] at h10
    have H1 := Lib.hid h1
    have H2 := Lib.hid h2
    have H3 := Lib.hid h3
    have H4 := Lib.hid h4
    have H5 := Lib.hid h5
    have H6 := Lib.hid h6
    have H7 := Lib.hid h7
    have H8 := Lib.hid h8
    have H9 := Lib.hid h9
    have H10 := Lib.hid h10
    clear h1 h2 h3 h4 h5 h6 h7 h8 h9 h10 e1 e2 hq1 hq2 hq3 hns hrs hrl hsa hr
    generalize Nt.cmpZ (Nt.rt (Nt.V a) * Nt.rt (Nt.V a)) (Nt.V a) = z1 at *
    generalize Nt.cmpZ ((Nt.rt (Nt.V a) + 1) * (Nt.rt (Nt.V a) + 1)) (Nt.V a) = z2 at *
    generalize Nt.E (Nt.rt (Nt.V a) * Nt.rt (Nt.V a)) = p1 at *
    generalize Nt.E ((Nt.rt (Nt.V a) + 1) * (Nt.rt (Nt.V a) + 1)) = p2 at *
    generalize Nt.E (Nt.V a * Nt.V a) = p3 at *
    generalize Nt.E (Nt.rt (Nt.V a) + 1) = nx at *
    generalize Nt.E (Nt.rt (Nt.V a)) = r at *
    generalize Nt.E (Nt.V a) = ta at *
    go_enter Tryd.func9, Tryd.ntmps9
    go_wp2_with (first
      | (go_at_call_of 39 a; refine (chain hB (H1.out _)).mono ?_; clear hB; rintro e w1 ⟨rfl, hB⟩)
      | (go_at_call_of 39 p3; refine (chain hB (H10.out _)).mono ?_; clear hB; rintro e w1 ⟨rfl, hB⟩)
      | (go_at_call 40; refine (chain hB (H2.out _)).mono ?_; clear hB; rintro e w1 ⟨rfl, hB⟩)
      | (go_at_call 23; refine (chain hB (H4.out _)).mono ?_; clear hB; rintro e w1 ⟨rfl, hB⟩)
      | (go_at_call_of 27 r; refine (chain hB (H5.out _)).mono ?_; clear hB; rintro e w1 ⟨rfl, hB⟩)
      | (go_at_call_of 27 nx; refine (chain hB (H6.out _)).mono ?_; clear hB; rintro e w1 ⟨rfl, hB⟩)
      | (go_at_call_of 27 a; refine (chain hB (H7.out _)).mono ?_; clear hB; rintro e w1 ⟨rfl, hB⟩)
      | (go_at_call_of 21 p1; refine (H8.out _).mono ?_; rintro e w1 ⟨rfl, rfl⟩)
      | (go_at_call_of 21 p2; refine (H9.out _).mono ?_; rintro e w1 ⟨rfl, rfl⟩)
      | (go_at_call 16; refine (H3.out _).mono ?_; rintro e w1 ⟨rfl, rfl⟩)
      | (go_at_call 28; refine (chain hB (HK.out _)).mono ?_; clear hB; rintro e w1 ⟨rfl, hB⟩))
    go_ret
    exact ⟨rfl, hB⟩
  · go_enter Tryd.func9, Tryd.ntmps9
    go_wp2_with (go_at_call 28; refine (chain hB (HK.out _)).mono ?_; clear hB; rintro e w1 ⟨rfl, hB⟩)
    all_goals first
      | (exfalso; omega)
      | (go_ret; exact ⟨rfl, hB⟩)
end Go.Proofs.YtgofihkdpocdkaaDoor
