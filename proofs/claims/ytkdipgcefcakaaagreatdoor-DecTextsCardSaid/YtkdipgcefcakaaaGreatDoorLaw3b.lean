/-
  LAYER 3's STATEMENTS, WALKED: numbers in digits.
-/
import Derived.Test.YtkdipgcefcakaaaGreatDoorLaw3
import Derived.Test.YtkdipgcefcakaaaGreatDoorDec8
namespace Go.Proofs.YtkdipgcefcakaaaGreatDoor
open Go.RowKit Go.Shelf

theorem D_facts (n m : Nat) (h : n < 10 ^ (m + 1)) : (Nt.D n).size ≤ m + 1 ∧ 0 < (Nt.D n).size ∧ (Nt.D n).data.toList.all Nt.isDig = true ∧ Nt.dv (Nt.D n).data.toList = n := by
  have h1 := Nt.dec_length_le h
  refine ⟨by rw [Nt.D, Nt.S_size]; exact h1, ?_, ?_, ?_⟩
  · rw [Nt.D, Nt.S_size]
    exact List.length_pos_iff.2 (Nt.dec_ne n)
  · rw [List.all_eq_true, Nt.D, Nt.S_toList]
    exact Nt.isDig_of (Nt.dec_lt n)
  · rw [Nt.D, Nt.S_toList]; exact Nt.dv_dec n
set_option maxRecDepth 100000 in
set_option maxHeartbeats 2000000 in
theorem decTexts_any (a : ByteArray) (w : World) (ham : a.size ≤ maxLen) :
    Calls Tryz.prog 3 #[.string a] w fun e w' => e = .returned (.bool true) ∧ Below w.heap.size w w' := by
  unfold maxLen at ham
  have HK := Lib.hid known3_any
  have hB := Below.refl w.heap.size w
  by_cases h : a.size ≤ 150
  · have hes := Nat.le_trans (Nt.E_size_V a) h
    obtain ⟨k0, hk0⟩ : ∃ k, k = 75 := ⟨_, rfl⟩
    have h10 := Nt.lt_ten (k := k0) hes (by omega)
    obtain ⟨m0, hm0⟩ : ∃ m, 5 * k0 = m + 1 := ⟨5 * k0 - 1, by omega⟩
    rw [hm0] at h10
    have hD := D_facts (Nt.V a) m0 h10
    have hm4 : m0 + 1 ≤ 400 := by omega
    clear h10 hm0 hk0
    have h1 := fun w => natText_of a w (by omega)
    have h2 := fun w => refText_of a w (by omega)
    have h3 := fun w => natDigits_any a w (by omega)
    have h4 := fun w => natParse_any (Nt.D (Nt.V a)) w (by unfold maxLen; omega)
    have h5 := fun w => refTrim_any a w
    have h6 := fun w => natTwos_any a w (by omega)
    have h7 := fun w => refTwos_any a w (by omega)
    rw [parseOut_ok _ hD.2.2.1 hD.2.1 (by omega), hD.2.2.2] at h4
    have hDs := hD.1
    generalize Nt.D (Nt.V a) = S at *
    generalize Nt.E (Nt.V a) = ta at *
    have H1 := Lib.hid h1
    have H2 := Lib.hid h2
    have H3 := Lib.hid h3
    have H4 := Lib.hid h4
    have H5 := Lib.hid h5
    by_cases h0 : Nt.V a = 0
    · have H6 := Lib.hid (fun w => (h6 w).mono (fun e w' (h : TwosRel (Nt.V a) e ∧ Below w.heap.size w w') => (by
        obtain ⟨h, hb⟩ := h
        rcases h with ⟨_, h⟩ | ⟨h, _⟩
        · exact ⟨h, hb⟩
        · exact absurd h0 h : e = .returned (.tuple #[.int .i64 0, .int .i64 0]) ∧ Below w.heap.size w w')))
      have H7 := Lib.hid (fun w => (h7 w).mono (fun e w' (h : TwosRel (Nt.V a) e ∧ Below w.heap.size w w') => (by
        obtain ⟨h, hb⟩ := h
        rcases h with ⟨_, h⟩ | ⟨h, _⟩
        · exact ⟨h, hb⟩
        · exact absurd h0 h : e = .returned (.tuple #[.int .i64 0, .int .i64 0]) ∧ Below w.heap.size w w')))
      clear h1 h2 h3 h4 h5 h6 h7 h0 hD hes
      go_enter Tryz.func3, Tryz.ntmps3
      go_wp2_with (first
        | (go_at_call 5; refine (chain hB (H1.out _)).mono ?_; clear hB; rintro e w1 ⟨rfl, hB⟩)
        | (go_at_call 6; refine (chain hB (H6.out _)).mono ?_; clear hB; rintro e w1 ⟨rfl, hB⟩)
        | (go_at_call 7; refine (chain hB (H7.out _)).mono ?_; clear hB; rintro e w1 ⟨rfl, hB⟩)
        | (go_at_call 8; refine (chain hB (H4.out _)).mono ?_; clear hB; rintro e w1 ⟨rfl, hB⟩)
        | (go_at_call 9; refine (chain hB (H2.out _)).mono ?_; clear hB; rintro e w1 ⟨rfl, hB⟩)
        | (go_at_call 10; refine (chain hB (H3.out _)).mono ?_; clear hB; rintro e w1 ⟨rfl, hB⟩)
        | (go_at_call 11; refine (H5.out _).mono ?_; rintro e w1 ⟨rfl, rfl⟩)
        | (go_at_call 4; refine (chain hB (HK.out _)).mono ?_; clear hB; rintro e w1 ⟨rfl, hB⟩))
      go_ret
      exact ⟨rfl, hB⟩
    · have H6 := Lib.hid (fun w => (h6 w).mono (fun e w' (h : TwosRel (Nt.V a) e ∧ Below w.heap.size w w') => (by
        obtain ⟨h, hb⟩ := h
        rcases h with ⟨h, _⟩ | ⟨_, h⟩
        · exact absurd h h0
        · exact ⟨h, hb⟩ : (∃ t f : Nat, e = .returned (.tuple #[.int .i64 (t : Int), .int .i64 (f : Int)]) ∧ Nt.IsVl 2 (Nt.V a) t ∧ Nt.IsVl 5 (Nt.V a) f) ∧ Below w.heap.size w w')))
      have H7 := Lib.hid (fun w => (h7 w).mono (fun e w' (h : TwosRel (Nt.V a) e ∧ Below w.heap.size w w') => (by
        obtain ⟨h, hb⟩ := h
        rcases h with ⟨h, _⟩ | ⟨_, h⟩
        · exact absurd h h0
        · exact ⟨h, hb⟩ : (∃ t f : Nat, e = .returned (.tuple #[.int .i64 (t : Int), .int .i64 (f : Int)]) ∧ Nt.IsVl 2 (Nt.V a) t ∧ Nt.IsVl 5 (Nt.V a) f) ∧ Below w.heap.size w w')))
      clear h1 h2 h3 h4 h5 h6 h7 h0 hD hes
      go_enter Tryz.func3, Tryz.ntmps3
      go_wp2_with (go_at_call 5; refine (chain hB (H1.out _)).mono ?_; clear hB; rintro e w1 ⟨rfl, hB⟩)
      refine (H6.out _).mono ?_; rintro e w2 ⟨⟨t, f, rfl, ht, hf⟩, hb2⟩
      have hB2 := hB.trans (hb2.mono hB.size)
      have HT := Lib.hid ht
      have HF := Lib.hid hf
      clear ht hf hB hb2
      go_wp2_with fail
      refine (H7.out _).mono ?_; rintro e w3 ⟨⟨t2, f2, rfl, ht2, hf2⟩, hb3⟩
      have hB := hB2.trans (hb3.mono hB2.size)
      obtain rfl := ht2.eq HT.out
      obtain rfl := hf2.eq HF.out
      clear ht2 hf2 hB2 hb3
      go_wp2_with (first
        | (go_at_call 8; refine (chain hB (H4.out _)).mono ?_; clear hB; rintro e w1 ⟨rfl, hB⟩)
        | (go_at_call 9; refine (chain hB (H2.out _)).mono ?_; clear hB; rintro e w1 ⟨rfl, hB⟩)
        | (go_at_call 10; refine (chain hB (H3.out _)).mono ?_; clear hB; rintro e w1 ⟨rfl, hB⟩)
        | (go_at_call 11; refine (H5.out _).mono ?_; rintro e w1 ⟨rfl, rfl⟩)
        | (go_at_call 4; refine (chain hB (HK.out _)).mono ?_; clear hB; rintro e w1 ⟨rfl, hB⟩))
      go_ret
      exact ⟨rfl, hB⟩
  · go_enter Tryz.func3, Tryz.ntmps3
    go_wp2_with (go_at_call 4; refine (chain hB (HK.out _)).mono ?_; clear hB; rintro e w1 ⟨rfl, hB⟩)
    all_goals first
      | (exfalso; omega)
      | (go_ret; exact ⟨rfl, hB⟩)
end Go.Proofs.YtkdipgcefcakaaaGreatDoor
