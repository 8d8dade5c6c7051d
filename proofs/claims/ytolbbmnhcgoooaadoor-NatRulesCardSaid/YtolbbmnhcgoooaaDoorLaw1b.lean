/-
  LAYER 1's THIRD STATEMENT, WALKED.
-/
import Derived.Test.YtolbbmnhcgoooaaDoorLaw1
namespace Go.Proofs.YtolbbmnhcgoooaaDoor
open Go.RowKit Go.Shelf

theorem E_le {n k : Nat} (h : n < 256 ^ k) : (Nt.E n).size ≤ k := Nt.enc_length_le h
theorem V_lt_of {a : ByteArray} {k : Nat} (h : a.size ≤ k) : Nt.V a < 256 ^ k := Nat.lt_of_lt_of_le (Nt.V_lt a) (Nat.pow_le_pow_right (by omega) h)
theorem add_lt {x y k : Nat} (hx : x < 256 ^ k) (hy : y < 256 ^ k) : x + y < 256 ^ (k + 1) := by rw [Nat.pow_succ]; omega
theorem mul_lt {x y k l : Nat} (hx : x < 256 ^ k) (hy : y < 256 ^ l) : x * y < 256 ^ (k + l) := by
  rw [Nat.pow_add]
  exact Nat.mul_lt_mul_of_le_of_lt (Nat.le_of_lt hx) hy (Nat.pow_pos (by omega))
set_option maxRecDepth 100000 in
set_option maxHeartbeats 2000000 in
theorem natRules_any (a b c : ByteArray) (w : World) (ham : a.size ≤ maxLen) (hbm : b.size ≤ maxLen) (hcm : c.size ≤ maxLen) :
    Calls Tryd.prog 5 #[.string a, .string b, .string c] w fun e w' => e = .returned (.bool true) ∧ Below w.heap.size w w' := by
  unfold maxLen at ham hbm hcm
  have HK := Lib.hid known1_any
  have hB := Below.refl w.heap.size w
  by_cases h : a.size ≤ 200 ∧ b.size ≤ 200 ∧ c.size ≤ 200
  · obtain ⟨ha, hb, hc⟩ := h
    have ga := V_lt_of ha
    have gb := V_lt_of hb
    have gc := V_lt_of hc
    have hbc := E_le (add_lt gb gc)
    have hab := E_le (add_lt ga gb)
    have hpab := E_le (mul_lt ga gb)
    have hpac := E_le (mul_lt ga gc)
    have H1 := fun w => natAdd_any b c w (by omega) (by omega)
    have H2 := fun w => natAdd_any a b w (by omega) (by omega)
    have H3 := fun w => natAdd_any b a w (by omega) (by omega)
    have H4 := fun w => natSub_any (Nt.E (Nt.V a + Nt.V b)) b w (by omega) (by omega)
    have H5 := fun w => natTrim_any a w
    have H6 := fun w => natMul_any a b w (by omega) (by omega)
    have H7 := fun w => natMul_any b a w (by omega) (by omega)
    have H8 := fun w => natMul_any a (Nt.E (Nt.V b + Nt.V c)) w (by omega) (by omega)
    have H9 := fun w => natMul_any a c w (by omega) (by omega)
    have H10 := fun w => natAdd_any (Nt.E (Nt.V a * Nt.V b)) (Nt.E (Nt.V a * Nt.V c)) w (by omega) (by omega)
    rw [Nat.add_comm (Nt.V b) (Nt.V a)] at H3
    rw [Nat.mul_comm (Nt.V b) (Nt.V a)] at H7
    rw [Nt.V_E, Nat.add_sub_cancel] at H4
    rw [Nt.V_E, Nat.mul_add] at H8
    rw [Nt.V_E, Nt.V_E] at H10
    generalize Nt.E (Nt.V a * Nt.V b + Nt.V a * Nt.V c) = t5 at *
    generalize Nt.E (Nt.V b + Nt.V c) = t1 at *
    generalize Nt.E (Nt.V a + Nt.V b) = t2 at *
    generalize Nt.E (Nt.V a * Nt.V b) = t3 at *
    generalize Nt.E (Nt.V a * Nt.V c) = t4 at *
    generalize Nt.E (Nt.V a) = ta at *
    have K1 := Lib.hid H1
    have K2 := Lib.hid H2
    have K3 := Lib.hid H3
    have K4 := Lib.hid H4
    have K5 := Lib.hid H5
    have K6 := Lib.hid H6
    have K7 := Lib.hid H7
    have K8 := Lib.hid H8
    have K9 := Lib.hid H9
    have K10 := Lib.hid H10
    clear H1 H2 H3 H4 H5 H6 H7 H8 H9 H10 ga gb gc hbc hab hpab hpac
    go_enter Tryd.func5, Tryd.ntmps5
    go_wp2_with fail
    refine (chain hB (K1.out _)).mono ?_; clear hB; rintro e w1 ⟨rfl, hB⟩
    go_wp2_with fail
    refine (chain hB (K2.out _)).mono ?_; clear hB; rintro e w1 ⟨rfl, hB⟩
    go_wp2_with (first
      | (go_at_call 23; refine (chain hB (K4.out _)).mono ?_; clear hB; rintro e w1 ⟨rfl, hB⟩)
      | (go_at_call 14; refine (K5.out _).mono ?_; rintro e w1 ⟨rfl, rfl⟩))
    refine (chain hB (K2.out _)).mono ?_; clear hB; rintro e w1 ⟨rfl, hB⟩
    go_wp2_with fail
    refine (chain hB (K3.out _)).mono ?_; clear hB; rintro e w1 ⟨rfl, hB⟩
    go_wp2_with fail
    refine (chain hB (K6.out _)).mono ?_; clear hB; rintro e w1 ⟨rfl, hB⟩
    go_wp2_with fail
    refine (chain hB (K7.out _)).mono ?_; clear hB; rintro e w1 ⟨rfl, hB⟩
    go_wp2_with fail
    refine (chain hB (K8.out _)).mono ?_; clear hB; rintro e w1 ⟨rfl, hB⟩
    go_wp2_with fail
    refine (chain hB (K6.out _)).mono ?_; clear hB; rintro e w1 ⟨rfl, hB⟩
    go_wp2_with fail
    refine (chain hB (K9.out _)).mono ?_; clear hB; rintro e w1 ⟨rfl, hB⟩
    go_wp2_with fail
    refine (chain hB (K10.out _)).mono ?_; clear hB; rintro e w1 ⟨rfl, hB⟩
    go_wp2_with (go_at_call 18; refine (chain hB (HK.out _)).mono ?_; clear hB; rintro e w1 ⟨rfl, hB⟩)
    go_ret
    exact ⟨rfl, hB⟩
  · go_enter Tryd.func5, Tryd.ntmps5
    go_wp2_with (go_at_call 18; refine (chain hB (HK.out _)).mono ?_; clear hB; rintro e w1 ⟨rfl, hB⟩)
    all_goals first
      | (exfalso; omega)
      | (go_ret; exact ⟨rfl, hB⟩)
end Go.Proofs.YtolbbmnhcgoooaaDoor
