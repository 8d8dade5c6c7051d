/-
  LAYER 1's STATEMENTS, WALKED: each returns true, and nothing that lay has turned.
  LAYER 1's THIRD STATEMENT, WALKED.
-/
import Derived.Test.YtgofihkdpocdkaaDoorAdd
import Derived.Test.YtgofihkdpocdkaaDoorMul
import Derived.Test.YtgofihkdpocdkaaDoorCmp
namespace Go.Proofs.YtgofihkdpocdkaaDoor
open Go.RowKit Go.Shelf

theorem chain {P : Program} {f : FuncId} {args : Array Value} {w0 w : World} {r : Ending} (hB : Below w0.heap.size w0 w) (h : Calls P f args w fun e w' => e = r ∧ Below w.heap.size w w') :
    Calls P f args w fun e w' => e = r ∧ Below w0.heap.size w0 w' :=
  h.mono fun _ _ ⟨he, hb⟩ => ⟨he, hB.trans (hb.mono hB.size)⟩

set_option maxRecDepth 100000 in
set_option maxHeartbeats 1000000 in
theorem known1_any (w : World) : Calls Tryd.prog 19 #[] w fun e w' => e = .returned (.bool true) ∧ Below w.heap.size w w' := by
  have h1 := fun w => natSmall_any ⟨#[0, 1, 2]⟩ w
  have h2 := fun w => natOf_any 258 w (by omega)
  have h3 := fun w => natMul_any ⟨#[1, 2]⟩ ⟨#[1, 2]⟩ w (by decide) (by decide)
  have h4 := fun w => natCmp_any ⟨#[1]⟩ ⟨#[2]⟩ w (by decide) (by decide)
  have h5 := fun w => natBits_any ⟨#[1, 0]⟩ w (by decide)
  have e0 : Nt.V ⟨#[0, 1, 2]⟩ = 258 := by decide
  have e1 : Nt.V ⟨#[1, 2]⟩ = 258 := by decide
  have e2 : Nt.V ⟨#[1]⟩ = 1 := by decide
  have e3 : Nt.V ⟨#[2]⟩ = 2 := by decide
  have e4 : Nt.V ⟨#[1, 0]⟩ = 256 := by decide
  have e5 : Nt.E 258 = ⟨#[1, 2]⟩ := by decide
  have e6 : Nt.E (258 * 258) = ⟨#[1, 4, 4]⟩ := by
    have : Nt.V ⟨#[1, 4, 4]⟩ = 258 * 258 := by decide
    rw [← this]
    exact Nt.E_V_head _ (by decide) (by decide)
  have e7 : Nt.cmpZ 1 2 = -1 := by decide
  have e8 : Nt.blen 256 = 9 := by decide
  have e9 : Nt.sm 258 = 258 := by decide
  have e10 : Nt.smB 258 = true := by decide
  rw [e0, e9, e10] at h1
  rw [e5] at h2
  rw [e1, e6] at h3
  rw [e2, e3, e7] at h4
  rw [e4, e8] at h5
  have H1 := Lib.hid h1
  have H2 := Lib.hid h2
  have H3 := Lib.hid h3
  have H4 := Lib.hid h4
  have H5 := Lib.hid h5
  have hB := Below.refl w.heap.size w
  clear h1 h2 h3 h4 h5 e0 e1 e2 e3 e4 e5 e6 e7 e8 e9 e10
  go_enter Tryd.func19, Tryd.ntmps19
  go_wp2_with (first
    | (go_at_call 11; refine (chain hB (H1.out _)).mono ?_; clear hB; rintro e w1 ⟨rfl, hB⟩)
    | (go_at_call 13; refine (chain hB (H2.out _)).mono ?_; clear hB; rintro e w1 ⟨rfl, hB⟩)
    | (go_at_call 26; refine (chain hB (H3.out _)).mono ?_; clear hB; rintro e w1 ⟨rfl, hB⟩)
    | (go_at_call 20; refine (chain hB (H4.out _)).mono ?_; clear hB; rintro e w1 ⟨rfl, hB⟩)
    | (go_at_call 17; refine (H5.out _).mono ?_; rintro e w1 ⟨rfl, rfl⟩))
  go_ret
  exact ⟨rfl, hB⟩

set_option maxRecDepth 100000 in
set_option maxHeartbeats 2000000 in
theorem natSmalls_any (n : Nat) (a : ByteArray) (w : World) (hn : n < 18446744073709551616) (ha : a.size ≤ 140737488351232) :
    Calls Tryd.prog 3 #[.int .u64 (n : Int), .string a] w fun e w' => e = .returned (.bool true) ∧ Below w.heap.size w w' := by
  have h2 := fun w => natSmall_any (Nt.E n) w
  have e1 : Nt.sm n = n := by unfold Nt.sm; rw [if_pos hn]
  have e2 : Nt.smB n = true := by unfold Nt.smB; simpa using hn
  rw [Nt.V_E, e1, e2] at h2
  have H1 := Lib.hid (fun w => natSmall_any a w)
  have H2 := Lib.hid h2
  have H3 := Lib.hid (fun w => refSmall_any a w)
  have H4 := Lib.hid (fun w => natOf_any n w hn)
  have H5 := Lib.hid (fun w => refOf_any n w hn)
  have H6 := Lib.hid (fun w => natTrim_any a w)
  have H7 := Lib.hid (fun w => refTrim_any a w)
  have H8 := Lib.hid (fun w => natBits_any a w ha)
  have H9 := Lib.hid (fun w => refBits_any a w ha)
  have HK := Lib.hid known1_any
  have hB := Below.refl w.heap.size w
  clear h2 e1 e2 hn ha
  generalize Nt.E n = t at *
  generalize Nt.E (Nt.V a) = ta at *
  generalize Nt.sm (Nt.V a) = sa at *
  generalize Nt.smB (Nt.V a) = sb at *
  generalize Nt.blen (Nt.V a) = bl at *
  go_enter Tryd.func3, Tryd.ntmps3
  go_wp2_with (first
    | (go_at_call_of 11 a; refine (chain hB (H1.out _)).mono ?_; clear hB; rintro e w1 ⟨rfl, hB⟩)
    | (go_at_call_of 11 t; refine (chain hB (H2.out _)).mono ?_; clear hB; rintro e w1 ⟨rfl, hB⟩)
    | (go_at_call 12; refine (H3.out _).mono ?_; rintro e w1 ⟨rfl, rfl⟩)
    | (go_at_call 13; refine (chain hB (H4.out _)).mono ?_; clear hB; rintro e w1 ⟨rfl, hB⟩)
    | (go_at_call 14; refine (chain hB (H5.out _)).mono ?_; clear hB; rintro e w1 ⟨rfl, hB⟩)
    | (go_at_call 15; refine (H6.out _).mono ?_; rintro e w1 ⟨rfl, rfl⟩)
    | (go_at_call 16; refine (H7.out _).mono ?_; rintro e w1 ⟨rfl, rfl⟩)
    | (go_at_call 17; refine (H8.out _).mono ?_; rintro e w1 ⟨rfl, rfl⟩)
    | (go_at_call 18; refine (H9.out _).mono ?_; rintro e w1 ⟨rfl, rfl⟩)
    | (go_at_call 19; refine (chain hB (HK.out _)).mono ?_; clear hB; rintro e w1 ⟨rfl, hB⟩))
  go_ret
  exact ⟨rfl, hB⟩

set_option maxRecDepth 100000 in
set_option maxHeartbeats 2000000 in
theorem natTwo_any (a b : ByteArray) (w : World) (ham : a.size ≤ maxLen) (hbm : b.size ≤ maxLen) :
    Calls Tryd.prog 4 #[.string a, .string b] w fun e w' => e = .returned (.bool true) ∧ Below w.heap.size w w' := by
  unfold maxLen at ham hbm
  have HK := Lib.hid known1_any
  have hB := Below.refl w.heap.size w
  by_cases h : a.size ≤ 300 ∧ b.size ≤ 300
  · obtain ⟨ha, hb⟩ := h
    have H1 := Lib.hid (fun w => natCmp_any a b w (by omega) (by omega))
    have H2 := Lib.hid (fun w => refCmp_any a b w (by omega) (by omega))
    have H3 := Lib.hid (fun w => natAdd_any a b w (by omega) (by omega))
    have H4 := Lib.hid (fun w => refAdd_any a b w (by omega) (by omega))
    have H5 := Lib.hid (fun w => natSub_any a b w (by omega) (by omega))
    have H6 := Lib.hid (fun w => refSub_any a b w (by omega) (by omega))
    have H7 := Lib.hid (fun w => natMul_any a b w (by omega) (by omega))
    have H8 := Lib.hid (fun w => refMul_any a b w (by omega) (by omega))
    generalize Nt.cmpZ (Nt.V a) (Nt.V b) = z at *
    generalize Nt.E (Nt.V a + Nt.V b) = t1 at *
    generalize Nt.E (Nt.V a - Nt.V b) = t2 at *
    generalize Nt.E (Nt.V a * Nt.V b) = t3 at *
    go_enter Tryd.func4, Tryd.ntmps4
    go_wp2_with (first
      | (go_at_call 20; refine (chain hB (H1.out _)).mono ?_; clear hB; rintro e w1 ⟨rfl, hB⟩)
      | (go_at_call 21; refine (H2.out _).mono ?_; rintro e w1 ⟨rfl, rfl⟩)
      | (go_at_call 22; refine (chain hB (H3.out _)).mono ?_; clear hB; rintro e w1 ⟨rfl, hB⟩)
      | (go_at_call 23; refine (chain hB (H4.out _)).mono ?_; clear hB; rintro e w1 ⟨rfl, hB⟩)
      | (go_at_call 24; refine (chain hB (H5.out _)).mono ?_; clear hB; rintro e w1 ⟨rfl, hB⟩)
      | (go_at_call 25; refine (chain hB (H6.out _)).mono ?_; clear hB; rintro e w1 ⟨rfl, hB⟩)
      | (go_at_call 26; refine (chain hB (H7.out _)).mono ?_; clear hB; rintro e w1 ⟨rfl, hB⟩)
      | (go_at_call 27; refine (chain hB (H8.out _)).mono ?_; clear hB; rintro e w1 ⟨rfl, hB⟩)
      | (go_at_call 19; refine (chain hB (HK.out _)).mono ?_; clear hB; rintro e w1 ⟨rfl, hB⟩))
    go_ret
    exact ⟨rfl, hB⟩
  · go_enter Tryd.func4, Tryd.ntmps4
    go_wp2_with (go_at_call 19; refine (chain hB (HK.out _)).mono ?_; clear hB; rintro e w1 ⟨rfl, hB⟩)
    all_goals first
      | (exfalso; omega)
      | (go_ret; exact ⟨rfl, hB⟩)
end Go.Proofs.YtgofihkdpocdkaaDoor
namespace Go.Proofs.YtgofihkdpocdkaaDoor
open Go.RowKit Go.Shelf

theorem E_le {n k : Nat} (h : n < 256 ^ k) : (Nt.E n).size ≤ k := Nt.enc_length_le h
theorem V_lt_of {a : ByteArray} {k : Nat} (h : a.size ≤ k) : Nt.V a < 256 ^ k := Nat.lt_of_lt_of_le (Nt.V_lt a) (Nat.pow_le_pow_right (by omega) h)
theorem add_lt {x y k : Nat} (hx : x < 256 ^ k) (hy : y < 256 ^ k) : x + y < 256 ^ (k + 1) := by rw [Nat.pow_succ]; omega
theorem mul_lt {x y k l : Nat} (hx : x < 256 ^ k) (hy : y < 256 ^ l) : x * y < 256 ^ (k + l) := by
  rw [Nat.pow_add]
  exact Nat.mul_lt_mul_of_le_of_lt (Nat.le_of_lt hx) hy (Nat.pow_pos (by omega))
set_option maxRecDepth 100000 in
set_option maxHeartbeats 2000000 in
theorem natRules_any (a b c : ByteArray) (w : World) (ham : a.size ≤ maxLen) (hbm : b.size ≤ maxLen) (hcm : c.size ≤ maxLen) :
    Calls Tryd.prog 5 #[.string a, .string b, .string c] w fun e w' => e = .returned (.bool true) ∧ Below w.heap.size w w' := by
  unfold maxLen at ham hbm hcm
  have HK := Lib.hid known1_any
  have hB := Below.refl w.heap.size w
  by_cases h : a.size ≤ 200 ∧ b.size ≤ 200 ∧ c.size ≤ 200
  · obtain ⟨ha, hb, hc⟩ := h
    have ga := V_lt_of ha
    have gb := V_lt_of hb
    have gc := V_lt_of hc
    have hbc := E_le (add_lt gb gc)
    have hab := E_le (add_lt ga gb)
    have hpab := E_le (mul_lt ga gb)
    have hpac := E_le (mul_lt ga gc)
    have H1 := fun w => natAdd_any b c w (by omega) (by omega)
    have H2 := fun w => natAdd_any a b w (by omega) (by omega)
    have H3 := fun w => natAdd_any b a w (by omega) (by omega)
    have H4 := fun w => natSub_any (Nt.E (Nt.V a + Nt.V b)) b w (by omega) (by omega)
    have H5 := fun w => natTrim_any a w
    have H6 := fun w => natMul_any a b w (by omega) (by omega)
    have H7 := fun w => natMul_any b a w (by omega) (by omega)
    have H8 := fun w => natMul_any a (Nt.E (Nt.V b + Nt.V c)) w (by omega) (by omega)
    have H9 := fun w => natMul_any a c w (by omega) (by omega)
    have H10 := fun w => natAdd_any (Nt.E (Nt.V a * Nt.V b)) (Nt.E (Nt.V a * Nt.V c)) w (by omega) (by omega)
    rw [Nat.add_comm (Nt.V b) (Nt.V a)] at H3
    rw [Nat.mul_comm (Nt.V b) (Nt.V a)] at H7
    rw [Nt.V_E, Nat.add_sub_cancel] at H4
    rw [Nt.V_E, Nat.mul_add] at H8
    rw [Nt.V_E, Nt.V_E] at H10
    generalize Nt.E (Nt.V a * Nt.V b + Nt.V a * Nt.V c) = t5 at *
    generalize Nt.E (Nt.V b + Nt.V c) = t1 at *
    generalize Nt.E (Nt.V a + Nt.V b) = t2 at *
    generalize Nt.E (Nt.V a * Nt.V b) = t3 at *
    generalize Nt.E (Nt.V a * Nt.V c) = t4 at *
    generalize Nt.E (Nt.V a) = ta at *
    have K1 := Lib.hid H1
    have K2 := Lib.hid H2
    have K3 := Lib.hid H3
    have K4 := Lib.hid H4
    have K5 := Lib.hid H5
    have K6 := Lib.hid H6
    have K7 := Lib.hid H7
    have K8 := Lib.hid H8
    have K9 := Lib.hid H9
    have K10 := Lib.hid H10
    clear H1 H2 H3 H4 H5 H6 H7 H8 H9 H10 ga gb gc hbc hab hpab hpac
    go_enter Tryd.func5, Tryd.ntmps5
    go_wp2_with fail
    refine (chain hB (K1.out _)).mono ?_; clear hB; rintro e w1 ⟨rfl, hB⟩
    go_wp2_with fail
    refine (chain hB (K2.out _)).mono ?_; clear hB; rintro e w1 ⟨rfl, hB⟩
    go_wp2_with (first
      | (go_at_call 24; refine (chain hB (K4.out _)).mono ?_; clear hB; rintro e w1 ⟨rfl, hB⟩)
      | (go_at_call 15; refine (K5.out _).mono ?_; rintro e w1 ⟨rfl, rfl⟩))
    refine (chain hB (K2.out _)).mono ?_; clear hB; rintro e w1 ⟨rfl, hB⟩
    go_wp2_with fail
    refine (chain hB (K3.out _)).mono ?_; clear hB; rintro e w1 ⟨rfl, hB⟩
    go_wp2_with fail
    refine (chain hB (K6.out _)).mono ?_; clear hB; rintro e w1 ⟨rfl, hB⟩
    go_wp2_with fail
    refine (chain hB (K7.out _)).mono ?_; clear hB; rintro e w1 ⟨rfl, hB⟩
    go_wp2_with fail
    refine (chain hB (K8.out _)).mono ?_; clear hB; rintro e w1 ⟨rfl, hB⟩
    go_wp2_with fail
    refine (chain hB (K6.out _)).mono ?_; clear hB; rintro e w1 ⟨rfl, hB⟩
    go_wp2_with fail
    refine (chain hB (K9.out _)).mono ?_; clear hB; rintro e w1 ⟨rfl, hB⟩
    go_wp2_with fail
    refine (chain hB (K10.out _)).mono ?_; clear hB; rintro e w1 ⟨rfl, hB⟩
    go_wp2_with (go_at_call 19; refine (chain hB (HK.out _)).mono ?_; clear hB; rintro e w1 ⟨rfl, hB⟩)
    go_ret
    exact ⟨rfl, hB⟩
  · go_enter Tryd.func5, Tryd.ntmps5
    go_wp2_with (go_at_call 19; refine (chain hB (HK.out _)).mono ?_; clear hB; rintro e w1 ⟨rfl, hB⟩)
    all_goals first
      | (exfalso; omega)
      | (go_ret; exact ⟨rfl, hB⟩)
end Go.Proofs.YtgofihkdpocdkaaDoor
