/-
  LAYER 11, REFERENCES: sheets' names (the document's).
-/
import Derived.Test.YtlpjaflolnggnaaGreatDoorCel4
namespace Go.Proofs.YtlpjaflolnggnaaGreatDoor
set_option linter.unusedSimpArgs false
set_option linter.unusedVariables false
open Go.RowKit Go.Shelf

theorem upT_list (s : ByteArray) : (upT s).data.toList = Lib.toUpperA s.data.toList := by unfold upT; simp
theorem upT_size (s : ByteArray) : (upT s).size = s.size := by
  have h1 : (upT s).size = (Lib.toUpperA s.data.toList).length := by unfold upT; show Array.size _ = _; simp
  rw [h1, up_length]; simp
theorem upT_eq (s : ByteArray) (l : List UInt8) : ((upT s).toList == l) = (Lib.toUpperA s.data.toList == l) := by rw [ByteArray.toList_eq, upT_list]
def NamRel (s : ByteArray) (i : Value) : Prop := ∃ n : Nat, i = .int .i64 n ∧ n ≤ s.size ∧ (s.data.toList.take n).all isNam = true
theorem nam_last {s : ByteArray} {n : Nat} (h : (s.data.toList.take n).all isNam = true) (hn : n = s.size) : s.data.toList.all isNam = true := by
  rwa [List.take_of_length_le (by subst hn; simp)] at h
set_option maxRecDepth 100000 in
set_option maxHeartbeats 2000000 in
theorem refNamed_any (s : ByteArray) (w : World) (hs : s.size ≤ maxLen) :
    Calls Tryz.prog 43 #[.string s] w fun e w' => e = .returned (.bool (namB s)) ∧ Below w.heap.size w w' := by
  have hB := Below.refl w.heap.size w
  have hud : undef = Value.tuple #[] := rfl
  have hl : s.data.toList.length = s.size := by simp
  have HU := Lib.hid (fun w => refUpper_any s w hs)
  have hA := fun w => refAddress_any (upT s) w (by rw [upT_size]; exact hs)
  rw [upT_list] at hA
  unfold maxLen at hs
  by_cases h0 : s.size = 0
  · have HR := Lib.hid (nam_size (Or.inl h0))
    go_enter Tryz.func43, Tryz.ntmps43
    clear hl hA
    go_wp2
    all_goals (go_ret; exact ⟨ret_bool HR.out.symm, hB⟩)
  by_cases h12 : 12 < s.size
  · have HR := Lib.hid (nam_size (Or.inr h12))
    clear hl hA
    go_enter Tryz.func43, Tryz.ntmps43
    go_wp2
    all_goals (go_ret; exact ⟨ret_bool HR.out.symm, hB⟩)
  have hp : 0 < s.size := by omega
  have hL := fun w => refLetter_any s[0] w
  cases hlet : isLet s[0] with
  | false =>
    have HR := Lib.hid (nam_head hp hlet)
    rw [hlet] at hL
    have HLL := Lib.hid hL
    clear hl hA hL hlet h0
    go_enter Tryz.func43, Tryz.ntmps43
    go_wp2_with (go_at_call 66; refine (HLL.out _).mono ?_; rintro e w1 ⟨rfl, rfl⟩)
    all_goals (go_ret; exact ⟨ret_bool HR.out.symm, hB⟩)
  | true =>
  rw [hlet] at hL
  have HLL := Lib.hid hL
  rw [form_look (by rw [head_get hp]; exact hlet) (by omega)] at hA
  have HY := Lib.hid (nam_yes hp (by omega) hlet)
  have HN := Lib.hid (@nam_not s)
  have q1 := upT_eq s trueL
  have q2 := upT_eq s falseL
  have q3 := upT_size s
  unfold trueL at q1
  unfold falseL at q2
  generalize upT s = U at *
  rw [show ([84, 82, 85, 69] : List UInt8) = trueL from rfl] at q1
  rw [show ([70, 65, 76, 83, 69] : List UInt8) = falseL from rfl] at q2
  generalize (Lib.toUpperA s.data.toList == trueL) = b1 at *
  generalize (Lib.toUpperA s.data.toList == falseL) = b2 at *
  generalize lookL s.data.toList = b3 at *
  unfold trueL at q1
  unfold falseL at q2
  have HA := Lib.hid hA
  have HLN := Lib.hid hl
  have HF : Hid ((b3 = true ∨ b1 = true ∨ b2 = true) → namB s = false) := fun h => by
    cases ha : s.data.toList.all isNam with
    | false => exact HN.out ha
    | true =>
      rw [HY.out ha]
      rcases h with h | h | h <;> simp [h]
  clear hl hA hL hlet h0
  cases b3 with
  | true =>
    go_enter Tryz.func43, Tryz.ntmps43
    go_wp2_with (first
      | (go_at_call 66; refine (HLL.out _).mono ?_; rintro e w1 ⟨rfl, rfl⟩)
      | (go_at_call 67; refine (HA.out _).mono ?_; rintro e w1 ⟨rfl, rfl⟩)
      | (go_at_call 68; with_reducible refine (chain hB (HU.out _)).mono ?_; clear hB; rintro e w1 ⟨rfl, hB⟩))
    all_goals (go_ret; exact ⟨ret_bool (HF.out (by simp)).symm, hB⟩)
  | false =>
  cases b1 with
  | true =>
    go_enter Tryz.func43, Tryz.ntmps43
    go_wp2_with (first
      | (go_at_call 66; refine (HLL.out _).mono ?_; rintro e w1 ⟨rfl, rfl⟩)
      | (go_at_call 67; refine (HA.out _).mono ?_; rintro e w1 ⟨rfl, rfl⟩)
      | (go_at_call 68; with_reducible refine (chain hB (HU.out _)).mono ?_; clear hB; rintro e w1 ⟨rfl, hB⟩))
    all_goals (go_ret; exact ⟨ret_bool (HF.out (by simp)).symm, hB⟩)
  | false =>
  cases b2 with
  | true =>
    go_enter Tryz.func43, Tryz.ntmps43
    go_wp2_with (first
      | (go_at_call 66; refine (HLL.out _).mono ?_; rintro e w1 ⟨rfl, rfl⟩)
      | (go_at_call 67; refine (HA.out _).mono ?_; rintro e w1 ⟨rfl, rfl⟩)
      | (go_at_call 68; with_reducible refine (chain hB (HU.out _)).mono ?_; clear hB; rintro e w1 ⟨rfl, hB⟩))
    all_goals (go_ret; exact ⟨ret_bool (HF.out (by simp)).symm, hB⟩)
  | false =>
    go_enter Tryz.func43, Tryz.ntmps43
    go_wp2_with (first
      | (go_at_call 66; refine (HLL.out _).mono ?_; rintro e w1 ⟨rfl, rfl⟩)
      | (go_at_call 67; refine (HA.out _).mono ?_; rintro e w1 ⟨rfl, rfl⟩)
      | (go_at_call 68; with_reducible refine (chain hB (HU.out _)).mono ?_; clear hB; rintro e w1 ⟨rfl, hB⟩))
    go_loop [3] (NamRel s) (fun i => s.size - (intOf i).toNat)
    case atStart => exact ⟨0, rfl, by omega, rfl⟩
    case round =>
      obtain ⟨n, rfl, hn, ha⟩ := hrel
      have HA2 := Lib.hid ha
      clear ha
      by_cases hlt : n < s.size
      · have hg := Lib.hid (get_list s n hlt)
        have hL2 := fun w => refLetter_any s[n] w
        have hD2 := fun w => ref11Digit_any s[n] w
        have h95 : (s[n] == 95) = (((s[n].toNat : Nat) : Int) == 95) := by
          rw [Bool.eq_iff_iff, beq_iff_eq, beq_iff_eq, ← UInt8.toNat_inj]; simp; omega
        cases hx : isNam s[n] with
        | true =>
          have hx' := Lib.hid hx
          unfold isNam at hx
          cases e1 : isLet s[n] with
          | true =>
            rw [e1] at hL2
            have HL2 := Lib.hid hL2
            clear hL2 hD2 hx e1 h95
            go_wp2_with (go_at_call 66; refine (HL2.out _).mono ?_; rintro e w1 ⟨rfl, rfl⟩)
            refine ⟨⟨n + 1, by go_num, by omega, ?_⟩, by simp [intOf]; omega⟩
            exact all_take (by rw [HLN.out]; exact hlt) HA2.out (by rw [hg.out]; exact hx'.out)
          | false =>
            rw [e1] at hL2 hx
            cases e2 : Nt.isDig s[n] with
            | true =>
              rw [e2] at hD2
              have HL2 := Lib.hid hL2
              have HD2 := Lib.hid hD2
              clear hL2 hD2 hx e1 e2 h95
              go_wp2_with (first | (go_at_call 66; refine (HL2.out _).mono ?_; rintro e w1 ⟨rfl, rfl⟩) | (go_at_call 69; refine (HD2.out _).mono ?_; rintro e w1 ⟨rfl, rfl⟩))
              refine ⟨⟨n + 1, by go_num, by omega, ?_⟩, by simp [intOf]; omega⟩
              exact all_take (by rw [HLN.out]; exact hlt) HA2.out (by rw [hg.out]; exact hx'.out)
            | false =>
              rw [e2] at hD2 hx
              rw [Bool.false_or, Bool.false_or, h95] at hx
              have HL2 := Lib.hid hL2
              have HD2 := Lib.hid hD2
              clear hL2 hD2 e1 e2 h95
              go_wp2_with (first | (go_at_call 66; refine (HL2.out _).mono ?_; rintro e w1 ⟨rfl, rfl⟩) | (go_at_call 69; refine (HD2.out _).mono ?_; rintro e w1 ⟨rfl, rfl⟩))
              refine ⟨⟨n + 1, by go_num, by omega, ?_⟩, by simp [intOf]; omega⟩
              exact all_take (by rw [HLN.out]; exact hlt) HA2.out (by rw [hg.out]; exact hx'.out)
        | false =>
          have hx' := Lib.hid hx
          unfold isNam at hx
          rw [Bool.or_eq_false_iff, Bool.or_eq_false_iff, h95] at hx
          obtain ⟨⟨e1, e2⟩, e3⟩ := hx
          rw [e1] at hL2
          rw [e2] at hD2
          have HL2 := Lib.hid hL2
          have HD2 := Lib.hid hD2
          clear hL2 hD2 e1 e2 h95
          go_wp2_with (first | (go_at_call 66; refine (HL2.out _).mono ?_; rintro e w1 ⟨rfl, rfl⟩) | (go_at_call 69; refine (HD2.out _).mono ?_; rintro e w1 ⟨rfl, rfl⟩))
          go_ret
          exact ⟨ret_bool (HN.out (all_not (by rw [HLN.out]; exact hlt) (by rw [hg.out]; exact hx'.out))).symm, hB⟩
      · have hn' : n = s.size := by omega
        go_wp2
        go_ret
        exact ⟨ret_bool (by rw [HY.out (nam_last HA2.out hn')]; rfl), hB⟩
end Go.Proofs.YtlpjaflolnggnaaGreatDoor
