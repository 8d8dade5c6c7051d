/-
  LAYER 11, REFERENCES: letters and digits of both, what looks like a cell.
-/
import Derived.Test.YtlpjaflolnggnaaGreatDoorCel1
namespace Go.Proofs.YtlpjaflolnggnaaGreatDoor
set_option linter.unusedSimpArgs false
set_option linter.unusedVariables false
open Go.RowKit Go.Shelf

set_option maxRecDepth 100000 in
theorem isLetter_any (x : UInt8) (w : World) :
    Calls Tryz.prog 38 #[.int .u8 (x.toNat : Int)] w fun e w' => e = .returned (.bool (isLet x)) ∧ w' = w := by
  unfold isLet
  generalize x.toNat = n
  go_enter Tryz.func38, Tryz.ntmps38
  go_wp2
  all_goals (go_ret; exact ⟨ret_bool (by rw [Bool.eq_iff_iff]; simp <;> omega), rfl⟩)
set_option maxRecDepth 100000 in
theorem refLetter_any (x : UInt8) (w : World) :
    Calls Tryz.prog 66 #[.int .u8 (x.toNat : Int)] w fun e w' => e = .returned (.bool (isLet x)) ∧ w' = w := by
  unfold isLet
  generalize x.toNat = n
  go_enter Tryz.func66, Tryz.ntmps66
  go_wp2
  all_goals (go_ret; exact ⟨ret_bool (by rw [Bool.eq_iff_iff]; simp <;> omega), rfl⟩)
set_option maxRecDepth 100000 in
theorem isDigit_any (x : UInt8) (w : World) :
    Calls Tryz.prog 39 #[.int .u8 (x.toNat : Int)] w fun e w' => e = .returned (.bool (Nt.isDig x)) ∧ w' = w := by
  unfold Nt.isDig
  generalize x.toNat = n
  go_enter Tryz.func39, Tryz.ntmps39
  go_wp2
  all_goals (go_ret; exact ⟨ret_bool (by rw [Bool.eq_iff_iff]; simp <;> omega), rfl⟩)
set_option maxRecDepth 100000 in
theorem ref11Digit_any (x : UInt8) (w : World) :
    Calls Tryz.prog 69 #[.int .u8 (x.toNat : Int)] w fun e w' => e = .returned (.bool (Nt.isDig x)) ∧ w' = w := by
  unfold Nt.isDig
  generalize x.toNat = n
  go_enter Tryz.func69, Tryz.ntmps69
  go_wp2
  all_goals (go_ret; exact ⟨ret_bool (by rw [Bool.eq_iff_iff]; simp <;> omega), rfl⟩)

abbrev lettersB2 : ByteArray := ⟨#[65, 66, 67, 68, 69, 70, 71, 72, 73, 74, 75, 76, 77, 78, 79, 80, 81, 82, 83, 84, 85, 86, 87, 88, 89, 90, 97, 98, 99, 100, 101, 102, 103, 104, 105, 106, 107, 108, 109, 110, 111, 112, 113, 114, 115, 116, 117, 118, 119, 120, 121, 122]⟩
theorem lettersB2_has (b : UInt8) : lettersB2.data.toList.contains b = isLet b := by
  have h : ∀ n : Fin 256, lettersB2.data.toList.contains (UInt8.ofNat n.val) = isLet (UInt8.ofNat n.val) := by decide +kernel
  have := h ⟨b.toNat, UInt8.toNat_lt b⟩
  rwa [show UInt8.ofNat (⟨b.toNat, UInt8.toNat_lt b⟩ : Fin 256).val = b from UInt8.ofNat_toNat] at this
/-- what is behind the letters. -/
def rest (s : ByteArray) : ByteArray := ⟨(s.data.toList.dropWhile isLet).toArray⟩
theorem rest_list (s : ByteArray) : (rest s).data.toList = s.data.toList.dropWhile isLet := by unfold rest; simp
theorem rest_size (s : ByteArray) : (rest s).size ≤ s.size := by
  have h1 : (rest s).size = (s.data.toList.dropWhile isLet).length := by unfold rest; show Array.size _ = _; simp
  have h2 := (List.dropWhile_sublist isLet (l := s.data.toList)).length_le
  have h3 : s.size = s.data.toList.length := by simp
  omega
theorem trimLeft_letters2 (s : ByteArray) (w : World) :
    Calls Tryz.prog 53 #[.string s, .string lettersB2] w fun e w' => e = .returned (.string (rest s)) ∧ Below w.heap.size w w' := by
  refine (Any.strings_TrimLeft_laid Tryz.l161 (by kernel_rfl) s lettersB2 w (by decide) (ascii_of_all (by decide))).mono ?_
  rintro e w' ⟨he, hB⟩
  refine ⟨?_, hB⟩
  rw [he]
  have : (fun b => (lettersB2.data.toList.contains b)) = isLet := funext lettersB2_has
  show Ending.returned (.string ⟨(s.data.toList.dropWhile (fun b => lettersB2.data.toList.contains b)).toArray⟩) = _
  rw [this]; rfl
theorem look_rest (s : ByteArray) : lookL s.data.toList = (decide (s.size - (rest s).size ≤ 2) && decide (1 ≤ (rest s).size) && decide ((rest s).size ≤ 3) && (rest s).data.toList.all Nt.isDig) := by
  have h1 : (rest s).size = (s.data.toList.dropWhile isLet).length := by unfold rest; show Array.size _ = _; simp
  have h3 : s.size = s.data.toList.length := by simp
  unfold lookL
  rw [h1, h3, rest_list]
set_option maxRecDepth 100000 in
set_option maxHeartbeats 1000000 in
theorem looks_any (s : ByteArray) (w : World) (hs : s.size ≤ maxLen) :
    Calls Tryz.prog 41 #[.string s] w fun e w' => e = .returned (.bool (lookL s.data.toList)) ∧ Below w.heap.size w w' := by
  have hB := Below.refl w.heap.size w
  have hud : undef = Value.tuple #[] := rfl
  unfold maxLen at hs
  have hr := look_rest s
  have hz := rest_size s
  have HL := Lib.hid (fun w => trimLeft_letters2 s w)
  have hT := fun w => trim_digits (rest s) w (by omega)
  generalize hbb : lookL s.data.toList = bb at *
  generalize rest s = D at *
  by_cases h1 : s.size - D.size ≤ 2
  · have h1' : (s.size : Int) - (D.size : Int) ≤ 2 := by omega
    by_cases h2 : 1 ≤ D.size
    · by_cases h3 : D.size ≤ 3
      · rw [decide_eq_true h1, decide_eq_true h2, decide_eq_true h3, Bool.true_and, Bool.true_and, Bool.true_and] at hr
        cases hall : D.data.toList.all Nt.isDig with
        | true =>
          rw [hall] at hr
          rw [trimS_nil hall] at hT
          have HR := Lib.hid hr
          have HT := Lib.hid hT
          clear hr hT hall h1 hbb
          go_enter Tryz.func41, Tryz.ntmps41
          go_wp2_with (first
            | (go_at_call 53; with_reducible refine (chain hB (HL.out _)).mono ?_; clear hB; rintro e w1 ⟨rfl, hB⟩)
            | (go_at_call 65; with_reducible refine (chain hB (HT.out _)).mono ?_; clear hB; rintro e w1 ⟨rfl, hB⟩))
          all_goals (go_ret; exact ⟨ret_bool HR.out.symm, hB⟩)
        | false =>
          rw [hall] at hr
          have hne := trimS_some hall
          obtain ⟨t, ht⟩ : ∃ t : ByteArray, t = ⟨(Lib.trimS D.data.toList digitSet).toArray⟩ := ⟨_, rfl⟩
          rw [← ht] at hT
          have htn : ¬ t.toList = [] := by
            rw [ht, ByteArray.toList_eq]; simpa using hne
          have htn2 : t.toList.isEmpty = false := by simpa using htn
          have HR := Lib.hid hr
          have HT := Lib.hid hT
          clear hr hT hall h1 hbb ht hne
          go_enter Tryz.func41, Tryz.ntmps41
          go_wp2_with (first
            | (go_at_call 53; with_reducible refine (chain hB (HL.out _)).mono ?_; clear hB; rintro e w1 ⟨rfl, hB⟩)
            | (go_at_call 65; with_reducible refine (chain hB (HT.out _)).mono ?_; clear hB; rintro e w1 ⟨rfl, hB⟩))
          all_goals (go_ret; exact ⟨ret_bool HR.out.symm, hB⟩)
      · rw [decide_eq_false h3, Bool.and_false, Bool.false_and] at hr
        have HR := Lib.hid hr
        clear hr hT h1 hbb
        go_enter Tryz.func41, Tryz.ntmps41
        go_wp2_with (go_at_call 53; with_reducible refine (chain hB (HL.out _)).mono ?_; clear hB; rintro e w1 ⟨rfl, hB⟩)
        all_goals (go_ret; exact ⟨ret_bool HR.out.symm, hB⟩)
    · rw [decide_eq_false h2, Bool.and_false, Bool.false_and, Bool.false_and] at hr
      have HR := Lib.hid hr
      clear hr hT h1 hbb
      go_enter Tryz.func41, Tryz.ntmps41
      go_wp2_with (go_at_call 53; with_reducible refine (chain hB (HL.out _)).mono ?_; clear hB; rintro e w1 ⟨rfl, hB⟩)
      all_goals (go_ret; exact ⟨ret_bool HR.out.symm, hB⟩)
  · have h1' : ¬ (s.size : Int) - (D.size : Int) ≤ 2 := by omega
    rw [decide_eq_false h1, Bool.false_and, Bool.false_and, Bool.false_and] at hr
    have HR := Lib.hid hr
    clear hr hT h1 hbb
    go_enter Tryz.func41, Tryz.ntmps41
    go_wp2_with (go_at_call 53; with_reducible refine (chain hB (HL.out _)).mono ?_; clear hB; rintro e w1 ⟨rfl, hB⟩)
    all_goals (go_ret; exact ⟨ret_bool HR.out.symm, hB⟩)
end Go.Proofs.YtlpjaflolnggnaaGreatDoor
