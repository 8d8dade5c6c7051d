/-
  LAYER 11, REFERENCES: an address's form, capital letters (the document's).
-/
import Derived.Test.YtlpjaflolnggnaaGreatDoorCel2
import Derived.Laws.IdiomStrings
import Derived.Lib.ConvBytes
namespace Go.Proofs.YtlpjaflolnggnaaGreatDoor
set_option linter.unusedSimpArgs false
set_option linter.unusedVariables false
open Go.RowKit Go.Shelf

theorem drop_len {p : UInt8 → Bool} (l : List UInt8) : l.dropWhile p = l.drop (l.takeWhile p).length := by
  induction l with
  | nil => rfl
  | cons b l ih =>
    rw [List.dropWhile_cons, List.takeWhile_cons]
    cases h : p b with
    | true => simpa using ih
    | false => simp
/-- so many bytes behind the letters are digits. -/
def AdrRel (l : List UInt8) (k : Nat) (i : Value) : Prop := ∃ n : Nat, i = .int .i64 n ∧ k ≤ n ∧ n ≤ l.length ∧ ((l.take n).drop k).all Nt.isDig = true
theorem adr_more {l : List UInt8} {k n : Nat} (hk : k ≤ n) (hn : n < l.length) (h : ((l.take n).drop k).all Nt.isDig = true) (hx : Nt.isDig l[n] = true) : ((l.take (n + 1)).drop k).all Nt.isDig = true := by
  rw [List.take_succ_eq_append_getElem hn, List.drop_append_of_le_length (by rw [List.length_take]; omega), List.all_append, h]; simp [hx]
theorem adr_none {l : List UInt8} {k n : Nat} (hk : k ≤ n) (hn : n < l.length) (hx : Nt.isDig l[n] = false) : (l.drop k).all Nt.isDig = false := by
  rw [List.all_eq_false]
  refine ⟨l[n], ?_, by simp [hx]⟩
  rw [List.mem_iff_getElem]
  refine ⟨n - k, by rw [List.length_drop]; omega, ?_⟩
  rw [List.getElem_drop]
  congr 1; omega
theorem form_at {l : List UInt8} {k : Nat} (h : (l.takeWhile isUp).length = k) : formL l = (decide (1 ≤ k) && decide (k ≤ 2) && decide (1 ≤ l.length - k) && decide (l.length - k ≤ 3) && (l.drop k).all Nt.isDig) := by
  unfold formL
  rw [drop_len (p := isUp) l, h, List.length_drop]
set_option maxRecDepth 100000 in
set_option maxHeartbeats 1000000 in
theorem refAddress_any (s : ByteArray) (w : World) (hs : s.size ≤ maxLen) :
    Calls Tryz.prog 67 #[.string s] w fun e w' => e = .returned (.bool (formL s.data.toList)) ∧ w' = w := by
  have hud : undef = Value.tuple #[] := rfl
  have hl : s.data.toList.length = s.size := by simp
  have HL := Lib.hid (fun w => letters_any s w hs)
  unfold maxLen at hs
  obtain ⟨k, hk⟩ : ∃ k, (s.data.toList.takeWhile isUp).length = k := ⟨_, rfl⟩
  have hr := form_at hk
  have hks : k ≤ s.size := by rw [← hk, ← hl]; exact (List.takeWhile_sublist _).length_le
  rw [hk] at HL
  rw [hl] at hr
  clear hk
  by_cases h1 : 1 ≤ k
  · by_cases h2 : k ≤ 2
    · by_cases h3 : 1 ≤ s.size - k
      · by_cases h4 : s.size - k ≤ 3
        · rw [decide_eq_true h1, decide_eq_true h2, decide_eq_true h3, decide_eq_true h4, Bool.true_and, Bool.true_and, Bool.true_and, Bool.true_and] at hr
          have HR := Lib.hid hr
          have HLL := Lib.hid hl
          have h3' : ¬ (s.size : Int) - (k : Int) < 1 := by omega
          have h4' : ¬ (3 : Int) < (s.size : Int) - (k : Int) := by omega
          clear hr hl h3 h4
          go_enter Tryz.func67, Tryz.ntmps67
          go_wp2_with (go_at_call 98; refine (HL.out _).mono ?_; rintro e w1 ⟨rfl, rfl⟩)
          go_loop [4] (AdrRel s.data.toList k) (fun i => s.size - (intOf i).toNat)
          case atStart => exact ⟨k, rfl, by omega, by rw [HLL.out]; omega, by simp⟩
          case round =>
            obtain ⟨n, rfl, hn1, hn2, ha⟩ := hrel
            have HA := Lib.hid ha
            have hn3 : n ≤ s.size := by rw [HLL.out] at hn2; exact hn2
            clear ha hn2
            by_cases hlt : n < s.size
            · have hg := Lib.hid (get_list s n hlt)
              have HD := Lib.hid (fun w => ref11Digit_any s[n] w)
              cases hd : Nt.isDig s[n] with
              | true =>
                rw [hd] at HD
                have hd' := Lib.hid hd
                clear hd
                go_wp2_with (go_at_call 69; refine (HD.out _).mono ?_; rintro e w1 ⟨rfl, rfl⟩)
                refine ⟨⟨n + 1, by go_num, by omega, by rw [HLL.out]; omega, ?_⟩, by simp [intOf]; omega⟩
                exact adr_more hn1 (by rw [HLL.out]; exact hlt) HA.out (by rw [hg.out]; exact hd'.out)
              | false =>
                rw [hd] at HD
                have hd' := Lib.hid hd
                clear hd
                go_wp2_with (go_at_call 69; refine (HD.out _).mono ?_; rintro e w1 ⟨rfl, rfl⟩)
                go_ret
                exact ⟨ret_bool (by rw [HR.out, adr_none hn1 (by rw [HLL.out]; exact hlt) (by rw [hg.out]; exact hd'.out)]), rfl⟩
            · have hn' : n = s.size := by omega
              go_wp2
              go_ret
              refine ⟨ret_bool ?_, rfl⟩
              have := HA.out
              rw [List.take_of_length_le (by rw [HLL.out]; omega)] at this
              rw [HR.out, this]
        · rw [decide_eq_false h4, Bool.and_false, Bool.false_and] at hr
          have HR := Lib.hid hr
          have h3' : ¬ (s.size : Int) - (k : Int) < 1 := by omega
          have h4' : (3 : Int) < (s.size : Int) - (k : Int) := by omega
          clear hr hl h3 h4
          go_enter Tryz.func67, Tryz.ntmps67
          go_wp2_with (go_at_call 98; refine (HL.out _).mono ?_; rintro e w1 ⟨rfl, rfl⟩)
          all_goals (go_ret; exact ⟨ret_bool HR.out.symm, rfl⟩)
      · rw [decide_eq_false h3, Bool.and_false, Bool.false_and, Bool.false_and] at hr
        have HR := Lib.hid hr
        have h3' : (s.size : Int) - (k : Int) < 1 := by omega
        clear hr hl h3
        go_enter Tryz.func67, Tryz.ntmps67
        go_wp2_with (go_at_call 98; refine (HL.out _).mono ?_; rintro e w1 ⟨rfl, rfl⟩)
        all_goals (go_ret; exact ⟨ret_bool HR.out.symm, rfl⟩)
    · rw [decide_eq_false h2, Bool.and_false, Bool.false_and, Bool.false_and, Bool.false_and] at hr
      have HR := Lib.hid hr
      have h2' : (2 : Int) < (k : Int) := by omega
      clear hr hl
      go_enter Tryz.func67, Tryz.ntmps67
      go_wp2_with (go_at_call 98; refine (HL.out _).mono ?_; rintro e w1 ⟨rfl, rfl⟩)
      all_goals (go_ret; exact ⟨ret_bool HR.out.symm, rfl⟩)
  · rw [decide_eq_false h1, Bool.false_and, Bool.false_and, Bool.false_and, Bool.false_and] at hr
    have HR := Lib.hid hr
    clear hr hl
    go_enter Tryz.func67, Tryz.ntmps67
    go_wp2_with (go_at_call 98; refine (HL.out _).mono ?_; rintro e w1 ⟨rfl, rfl⟩)
    all_goals (go_ret; exact ⟨ret_bool HR.out.symm, rfl⟩)
end Go.Proofs.YtlpjaflolnggnaaGreatDoor
