/-
  LAYER 10, ADDRESSES: In, Col, ColOf of the program and of the document.
-/
import Derived.Test.YtlpjaflolnggnaaGreatDoorAddr1
import Derived.Test.YtlpjaflolnggnaaGreatDoorDec1
namespace Go.Proofs.YtlpjaflolnggnaaGreatDoor
set_option linter.unusedSimpArgs false
set_option linter.unusedVariables false
open Go.RowKit Go.Shelf

set_option maxRecDepth 100000 in
theorem addrIn_any (c r : Int) (w : World) :
    Calls Tryz.prog 42 #[.int .i64 c, .int .i64 r] w fun e w' => e = .returned (.bool (inG c r)) ∧ w' = w := by
  go_enter Tryz.func42, Tryz.ntmps42
  go_wp2
  all_goals (go_ret; exact ⟨ret_bool (by unfold inG; simp; try omega), rfl⟩)
set_option maxRecDepth 100000 in
theorem refIn_any (c r : Int) (w : World) :
    Calls Tryz.prog 44 #[.int .i64 c, .int .i64 r] w fun e w' => e = .returned (.bool (inG c r)) ∧ w' = w := by
  go_enter Tryz.func44, Tryz.ntmps44
  go_wp2
  all_goals (go_ret; exact ⟨ret_bool (by unfold inG; simp; try omega), rfl⟩)

abbrev lettersB : ByteArray := ⟨#[65, 66, 67, 68, 69, 70, 71, 72, 73, 74, 75, 76, 77, 78, 79, 80, 81, 82, 83, 84, 85, 86, 87, 88, 89, 90]⟩
theorem col_one : ∀ n : Fin 53, n.val ≠ 0 → n.val ≤ 26 → lettersB.extract ((n.val - 1) % 26) ((n.val - 1) % 26 + 1) = colT n.val := by decide +kernel
theorem col_two : ∀ n : Fin 53, 26 < n.val → lettersB.extract 0 ((n.val - 1) / 26) ++ lettersB.extract ((n.val - 1) % 26) ((n.val - 1) % 26 + 1) = colT n.val := by decide +kernel
set_option maxRecDepth 100000 in
theorem addrCol_any (n : Int) (w : World) :
    Calls Tryz.prog 36 #[.int .i64 n] w fun e w' => e = .returned (.string (colT n.toNat)) ∧ Below w.heap.size w w' := by
  have HI := Lib.hid (fun w => addrIn_any n 1 w)
  cases hg : inG n 1 with
  | false =>
    have hz : n.toNat = 0 ∨ 52 < n.toNat := by
      have h1 : ¬ (1 ≤ n ∧ n ≤ 52 ∧ (1 : Int) ≤ 1 ∧ (1 : Int) ≤ 99) := fun h => by rw [(inG_iff n 1).2 h] at hg; cases hg
      omega
    have hr := Lib.hid (colT_neg hz)
    rw [hg] at HI
    clear hz hg
    go_enter Tryz.func36, Tryz.ntmps36
    go_wp2_with (go_at_call 42; refine (HI.out _).mono ?_; rintro e w1 ⟨rfl, rfl⟩)
    go_ret
    exact ⟨ret_str hr.out.symm, Below.refl _ _⟩
  | true =>
    obtain ⟨h1, h2, _, _⟩ := (inG_iff n 1).1 hg
    rw [hg] at HI
    clear hg
    obtain ⟨k, rfl⟩ : ∃ k : Nat, n = (k : Int) := ⟨n.toNat, by omega⟩
    rw [Int.toNat_natCast]
    have c1 := Lib.hid (fun h : k ≤ 26 => col_one ⟨k, by omega⟩ (by simp; omega) h)
    have c2 := Lib.hid (fun h : 26 < k => col_two ⟨k, by omega⟩ h)
    have q1 : ((k : Int) - 1) / 26 = (((k - 1) / 26 : Nat) : Int) := by omega
    have q2 : ((k : Int) - 1) % 26 = (((k - 1) % 26 : Nat) : Int) := by omega
    have q3 : (k - 1) / 26 ≤ 1 := by omega
    have q4 : (k - 1) % 26 < 26 := by omega
    have q5 : 26 < k ↔ (k - 1) / 26 = 1 := by omega
    go_enter Tryz.func36, Tryz.ntmps36
    go_wp2_with (go_at_call 42; refine (HI.out _).mono ?_; rintro e w1 ⟨rfl, rfl⟩)
    · go_ret
      exact ⟨ret_str (c2.out (by omega)), Below.refl _ _⟩
    · go_ret
      exact ⟨ret_str (c1.out (by omega)), Below.refl _ _⟩
/-- ColOf: no column up to here has these letters. -/
def ColRel (s : ByteArray) (w : World) (i : Value) (wr : World) : Prop := ∃ n : Nat, 1 ≤ n ∧ n ≤ 53 ∧ i = .int .i64 n ∧ colFrom s (53 - n) n = colF s ∧ Below w.heap.size w wr
theorem colFrom_yes {s : ByteArray} {n : Nat} (h : n ≤ 52) (he : colT n = s) : colFrom s (53 - n) n = n := by
  obtain ⟨f, hf⟩ : ∃ f, 53 - n = f + 1 := ⟨52 - n, by omega⟩
  rw [hf, colFrom, if_pos he]
theorem colFrom_no {s : ByteArray} {n : Nat} (h : n ≤ 52) (he : ¬ colT n = s) : colFrom s (53 - n) n = colFrom s (53 - (n + 1)) (n + 1) := by
  obtain ⟨f, hf⟩ : ∃ f, 53 - n = f + 1 := ⟨52 - n, by omega⟩
  rw [hf, colFrom, if_neg he, show 53 - (n + 1) = f from by omega]
def colOut (n : Nat) : Value := .tuple #[.int .i64 n, .bool (n != 0)]
set_option maxRecDepth 100000 in
set_option maxHeartbeats 1000000 in
theorem addrColOf_any (s : ByteArray) (w : World) :
    Calls Tryz.prog 56 #[.string s] w fun e w' => e = .returned (colOut (colF s)) ∧ Below w.heap.size w w' := by
  go_enter Tryz.func56, Tryz.ntmps56
  go_wp2
  go_loopw [4] (ColRel s w) (fun i _ => 53 - (intOf i).toNat)
  case atStart => exact ⟨1, by omega, by omega, rfl, rfl, Below.refl _ _⟩
  case round =>
    obtain ⟨n, h1, h2, rfl, hc, hW⟩ := hrel
    by_cases hlt : n ≤ 52
    · have HC := Lib.hid (fun W => addrCol_any (n : Int) W)
      rw [Int.toNat_natCast] at HC
      by_cases he : colT n = s
      · rw [colFrom_yes hlt he] at hc
        have hr : Hid (colOut n = colOut (colF s)) := by rw [hc]; rfl
        have h0 : Hid (colOut n = .tuple #[.int .i64 n, .bool true]) := by
          have h : (n != 0) = true := by simp; omega
          show Value.tuple #[.int .i64 n, .bool (n != 0)] = _
          rw [h]
        rw [he] at HC
        clear he hc
        go_wp2_with (go_at_call 36; refine (chain hW (HC.out _)).mono ?_; clear hW; rintro e w1 ⟨rfl, hW⟩)
        go_ret2
        exact ⟨congrArg Ending.returned (h0.out.symm.trans hr.out), hW⟩
      · have hs := Lib.hid (colFrom_no hlt he)
        have HS := Lib.hid hc
        generalize colT n = t at *
        have hne : (t.toList == s.toList) = false := by
          rw [beq_eq_false_iff_ne]; intro h; apply he
          rw [ByteArray.toList_eq, ByteArray.toList_eq] at h
          obtain ⟨⟨x⟩⟩ := t; obtain ⟨⟨y⟩⟩ := s; simpa using h
        clear hc he
        go_wp2_with (go_at_call 36; refine (chain hW (HC.out _)).mono ?_; clear hW; rintro e w1 ⟨rfl, hW⟩)
        exact ⟨⟨n + 1, by omega, by omega, by go_num, hs.out.symm.trans HS.out, hW⟩, by simp [intOf]; omega⟩
    · have hn : n = 53 := by omega
      subst hn
      have hr : Hid (colOut 0 = colOut (colF s)) := by rw [← hc]; rfl
      clear hc
      go_wp2
      go_ret2
      exact ⟨congrArg Ending.returned hr.out, hW⟩
end Go.Proofs.YtlpjaflolnggnaaGreatDoor
