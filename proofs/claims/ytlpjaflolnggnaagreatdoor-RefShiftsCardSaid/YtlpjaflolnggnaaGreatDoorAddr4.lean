/-
  LAYER 10, ADDRESSES: isRow, Letters.
-/
import Derived.Test.YtlpjaflolnggnaaGreatDoorAddr3
import Derived.Test.YtlpjaflolnggnaaGreatDoorDec1
namespace Go.Proofs.YtlpjaflolnggnaaGreatDoor
set_option linter.unusedSimpArgs false
set_option linter.unusedVariables false
open Go.RowKit Go.Shelf

theorem head_get {s : ByteArray} (h : 0 < s.size) : s.data.toList.headD 0 = s[0] := by
  obtain ⟨⟨l⟩⟩ := s
  cases l with
  | nil => exact absurd h (by decide)
  | cons x l => rfl
theorem rowOk_none {s : ByteArray} (h : s.size = 0) : rowOk s.data.toList = false := by
  unfold rowOk; simp [h]
theorem rowOk_long {s : ByteArray} (h : 3 < s.size) : rowOk s.data.toList = false := by
  have : ¬ s.size ≤ 3 := by omega
  unfold rowOk; simp [this]
theorem rowOk_zero {s : ByteArray} (h0 : 0 < s.size) (h : s[0].toNat = 48) : rowOk s.data.toList = false := by
  have : s[0] = 48 := UInt8.toNat_inj.1 h
  unfold rowOk; rw [head_get h0, this]; simp
theorem rowOk_some {s : ByteArray} (h0 : 0 < s.size) (h3 : s.size ≤ 3) (h : s[0].toNat ≠ 48) : rowOk s.data.toList = s.data.toList.all Nt.isDig := by
  have h1 : (s[0] == 48) = false := by
    rw [beq_eq_false_iff_ne]; intro he; rw [he] at h; exact h rfl
  have h2 : 1 ≤ s.size := h0
  unfold rowOk; rw [head_get h0, h1]; simp [h2, h3]
set_option maxRecDepth 100000 in
set_option maxHeartbeats 1000000 in
theorem isRow_any (s : ByteArray) (w : World) (hs : s.size ≤ maxLen) :
    Calls Tryz.prog 55 #[.string s] w fun e w' => e = .returned (.bool (rowOk s.data.toList)) ∧ Below w.heap.size w w' := by
  have hB := Below.refl w.heap.size w
  have hud : undef = Value.tuple #[] := rfl
  unfold maxLen at hs
  by_cases h0 : s.size = 0
  · have hr := Lib.hid (rowOk_none h0)
    have hn : s.toList = [] := by
      rw [ByteArray.toList_eq]; exact List.eq_nil_of_length_eq_zero (by simpa using h0)
    clear h0
    go_enter Tryz.func55, Tryz.ntmps55
    go_wp2
    go_ret
    exact ⟨ret_bool hr.out.symm, hB⟩
  · have hn : ¬ s.toList = [] := by
      rw [ByteArray.toList_eq]; intro h; exact h0 (by have := congrArg List.length h; simpa using this)
    have hn2 : s.toList.isEmpty = false := by simpa using hn
    have hp : 0 < s.size := by omega
    by_cases h3 : 3 < s.size
    · have hr := Lib.hid (rowOk_long h3)
      clear h0
      go_enter Tryz.func55, Tryz.ntmps55
      go_wp2
      all_goals (go_ret; exact ⟨ret_bool hr.out.symm, hB⟩)
    · have h3' : s.size ≤ 3 := by omega
      by_cases h4 : s[0].toNat = 48
      · have hr := Lib.hid (rowOk_zero hp h4)
        clear h0
        go_enter Tryz.func55, Tryz.ntmps55
        go_wp2
        all_goals (go_ret; exact ⟨ret_bool hr.out.symm, hB⟩)
      · have hr := rowOk_some hp h3' h4
        have HT := fun w => trim_digits s w (by omega)
        have h4b : ((s[0].toNat : Int) == 48) = false := by simp; omega
        cases hall : s.data.toList.all Nt.isDig with
        | true =>
          rw [hall] at hr
          rw [trimS_nil hall] at HT
          have HR := Lib.hid hr
          have HTT := Lib.hid HT
          clear h0 hr HT hall h3
          go_enter Tryz.func55, Tryz.ntmps55
          go_wp2_with (go_at_call 65; with_reducible refine (chain hB (HTT.out _)).mono ?_; clear hB; rintro e w1 ⟨rfl, hB⟩)
          all_goals (go_ret; exact ⟨ret_bool (by rw [HR.out]; simp; omega), hB⟩)
        | false =>
          rw [hall] at hr
          have hne := trimS_some hall
          obtain ⟨t, ht⟩ : ∃ t : ByteArray, t = ⟨(Lib.trimS s.data.toList digitSet).toArray⟩ := ⟨_, rfl⟩
          rw [← ht] at HT
          have htn : ¬ t.toList = [] := by
            rw [ht, ByteArray.toList_eq]; simpa using hne
          have htn2 : t.toList.isEmpty = false := by simpa using htn
          have HR := Lib.hid hr
          have HTT := Lib.hid HT
          clear h0 hr HT hall h3 ht hne
          go_enter Tryz.func55, Tryz.ntmps55
          go_wp2_with (go_at_call 65; with_reducible refine (chain hB (HTT.out _)).mono ?_; clear hB; rintro e w1 ⟨rfl, hB⟩)
          all_goals (go_ret; exact ⟨ret_bool HR.out.symm, hB⟩)

/-- Letters: so many capital letters have come. -/
def LetRel (s : ByteArray) (i : Value) : Prop := ∃ n : Nat, i = .int .i64 n ∧ n ≤ s.size ∧ (s.data.toList.take n).all isUp = true
theorem take_while {l : List UInt8} {n : Nat} (h : (l.take n).all isUp = true) (he : n = l.length ∨ ∃ h : n < l.length, isUp l[n] = false) : (l.takeWhile isUp).length = n ∧ l.takeWhile isUp = l.take n ∧ l.dropWhile isUp = l.drop n := by
  have hs := List.take_append_drop n l
  have hd : ∀ d, d = l.drop n → d.takeWhile isUp = [] ∧ d.dropWhile isUp = d := by
    intro d hd
    rcases he with rfl | ⟨hn, hx⟩
    · rw [List.drop_length] at hd; subst hd; exact ⟨rfl, rfl⟩
    · subst hd
      rw [List.drop_eq_getElem_cons hn]
      exact ⟨List.takeWhile_cons_of_neg (by rw [hx]; decide), List.dropWhile_cons_of_neg (by rw [hx]; decide)⟩
  obtain ⟨d1, d2⟩ := hd _ rfl
  have e : l.takeWhile isUp = l.take n ∧ l.dropWhile isUp = l.drop n := by
    have h1 : ∀ x ∈ l.take n, isUp x = true := List.all_eq_true.1 h
    constructor
    · rw [← hs, List.takeWhile_append_of_pos h1, d1, List.append_nil, hs]
    · rw [← hs, List.dropWhile_append_of_pos h1, d2, hs]
  refine ⟨?_, e⟩
  rw [e.1, List.length_take]
  rcases he with h | ⟨h, _⟩ <;> omega
theorem take_more {l : List UInt8} {n : Nat} (hn : n < l.length) (h : (l.take n).all isUp = true) (hx : isUp l[n] = true) : (l.take (n + 1)).all isUp = true := by
  rw [List.take_succ_eq_append_getElem hn, List.all_append, h]; simp [hx]
theorem get_list (s : ByteArray) (n : Nat) (h : n < s.size) : s.data.toList[n]'(by simpa using h) = s[n] := by
  obtain ⟨⟨l⟩⟩ := s; rfl
set_option maxRecDepth 100000 in
set_option maxHeartbeats 1000000 in
theorem letters_any (s : ByteArray) (w : World) (hs : s.size ≤ maxLen) :
    Calls Tryz.prog 98 #[.string s] w fun e w' => e = .returned (.int .i64 ((s.data.toList.takeWhile isUp).length : Nat)) ∧ w' = w := by
  unfold maxLen at hs
  have hud : undef = Value.tuple #[] := rfl
  have hl : s.data.toList.length = s.size := by simp
  have HL := Lib.hid hl
  clear hl
  go_enter Tryz.func98, Tryz.ntmps98
  go_wp2
  go_loop [3] (LetRel s) (fun i => s.size - (intOf i).toNat)
  case atStart => exact ⟨0, rfl, by omega, rfl⟩
  case round =>
    obtain ⟨n, rfl, hn, ha⟩ := hrel
    have HA := Lib.hid ha
    clear ha
    by_cases hlt : n < s.size
    · have hg := Lib.hid (get_list s n hlt)
      by_cases h1 : 65 ≤ s[n].toNat
      · by_cases h2 : s[n].toNat ≤ 90
        · have hu : Hid (isUp s[n] = true) := by show isUp s[n] = true; unfold isUp; simp; omega
          go_wp2
          refine ⟨⟨n + 1, by go_num, by omega, ?_⟩, by simp [intOf]; omega⟩
          exact take_more (by rw [HL.out]; exact hlt) HA.out (by rw [hg.out]; exact hu.out)
        · have hu : Hid (isUp s[n] = false) := by show isUp s[n] = false; unfold isUp; simp; omega
          go_wp2
          go_ret
          have := take_while HA.out (Or.inr ⟨by rw [HL.out]; exact hlt, by rw [hg.out]; exact hu.out⟩)
          exact ⟨ret_int (by rw [this.1]), rfl⟩
      · have hu : Hid (isUp s[n] = false) := by show isUp s[n] = false; unfold isUp; simp; omega
        go_wp2
        go_ret
        have := take_while HA.out (Or.inr ⟨by rw [HL.out]; exact hlt, by rw [hg.out]; exact hu.out⟩)
        exact ⟨ret_int (by rw [this.1]), rfl⟩
    · have hn' : n = s.size := by omega
      go_wp2
      go_ret
      have := take_while HA.out (Or.inl (by rw [HL.out]; exact hn'))
      exact ⟨ret_int (by rw [this.1, hn']), rfl⟩
end Go.Proofs.YtlpjaflolnggnaaGreatDoor
