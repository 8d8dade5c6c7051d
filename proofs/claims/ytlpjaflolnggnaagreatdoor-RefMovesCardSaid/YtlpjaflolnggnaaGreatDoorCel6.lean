/-
  LAYER 11, REFERENCES: sheets' names (the program's).
-/
import Derived.Test.YtlpjaflolnggnaaGreatDoorCel5
namespace Go.Proofs.YtlpjaflolnggnaaGreatDoor
set_option linter.unusedSimpArgs false
set_option linter.unusedVariables false
open Go.RowKit Go.Shelf

def NamRel2 (s : ByteArray) (i v : Value) : Prop := ∃ n : Nat, i = .int .i64 n ∧ n ≤ s.size ∧ (s.data.toList.take n).all isNam = true
theorem nam_asc {s : ByteArray} (h : s.data.toList.all isNam = true) (j : Nat) (b : UInt8) (hb : s.data.toList[j]? = some b) : b.toNat < 128 :=
  nam_ascii (List.all_eq_true.1 h b (List.mem_of_getElem? hb))
set_option maxRecDepth 100000 in
set_option maxHeartbeats 2000000 in
theorem named_any (s : ByteArray) (w : World) (hs : s.size ≤ maxLen) :
    Calls Tryz.prog 18 #[.string s] w fun e w' => e = .returned (.bool (namB s)) ∧ Below w.heap.size w w' := by
  have hB := Below.refl w.heap.size w
  have hud : undef = Value.tuple #[] := rfl
  have hl : s.data.toList.length = s.size := by simp
  have hA := fun w => looks_any s w hs
  unfold maxLen at hs
  by_cases h0 : s.size = 0
  · have HR := Lib.hid (nam_size (Or.inl h0))
    have hn : s.toList = [] := by
      rw [ByteArray.toList_eq]; exact List.eq_nil_of_length_eq_zero (by simpa using h0)
    clear hl hA h0
    go_enter Tryz.func18, Tryz.ntmps18
    go_wp2
    all_goals (go_ret; exact ⟨ret_bool HR.out.symm, hB⟩)
  have hne : ¬ s.toList = [] := by
    rw [ByteArray.toList_eq]; intro h; exact h0 (by have := congrArg List.length h; simpa using this)
  have hne2 : s.toList.isEmpty = false := by simpa using hne
  by_cases h12 : 12 < s.size
  · have HR := Lib.hid (nam_size (Or.inr h12))
    clear hl hA
    go_enter Tryz.func18, Tryz.ntmps18
    go_wp2
    all_goals (go_ret; exact ⟨ret_bool HR.out.symm, hB⟩)
  have hp : 0 < s.size := by omega
  have hL := fun w => isLetter_any s[0] w
  cases hlet : isLet s[0] with
  | false =>
    have HR := Lib.hid (nam_head hp hlet)
    rw [hlet] at hL
    have HLL := Lib.hid hL
    clear hl hA hL hlet h0
    go_enter Tryz.func18, Tryz.ntmps18
    go_wp2_with (go_at_call 38; refine (HLL.out _).mono ?_; rintro e w1 ⟨rfl, rfl⟩)
    all_goals (go_ret; exact ⟨ret_bool HR.out.symm, hB⟩)
  | true =>
  rw [hlet] at hL
  have HLL := Lib.hid hL
  have HY := Lib.hid (nam_yes hp (by omega) hlet)
  have HN := Lib.hid (@nam_not s)
  have HLN := Lib.hid hl
  have HA := Lib.hid hA
  have hcv := Lib.run_convert_string_bytes (P := Tryz.prog) w 9 62 5 s (u := .string) Tryz.underlying9 Tryz.underlying62 Tryz.underlying5
  have hB0 := below_bytesWorld w 5 s
  have hU0 : ∀ j, j < s.size → (Lib.bytesWorld w 5 s).cell? ⟨w.heap.size, j, none⟩ = some (.int .u8 (s.data.toList.getD j 0).toNat) := fun j hj => Lib.bytesWorld_cell w _ s j hj
  generalize grownCap w s.size 0 5 = cap at hcv
  generalize Lib.bytesWorld w 5 s = W1 at hcv hB0 hU0
  have HU0 := Lib.hid hU0
  have HB0 := Lib.hid hB0
  clear hl hA hL hlet h0 hB hU0 hB0
  go_enter Tryz.func18, Tryz.ntmps18
  go_wp2_with (go_at_call 38; refine (HLL.out _).mono ?_; rintro e w1 ⟨rfl, rfl⟩)
  go_loop [22, 4] (NamRel2 s) (fun i _ => s.size - (intOf i).toNat)
  case atStart => exact ⟨0, rfl, by omega, rfl⟩
  case round =>
    obtain ⟨n, rfl, hn, ha⟩ := hrel
    have HA2 := Lib.hid ha
    clear ha
    by_cases hlt : n < s.size
    · have hc := HU0.out n hlt
      rw [List.getD_eq_getElem?_getD, List.getElem?_eq_getElem (by rw [HLN.out]; exact hlt)] at hc
      rw [Option.getD_some] at hc
      obtain ⟨x, hx0⟩ : ∃ x : UInt8, x = s.data.toList[n]'(by rw [HLN.out]; exact hlt) := ⟨_, rfl⟩
      rw [← hx0] at hc
      have HX := Lib.hid hx0
      clear hx0
      have hL2 := fun w => isLetter_any x w
      have hD2 := fun w => isDigit_any x w
      have h95 : (x == 95) = (((x.toNat : Nat) : Int) == 95) := by
        rw [Bool.eq_iff_iff, beq_iff_eq, beq_iff_eq, ← UInt8.toNat_inj]; simp; omega
      cases hx : isNam x with
      | true =>
        have hx' := Lib.hid hx
        unfold isNam at hx
        cases e1 : isLet x with
        | true =>
          rw [e1] at hL2
          have HL2 := Lib.hid hL2
          clear hL2 hD2 hx e1 h95
          go_wp2_with (go_at_call 38; refine (HL2.out _).mono ?_; rintro e w1 ⟨rfl, rfl⟩)
          refine ⟨⟨n + 1, by go_num, by omega, ?_⟩, by simp [intOf]; omega⟩
          exact all_take (by rw [HLN.out]; exact hlt) HA2.out (by rw [← HX.out]; exact hx'.out)
        | false =>
          rw [e1] at hL2 hx
          cases e2 : Nt.isDig x with
          | true =>
            rw [e2] at hD2
            have HL2 := Lib.hid hL2
            have HD2 := Lib.hid hD2
            clear hL2 hD2 hx e1 e2 h95
            go_wp2_with (first | (go_at_call 38; refine (HL2.out _).mono ?_; rintro e w1 ⟨rfl, rfl⟩) | (go_at_call 39; refine (HD2.out _).mono ?_; rintro e w1 ⟨rfl, rfl⟩))
            refine ⟨⟨n + 1, by go_num, by omega, ?_⟩, by simp [intOf]; omega⟩
            exact all_take (by rw [HLN.out]; exact hlt) HA2.out (by rw [← HX.out]; exact hx'.out)
          | false =>
            rw [e2] at hD2 hx
            rw [Bool.false_or, Bool.false_or, h95] at hx
            have HL2 := Lib.hid hL2
            have HD2 := Lib.hid hD2
            clear hL2 hD2 e1 e2 h95
            go_wp2_with (first | (go_at_call 38; refine (HL2.out _).mono ?_; rintro e w1 ⟨rfl, rfl⟩) | (go_at_call 39; refine (HD2.out _).mono ?_; rintro e w1 ⟨rfl, rfl⟩))
            refine ⟨⟨n + 1, by go_num, by omega, ?_⟩, by simp [intOf]; omega⟩
            exact all_take (by rw [HLN.out]; exact hlt) HA2.out (by rw [← HX.out]; exact hx'.out)
      | false =>
        have hx' := Lib.hid hx
        unfold isNam at hx
        rw [Bool.or_eq_false_iff, Bool.or_eq_false_iff, h95] at hx
        obtain ⟨⟨e1, e2⟩, e3⟩ := hx
        rw [e1] at hL2
        rw [e2] at hD2
        have HL2 := Lib.hid hL2
        have HD2 := Lib.hid hD2
        clear hL2 hD2 e1 e2 h95
        go_wp2_with (first | (go_at_call 38; refine (HL2.out _).mono ?_; rintro e w1 ⟨rfl, rfl⟩) | (go_at_call 39; refine (HD2.out _).mono ?_; rintro e w1 ⟨rfl, rfl⟩))
        go_ret
        exact ⟨ret_bool (HN.out (all_not (by rw [HLN.out]; exact hlt) (by rw [← HX.out]; exact hx'.out))).symm, HB0.out⟩
    · have hn' : n = s.size := by omega
      have hall := nam_last HA2.out hn'
      have HU := Lib.hid (fun w => Tryz.strings_ToUpper_ascii s w (by omega) (nam_asc hall))
      have hr := HY.out hall
      have q1 := upT_eq s trueL
      have q2 := upT_eq s falseL
      have q0 : (⟨(Lib.toUpperA s.data.toList).toArray⟩ : ByteArray) = upT s := rfl
      rw [q0] at HU
      unfold trueL at q1
      unfold falseL at q2
      generalize upT s = U at *
      rw [show ([84, 82, 85, 69] : List UInt8) = trueL from rfl] at q1
      rw [show ([70, 65, 76, 83, 69] : List UInt8) = falseL from rfl] at q2
      generalize (Lib.toUpperA s.data.toList == trueL) = b1 at *
      generalize (Lib.toUpperA s.data.toList == falseL) = b2 at *
      generalize lookL s.data.toList = b3 at *
      unfold trueL at q1
      unfold falseL at q2
      have hB := HB0.out
      have HR := Lib.hid hr
      clear hall hr q0
      cases b1 with
      | true =>
        go_wp2_with (go_at_call 40; with_reducible refine (chain hB (HU.out _)).mono ?_; clear hB; rintro e w1 ⟨rfl, hB⟩)
        all_goals (go_ret; exact ⟨ret_bool (by rw [HR.out]; simp), hB⟩)
      | false =>
      cases b2 with
      | true =>
        go_wp2_with (go_at_call 40; with_reducible refine (chain hB (HU.out _)).mono ?_; clear hB; rintro e w1 ⟨rfl, hB⟩)
        all_goals (go_ret; exact ⟨ret_bool (by rw [HR.out]; simp), hB⟩)
      | false =>
        go_wp2_with (first
          | (go_at_call 40; with_reducible refine (chain hB (HU.out _)).mono ?_; clear hB; rintro e w1 ⟨rfl, hB⟩)
          | (go_at_call 41; with_reducible refine (chain hB (HA.out _)).mono ?_; clear hB; rintro e w1 ⟨rfl, hB⟩))
        all_goals (go_ret; exact ⟨ret_bool (by rw [HR.out]; simp), hB⟩)
end Go.Proofs.YtlpjaflolnggnaaGreatDoor
