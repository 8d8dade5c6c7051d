/-
  WHOLE NUMBERS: small ones; a quotient rounded down.
-/
import Derived.Test.YtjbpipbmcicjiaaGreatDoorWhole5
namespace Go.Proofs.YtjbpipbmcicjiaaGreatDoor
open Go.RowKit Go.Shelf

/-- a whole number as a small one. -/
def smallOut (neg : Bool) (n : Nat) : Value :=
  if neg then (if n ≤ 9223372036854775808 then .tuple #[.int .i64 (-(n : Int)), .bool true] else .tuple #[.int .i64 0, .bool false])
  else if n < 9223372036854775808 then .tuple #[.int .i64 (n : Int), .bool true] else .tuple #[.int .i64 0, .bool false]
theorem wrap64_neg (n : Nat) (h : n ≤ 9223372036854775808) : wrap64 (-(wrap64 (n : Int))) = -(n : Int) := by unfold wrap64; omega
set_option maxRecDepth 100000 in
set_option maxHeartbeats 1000000 in
theorem wholeSmall_any (neg : Bool) (m : ByteArray) (w : World) :
    Calls Tryz.prog 10 #[.agg #[.bool neg, .string m]] w fun e w' => e = .returned (smallOut neg (Nt.V m)) ∧ Below w.heap.size w w' := by
  have hS := fun w => natSmall_any m w
  have hB := (Below.refl w.heap.size w).alloc (Nat.le_refl _) (Obj.cells #[.bool neg, .string m] 23)
  obtain ⟨n, hn⟩ : ∃ n, n = Nt.V m := ⟨_, rfl⟩
  rw [← hn] at hS ⊢
  by_cases h64 : n < 18446744073709551616
  · rw [show Nt.sm n = n from by rw [Nt.sm, if_pos h64], show Nt.smB n = true from by rw [Nt.smB]; simpa using h64] at hS
    have HS := Lib.hid hS
    clear hS hn
    cases neg
    · by_cases h : n < 9223372036854775808
      · have hr : Hid (smallOut false n = .tuple #[.int .i64 (n : Int), .bool true]) := by rw [Hid, smallOut, if_neg (by decide), if_pos h]
        have h2 : (n : Int) ≤ 9223372036854775807 := by omega
        clear h64 h
        go_enter Tryz.func10, Tryz.ntmps10
        go_wp2_with (go_at_call 53; refine (HS.out _).mono ?_; rintro e w1 ⟨rfl, hb1⟩; obtain ⟨hc, hf⟩ := bcell hb1)
        go_ret2
        exact ⟨congrArg Ending.returned hr.out.symm, hB.trans (hb1.mono (by simp))⟩
      · have hr : Hid (smallOut false n = .tuple #[.int .i64 0, .bool false]) := by rw [Hid, smallOut, if_neg (by decide), if_neg h]
        have h2 : ¬ (n : Int) ≤ 9223372036854775807 := by omega
        clear h64 h
        go_enter Tryz.func10, Tryz.ntmps10
        go_wp2_with (go_at_call 53; refine (HS.out _).mono ?_; rintro e w1 ⟨rfl, hb1⟩; obtain ⟨hc, hf⟩ := bcell hb1)
        go_ret2
        exact ⟨congrArg Ending.returned hr.out.symm, hB.trans (hb1.mono (by simp))⟩
    · by_cases h : n ≤ 9223372036854775808
      · have hr : Hid (smallOut true n = .tuple #[.int .i64 (-(n : Int)), .bool true]) := by rw [Hid, smallOut, if_pos (by decide), if_pos h]
        have h2 : (n : Int) ≤ 9223372036854775808 := by omega
        obtain ⟨z, hz⟩ : ∃ z : Int, z = wrap64 (n : Int) := ⟨_, rfl⟩
        have q0 : Hid (wrap64 (-z) = -(n : Int)) := by rw [Hid, hz]; exact wrap64_neg n h
        have q1 : IntKind.i64.wrap (n : Int) = z := by rw [hz]; exact IntWalk.i64_left _
        have q2 : wrap64 (n : Int) = z := hz.symm
        clear h64 h hz
        go_enter Tryz.func10, Tryz.ntmps10
        go_wp2_with (go_at_call 53; refine (HS.out _).mono ?_; rintro e w1 ⟨rfl, hb1⟩; obtain ⟨hc, hf⟩ := bcell hb1)
        go_ret2
        exact ⟨by rw [hr.out, ← q0.out]; rfl, hB.trans (hb1.mono (by simp))⟩
      · have hr : Hid (smallOut true n = .tuple #[.int .i64 0, .bool false]) := by rw [Hid, smallOut, if_pos (by decide), if_neg h]
        have h2 : ¬ (n : Int) ≤ 9223372036854775808 := by omega
        clear h64 h
        go_enter Tryz.func10, Tryz.ntmps10
        go_wp2_with (go_at_call 53; refine (HS.out _).mono ?_; rintro e w1 ⟨rfl, hb1⟩; obtain ⟨hc, hf⟩ := bcell hb1)
        go_ret2
        exact ⟨congrArg Ending.returned hr.out.symm, hB.trans (hb1.mono (by simp))⟩
  · rw [show Nt.sm n = 0 from by rw [Nt.sm, if_neg h64], show Nt.smB n = false from by rw [Nt.smB]; simpa using h64] at hS
    have HS := Lib.hid hS
    have hr : Hid (smallOut neg n = .tuple #[.int .i64 0, .bool false]) := by
      rw [Hid, smallOut]
      split
      · rw [if_neg (by omega)]
      · rw [if_neg (by omega)]
    clear hS hn h64
    go_enter Tryz.func10, Tryz.ntmps10
    go_wp2_with (go_at_call 53; refine (HS.out _).mono ?_; rintro e w1 ⟨rfl, hb1⟩; obtain ⟨hc, hf⟩ := bcell hb1)
    go_ret2
    exact ⟨congrArg Ending.returned hr.out.symm, hB.trans (hb1.mono (by simp))⟩
end Go.Proofs.YtjbpipbmcicjiaaGreatDoor
