/-
  WHOLE NUMBERS: the document's small ones.
-/
import Derived.Test.YtjbpipbmcicjiaaGreatDoorWhole6
namespace Go.Proofs.YtjbpipbmcicjiaaGreatDoor
open Go.RowKit Go.Shelf

set_option maxRecDepth 100000 in
set_option maxHeartbeats 1000000 in
theorem refSmall4_any (neg : Bool) (m : ByteArray) (w : World) :
    Calls Tryz.prog 11 #[.agg #[.bool neg, .string m]] w fun e w' => e = .returned (smallOut neg (Nt.V m)) ∧ Below w.heap.size w w' := by
  have hB := (Below.refl w.heap.size w).alloc (Nat.le_refl _) (Obj.cells #[.bool neg, .string m] 23)
  obtain ⟨b, hb⟩ : ∃ b, b = sgn neg (Nt.V m) := ⟨_, rfl⟩
  obtain ⟨t, ht⟩ : ∃ t, t = Nt.E (Nt.V m) := ⟨_, rfl⟩
  have HW := Lib.hid (fun w => (by have h := refWell_any neg m w; unfold mkW at h; rw [← hb, ← ht] at h; exact h : Calls Tryz.prog 54 #[.agg #[.bool neg, .string m]] w fun e w' => e = .returned (.agg #[.bool b, .string t]) ∧ Below w.heap.size w w'))
  have htv : Nt.V t = Nt.V m := by rw [ht, Nt.V_E]
  have hS := fun w => refSmall_any t w
  rw [htv] at hS
  obtain ⟨n, hn⟩ : ∃ n, n = Nt.V m := ⟨_, rfl⟩
  rw [← hn] at hS hb ⊢
  by_cases h64 : n < 18446744073709551616
  · rw [show Nt.sm n = n from by rw [Nt.sm, if_pos h64], show Nt.smB n = true from by rw [Nt.smB]; simpa using h64] at hS
    have HS := Lib.hid hS
    cases hbb : b
    · rw [hbb] at HW hb
      have hr : Hid (∀ z : Int, z = (n : Int) → (z < 9223372036854775808 → smallOut neg n = .tuple #[.int .i64 (wrap64 z), .bool true]) ∧ (¬ z < 9223372036854775808 → smallOut neg n = .tuple #[.int .i64 0, .bool false])) := by
        rw [Hid]
        rintro z rfl
        constructor
        · intro h
          have e : wrap64 (n : Int) = (n : Int) := by unfold wrap64; omega
          rw [e, smallOut]
          cases neg
          · rw [if_neg (by decide), if_pos (by omega)]
          · have : n = 0 := by
              unfold sgn at hb
              simpa using hb.symm
            subst this
            rw [if_pos (by decide), if_pos (by decide)]; rfl
        · intro h
          rw [smallOut]
          cases neg
          · rw [if_neg (by decide), if_neg (by omega)]
          · have : n = 0 := by
              unfold sgn at hb
              simpa using hb.symm
            omega
      replace hr := Lib.hid (hr.out _ rfl)
      clear h64 HS hn hb ht htv hbb
      generalize (n : Int) = z at hS hr
      have HS := Lib.hid hS
      clear hS
      go_enter Tryz.func11, Tryz.ntmps11
      go_wp2_with (first
        | (go_at_call 54; refine (HW.out _).mono ?_; rintro e w1 ⟨rfl, hb1⟩; obtain ⟨hc, hf⟩ := bcell hb1; have hz1 : w.heap.size < w1.heap.size := by have := hb1.size; simp at this; omega)
        | (go_at_call 55; refine (HS.out _).mono ?_; rintro e w2 ⟨rfl, rfl⟩))
      all_goals go_ret2
      all_goals first
        | exact ⟨congrArg Ending.returned (hr.out.1 (by omega)).symm, ((hB.trans (hb1.mono (by simp))).setCell (by simp) _).setCell (by simp) _⟩
        | exact ⟨congrArg Ending.returned (hr.out.2 (by omega)).symm, ((hB.trans (hb1.mono (by simp))).setCell (by simp) _).setCell (by simp) _⟩
    · rw [hbb] at HW hb
      have hnn : neg = true ∧ n ≠ 0 := by
        unfold sgn at hb
        simpa using hb.symm
      obtain ⟨hneg, hn0⟩ := hnn
      by_cases h : n ≤ 9223372036854775808
      · have hr : Hid (smallOut neg n = .tuple #[.int .i64 (-(n : Int)), .bool true]) := by rw [Hid, smallOut, hneg, if_pos (by decide), if_pos h]
        have h2 : (n : Int) ≤ 9223372036854775808 := by omega
        obtain ⟨c, hcc⟩ : ∃ c : Int, c = IntKind.u64.wrap (-(n : Int)) := ⟨_, rfl⟩
        obtain ⟨z, hz⟩ : ∃ z : Int, z = wrap64 c := ⟨_, rfl⟩
        have q0 : Hid (z = -(n : Int)) := by rw [Hid, hz, hcc, IntKind.wrap_u64]; unfold wrap64; omega
        have q1 : IntKind.u64.wrap (-(n : Int)) = c := hcc.symm
        have q2 : wrap64 c = z := hz.symm
        have q3 : IntKind.i64.wrap c = z := by rw [hz]; exact IntWalk.i64_left _
        clear h64 h hS hn hb ht htv hbb hz hcc hneg hn0
        go_enter Tryz.func11, Tryz.ntmps11
        go_wp2_with (first
          | (go_at_call 54; refine (HW.out _).mono ?_; rintro e w1 ⟨rfl, hb1⟩; obtain ⟨hc, hf⟩ := bcell hb1; have hz1 : w.heap.size < w1.heap.size := by have := hb1.size; simp at this; omega)
          | (go_at_call 55; refine (HS.out _).mono ?_; rintro e w2 ⟨rfl, rfl⟩))
        go_ret2
        exact ⟨by rw [hr.out, ← q0.out]; rfl, ((hB.trans (hb1.mono (by simp))).setCell (by simp) _).setCell (by simp) _⟩
      · have hr : Hid (smallOut neg n = .tuple #[.int .i64 0, .bool false]) := by rw [Hid, smallOut, hneg, if_pos (by decide), if_neg h]
        have h2 : ¬ (n : Int) ≤ 9223372036854775808 := by omega
        clear h64 h hS hn hb ht htv hbb hneg hn0
        go_enter Tryz.func11, Tryz.ntmps11
        go_wp2_with (first
          | (go_at_call 54; refine (HW.out _).mono ?_; rintro e w1 ⟨rfl, hb1⟩; obtain ⟨hc, hf⟩ := bcell hb1; have hz1 : w.heap.size < w1.heap.size := by have := hb1.size; simp at this; omega)
          | (go_at_call 55; refine (HS.out _).mono ?_; rintro e w2 ⟨rfl, rfl⟩))
        go_ret2
        exact ⟨congrArg Ending.returned hr.out.symm, ((hB.trans (hb1.mono (by simp))).setCell (by simp) _).setCell (by simp) _⟩
  · rw [show Nt.sm n = 0 from by rw [Nt.sm, if_neg h64], show Nt.smB n = false from by rw [Nt.smB]; simpa using h64] at hS
    have HS := Lib.hid hS
    have hr : Hid (smallOut neg n = .tuple #[.int .i64 0, .bool false]) := by
      rw [Hid, smallOut]
      split
      · rw [if_neg (by omega)]
      · rw [if_neg (by omega)]
    clear hS hn h64 hb ht htv
    go_enter Tryz.func11, Tryz.ntmps11
    go_wp2_with (first
      | (go_at_call 54; refine (HW.out _).mono ?_; rintro e w1 ⟨rfl, hb1⟩; obtain ⟨hc, hf⟩ := bcell hb1; have hz1 : w.heap.size < w1.heap.size := by have := hb1.size; simp at this; omega)
      | (go_at_call 55; refine (HS.out _).mono ?_; rintro e w2 ⟨rfl, rfl⟩))
    go_ret2
    exact ⟨congrArg Ending.returned hr.out.symm, ((hB.trans (hb1.mono (by simp))).setCell (by simp) _).setCell (by simp) _⟩
end Go.Proofs.YtjbpipbmcicjiaaGreatDoor
