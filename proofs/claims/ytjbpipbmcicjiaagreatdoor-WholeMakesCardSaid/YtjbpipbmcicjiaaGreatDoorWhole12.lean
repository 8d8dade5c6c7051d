/-
  LAYER 4's STATEMENTS, WALKED: signs and amounts.
-/
import Derived.Test.YtjbpipbmcicjiaaGreatDoorWhole11
namespace Go.Proofs.YtjbpipbmcicjiaaGreatDoor
open Go.RowKit Go.Shelf

theorem smallOut_form (neg : Bool) (n : Nat) : ∃ (z : Int) (b : Bool), smallOut neg n = .tuple #[.int .i64 z, .bool b] := by
  unfold smallOut
  split <;> split <;> exact ⟨_, _, rfl⟩
theorem smallOut_back (n : Int) (h1 : -9223372036854775808 ≤ n) (h2 : n ≤ 9223372036854775807) : smallOut (sgn (decide (n < 0)) n.natAbs) (Nt.V (Nt.E n.natAbs)) = .tuple #[.int .i64 n, .bool true] := by
  rw [Nt.V_E]
  by_cases h : n < 0
  · rw [sgn_pos _ (by omega), smallOut, if_pos (by simpa using h), if_pos (by omega)]
    have e : -(n.natAbs : Int) = n := by omega
    rw [e]
  · have e : decide (n < 0) = false := by simpa using h
    have e2 : sgn false n.natAbs = false := rfl
    rw [e, e2, smallOut, if_neg (by decide), if_pos (by omega)]
    have e3 : (n.natAbs : Int) = n := by omega
    rw [e3]

set_option maxRecDepth 100000 in
set_option maxHeartbeats 8000000 in
theorem wholeMakes_any (neg : Bool) (m : ByteArray) (n : Int) (w : World) (hn1 : -9223372036854775808 ≤ n) (hn2 : n ≤ 9223372036854775807) :
    Calls Tryz.prog 3 #[.bool neg, .string m, .int .i64 n] w fun e w' => e = .returned (.bool true) ∧ Below w.heap.size w w' := by
  have HK := Lib.hid known4_any
  have h1 := fun w => wholeSmall_any neg m w
  have h2 := fun w => refSmall4_any neg m w
  obtain ⟨z, b, hf⟩ := smallOut_form neg (Nt.V m)
  rw [hf] at h1 h2
  have h3 := fun w => wholeOf_any n w hn1 hn2
  have h4 := fun w => wholeSmall_any (sgn (decide (n < 0)) n.natAbs) (Nt.E n.natAbs) w
  rw [smallOut_back n hn1 hn2] at h4
  have h5 := fun w => wholeMake_any neg m w
  have h7 := fun w => refOf4_any n w hn1 hn2
  have h8 := fun w => wholeNeg_any neg m w
  have h9 := fun w => refNeg_any neg m w
  have h10 := fun w => wholeAbs_any neg m w
  obtain ⟨RM, hRM⟩ : ∃ RM : Bool → Value, RM = fun b => mkW b (Nt.V m) := ⟨_, rfl⟩
  have h6 : ∀ (b : Bool) (w : World), Calls Tryz.prog 14 #[.bool b, .string m] w fun e w' => e = .returned (RM b) ∧ Below w.heap.size w w' := fun b w => by rw [hRM]; exact refMake_any b m w
  have e6 : RM neg = mkW neg (Nt.V m) := by rw [hRM]
  have e6b : RM false = mkW false (Nt.V m) := by rw [hRM]
  clear hRM
  unfold mkW at h3 h5 h7 h8 h9 h10 e6 e6b
  generalize sgn (decide (n < 0)) n.natAbs = b3 at *
  generalize Nt.E n.natAbs = t3 at *
  generalize sgn neg (Nt.V m) = b2 at *
  generalize sgn (!neg) (Nt.V m) = b4 at *
  generalize sgn false (Nt.V m) = b5 at *
  generalize Nt.E (Nt.V m) = t2 at *
  have H1 := Lib.hid h1
  have H2 := Lib.hid h2
  have H3 := Lib.hid h3
  have H4 := Lib.hid h4
  have H5 := Lib.hid h5
  have H6 := Lib.hid h6
  have H7 := Lib.hid h7
  have H8 := Lib.hid h8
  have H9 := Lib.hid h9
  have H10 := Lib.hid h10
  have E6 := Lib.hid e6
  have E6b := Lib.hid e6b
  have hB := (Below.refl w.heap.size w).alloc (Nat.le_refl _) (Obj.cells #[.bool neg, .string m] 23)
  clear h1 h2 h3 h4 h5 h6 h7 h8 h9 h10 e6 e6b hf hn1 hn2
  go_enter Tryz.func3, Tryz.ntmps3
  go_wp2_with fail
  refine (H1.out _).mono ?_; rintro e w1 ⟨rfl, hb1⟩; obtain ⟨hc1, hf1⟩ := bcell hb1; have hz1 : w.heap.size < w1.heap.size := (by have := hb1.size; simp at this; omega)
  go_wp2_with fail
  refine (H2.out _).mono ?_; rintro e w2 ⟨rfl, hb2⟩; obtain ⟨hc2, hf2⟩ := bcell hb2; have hz2 : w.heap.size < w2.heap.size := (by have := hb2.size; omega)
  go_wp2_with fail
  refine (H3.out _).mono ?_; rintro e w3 ⟨rfl, hb3⟩; obtain ⟨hc3, hf3⟩ := bcell hb3; have hz3 : w.heap.size < w3.heap.size := (by have := hb3.size; omega)
  go_wp2_with fail
  refine (H4.out _).mono ?_; rintro e w4 ⟨rfl, hb4⟩; obtain ⟨hc4, hf4⟩ := bcell hb4; have hz4 : w.heap.size < w4.heap.size := (by have := hb4.size; omega)
  go_wp2_with fail
  have hk0 : w4.cell? ⟨w.heap.size, 0, none⟩ = some (.bool neg) := by simp [go_sem, hc4, hc3, hc2, hc1, hz3, hz2, hz1]
  have hk1 : w4.cell? ⟨w.heap.size, 1, none⟩ = some (.string m) := by simp [go_sem, hc4, hc3, hc2, hc1, hz3, hz2, hz1]
  have hA : Below w.heap.size w w4 := (((hB.trans (hb1.mono hB.size)).trans (hb2.mono (by omega))).trans (hb3.mono (by omega))).trans (hb4.mono (by omega))
  clear hc1 hc2 hc3 hc4 hf1 hf2 hf3 hf4 hb1 hb2 hb3 hb4 hB hz1 hz2 hz3
  have HF : Hid (∀ W, Below w4.heap.size w4 W → Below w.heap.size w W) := fun W hW => hA.trans (hW.mono hA.size)
  clear hA
  go_region_held3 (fun w' => w'.cell? ⟨w.heap.size, 0, none⟩ = some (.bool neg) ∧ w'.cell? ⟨w.heap.size, 1, none⟩ = some (.string m))
    (go_keep) (first
    | (go_at_call 13; refine (H5.out _).mono ?_; rintro e wx ⟨rfl, hbx⟩; have hTx : Below w4.heap.size w4 wx := (by first | exact (Below.refl _ _).drew.trans hbx | exact (Below.refl _ _).trans hbx | (rename_i hTp; exact hTp.trans (hbx.mono hTp.size)) | exact Below.trans (by assumption) (hbx.mono (Below.size (by assumption)))); obtain ⟨hcx, hfx⟩ := bcell hTx)
    | (go_at_call 14; refine (H6.out _ _).mono ?_; rintro e wx ⟨he, hbx⟩; (first | rw [E6.out] at he | rw [E6b.out] at he); subst he; have hTx : Below w4.heap.size w4 wx := (by first | exact (Below.refl _ _).drew.trans hbx | exact (Below.refl _ _).trans hbx | (rename_i hTp; exact hTp.trans (hbx.mono hTp.size)) | exact Below.trans (by assumption) (hbx.mono (Below.size (by assumption)))); obtain ⟨hcx, hfx⟩ := bcell hTx)
    | (go_at_call 12; refine (H3.out _).mono ?_; rintro e wx ⟨rfl, hbx⟩; have hTx : Below w4.heap.size w4 wx := (by exact Below.trans (by assumption) (hbx.mono (Below.size (by assumption)))); obtain ⟨hcx, hfx⟩ := bcell hTx)
    | (go_at_call 15; refine (H7.out _).mono ?_; rintro e wx ⟨rfl, hbx⟩; have hTx : Below w4.heap.size w4 wx := (by exact Below.trans (by assumption) (hbx.mono (Below.size (by assumption)))); obtain ⟨hcx, hfx⟩ := bcell hTx)
    | (go_at_call 16; refine (H8.out _).mono ?_; rintro e wx ⟨rfl, hbx⟩; have hTx : Below w4.heap.size w4 wx := (by exact Below.trans (by assumption) (hbx.mono (Below.size (by assumption)))); obtain ⟨hcx, hfx⟩ := bcell hTx)
    | (go_at_call 17; refine (H9.out _).mono ?_; rintro e wx ⟨rfl, hbx⟩; have hTx : Below w4.heap.size w4 wx := (by exact Below.trans (by assumption) (hbx.mono (Below.size (by assumption)))); obtain ⟨hcx, hfx⟩ := bcell hTx)
    | (go_at_call 18; refine (H10.out _).mono ?_; rintro e wx ⟨rfl, hbx⟩; have hTx : Below w4.heap.size w4 wx := (by exact Below.trans (by assumption) (hbx.mono (Below.size (by assumption)))); obtain ⟨hcx, hfx⟩ := bcell hTx)
    | (go_at_call 19; refine (HK.out _).mono ?_; rintro e wx ⟨rfl, hbx⟩; have hTx : Below w4.heap.size w4 wx := (by exact Below.trans (by assumption) (hbx.mono (Below.size (by assumption)))); obtain ⟨hcx, hfx⟩ := bcell hTx))
  all_goals go_wp2
  all_goals go_ret
  all_goals exact ⟨rfl, HF.out _ (by assumption)⟩
end Go.Proofs.YtjbpipbmcicjiaaGreatDoor
