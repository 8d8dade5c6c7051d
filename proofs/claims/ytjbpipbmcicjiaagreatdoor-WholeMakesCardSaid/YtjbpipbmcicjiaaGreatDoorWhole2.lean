/-
  WHOLE NUMBERS: the opposite, the amount, of a small number, the sign.
-/
import Derived.Test.YtjbpipbmcicjiaaGreatDoorWhole1
namespace Go.Proofs.YtjbpipbmcicjiaaGreatDoor
open Go.RowKit Go.Shelf

set_option maxRecDepth 100000 in
set_option maxHeartbeats 1000000 in
theorem wholeNeg_any (neg : Bool) (m : ByteArray) (w : World) :
    Calls Tryz.prog 16 #[.agg #[.bool neg, .string m]] w fun e w' => e = .returned (mkW (!neg) (Nt.V m)) ∧ Below w.heap.size w w' := by
  have HM := Lib.hid (fun w => wholeMake_any (!neg) m w)
  obtain ⟨b, hb⟩ : ∃ b, b = sgn (!neg) (Nt.V m) := ⟨_, rfl⟩
  obtain ⟨t, ht⟩ : ∃ t, t = Nt.E (Nt.V m) := ⟨_, rfl⟩
  have HM2 := Lib.hid (fun w => (by have h := HM.out w; unfold mkW at h; rw [← hb, ← ht] at h; exact h : Calls Tryz.prog 13 #[.bool (!neg), .string m] w fun e w' => e = .returned (.agg #[.bool b, .string t]) ∧ Below w.heap.size w w'))
  have HBB := Lib.hid hb
  have HTT := Lib.hid ht
  clear hb ht HM
  go_enter Tryz.func16, Tryz.ntmps16
  go_wp2_with (go_at_call 13; refine (HM2.out _).mono ?_; rintro e w1 ⟨rfl, hb1⟩; obtain ⟨hc, hf⟩ := bcell hb1)
  refine bodyPost_ret (v := .agg #[.bool b, .string t]) (by simp [results, Tryz.results16, go_sem, hc]) rfl ⟨ret_agg2 HBB.out HTT.out, ?_⟩
  exact (((((Below.refl w.heap.size w).alloc (Nat.le_refl _) _).alloc (by simp) _).trans (hb1.mono (by simp; omega))).setCell (by simp) _).setCell (by simp) _
set_option maxRecDepth 100000 in
set_option maxHeartbeats 1000000 in
theorem wholeAbs_any (neg : Bool) (m : ByteArray) (w : World) :
    Calls Tryz.prog 18 #[.agg #[.bool neg, .string m]] w fun e w' => e = .returned (mkW false (Nt.V m)) ∧ Below w.heap.size w w' := by
  have HM := Lib.hid (fun w => wholeMake_any false m w)
  obtain ⟨b, hb⟩ : ∃ b, b = sgn false (Nt.V m) := ⟨_, rfl⟩
  obtain ⟨t, ht⟩ : ∃ t, t = Nt.E (Nt.V m) := ⟨_, rfl⟩
  have HM2 := Lib.hid (fun w => (by have h := HM.out w; unfold mkW at h; rw [← hb, ← ht] at h; exact h : Calls Tryz.prog 13 #[.bool false, .string m] w fun e w' => e = .returned (.agg #[.bool b, .string t]) ∧ Below w.heap.size w w'))
  have HBB := Lib.hid hb
  have HTT := Lib.hid ht
  clear hb ht HM
  go_enter Tryz.func18, Tryz.ntmps18
  go_wp2_with (go_at_call 13; refine (HM2.out _).mono ?_; rintro e w1 ⟨rfl, hb1⟩; obtain ⟨hc, hf⟩ := bcell hb1)
  refine bodyPost_ret (v := .agg #[.bool b, .string t]) (by simp [results, Tryz.results18, go_sem, hc]) rfl ⟨ret_agg2 HBB.out HTT.out, ?_⟩
  exact (((((Below.refl w.heap.size w).alloc (Nat.le_refl _) _).alloc (by simp) _).trans (hb1.mono (by simp; omega))).setCell (by simp) _).setCell (by simp) _
set_option maxRecDepth 100000 in
set_option maxHeartbeats 1000000 in
theorem refNeg_any (neg : Bool) (m : ByteArray) (w : World) :
    Calls Tryz.prog 17 #[.agg #[.bool neg, .string m]] w fun e w' => e = .returned (mkW (!neg) (Nt.V m)) ∧ Below w.heap.size w w' := by
  have HM := Lib.hid (fun w => refMake_any (!neg) m w)
  obtain ⟨b, hb⟩ : ∃ b, b = sgn (!neg) (Nt.V m) := ⟨_, rfl⟩
  obtain ⟨t, ht⟩ : ∃ t, t = Nt.E (Nt.V m) := ⟨_, rfl⟩
  have HM2 := Lib.hid (fun w => (by have h := HM.out w; unfold mkW at h; rw [← hb, ← ht] at h; exact h : Calls Tryz.prog 14 #[.bool (!neg), .string m] w fun e w' => e = .returned (.agg #[.bool b, .string t]) ∧ Below w.heap.size w w'))
  have HBB := Lib.hid hb
  have HTT := Lib.hid ht
  clear hb ht HM
  go_enter Tryz.func17, Tryz.ntmps17
  go_wp2_with (go_at_call 14; refine (HM2.out _).mono ?_; rintro e w1 ⟨rfl, hb1⟩; obtain ⟨hc, hf⟩ := bcell hb1)
  refine bodyPost_ret (v := .agg #[.bool b, .string t]) (by simp [results, Tryz.results17, go_sem, hc]) rfl ⟨ret_agg2 HBB.out HTT.out, ?_⟩
  exact (((((Below.refl w.heap.size w).alloc (Nat.le_refl _) _).alloc (by simp) _).trans (hb1.mono (by simp; omega))).setCell (by simp) _).setCell (by simp) _
set_option maxRecDepth 100000 in
set_option maxHeartbeats 1000000 in
theorem refWell_any (neg : Bool) (m : ByteArray) (w : World) :
    Calls Tryz.prog 54 #[.agg #[.bool neg, .string m]] w fun e w' => e = .returned (mkW neg (Nt.V m)) ∧ Below w.heap.size w w' := by
  have HM := Lib.hid (fun w => refMake_any neg m w)
  obtain ⟨b, hb⟩ : ∃ b, b = sgn neg (Nt.V m) := ⟨_, rfl⟩
  obtain ⟨t, ht⟩ : ∃ t, t = Nt.E (Nt.V m) := ⟨_, rfl⟩
  have HM2 := Lib.hid (fun w => (by have h := HM.out w; unfold mkW at h; rw [← hb, ← ht] at h; exact h : Calls Tryz.prog 14 #[.bool neg, .string m] w fun e w' => e = .returned (.agg #[.bool b, .string t]) ∧ Below w.heap.size w w'))
  have HBB := Lib.hid hb
  have HTT := Lib.hid ht
  clear hb ht HM
  go_enter Tryz.func54, Tryz.ntmps54
  go_wp2_with (go_at_call 14; refine (HM2.out _).mono ?_; rintro e w1 ⟨rfl, hb1⟩; obtain ⟨hc, hf⟩ := bcell hb1)
  refine bodyPost_ret (v := .agg #[.bool b, .string t]) (by simp [results, Tryz.results54, go_sem, hc]) rfl ⟨ret_agg2 HBB.out HTT.out, ?_⟩
  exact (((((Below.refl w.heap.size w).alloc (Nat.le_refl _) _).alloc (by simp) _).trans (hb1.mono (by simp; omega))).setCell (by simp) _).setCell (by simp) _
set_option maxRecDepth 100000 in
set_option maxHeartbeats 1000000 in
theorem wholeOf_any (n : Int) (w : World) (h1 : -9223372036854775808 ≤ n) (h2 : n ≤ 9223372036854775807) :
    Calls Tryz.prog 12 #[.int .i64 n] w fun e w' => e = .returned (mkW (decide (n < 0)) n.natAbs) ∧ Below w.heap.size w w' := by
  obtain ⟨k, hk⟩ : ∃ k, k = n.natAbs := ⟨_, rfl⟩
  have HO := Lib.hid (fun w => natOf_any k w (by omega))
  obtain ⟨t, ht⟩ : ∃ t, t = Nt.E k := ⟨_, rfl⟩
  rw [← ht] at HO
  rw [← hk]
  have htv : Nt.V t = k := by rw [ht, Nt.V_E]
  have HM := Lib.hid (fun (neg : Bool) w => (by have h := wholeMake_any neg t w; rw [htv] at h; exact h : Calls Tryz.prog 13 #[.bool neg, .string t] w fun e w' => e = .returned (mkW neg k) ∧ Below w.heap.size w w'))
  obtain ⟨b, hb⟩ : ∃ b, b = sgn (decide (n < 0)) k := ⟨_, rfl⟩
  have HBB := Lib.hid hb
  have HTT := Lib.hid ht
  by_cases hn : n < 0
  · have hdn : decide (n < 0) = true := by simpa using hn
    rw [hdn] at hb HBB
    rw [hdn]
    have HM2 := Lib.hid (fun w => (by have h := HM.out true w; unfold mkW at h; rw [← hb, ← ht] at h; exact h : Calls Tryz.prog 13 #[.bool true, .string t] w fun e w' => e = .returned (.agg #[.bool b, .string t]) ∧ Below w.heap.size w w'))
    have hnk : n = -(k : Int) := by omega
    subst hnk
    have q1 : IntKind.u64.wrap (wrap64 (k : Int)) = (k : Int) := by rw [IntKind.wrap_u64]; unfold wrap64; omega
    have hk0 : 0 < k := by omega
    clear hk ht htv HM hb hdn
    go_enter Tryz.func12, Tryz.ntmps12
    go_wp2_with (first
      | (go_at_call 56; (with_reducible refine (HO.out _).mono ?_); rintro e w1 ⟨rfl, hb1⟩; obtain ⟨hc, hf⟩ := bcell hb1; have hz1 : w.heap.size < w1.heap.size := by have := hb1.size; simp at this; omega)
      | (go_at_call 13; refine (HM2.out _).mono ?_; rintro e w2 ⟨rfl, hb2⟩; obtain ⟨hc2, hf2⟩ := bcell hb2))
    refine bodyPost_ret (v := .agg #[.bool b, .string t]) (by simp [results, Tryz.results12, go_sem, hc, hc2, hz1]) rfl ⟨ret_agg2 HBB.out HTT.out, ?_⟩
    have h1 := ((Below.refl w.heap.size w).alloc (Nat.le_refl _) (Obj.cells #[.bool false, .string ⟨#[]⟩] 23)).trans (hb1.mono (by simp))
    exact ((h1.trans (hb2.mono h1.size)).setCell (by simp) _).setCell (by simp) _
  · have hdn : decide (n < 0) = false := by simpa using hn
    rw [hdn] at hb HBB
    rw [hdn]
    have HM2 := Lib.hid (fun w => (by have h := HM.out false w; unfold mkW at h; rw [← hb, ← ht] at h; exact h : Calls Tryz.prog 13 #[.bool false, .string t] w fun e w' => e = .returned (.agg #[.bool b, .string t]) ∧ Below w.heap.size w w'))
    have hnk : n = (k : Int) := by omega
    subst hnk
    have hk2 : k < 9223372036854775808 := by omega
    clear hk ht htv HM hb hdn
    go_enter Tryz.func12, Tryz.ntmps12
    go_wp2_with (first
      | (go_at_call 56; (with_reducible refine (HO.out _).mono ?_); rintro e w1 ⟨rfl, hb1⟩; obtain ⟨hc, hf⟩ := bcell hb1; have hz1 : w.heap.size < w1.heap.size := by have := hb1.size; simp at this; omega)
      | (go_at_call 13; refine (HM2.out _).mono ?_; rintro e w2 ⟨rfl, hb2⟩; obtain ⟨hc2, hf2⟩ := bcell hb2))
    refine bodyPost_ret (v := .agg #[.bool b, .string t]) (by simp [results, Tryz.results12, go_sem, hc, hc2, hz1]) rfl ⟨ret_agg2 HBB.out HTT.out, ?_⟩
    have h1 := ((Below.refl w.heap.size w).alloc (Nat.le_refl _) (Obj.cells #[.bool false, .string ⟨#[]⟩] 23)).trans (hb1.mono (by simp))
    exact ((h1.trans (hb2.mono h1.size)).setCell (by simp) _).setCell (by simp) _
end Go.Proofs.YtjbpipbmcicjiaaGreatDoor
