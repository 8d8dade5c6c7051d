/-
  WHOLE NUMBERS: made of a sign and an amount, of a small number; the opposite, the amount; the sign.
  WHOLE NUMBERS: the opposite, the amount, of a small number, the sign.
  WHOLE NUMBERS: the document's Of; texts of digits with a sign.
  WHOLE NUMBERS: the document's Text; texts as whole numbers.
  WHOLE NUMBERS: the document's Parse; small ones.
  WHOLE NUMBERS: small ones; a quotient rounded down.
  WHOLE NUMBERS: the document's small ones.
  WHOLE NUMBERS: a quotient rounded down.
  LAYER 4's STATEMENTS, WALKED: what every one of them asks.
-/
import Derived.Test.YtbgmnpabclfjaaaGreatDoorDec1
import Derived.Deep.RegionWith
import Derived.Deep.RegionHeld3
namespace Go.Proofs.YtbgmnpabclfjaaaGreatDoor
open Go.RowKit Go.Shelf

/-- is it below 0? -/
def sgn (neg : Bool) (n : Nat) : Bool := neg && decide (n ≠ 0)
/-- a whole number, told well. -/
abbrev mkW (neg : Bool) (n : Nat) : Value := .agg #[.bool (sgn neg n), .string (Nt.E n)]
theorem sgn_zero (neg : Bool) : sgn neg 0 = false := by unfold sgn; simp
theorem sgn_pos (neg : Bool) {n : Nat} (h : n ≠ 0) : sgn neg n = neg := by unfold sgn; simp [h]
theorem ret_agg2 {a b : Bool} {x y : ByteArray} (h : a = b) (h' : x = y) : Ending.returned (.agg #[.bool a, .string x]) = .returned (.agg #[.bool b, .string y]) := by rw [h, h']
theorem bcell {W w1 : World} (hb : Below W.heap.size W w1) : (∀ b o, b < W.heap.size → w1.cell? ⟨b, o, none⟩ = W.cell? ⟨b, o, none⟩) ∧ (∀ b o, b < W.heap.size → w1.frozen? ⟨b, o, none⟩ = W.frozen? ⟨b, o, none⟩) :=
  ⟨fun b o h => hb.cell (p := ⟨b, o, none⟩) h, fun b o h => hb.frozen (p := ⟨b, o, none⟩) h⟩

set_option maxRecDepth 100000 in
set_option maxHeartbeats 1000000 in
theorem wholeMake_any (neg : Bool) (m : ByteArray) (w : World) :
    Calls Tryz.prog 64 #[.bool neg, .string m] w fun e w' => e = .returned (mkW neg (Nt.V m)) ∧ Below w.heap.size w w' := by
  have HT := Lib.hid (fun w => natTrim_any m w)
  by_cases h0 : Nt.V m = 0
  · have hv := Lib.hid (sgn_zero neg)
    have e0 : Nt.E 0 = ⟨#[]⟩ := rfl
    rw [h0, e0] at HT
    rw [h0]
    clear h0
    cases neg
    all_goals
      go_enter Tryz.func64, Tryz.ntmps64
      go_wp2_with (go_at_call 93; refine (HT.out _).mono ?_; rintro e w1 ⟨rfl, rfl⟩)
      refine bodyPost_ret (v := .agg #[.bool false, .string ⟨#[]⟩]) (by simp [results, Tryz.results64, go_sem]) rfl ⟨ret_agg2 hv.out.symm e0.symm, ?_⟩
      exact (Below.refl _ _).alloc (Nat.le_refl _) _
  · have hv := Lib.hid (sgn_pos neg h0)
    have hne := E_toList_ne _ h0
    have hne2 : (Nt.E (Nt.V m)).toList.isEmpty = false := by simpa using hne
    obtain ⟨n, hn⟩ : ∃ n, n = Nt.V m := ⟨_, rfl⟩
    rw [← hn] at HT hv hne hne2 ⊢
    obtain ⟨t, ht⟩ : ∃ t, t = Nt.E n := ⟨_, rfl⟩
    rw [← ht] at HT hne hne2
    have HTT := Lib.hid ht
    clear h0 hn ht
    cases neg
    · go_enter Tryz.func64, Tryz.ntmps64
      go_wp2_with (go_at_call 93; refine (HT.out _).mono ?_; rintro e w1 ⟨rfl, rfl⟩)
      refine bodyPost_ret (v := .agg #[.bool false, .string t]) (by simp [results, Tryz.results64, go_sem]) rfl ⟨ret_agg2 hv.out.symm HTT.out, ?_⟩
      exact (Below.refl _ _).alloc (Nat.le_refl _) _
    · go_enter Tryz.func64, Tryz.ntmps64
      go_wp2_with (go_at_call 93; refine (HT.out _).mono ?_; rintro e w1 ⟨rfl, rfl⟩)
      refine bodyPost_ret (v := .agg #[.bool true, .string t]) (by simp [results, Tryz.results64, go_sem]) rfl ⟨ret_agg2 hv.out.symm HTT.out, ?_⟩
      exact (Below.refl _ _).alloc (Nat.le_refl _) _
set_option maxRecDepth 100000 in
set_option maxHeartbeats 1000000 in
theorem refMake_any (neg : Bool) (m : ByteArray) (w : World) :
    Calls Tryz.prog 70 #[.bool neg, .string m] w fun e w' => e = .returned (mkW neg (Nt.V m)) ∧ Below w.heap.size w w' := by
  have HT := Lib.hid (fun w => refTrim_any m w)
  by_cases h0 : Nt.V m = 0
  · have hv := Lib.hid (sgn_zero neg)
    have e0 : Nt.E 0 = ⟨#[]⟩ := rfl
    rw [h0, e0] at HT
    rw [h0]
    clear h0
    cases neg
    all_goals
      go_enter Tryz.func70, Tryz.ntmps70
      go_wp2_with (go_at_call 109; refine (HT.out _).mono ?_; rintro e w1 ⟨rfl, rfl⟩)
      refine bodyPost_ret (v := .agg #[.bool false, .string ⟨#[]⟩]) (by simp [results, Tryz.results70, go_sem]) rfl ⟨ret_agg2 hv.out.symm e0.symm, ?_⟩
      exact (Below.refl _ _).alloc (Nat.le_refl _) _
  · have hv := Lib.hid (sgn_pos neg h0)
    have hne := E_toList_ne _ h0
    have hne2 : (Nt.E (Nt.V m)).toList.isEmpty = false := by simpa using hne
    obtain ⟨n, hn⟩ : ∃ n, n = Nt.V m := ⟨_, rfl⟩
    rw [← hn] at HT hv hne hne2 ⊢
    obtain ⟨t, ht⟩ : ∃ t, t = Nt.E n := ⟨_, rfl⟩
    rw [← ht] at HT hne hne2
    have HTT := Lib.hid ht
    clear h0 hn ht
    cases neg
    · go_enter Tryz.func70, Tryz.ntmps70
      go_wp2_with (go_at_call 109; refine (HT.out _).mono ?_; rintro e w1 ⟨rfl, rfl⟩)
      refine bodyPost_ret (v := .agg #[.bool false, .string t]) (by simp [results, Tryz.results70, go_sem]) rfl ⟨ret_agg2 hv.out.symm HTT.out, ?_⟩
      exact (Below.refl _ _).alloc (Nat.le_refl _) _
    · go_enter Tryz.func70, Tryz.ntmps70
      go_wp2_with (go_at_call 109; refine (HT.out _).mono ?_; rintro e w1 ⟨rfl, rfl⟩)
      refine bodyPost_ret (v := .agg #[.bool true, .string t]) (by simp [results, Tryz.results70, go_sem]) rfl ⟨ret_agg2 hv.out.symm HTT.out, ?_⟩
      exact (Below.refl _ _).alloc (Nat.le_refl _) _
end Go.Proofs.YtbgmnpabclfjaaaGreatDoor
namespace Go.Proofs.YtbgmnpabclfjaaaGreatDoor
open Go.RowKit Go.Shelf

set_option maxRecDepth 100000 in
set_option maxHeartbeats 1000000 in
theorem wholeNeg_any (neg : Bool) (m : ByteArray) (w : World) :
    Calls Tryz.prog 48 #[.agg #[.bool neg, .string m]] w fun e w' => e = .returned (mkW (!neg) (Nt.V m)) ∧ Below w.heap.size w w' := by
  have HM := Lib.hid (fun w => wholeMake_any (!neg) m w)
  obtain ⟨b, hb⟩ : ∃ b, b = sgn (!neg) (Nt.V m) := ⟨_, rfl⟩
  obtain ⟨t, ht⟩ : ∃ t, t = Nt.E (Nt.V m) := ⟨_, rfl⟩
  have HM2 := Lib.hid (fun w => (by have h := HM.out w; unfold mkW at h; rw [← hb, ← ht] at h; exact h : Calls Tryz.prog 64 #[.bool (!neg), .string m] w fun e w' => e = .returned (.agg #[.bool b, .string t]) ∧ Below w.heap.size w w'))
  have HBB := Lib.hid hb
  have HTT := Lib.hid ht
  clear hb ht HM
  go_enter Tryz.func48, Tryz.ntmps48
  go_wp2_with (go_at_call 64; refine (HM2.out _).mono ?_; rintro e w1 ⟨rfl, hb1⟩; obtain ⟨hc, hf⟩ := bcell hb1)
  refine bodyPost_ret (v := .agg #[.bool b, .string t]) (by simp [results, Tryz.results48, go_sem, hc]) rfl ⟨ret_agg2 HBB.out HTT.out, ?_⟩
  exact (((((Below.refl w.heap.size w).alloc (Nat.le_refl _) _).alloc (by simp) _).trans (hb1.mono (by simp; omega))).setCell (by simp) _).setCell (by simp) _
set_option maxRecDepth 100000 in
set_option maxHeartbeats 1000000 in
theorem refNeg_any (neg : Bool) (m : ByteArray) (w : World) :
    Calls Tryz.prog 101 #[.agg #[.bool neg, .string m]] w fun e w' => e = .returned (mkW (!neg) (Nt.V m)) ∧ Below w.heap.size w w' := by
  have HM := Lib.hid (fun w => refMake_any (!neg) m w)
  obtain ⟨b, hb⟩ : ∃ b, b = sgn (!neg) (Nt.V m) := ⟨_, rfl⟩
  obtain ⟨t, ht⟩ : ∃ t, t = Nt.E (Nt.V m) := ⟨_, rfl⟩
  have HM2 := Lib.hid (fun w => (by have h := HM.out w; unfold mkW at h; rw [← hb, ← ht] at h; exact h : Calls Tryz.prog 70 #[.bool (!neg), .string m] w fun e w' => e = .returned (.agg #[.bool b, .string t]) ∧ Below w.heap.size w w'))
  have HBB := Lib.hid hb
  have HTT := Lib.hid ht
  clear hb ht HM
  go_enter Tryz.func101, Tryz.ntmps101
  go_wp2_with (go_at_call 70; refine (HM2.out _).mono ?_; rintro e w1 ⟨rfl, hb1⟩; obtain ⟨hc, hf⟩ := bcell hb1)
  refine bodyPost_ret (v := .agg #[.bool b, .string t]) (by simp [results, Tryz.results101, go_sem, hc]) rfl ⟨ret_agg2 HBB.out HTT.out, ?_⟩
  exact (((((Below.refl w.heap.size w).alloc (Nat.le_refl _) _).alloc (by simp) _).trans (hb1.mono (by simp; omega))).setCell (by simp) _).setCell (by simp) _
set_option maxRecDepth 100000 in
set_option maxHeartbeats 1000000 in
theorem refWell_any (neg : Bool) (m : ByteArray) (w : World) :
    Calls Tryz.prog 75 #[.agg #[.bool neg, .string m]] w fun e w' => e = .returned (mkW neg (Nt.V m)) ∧ Below w.heap.size w w' := by
  have HM := Lib.hid (fun w => refMake_any neg m w)
  obtain ⟨b, hb⟩ : ∃ b, b = sgn neg (Nt.V m) := ⟨_, rfl⟩
  obtain ⟨t, ht⟩ : ∃ t, t = Nt.E (Nt.V m) := ⟨_, rfl⟩
  have HM2 := Lib.hid (fun w => (by have h := HM.out w; unfold mkW at h; rw [← hb, ← ht] at h; exact h : Calls Tryz.prog 70 #[.bool neg, .string m] w fun e w' => e = .returned (.agg #[.bool b, .string t]) ∧ Below w.heap.size w w'))
  have HBB := Lib.hid hb
  have HTT := Lib.hid ht
  clear hb ht HM
  go_enter Tryz.func75, Tryz.ntmps75
  go_wp2_with (go_at_call 70; refine (HM2.out _).mono ?_; rintro e w1 ⟨rfl, hb1⟩; obtain ⟨hc, hf⟩ := bcell hb1)
  refine bodyPost_ret (v := .agg #[.bool b, .string t]) (by simp [results, Tryz.results75, go_sem, hc]) rfl ⟨ret_agg2 HBB.out HTT.out, ?_⟩
  exact (((((Below.refl w.heap.size w).alloc (Nat.le_refl _) _).alloc (by simp) _).trans (hb1.mono (by simp; omega))).setCell (by simp) _).setCell (by simp) _
set_option maxRecDepth 100000 in
set_option maxHeartbeats 1000000 in
theorem wholeOf_any (n : Int) (w : World) (h1 : -9223372036854775808 ≤ n) (h2 : n ≤ 9223372036854775807) :
    Calls Tryz.prog 43 #[.int .i64 n] w fun e w' => e = .returned (mkW (decide (n < 0)) n.natAbs) ∧ Below w.heap.size w w' := by
  obtain ⟨k, hk⟩ : ∃ k, k = n.natAbs := ⟨_, rfl⟩
  have HO := Lib.hid (fun w => natOf_any k w (by omega))
  obtain ⟨t, ht⟩ : ∃ t, t = Nt.E k := ⟨_, rfl⟩
  rw [← ht] at HO
  rw [← hk]
  have htv : Nt.V t = k := by rw [ht, Nt.V_E]
  have HM := Lib.hid (fun (neg : Bool) w => (by have h := wholeMake_any neg t w; rw [htv] at h; exact h : Calls Tryz.prog 64 #[.bool neg, .string t] w fun e w' => e = .returned (mkW neg k) ∧ Below w.heap.size w w'))
  obtain ⟨b, hb⟩ : ∃ b, b = sgn (decide (n < 0)) k := ⟨_, rfl⟩
  have HBB := Lib.hid hb
  have HTT := Lib.hid ht
  by_cases hn : n < 0
  · have hdn : decide (n < 0) = true := by simpa using hn
    rw [hdn] at hb HBB
    rw [hdn]
    have HM2 := Lib.hid (fun w => (by have h := HM.out true w; unfold mkW at h; rw [← hb, ← ht] at h; exact h : Calls Tryz.prog 64 #[.bool true, .string t] w fun e w' => e = .returned (.agg #[.bool b, .string t]) ∧ Below w.heap.size w w'))
    have hnk : n = -(k : Int) := by omega
    subst hnk
    have q1 : IntKind.u64.wrap (wrap64 (k : Int)) = (k : Int) := by rw [IntKind.wrap_u64]; unfold wrap64; omega
    have hk0 : 0 < k := by omega
    clear hk ht htv HM hb hdn
    go_enter Tryz.func43, Tryz.ntmps43
    go_wp2_with (first
      | (go_at_call 78; (with_reducible refine (HO.out _).mono ?_); rintro e w1 ⟨rfl, hb1⟩; obtain ⟨hc, hf⟩ := bcell hb1; have hz1 : w.heap.size < w1.heap.size := by have := hb1.size; simp at this; omega)
      | (go_at_call 64; refine (HM2.out _).mono ?_; rintro e w2 ⟨rfl, hb2⟩; obtain ⟨hc2, hf2⟩ := bcell hb2))
    refine bodyPost_ret (v := .agg #[.bool b, .string t]) (by simp [results, Tryz.results43, go_sem, hc, hc2, hz1]) rfl ⟨ret_agg2 HBB.out HTT.out, ?_⟩
    have h1 := ((Below.refl w.heap.size w).alloc (Nat.le_refl _) (Obj.cells #[.bool false, .string ⟨#[]⟩] 44)).trans (hb1.mono (by simp))
    exact ((h1.trans (hb2.mono h1.size)).setCell (by simp) _).setCell (by simp) _
  · have hdn : decide (n < 0) = false := by simpa using hn
    rw [hdn] at hb HBB
    rw [hdn]
    have HM2 := Lib.hid (fun w => (by have h := HM.out false w; unfold mkW at h; rw [← hb, ← ht] at h; exact h : Calls Tryz.prog 64 #[.bool false, .string t] w fun e w' => e = .returned (.agg #[.bool b, .string t]) ∧ Below w.heap.size w w'))
    have hnk : n = (k : Int) := by omega
    subst hnk
    have hk2 : k < 9223372036854775808 := by omega
    clear hk ht htv HM hb hdn
    go_enter Tryz.func43, Tryz.ntmps43
    go_wp2_with (first
      | (go_at_call 78; (with_reducible refine (HO.out _).mono ?_); rintro e w1 ⟨rfl, hb1⟩; obtain ⟨hc, hf⟩ := bcell hb1; have hz1 : w.heap.size < w1.heap.size := by have := hb1.size; simp at this; omega)
      | (go_at_call 64; refine (HM2.out _).mono ?_; rintro e w2 ⟨rfl, hb2⟩; obtain ⟨hc2, hf2⟩ := bcell hb2))
    refine bodyPost_ret (v := .agg #[.bool b, .string t]) (by simp [results, Tryz.results43, go_sem, hc, hc2, hz1]) rfl ⟨ret_agg2 HBB.out HTT.out, ?_⟩
    have h1 := ((Below.refl w.heap.size w).alloc (Nat.le_refl _) (Obj.cells #[.bool false, .string ⟨#[]⟩] 44)).trans (hb1.mono (by simp))
    exact ((h1.trans (hb2.mono h1.size)).setCell (by simp) _).setCell (by simp) _
end Go.Proofs.YtbgmnpabclfjaaaGreatDoor
namespace Go.Proofs.YtbgmnpabclfjaaaGreatDoor
open Go.RowKit Go.Shelf

set_option maxRecDepth 100000 in
set_option maxHeartbeats 1000000 in
theorem refOf4_any (n : Int) (w : World) (h1 : -9223372036854775808 ≤ n) (h2 : n ≤ 9223372036854775807) :
    Calls Tryz.prog 54 #[.int .i64 n] w fun e w' => e = .returned (mkW (decide (n < 0)) n.natAbs) ∧ Below w.heap.size w w' := by
  obtain ⟨k, hk⟩ : ∃ k, k = n.natAbs := ⟨_, rfl⟩
  have HO := Lib.hid (fun w => refOf_any k w (by omega))
  obtain ⟨t, ht⟩ : ∃ t, t = Nt.E k := ⟨_, rfl⟩
  rw [← ht] at HO
  rw [← hk]
  have htv : Nt.V t = k := by rw [ht, Nt.V_E]
  have HM := Lib.hid (fun (neg : Bool) w => (by have h := refMake_any neg t w; rw [htv] at h; exact h : Calls Tryz.prog 70 #[.bool neg, .string t] w fun e w' => e = .returned (mkW neg k) ∧ Below w.heap.size w w'))
  obtain ⟨b, hb⟩ : ∃ b, b = sgn (decide (n < 0)) k := ⟨_, rfl⟩
  have HBB := Lib.hid hb
  have HTT := Lib.hid ht
  by_cases hn : n < 0
  · have hdn : decide (n < 0) = true := by simpa using hn
    rw [hdn] at hb HBB
    rw [hdn]
    have HM2 := Lib.hid (fun w => (by have h := HM.out true w; unfold mkW at h; rw [← hb, ← ht] at h; exact h : Calls Tryz.prog 70 #[.bool true, .string t] w fun e w' => e = .returned (.agg #[.bool b, .string t]) ∧ Below w.heap.size w w'))
    have hnk : n = -(k : Int) := by omega
    subst hnk
    have hk0 : 0 < k := by omega
    have hk3 : k ≤ 9223372036854775808 := by omega
    obtain ⟨c, hc0⟩ : ∃ c, c = 18446744073709551616 - k := ⟨_, rfl⟩
    have q1 : IntKind.u64.wrap (-(k : Int)) = (c : Int) := by rw [IntKind.wrap_u64]; omega
    have q2 : IntKind.u64.wrap (-(c : Int)) = (k : Int) := by rw [IntKind.wrap_u64]; omega
    clear hk ht htv HM hb hdn hc0
    go_enter Tryz.func54, Tryz.ntmps54
    go_wp2_with (first
      | (go_at_call 91; (with_reducible refine (HO.out _).mono ?_); rintro e w1 ⟨rfl, hb1⟩; obtain ⟨hc, hf⟩ := bcell hb1; have hz1 : w.heap.size < w1.heap.size := by have := hb1.size; simp at this; omega)
      | (go_at_call 70; refine (HM2.out _).mono ?_; rintro e w2 ⟨rfl, hb2⟩; obtain ⟨hc2, hf2⟩ := bcell hb2))
    refine bodyPost_ret (v := .agg #[.bool b, .string t]) (by simp [results, Tryz.results54, go_sem, hc, hc2, hz1]) rfl ⟨ret_agg2 HBB.out HTT.out, ?_⟩
    have h1 := ((Below.refl w.heap.size w).alloc (Nat.le_refl _) (Obj.cells #[.bool false, .string ⟨#[]⟩] 44)).trans (hb1.mono (by simp))
    exact ((h1.trans (hb2.mono h1.size)).setCell (by simp) _).setCell (by simp) _
  · have hdn : decide (n < 0) = false := by simpa using hn
    rw [hdn] at hb HBB
    rw [hdn]
    have HM2 := Lib.hid (fun w => (by have h := HM.out false w; unfold mkW at h; rw [← hb, ← ht] at h; exact h : Calls Tryz.prog 70 #[.bool false, .string t] w fun e w' => e = .returned (.agg #[.bool b, .string t]) ∧ Below w.heap.size w w'))
    have hnk : n = (k : Int) := by omega
    subst hnk
    have hk2 : k < 9223372036854775808 := by omega
    clear hk ht htv HM hb hdn
    go_enter Tryz.func54, Tryz.ntmps54
    go_wp2_with (first
      | (go_at_call 91; (with_reducible refine (HO.out _).mono ?_); rintro e w1 ⟨rfl, hb1⟩; obtain ⟨hc, hf⟩ := bcell hb1; have hz1 : w.heap.size < w1.heap.size := by have := hb1.size; simp at this; omega)
      | (go_at_call 70; refine (HM2.out _).mono ?_; rintro e w2 ⟨rfl, hb2⟩; obtain ⟨hc2, hf2⟩ := bcell hb2))
    refine bodyPost_ret (v := .agg #[.bool b, .string t]) (by simp [results, Tryz.results54, go_sem, hc, hc2, hz1]) rfl ⟨ret_agg2 HBB.out HTT.out, ?_⟩
    have h1 := ((Below.refl w.heap.size w).alloc (Nat.le_refl _) (Obj.cells #[.bool false, .string ⟨#[]⟩] 44)).trans (hb1.mono (by simp))
    exact ((h1.trans (hb2.mono h1.size)).setCell (by simp) _).setCell (by simp) _

/-- a whole number's digits. -/
def Wd (neg : Bool) (n : Nat) : ByteArray := if sgn neg n then ⟨#[45]⟩ ++ Nt.D n else Nt.D n
def sgnZ (neg : Bool) (n : Nat) : Int := if n = 0 then 0 else if neg then -1 else 1
end Go.Proofs.YtbgmnpabclfjaaaGreatDoor
namespace Go.Proofs.YtbgmnpabclfjaaaGreatDoor
open Go.RowKit Go.Shelf

/-- has it a minus ahead? what stands behind it. -/
def minus (s : ByteArray) : Bool := match s.data.toList with | [] => false | c :: _ => c == 45
def unsigned (s : ByteArray) : ByteArray := if minus s then s.extract 1 s.size else s
def wpFine (neg : Bool) (d : ByteArray) : Value := .tuple #[mkW neg (Nt.dv d.data.toList), .int .i64 0]
def wpBad (c : Int) : Value := .tuple #[.agg #[.bool false, .string ⟨#[]⟩], .int .i64 c]
/-- what a text is as a whole number, or why it is none. -/
def wparse (s : ByteArray) : Value :=
  if (unsigned s).data.toList.all Nt.isDig = false ∨ (unsigned s).size = 0 then wpBad 3
  else if 400 < (unsigned s).size then wpBad 9 else wpFine (minus s) (unsigned s)
theorem wparse_ways (s : ByteArray) : (∃ c : Int, c ≠ 0 ∧ parseOut (unsigned s) = .tuple #[.string ⟨#[]⟩, .int .i64 c] ∧ wparse s = wpBad c) ∨
    (parseOut (unsigned s) = .tuple #[.string (Nt.E (Nt.dv (unsigned s).data.toList)), .int .i64 0] ∧ wparse s = wpFine (minus s) (unsigned s)) := by
  by_cases h1 : (unsigned s).data.toList.all Nt.isDig = false ∨ (unsigned s).size = 0
  · exact Or.inl ⟨3, by decide, parseOut_bad _ h1, by rw [wparse, if_pos h1]⟩
  · by_cases h2 : 400 < (unsigned s).size
    · exact Or.inl ⟨9, by decide, by rw [parseOut, if_neg h1, if_pos h2], by rw [wparse, if_neg h1, if_pos h2]⟩
    · exact Or.inr ⟨by rw [parseOut, if_neg h1, if_neg h2], by rw [wparse, if_neg h1, if_neg h2]⟩
theorem ba_ext : ∀ (a b : ByteArray), a.data.toList = b.data.toList → a = b := fun a b hab => by
  obtain ⟨⟨x⟩⟩ := a; obtain ⟨⟨y⟩⟩ := b; simpa using hab
theorem cut_minus (s : ByteArray) : Lib.hasPrefix s.data.toList [45] = minus s ∧ (⟨(Lib.trimPrefix s.data.toList [45]).toArray⟩ : ByteArray) = unsigned s := by
  have h1 : Lib.hasPrefix s.data.toList [45] = minus s := by
    unfold Lib.hasPrefix minus
    cases s.data.toList with
    | nil => rfl
    | cons c r =>
      simp only [List.isPrefixOf, Bool.and_true]
      exact BEq.comm
  refine ⟨h1, ba_ext _ _ ?_⟩
  unfold Lib.trimPrefix unsigned
  rw [h1]
  by_cases h : minus s = true
  · rw [if_pos h, if_pos h, Lib.extract_data]
    exact (List.take_of_length_le (by rw [List.length_drop]; simp)).symm
  · rw [if_neg h, if_neg h]
theorem minus_head (s : ByteArray) (h : 0 < s.size) : minus s = (s[0]'h == 45) := by
  obtain ⟨⟨l⟩⟩ := s
  cases l with
  | nil => exact absurd h (by decide)
  | cons c r => rfl
theorem minus_none (s : ByteArray) (h : s.size = 0) : minus s = false := by
  obtain ⟨⟨l⟩⟩ := s
  cases l with
  | nil => rfl
  | cons c r => exact absurd h (by show ¬ (c :: r).length = 0; simp)
theorem unsigned_size (s : ByteArray) : (unsigned s).size ≤ s.size := by
  unfold unsigned
  split
  · simp
  · exact Nat.le_refl _
theorem ret_pair {a b : Value} {c d : Value} (h : a = b) (h' : c = d) : Ending.returned (.tuple #[a, c]) = .returned (.tuple #[b, d]) := by rw [h, h']
end Go.Proofs.YtbgmnpabclfjaaaGreatDoor
namespace Go.Proofs.YtbgmnpabclfjaaaGreatDoor
open Go.RowKit Go.Shelf

end Go.Proofs.YtbgmnpabclfjaaaGreatDoor
namespace Go.Proofs.YtbgmnpabclfjaaaGreatDoor
open Go.RowKit Go.Shelf

/-- a whole number as a small one. -/
def smallOut (neg : Bool) (n : Nat) : Value :=
  if neg then (if n ≤ 9223372036854775808 then .tuple #[.int .i64 (-(n : Int)), .bool true] else .tuple #[.int .i64 0, .bool false])
  else if n < 9223372036854775808 then .tuple #[.int .i64 (n : Int), .bool true] else .tuple #[.int .i64 0, .bool false]
theorem wrap64_neg (n : Nat) (h : n ≤ 9223372036854775808) : wrap64 (-(wrap64 (n : Int))) = -(n : Int) := by unfold wrap64; omega
set_option maxRecDepth 100000 in
set_option maxHeartbeats 1000000 in
theorem wholeSmall_any (neg : Bool) (m : ByteArray) (w : World) :
    Calls Tryz.prog 38 #[.agg #[.bool neg, .string m]] w fun e w' => e = .returned (smallOut neg (Nt.V m)) ∧ Below w.heap.size w w' := by
  have hS := fun w => natSmall_any m w
  have hB := (Below.refl w.heap.size w).alloc (Nat.le_refl _) (Obj.cells #[.bool neg, .string m] 44)
  obtain ⟨n, hn⟩ : ∃ n, n = Nt.V m := ⟨_, rfl⟩
  rw [← hn] at hS ⊢
  by_cases h64 : n < 18446744073709551616
  · rw [show Nt.sm n = n from by rw [Nt.sm, if_pos h64], show Nt.smB n = true from by rw [Nt.smB]; simpa using h64] at hS
    have HS := Lib.hid hS
    clear hS hn
    cases neg
    · by_cases h : n < 9223372036854775808
      · have hr : Hid (smallOut false n = .tuple #[.int .i64 (n : Int), .bool true]) := by rw [Hid, smallOut, if_neg (by decide), if_pos h]
        have h2 : (n : Int) ≤ 9223372036854775807 := by omega
        clear h64 h
        go_enter Tryz.func38, Tryz.ntmps38
        go_wp2_with (go_at_call 74; refine (HS.out _).mono ?_; rintro e w1 ⟨rfl, hb1⟩; obtain ⟨hc, hf⟩ := bcell hb1)
        go_ret2
        exact ⟨congrArg Ending.returned hr.out.symm, hB.trans (hb1.mono (by simp))⟩
      · have hr : Hid (smallOut false n = .tuple #[.int .i64 0, .bool false]) := by rw [Hid, smallOut, if_neg (by decide), if_neg h]
        have h2 : ¬ (n : Int) ≤ 9223372036854775807 := by omega
        clear h64 h
        go_enter Tryz.func38, Tryz.ntmps38
        go_wp2_with (go_at_call 74; refine (HS.out _).mono ?_; rintro e w1 ⟨rfl, hb1⟩; obtain ⟨hc, hf⟩ := bcell hb1)
        go_ret2
        exact ⟨congrArg Ending.returned hr.out.symm, hB.trans (hb1.mono (by simp))⟩
    · by_cases h : n ≤ 9223372036854775808
      · have hr : Hid (smallOut true n = .tuple #[.int .i64 (-(n : Int)), .bool true]) := by rw [Hid, smallOut, if_pos (by decide), if_pos h]
        have h2 : (n : Int) ≤ 9223372036854775808 := by omega
        obtain ⟨z, hz⟩ : ∃ z : Int, z = wrap64 (n : Int) := ⟨_, rfl⟩
        have q0 : Hid (wrap64 (-z) = -(n : Int)) := by rw [Hid, hz]; exact wrap64_neg n h
        have q1 : IntKind.i64.wrap (n : Int) = z := by rw [hz]; exact IntWalk.i64_left _
        have q2 : wrap64 (n : Int) = z := hz.symm
        clear h64 h hz
        go_enter Tryz.func38, Tryz.ntmps38
        go_wp2_with (go_at_call 74; refine (HS.out _).mono ?_; rintro e w1 ⟨rfl, hb1⟩; obtain ⟨hc, hf⟩ := bcell hb1)
        go_ret2
        exact ⟨by rw [hr.out, ← q0.out]; rfl, hB.trans (hb1.mono (by simp))⟩
      · have hr : Hid (smallOut true n = .tuple #[.int .i64 0, .bool false]) := by rw [Hid, smallOut, if_pos (by decide), if_neg h]
        have h2 : ¬ (n : Int) ≤ 9223372036854775808 := by omega
        clear h64 h
        go_enter Tryz.func38, Tryz.ntmps38
        go_wp2_with (go_at_call 74; refine (HS.out _).mono ?_; rintro e w1 ⟨rfl, hb1⟩; obtain ⟨hc, hf⟩ := bcell hb1)
        go_ret2
        exact ⟨congrArg Ending.returned hr.out.symm, hB.trans (hb1.mono (by simp))⟩
  · rw [show Nt.sm n = 0 from by rw [Nt.sm, if_neg h64], show Nt.smB n = false from by rw [Nt.smB]; simpa using h64] at hS
    have HS := Lib.hid hS
    have hr : Hid (smallOut neg n = .tuple #[.int .i64 0, .bool false]) := by
      rw [Hid, smallOut]
      split
      · rw [if_neg (by omega)]
      · rw [if_neg (by omega)]
    clear hS hn h64
    go_enter Tryz.func38, Tryz.ntmps38
    go_wp2_with (go_at_call 74; refine (HS.out _).mono ?_; rintro e w1 ⟨rfl, hb1⟩; obtain ⟨hc, hf⟩ := bcell hb1)
    go_ret2
    exact ⟨congrArg Ending.returned hr.out.symm, hB.trans (hb1.mono (by simp))⟩
end Go.Proofs.YtbgmnpabclfjaaaGreatDoor
namespace Go.Proofs.YtbgmnpabclfjaaaGreatDoor
open Go.RowKit Go.Shelf

set_option maxRecDepth 100000 in
set_option maxHeartbeats 1000000 in
theorem refSmall4_any (neg : Bool) (m : ByteArray) (w : World) :
    Calls Tryz.prog 39 #[.agg #[.bool neg, .string m]] w fun e w' => e = .returned (smallOut neg (Nt.V m)) ∧ Below w.heap.size w w' := by
  have hB := (Below.refl w.heap.size w).alloc (Nat.le_refl _) (Obj.cells #[.bool neg, .string m] 44)
  obtain ⟨b, hb⟩ : ∃ b, b = sgn neg (Nt.V m) := ⟨_, rfl⟩
  obtain ⟨t, ht⟩ : ∃ t, t = Nt.E (Nt.V m) := ⟨_, rfl⟩
  have HW := Lib.hid (fun w => (by have h := refWell_any neg m w; unfold mkW at h; rw [← hb, ← ht] at h; exact h : Calls Tryz.prog 75 #[.agg #[.bool neg, .string m]] w fun e w' => e = .returned (.agg #[.bool b, .string t]) ∧ Below w.heap.size w w'))
  have htv : Nt.V t = Nt.V m := by rw [ht, Nt.V_E]
  have hS := fun w => refSmall_any t w
  rw [htv] at hS
  obtain ⟨n, hn⟩ : ∃ n, n = Nt.V m := ⟨_, rfl⟩
  rw [← hn] at hS hb ⊢
  by_cases h64 : n < 18446744073709551616
  · rw [show Nt.sm n = n from by rw [Nt.sm, if_pos h64], show Nt.smB n = true from by rw [Nt.smB]; simpa using h64] at hS
    have HS := Lib.hid hS
    cases hbb : b
    · rw [hbb] at HW hb
      have hr : Hid (∀ z : Int, z = (n : Int) → (z < 9223372036854775808 → smallOut neg n = .tuple #[.int .i64 (wrap64 z), .bool true]) ∧ (¬ z < 9223372036854775808 → smallOut neg n = .tuple #[.int .i64 0, .bool false])) := by
        rw [Hid]
        rintro z rfl
        constructor
        · intro h
          have e : wrap64 (n : Int) = (n : Int) := by unfold wrap64; omega
          rw [e, smallOut]
          cases neg
          · rw [if_neg (by decide), if_pos (by omega)]
          · have : n = 0 := by
              unfold sgn at hb
              simpa using hb.symm
            subst this
            rw [if_pos (by decide), if_pos (by decide)]; rfl
        · intro h
          rw [smallOut]
          cases neg
          · rw [if_neg (by decide), if_neg (by omega)]
          · have : n = 0 := by
              unfold sgn at hb
              simpa using hb.symm
            omega
      replace hr := Lib.hid (hr.out _ rfl)
      clear h64 HS hn hb ht htv hbb
      generalize (n : Int) = z at hS hr
      have HS := Lib.hid hS
      clear hS
      go_enter Tryz.func39, Tryz.ntmps39
      go_wp2_with (first
        | (go_at_call 75; refine (HW.out _).mono ?_; rintro e w1 ⟨rfl, hb1⟩; obtain ⟨hc, hf⟩ := bcell hb1; have hz1 : w.heap.size < w1.heap.size := by have := hb1.size; simp at this; omega)
        | (go_at_call 76; refine (HS.out _).mono ?_; rintro e w2 ⟨rfl, rfl⟩))
      all_goals go_ret2
      all_goals first
        | exact ⟨congrArg Ending.returned (hr.out.1 (by omega)).symm, ((hB.trans (hb1.mono (by simp))).setCell (by simp) _).setCell (by simp) _⟩
        | exact ⟨congrArg Ending.returned (hr.out.2 (by omega)).symm, ((hB.trans (hb1.mono (by simp))).setCell (by simp) _).setCell (by simp) _⟩
    · rw [hbb] at HW hb
      have hnn : neg = true ∧ n ≠ 0 := by
        unfold sgn at hb
        simpa using hb.symm
      obtain ⟨hneg, hn0⟩ := hnn
      by_cases h : n ≤ 9223372036854775808
      · have hr : Hid (smallOut neg n = .tuple #[.int .i64 (-(n : Int)), .bool true]) := by rw [Hid, smallOut, hneg, if_pos (by decide), if_pos h]
        have h2 : (n : Int) ≤ 9223372036854775808 := by omega
        obtain ⟨c, hcc⟩ : ∃ c : Int, c = IntKind.u64.wrap (-(n : Int)) := ⟨_, rfl⟩
        obtain ⟨z, hz⟩ : ∃ z : Int, z = wrap64 c := ⟨_, rfl⟩
        have q0 : Hid (z = -(n : Int)) := by rw [Hid, hz, hcc, IntKind.wrap_u64]; unfold wrap64; omega
        have q1 : IntKind.u64.wrap (-(n : Int)) = c := hcc.symm
        have q2 : wrap64 c = z := hz.symm
        have q3 : IntKind.i64.wrap c = z := by rw [hz]; exact IntWalk.i64_left _
        clear h64 h hS hn hb ht htv hbb hz hcc hneg hn0
        go_enter Tryz.func39, Tryz.ntmps39
        go_wp2_with (first
          | (go_at_call 75; refine (HW.out _).mono ?_; rintro e w1 ⟨rfl, hb1⟩; obtain ⟨hc, hf⟩ := bcell hb1; have hz1 : w.heap.size < w1.heap.size := by have := hb1.size; simp at this; omega)
          | (go_at_call 76; refine (HS.out _).mono ?_; rintro e w2 ⟨rfl, rfl⟩))
        go_ret2
        exact ⟨by rw [hr.out, ← q0.out]; rfl, ((hB.trans (hb1.mono (by simp))).setCell (by simp) _).setCell (by simp) _⟩
      · have hr : Hid (smallOut neg n = .tuple #[.int .i64 0, .bool false]) := by rw [Hid, smallOut, hneg, if_pos (by decide), if_neg h]
        have h2 : ¬ (n : Int) ≤ 9223372036854775808 := by omega
        clear h64 h hS hn hb ht htv hbb hneg hn0
        go_enter Tryz.func39, Tryz.ntmps39
        go_wp2_with (first
          | (go_at_call 75; refine (HW.out _).mono ?_; rintro e w1 ⟨rfl, hb1⟩; obtain ⟨hc, hf⟩ := bcell hb1; have hz1 : w.heap.size < w1.heap.size := by have := hb1.size; simp at this; omega)
          | (go_at_call 76; refine (HS.out _).mono ?_; rintro e w2 ⟨rfl, rfl⟩))
        go_ret2
        exact ⟨congrArg Ending.returned hr.out.symm, ((hB.trans (hb1.mono (by simp))).setCell (by simp) _).setCell (by simp) _⟩
  · rw [show Nt.sm n = 0 from by rw [Nt.sm, if_neg h64], show Nt.smB n = false from by rw [Nt.smB]; simpa using h64] at hS
    have HS := Lib.hid hS
    have hr : Hid (smallOut neg n = .tuple #[.int .i64 0, .bool false]) := by
      rw [Hid, smallOut]
      split
      · rw [if_neg (by omega)]
      · rw [if_neg (by omega)]
    clear hS hn h64 hb ht htv
    go_enter Tryz.func39, Tryz.ntmps39
    go_wp2_with (first
      | (go_at_call 75; refine (HW.out _).mono ?_; rintro e w1 ⟨rfl, hb1⟩; obtain ⟨hc, hf⟩ := bcell hb1; have hz1 : w.heap.size < w1.heap.size := by have := hb1.size; simp at this; omega)
      | (go_at_call 76; refine (HS.out _).mono ?_; rintro e w2 ⟨rfl, rfl⟩))
    go_ret2
    exact ⟨congrArg Ending.returned hr.out.symm, ((hB.trans (hb1.mono (by simp))).setCell (by simp) _).setCell (by simp) _⟩
end Go.Proofs.YtbgmnpabclfjaaaGreatDoor
namespace Go.Proofs.YtbgmnpabclfjaaaGreatDoor
open Go.RowKit Go.Shelf

/-- what the two amounts have become. -/
def FlRel (w1 : World) (tx ty : ByteArray) (s7 s8 : Value) (wx : World) : Prop := s7 = .string tx ∧ s8 = .string ty ∧ Below w1.heap.size w1 wx

set_option maxRecDepth 100000 in
set_option maxHeartbeats 4000000 in
/-- a quotient below 0 that does not come out even. -/
theorem wholeFloor_odd (a b : ByteArray) (w : World) (ha : a.size ≤ 1000) (hb : b.size ≤ 1000) (h0 : Nt.V b ≠ 0) (hr : Nt.V a % Nt.V b ≠ 0) :
    Calls Tryz.prog 41 #[.agg #[.bool true, .string a], .agg #[.bool false, .string b]] w fun e w' => e = .returned (.tuple #[mkW true (Nt.V a / Nt.V b + 1), mkW false (Nt.V b - Nt.V a % Nt.V b), .int .i64 0]) ∧ Below w.heap.size w w' := by
  have hdm := fun w => divMod_ok a b w (by omega) (by omega)
  rw [divOut, if_neg h0] at hdm
  have hsa := Nt.E_size_V a
  have hq := Nat.le_trans (Nt.E_size_le (Nat.div_le_self (Nt.V a) (Nt.V b))) hsa
  have hml := Nat.le_trans (Nt.E_size_le (Nat.mod_le (Nt.V a) (Nt.V b))) hsa
  have hO := fun w => natOf_any 1 w (by omega)
  have hA := fun w => natAdd_any (Nt.E (Nt.V a / Nt.V b)) (Nt.E 1) w (by omega) (by decide)
  have hS := fun w => natSub_any b (Nt.E (Nt.V a % Nt.V b)) w (by omega) (by omega)
  rw [Nt.V_E, Nt.V_E] at hA
  rw [Nt.V_E] at hS
  have hne := E_toList_ne _ hr
  have hne2 : (Nt.E (Nt.V a % Nt.V b)).toList.isEmpty = false := by simpa using hne
  obtain ⟨x, hx⟩ : ∃ x, x = Nt.V a / Nt.V b + 1 := ⟨_, rfl⟩
  obtain ⟨y, hy⟩ : ∃ y, y = Nt.V b - Nt.V a % Nt.V b := ⟨_, rfl⟩
  rw [← hx] at hA ⊢
  rw [← hy] at hS ⊢
  obtain ⟨q, hqd⟩ : ∃ q, q = Nt.E (Nt.V a / Nt.V b) := ⟨_, rfl⟩
  obtain ⟨r, hrd⟩ : ∃ r, r = Nt.E (Nt.V a % Nt.V b) := ⟨_, rfl⟩
  obtain ⟨o, hod⟩ : ∃ o, o = Nt.E 1 := ⟨_, rfl⟩
  obtain ⟨tx, htx⟩ : ∃ t, t = Nt.E x := ⟨_, rfl⟩
  obtain ⟨ty, hty⟩ : ∃ t, t = Nt.E y := ⟨_, rfl⟩
  obtain ⟨bx, hbx⟩ : ∃ c, c = sgn true x := ⟨_, rfl⟩
  obtain ⟨b2, hb2⟩ : ∃ c, c = sgn false y := ⟨_, rfl⟩
  rw [← hqd, ← hrd] at hdm
  rw [← hrd] at hne hne2 hS
  rw [← hqd, ← hod, ← htx] at hA
  rw [← hty] at hS
  rw [← hod] at hO
  have HMx := Lib.hid (fun w => (by
    have h := wholeMake_any true tx w
    rw [show Nt.V tx = x from by rw [htx, Nt.V_E]] at h
    unfold mkW at h
    rw [← hbx, ← htx] at h
    exact h : Calls Tryz.prog 64 #[.bool true, .string tx] w fun e w' => e = .returned (.agg #[.bool bx, .string tx]) ∧ Below w.heap.size w w'))
  have HMy := Lib.hid (fun w => (by
    have h := wholeMake_any false ty w
    rw [show Nt.V ty = y from by rw [hty, Nt.V_E]] at h
    unfold mkW at h
    rw [← hb2, ← hty] at h
    exact h : Calls Tryz.prog 64 #[.bool false, .string ty] w fun e w' => e = .returned (.agg #[.bool b2, .string ty]) ∧ Below w.heap.size w w'))
  have HD := Lib.hid hdm
  have HO := Lib.hid hO
  have HA := Lib.hid hA
  have HS := Lib.hid hS
  have HTX := Lib.hid htx
  have HTY := Lib.hid hty
  have HBX := Lib.hid hbx
  have HB2 := Lib.hid hb2
  have HE : Hid (Value.tuple #[mkW true x, mkW false y, .int .i64 0] = .tuple #[.agg #[.bool bx, .string tx], .agg #[.bool b2, .string ty], .int .i64 0]) := by
    rw [Hid]; unfold mkW; rw [← hbx, ← htx, ← hb2, ← hty]
  clear hdm hO hA hS htx hty hbx hb2 hqd hrd hod hx hy h0 hr hsa hq hml
  go_enter Tryz.func41, Tryz.ntmps41
  go_upto_region 6 with (first
    | (go_at_call 77; refine (HD.out _).mono ?_; rintro e w1 ⟨rfl, hb1⟩; obtain ⟨hc, hf⟩ := bcell hb1; have hz1 : w.heap.size + 1 + 1 + 1 < w1.heap.size := by have := hb1.size; simp at this; omega))
  have hza : w.heap.size < w1.heap.size := by omega
  have hzb : w.heap.size + 1 < w1.heap.size := by omega
  have hzc : w.heap.size + 1 + 1 < w1.heap.size := by omega
  go_cut [7, 8] (FlRel w1 tx ty)
  case first =>
    go_region_with (first
      | (go_at_call 78; refine (HO.out _).mono ?_; rintro e wO ⟨rfl, hbO⟩; have hTO : Below w1.heap.size w1 wO := (by first | exact (Below.refl _ _).drew.trans hbO | exact (Below.refl _ _).trans hbO | exact hTS.trans (hbO.mono hTS.size)); obtain ⟨hcO, hfO⟩ := bcell hTO)
      | (go_at_call 59; refine (HA.out _).mono ?_; rintro e wA ⟨rfl, hbA⟩; have hTA : Below w1.heap.size w1 wA := (by first | exact hTO.trans (hbA.mono hTO.size) | exact hTS.trans (hbA.mono hTS.size)); obtain ⟨hcA, hfA⟩ := bcell hTA)
      | (go_at_call 79; refine (HS.out _).mono ?_; rintro e wS ⟨rfl, hbS⟩; have hTS : Below w1.heap.size w1 wS := (by first | exact (Below.refl _ _).drew.trans hbS | exact (Below.refl _ _).trans hbS | exact hTA.trans (hbS.mono hTA.size) | exact hTO.trans (hbS.mono hTO.size)); obtain ⟨hcS, hfS⟩ := bcell hTS))
    all_goals go_wp2_with fail
    all_goals go_meet
    all_goals first
      | exact ⟨rfl, rfl, hTA⟩
      | exact ⟨rfl, rfl, hTS⟩
  case rest =>
    obtain ⟨rfl, rfl, hT⟩ := hcut
    obtain ⟨hcT, hfT⟩ := bcell hT
    have hsz := hT.size
    have HF : Hid (∀ W, Below wc.heap.size wc W → Below w.heap.size w W) := fun W hW => by
      have h0 := ((((Below.refl w.heap.size w).alloc (Nat.le_refl _) (.cells #[.bool true, .string a] 44)).alloc (by first | (simp; done) | (simp; omega) | omega) (.cells #[.bool false, .string b] 44)).alloc (by first | (simp; done) | (simp; omega) | omega) (.cells #[.bool false, .string ⟨#[]⟩] 44)).alloc (by first | (simp; done) | (simp; omega) | omega) (.cells #[.bool false, .string ⟨#[]⟩] 44)
      have h1 := h0.trans (hb1.mono (by first | (simp; done) | (simp; omega) | omega))
      have h2 := h1.trans (hT.mono h1.size)
      exact h2.trans (hW.mono h2.size)
    have hya : w.heap.size < wc.heap.size := by omega
    have hyb : w.heap.size + 1 < wc.heap.size := by omega
    have hyc : w.heap.size + 1 + 1 < wc.heap.size := by omega
    have hyd : w.heap.size + 1 + 1 + 1 < wc.heap.size := by omega
    go_wp2
    go_region_with (first
      | (go_at_call_of 64 tx; refine (HMx.out _).mono ?_; rintro e wX ⟨rfl, hbX⟩; have hTX : Below wc.heap.size wc wX := (by first | exact (Below.refl _ _).drew.trans hbX | exact (Below.refl _ _).trans hbX | exact hTY.trans (hbX.mono hTY.size)); obtain ⟨hcX, hfX⟩ := bcell hTX; have hzsX := hTX.size; have hzXa : w.heap.size + 1 + 1 < wX.heap.size := (by omega); have hzXb : w.heap.size + 1 + 1 + 1 < wX.heap.size := (by omega))
      | (go_at_call_of 64 ty; refine (HMy.out _).mono ?_; rintro e wY ⟨rfl, hbY⟩; have hTY : Below wc.heap.size wc wY := (by first | exact (Below.refl _ _).drew.trans hbY | exact (Below.refl _ _).trans hbY | exact hTX.trans (hbY.mono hTX.size)); obtain ⟨hcY, hfY⟩ := bcell hTY; have hzsY := hTY.size; have hzYa : w.heap.size + 1 + 1 < wY.heap.size := (by omega); have hzYb : w.heap.size + 1 + 1 + 1 < wY.heap.size := (by omega)))
    all_goals go_wp2
    all_goals refine bodyPost_ret (v := .tuple #[.agg #[.bool bx, .string tx], .agg #[.bool b2, .string ty], .int .i64 0]) (by simp [results, Tryz.results41, go_sem, hcY, hcT, hc, hyc, hyd, hz1, hzc]) rfl ⟨congrArg Ending.returned HE.out.symm, ?_⟩
    all_goals first
      | exact ((((HF.out _ hTY).setCell (by first | (simp; done) | (simp; omega) | omega) _).setCell (by first | (simp; done) | (simp; omega) | omega) _).setCell (by first | (simp; done) | (simp; omega) | omega) _).setCell (by first | (simp; done) | (simp; omega) | omega) _
      | exact ((((HF.out _ hTX).setCell (by first | (simp; done) | (simp; omega) | omega) _).setCell (by first | (simp; done) | (simp; omega) | omega) _).setCell (by first | (simp; done) | (simp; omega) | omega) _).setCell (by first | (simp; done) | (simp; omega) | omega) _
end Go.Proofs.YtbgmnpabclfjaaaGreatDoor
namespace Go.Proofs.YtbgmnpabclfjaaaGreatDoor
open Go.RowKit Go.Shelf

theorem mkW_of {neg b : Bool} {n : Nat} {t : ByteArray} (h1 : sgn neg n = b) (h2 : Nt.E n = t) : mkW neg n = .agg #[.bool b, .string t] := by rw [← h1, ← h2]

/-- a small number as a whole one. -/
def ofV (n : Int) : Value := mkW (decide (n < 0)) n.natAbs

end Go.Proofs.YtbgmnpabclfjaaaGreatDoor
