/-
  WHOLE NUMBERS: made of a sign and an amount, of a small number; the opposite, the amount; the sign.
  WHOLE NUMBERS: the opposite, the amount, of a small number, the sign.
  WHOLE NUMBERS: the document's Of; texts of digits with a sign.
  WHOLE NUMBERS: the document's Text; texts as whole numbers.
  WHOLE NUMBERS: the document's Parse; small ones.
  WHOLE NUMBERS: small ones; a quotient rounded down.
  WHOLE NUMBERS: the document's small ones.
  WHOLE NUMBERS: a quotient rounded down.
  LAYER 4's STATEMENTS, WALKED: what every one of them asks.
-/
import Derived.Test.YtbgmnpabclfjaaaGreatDoorDec1
import Derived.Deep.RegionWith
import Derived.Deep.RegionHeld3
namespace Go.Proofs.YtbgmnpabclfjaaaGreatDoor
open Go.RowKit Go.Shelf

/-- is it below 0? -/
def sgn (neg : Bool) (n : Nat) : Bool := neg && decide (n ≠ 0)
/-- a whole number, told well. -/
abbrev mkW (neg : Bool) (n : Nat) : Value := .agg #[.bool (sgn neg n), .string (Nt.E n)]
theorem sgn_zero (neg : Bool) : sgn neg 0 = false := by unfold sgn; simp
theorem sgn_pos (neg : Bool) {n : Nat} (h : n ≠ 0) : sgn neg n = neg := by unfold sgn; simp [h]
theorem ret_agg2 {a b : Bool} {x y : ByteArray} (h : a = b) (h' : x = y) : Ending.returned (.agg #[.bool a, .string x]) = .returned (.agg #[.bool b, .string y]) := by rw [h, h']
theorem bcell {W w1 : World} (hb : Below W.heap.size W w1) : (∀ b o, b < W.heap.size → w1.cell? ⟨b, o, none⟩ = W.cell? ⟨b, o, none⟩) ∧ (∀ b o, b < W.heap.size → w1.frozen? ⟨b, o, none⟩ = W.frozen? ⟨b, o, none⟩) :=
  ⟨fun b o h => hb.cell (p := ⟨b, o, none⟩) h, fun b o h => hb.frozen (p := ⟨b, o, none⟩) h⟩

set_option maxRecDepth 100000 in
set_option maxHeartbeats 1000000 in
theorem wholeMake_any (neg : Bool) (m : ByteArray) (w : World) :
    Calls Tryz.prog 64 #[.bool neg, .string m] w fun e w' => e = .returned (mkW neg (Nt.V m)) ∧ Below w.heap.size w w' := by
  have HT := Lib.hid (fun w => natTrim_any m w)
  by_cases h0 : Nt.V m = 0
  · have hv := Lib.hid (sgn_zero neg)
    have e0 : Nt.E 0 = ⟨#[]⟩ := rfl
    rw [h0, e0] at HT
    rw [h0]
    clear h0
    cases neg
    all_goals
      go_enter Tryz.func64, Tryz.ntmps64
      go_wp2_with (go_at_call 93; refine (HT.out _).mono ?_; rintro e w1 ⟨rfl, rfl⟩)
      refine bodyPost_ret (v := .agg #[.bool false, .string ⟨#[]⟩]) (by simp [results, Tryz.results64, go_sem]) rfl ⟨ret_agg2 hv.out.symm e0.symm, ?_⟩
      exact (Below.refl _ _).alloc (Nat.le_refl _) _
  · have hv := Lib.hid (sgn_pos neg h0)
    have hne := E_toList_ne _ h0
    have hne2 : (Nt.E (Nt.V m)).toList.isEmpty = false := by simpa using hne
    obtain ⟨n, hn⟩ : ∃ n, n = Nt.V m := ⟨_, rfl⟩
    rw [← hn] at HT hv hne hne2 ⊢
    obtain ⟨t, ht⟩ : ∃ t, t = Nt.E n := ⟨_, rfl⟩
    rw [← ht] at HT hne hne2
    have HTT := Lib.hid ht
    clear h0 hn ht
    cases neg
    · go_enter Tryz.func64, Tryz.ntmps64
      go_wp2_with (go_at_call 93; refine (HT.out _).mono ?_; rintro e w1 ⟨rfl, rfl⟩)
      refine bodyPost_ret (v := .agg #[.bool false, .string t]) (by simp [results, Tryz.results64, go_sem]) rfl ⟨ret_agg2 hv.out.symm HTT.out, ?_⟩
      exact (Below.refl _ _).alloc (Nat.le_refl _) _
    · go_enter Tryz.func64, Tryz.ntmps64
      go_wp2_with (go_at_call 93; refine (HT.out _).mono ?_; rintro e w1 ⟨rfl, rfl⟩)
      refine bodyPost_ret (v := .agg #[.bool true, .string t]) (by simp [results, Tryz.results64, go_sem]) rfl ⟨ret_agg2 hv.out.symm HTT.out, ?_⟩
      exact (Below.refl _ _).alloc (Nat.le_refl _) _
set_option maxRecDepth 100000 in
set_option maxHeartbeats 1000000 in
theorem refMake_any (neg : Bool) (m : ByteArray) (w : World) :
    Calls Tryz.prog 70 #[.bool neg, .string m] w fun e w' => e = .returned (mkW neg (Nt.V m)) ∧ Below w.heap.size w w' := by
  have HT := Lib.hid (fun w => refTrim_any m w)
  by_cases h0 : Nt.V m = 0
  · have hv := Lib.hid (sgn_zero neg)
    have e0 : Nt.E 0 = ⟨#[]⟩ := rfl
    rw [h0, e0] at HT
    rw [h0]
    clear h0
    cases neg
    all_goals
      go_enter Tryz.func70, Tryz.ntmps70
      go_wp2_with (go_at_call 109; refine (HT.out _).mono ?_; rintro e w1 ⟨rfl, rfl⟩)
      refine bodyPost_ret (v := .agg #[.bool false, .string ⟨#[]⟩]) (by simp [results, Tryz.results70, go_sem]) rfl ⟨ret_agg2 hv.out.symm e0.symm, ?_⟩
      exact (Below.refl _ _).alloc (Nat.le_refl _) _
  · have hv := Lib.hid (sgn_pos neg h0)
    have hne := E_toList_ne _ h0
    have hne2 : (Nt.E (Nt.V m)).toList.isEmpty = false := by simpa using hne
    obtain ⟨n, hn⟩ : ∃ n, n = Nt.V m := ⟨_, rfl⟩
    rw [← hn] at HT hv hne hne2 ⊢
    obtain ⟨t, ht⟩ : ∃ t, t = Nt.E n := ⟨_, rfl⟩
    rw [← ht] at HT hne hne2
    have HTT := Lib.hid ht
    clear h0 hn ht
    cases neg
    · go_enter Tryz.func70, Tryz.ntmps70
      go_wp2_with (go_at_call 109; refine (HT.out _).mono ?_; rintro e w1 ⟨rfl, rfl⟩)
      refine bodyPost_ret (v := .agg #[.bool false, .string t]) (by simp [results, Tryz.results70, go_sem]) rfl ⟨ret_agg2 hv.out.symm HTT.out, ?_⟩
      exact (Below.refl _ _).alloc (Nat.le_refl _) _
    · go_enter Tryz.func70, Tryz.ntmps70
      go_wp2_with (go_at_call 109; refine (HT.out _).mono ?_; rintro e w1 ⟨rfl, rfl⟩)
      refine bodyPost_ret (v := .agg #[.bool true, .string t]) (by simp [results, Tryz.results70, go_sem]) rfl ⟨ret_agg2 hv.out.symm HTT.out, ?_⟩
      exact (Below.refl _ _).alloc (Nat.le_refl _) _
end Go.Proofs.YtbgmnpabclfjaaaGreatDoor
namespace Go.Proofs.YtbgmnpabclfjaaaGreatDoor
open Go.RowKit Go.Shelf

set_option maxRecDepth 100000 in
set_option maxHeartbeats 1000000 in
theorem refNeg_any (neg : Bool) (m : ByteArray) (w : World) :
    Calls Tryz.prog 101 #[.agg #[.bool neg, .string m]] w fun e w' => e = .returned (mkW (!neg) (Nt.V m)) ∧ Below w.heap.size w w' := by
  have HM := Lib.hid (fun w => refMake_any (!neg) m w)
  obtain ⟨b, hb⟩ : ∃ b, b = sgn (!neg) (Nt.V m) := ⟨_, rfl⟩
  obtain ⟨t, ht⟩ : ∃ t, t = Nt.E (Nt.V m) := ⟨_, rfl⟩
  have HM2 := Lib.hid (fun w => (by have h := HM.out w; unfold mkW at h; rw [← hb, ← ht] at h; exact h : Calls Tryz.prog 70 #[.bool (!neg), .string m] w fun e w' => e = .returned (.agg #[.bool b, .string t]) ∧ Below w.heap.size w w'))
  have HBB := Lib.hid hb
  have HTT := Lib.hid ht
  clear hb ht HM
  go_enter Tryz.func101, Tryz.ntmps101
  go_wp2_with (go_at_call 70; refine (HM2.out _).mono ?_; rintro e w1 ⟨rfl, hb1⟩; obtain ⟨hc, hf⟩ := bcell hb1)
  refine bodyPost_ret (v := .agg #[.bool b, .string t]) (by simp [results, Tryz.results101, go_sem, hc]) rfl ⟨ret_agg2 HBB.out HTT.out, ?_⟩
  exact (((((Below.refl w.heap.size w).alloc (Nat.le_refl _) _).alloc (by simp) _).trans (hb1.mono (by simp; omega))).setCell (by simp) _).setCell (by simp) _
set_option maxRecDepth 100000 in
set_option maxHeartbeats 1000000 in
theorem refWell_any (neg : Bool) (m : ByteArray) (w : World) :
    Calls Tryz.prog 75 #[.agg #[.bool neg, .string m]] w fun e w' => e = .returned (mkW neg (Nt.V m)) ∧ Below w.heap.size w w' := by
  have HM := Lib.hid (fun w => refMake_any neg m w)
  obtain ⟨b, hb⟩ : ∃ b, b = sgn neg (Nt.V m) := ⟨_, rfl⟩
  obtain ⟨t, ht⟩ : ∃ t, t = Nt.E (Nt.V m) := ⟨_, rfl⟩
  have HM2 := Lib.hid (fun w => (by have h := HM.out w; unfold mkW at h; rw [← hb, ← ht] at h; exact h : Calls Tryz.prog 70 #[.bool neg, .string m] w fun e w' => e = .returned (.agg #[.bool b, .string t]) ∧ Below w.heap.size w w'))
  have HBB := Lib.hid hb
  have HTT := Lib.hid ht
  clear hb ht HM
  go_enter Tryz.func75, Tryz.ntmps75
  go_wp2_with (go_at_call 70; refine (HM2.out _).mono ?_; rintro e w1 ⟨rfl, hb1⟩; obtain ⟨hc, hf⟩ := bcell hb1)
  refine bodyPost_ret (v := .agg #[.bool b, .string t]) (by simp [results, Tryz.results75, go_sem, hc]) rfl ⟨ret_agg2 HBB.out HTT.out, ?_⟩
  exact (((((Below.refl w.heap.size w).alloc (Nat.le_refl _) _).alloc (by simp) _).trans (hb1.mono (by simp; omega))).setCell (by simp) _).setCell (by simp) _
set_option maxRecDepth 100000 in
set_option maxHeartbeats 1000000 in
theorem wholeOf_any (n : Int) (w : World) (h1 : -9223372036854775808 ≤ n) (h2 : n ≤ 9223372036854775807) :
    Calls Tryz.prog 43 #[.int .i64 n] w fun e w' => e = .returned (mkW (decide (n < 0)) n.natAbs) ∧ Below w.heap.size w w' := by
  obtain ⟨k, hk⟩ : ∃ k, k = n.natAbs := ⟨_, rfl⟩
  have HO := Lib.hid (fun w => natOf_any k w (by omega))
  obtain ⟨t, ht⟩ : ∃ t, t = Nt.E k := ⟨_, rfl⟩
  rw [← ht] at HO
  rw [← hk]
  have htv : Nt.V t = k := by rw [ht, Nt.V_E]
  have HM := Lib.hid (fun (neg : Bool) w => (by have h := wholeMake_any neg t w; rw [htv] at h; exact h : Calls Tryz.prog 64 #[.bool neg, .string t] w fun e w' => e = .returned (mkW neg k) ∧ Below w.heap.size w w'))
  obtain ⟨b, hb⟩ : ∃ b, b = sgn (decide (n < 0)) k := ⟨_, rfl⟩
  have HBB := Lib.hid hb
  have HTT := Lib.hid ht
  by_cases hn : n < 0
  · have hdn : decide (n < 0) = true := by simpa using hn
    rw [hdn] at hb HBB
    rw [hdn]
    have HM2 := Lib.hid (fun w => (by have h := HM.out true w; unfold mkW at h; rw [← hb, ← ht] at h; exact h : Calls Tryz.prog 64 #[.bool true, .string t] w fun e w' => e = .returned (.agg #[.bool b, .string t]) ∧ Below w.heap.size w w'))
    have hnk : n = -(k : Int) := by omega
    subst hnk
    have q1 : IntKind.u64.wrap (wrap64 (k : Int)) = (k : Int) := by rw [IntKind.wrap_u64]; unfold wrap64; omega
    have hk0 : 0 < k := by omega
    clear hk ht htv HM hb hdn
    go_enter Tryz.func43, Tryz.ntmps43
    go_wp2_with (first
      | (go_at_call 78; (with_reducible refine (HO.out _).mono ?_); rintro e w1 ⟨rfl, hb1⟩; obtain ⟨hc, hf⟩ := bcell hb1; have hz1 : w.heap.size < w1.heap.size := by have := hb1.size; simp at this; omega)
      | (go_at_call 64; refine (HM2.out _).mono ?_; rintro e w2 ⟨rfl, hb2⟩; obtain ⟨hc2, hf2⟩ := bcell hb2))
    refine bodyPost_ret (v := .agg #[.bool b, .string t]) (by simp [results, Tryz.results43, go_sem, hc, hc2, hz1]) rfl ⟨ret_agg2 HBB.out HTT.out, ?_⟩
    have h1 := ((Below.refl w.heap.size w).alloc (Nat.le_refl _) (Obj.cells #[.bool false, .string ⟨#[]⟩] 44)).trans (hb1.mono (by simp))
    exact ((h1.trans (hb2.mono h1.size)).setCell (by simp) _).setCell (by simp) _
  · have hdn : decide (n < 0) = false := by simpa using hn
    rw [hdn] at hb HBB
    rw [hdn]
    have HM2 := Lib.hid (fun w => (by have h := HM.out false w; unfold mkW at h; rw [← hb, ← ht] at h; exact h : Calls Tryz.prog 64 #[.bool false, .string t] w fun e w' => e = .returned (.agg #[.bool b, .string t]) ∧ Below w.heap.size w w'))
    have hnk : n = (k : Int) := by omega
    subst hnk
    have hk2 : k < 9223372036854775808 := by omega
    clear hk ht htv HM hb hdn
    go_enter Tryz.func43, Tryz.ntmps43
    go_wp2_with (first
      | (go_at_call 78; (with_reducible refine (HO.out _).mono ?_); rintro e w1 ⟨rfl, hb1⟩; obtain ⟨hc, hf⟩ := bcell hb1; have hz1 : w.heap.size < w1.heap.size := by have := hb1.size; simp at this; omega)
      | (go_at_call 64; refine (HM2.out _).mono ?_; rintro e w2 ⟨rfl, hb2⟩; obtain ⟨hc2, hf2⟩ := bcell hb2))
    refine bodyPost_ret (v := .agg #[.bool b, .string t]) (by simp [results, Tryz.results43, go_sem, hc, hc2, hz1]) rfl ⟨ret_agg2 HBB.out HTT.out, ?_⟩
    have h1 := ((Below.refl w.heap.size w).alloc (Nat.le_refl _) (Obj.cells #[.bool false, .string ⟨#[]⟩] 44)).trans (hb1.mono (by simp))
    exact ((h1.trans (hb2.mono h1.size)).setCell (by simp) _).setCell (by simp) _
end Go.Proofs.YtbgmnpabclfjaaaGreatDoor
namespace Go.Proofs.YtbgmnpabclfjaaaGreatDoor
open Go.RowKit Go.Shelf

set_option maxRecDepth 100000 in
set_option maxHeartbeats 1000000 in
theorem refOf4_any (n : Int) (w : World) (h1 : -9223372036854775808 ≤ n) (h2 : n ≤ 9223372036854775807) :
    Calls Tryz.prog 54 #[.int .i64 n] w fun e w' => e = .returned (mkW (decide (n < 0)) n.natAbs) ∧ Below w.heap.size w w' := by
  obtain ⟨k, hk⟩ : ∃ k, k = n.natAbs := ⟨_, rfl⟩
  have HO := Lib.hid (fun w => refOf_any k w (by omega))
  obtain ⟨t, ht⟩ : ∃ t, t = Nt.E k := ⟨_, rfl⟩
  rw [← ht] at HO
  rw [← hk]
  have htv : Nt.V t = k := by rw [ht, Nt.V_E]
  have HM := Lib.hid (fun (neg : Bool) w => (by have h := refMake_any neg t w; rw [htv] at h; exact h : Calls Tryz.prog 70 #[.bool neg, .string t] w fun e w' => e = .returned (mkW neg k) ∧ Below w.heap.size w w'))
  obtain ⟨b, hb⟩ : ∃ b, b = sgn (decide (n < 0)) k := ⟨_, rfl⟩
  have HBB := Lib.hid hb
  have HTT := Lib.hid ht
  by_cases hn : n < 0
  · have hdn : decide (n < 0) = true := by simpa using hn
    rw [hdn] at hb HBB
    rw [hdn]
    have HM2 := Lib.hid (fun w => (by have h := HM.out true w; unfold mkW at h; rw [← hb, ← ht] at h; exact h : Calls Tryz.prog 70 #[.bool true, .string t] w fun e w' => e = .returned (.agg #[.bool b, .string t]) ∧ Below w.heap.size w w'))
    have hnk : n = -(k : Int) := by omega
    subst hnk
    have hk0 : 0 < k := by omega
    have hk3 : k ≤ 9223372036854775808 := by omega
    obtain ⟨c, hc0⟩ : ∃ c, c = 18446744073709551616 - k := ⟨_, rfl⟩
    have q1 : IntKind.u64.wrap (-(k : Int)) = (c : Int) := by rw [IntKind.wrap_u64]; omega
    have q2 : IntKind.u64.wrap (-(c : Int)) = (k : Int) := by rw [IntKind.wrap_u64]; omega
    clear hk ht htv HM hb hdn hc0
    go_enter Tryz.func54, Tryz.ntmps54
    go_wp2_with (first
      | (go_at_call 91; (with_reducible refine (HO.out _).mono ?_); rintro e w1 ⟨rfl, hb1⟩; obtain ⟨hc, hf⟩ := bcell hb1; have hz1 : w.heap.size < w1.heap.size := by have := hb1.size; simp at this; omega)
      | (go_at_call 70; refine (HM2.out _).mono ?_; rintro e w2 ⟨rfl, hb2⟩; obtain ⟨hc2, hf2⟩ := bcell hb2))
    refine bodyPost_ret (v := .agg #[.bool b, .string t]) (by simp [results, Tryz.results54, go_sem, hc, hc2, hz1]) rfl ⟨ret_agg2 HBB.out HTT.out, ?_⟩
    have h1 := ((Below.refl w.heap.size w).alloc (Nat.le_refl _) (Obj.cells #[.bool false, .string ⟨#[]⟩] 44)).trans (hb1.mono (by simp))
    exact ((h1.trans (hb2.mono h1.size)).setCell (by simp) _).setCell (by simp) _
  · have hdn : decide (n < 0) = false := by simpa using hn
    rw [hdn] at hb HBB
    rw [hdn]
    have HM2 := Lib.hid (fun w => (by have h := HM.out false w; unfold mkW at h; rw [← hb, ← ht] at h; exact h : Calls Tryz.prog 70 #[.bool false, .string t] w fun e w' => e = .returned (.agg #[.bool b, .string t]) ∧ Below w.heap.size w w'))
    have hnk : n = (k : Int) := by omega
    subst hnk
    have hk2 : k < 9223372036854775808 := by omega
    clear hk ht htv HM hb hdn
    go_enter Tryz.func54, Tryz.ntmps54
    go_wp2_with (first
      | (go_at_call 91; (with_reducible refine (HO.out _).mono ?_); rintro e w1 ⟨rfl, hb1⟩; obtain ⟨hc, hf⟩ := bcell hb1; have hz1 : w.heap.size < w1.heap.size := by have := hb1.size; simp at this; omega)
      | (go_at_call 70; refine (HM2.out _).mono ?_; rintro e w2 ⟨rfl, hb2⟩; obtain ⟨hc2, hf2⟩ := bcell hb2))
    refine bodyPost_ret (v := .agg #[.bool b, .string t]) (by simp [results, Tryz.results54, go_sem, hc, hc2, hz1]) rfl ⟨ret_agg2 HBB.out HTT.out, ?_⟩
    have h1 := ((Below.refl w.heap.size w).alloc (Nat.le_refl _) (Obj.cells #[.bool false, .string ⟨#[]⟩] 44)).trans (hb1.mono (by simp))
    exact ((h1.trans (hb2.mono h1.size)).setCell (by simp) _).setCell (by simp) _

end Go.Proofs.YtbgmnpabclfjaaaGreatDoor
namespace Go.Proofs.YtbgmnpabclfjaaaGreatDoor
open Go.RowKit Go.Shelf

theorem ba_ext : ∀ (a b : ByteArray), a.data.toList = b.data.toList → a = b := fun a b hab => by
  obtain ⟨⟨x⟩⟩ := a; obtain ⟨⟨y⟩⟩ := b; simpa using hab
end Go.Proofs.YtbgmnpabclfjaaaGreatDoor
namespace Go.Proofs.YtbgmnpabclfjaaaGreatDoor
open Go.RowKit Go.Shelf

end Go.Proofs.YtbgmnpabclfjaaaGreatDoor
namespace Go.Proofs.YtbgmnpabclfjaaaGreatDoor
open Go.RowKit Go.Shelf

end Go.Proofs.YtbgmnpabclfjaaaGreatDoor
namespace Go.Proofs.YtbgmnpabclfjaaaGreatDoor
open Go.RowKit Go.Shelf

end Go.Proofs.YtbgmnpabclfjaaaGreatDoor
namespace Go.Proofs.YtbgmnpabclfjaaaGreatDoor
open Go.RowKit Go.Shelf

end Go.Proofs.YtbgmnpabclfjaaaGreatDoor
namespace Go.Proofs.YtbgmnpabclfjaaaGreatDoor
open Go.RowKit Go.Shelf

end Go.Proofs.YtbgmnpabclfjaaaGreatDoor
