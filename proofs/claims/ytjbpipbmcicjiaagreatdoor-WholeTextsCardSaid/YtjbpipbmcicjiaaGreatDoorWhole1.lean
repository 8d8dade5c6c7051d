/-
  WHOLE NUMBERS: made of a sign and an amount, of a small number; the opposite, the amount; the sign.
-/
import Derived.Test.YtjbpipbmcicjiaaGreatDoorLaw3
import Derived.Deep.RegionWith
namespace Go.Proofs.YtjbpipbmcicjiaaGreatDoor
open Go.RowKit Go.Shelf

/-- is it below 0? -/
def sgn (neg : Bool) (n : Nat) : Bool := neg && decide (n ≠ 0)
/-- a whole number, told well. -/
abbrev mkW (neg : Bool) (n : Nat) : Value := .agg #[.bool (sgn neg n), .string (Nt.E n)]
theorem sgn_zero (neg : Bool) : sgn neg 0 = false := by unfold sgn; simp
theorem sgn_pos (neg : Bool) {n : Nat} (h : n ≠ 0) : sgn neg n = neg := by unfold sgn; simp [h]
theorem ret_agg2 {a b : Bool} {x y : ByteArray} (h : a = b) (h' : x = y) : Ending.returned (.agg #[.bool a, .string x]) = .returned (.agg #[.bool b, .string y]) := by rw [h, h']
theorem bcell {W w1 : World} (hb : Below W.heap.size W w1) : (∀ b o, b < W.heap.size → w1.cell? ⟨b, o, none⟩ = W.cell? ⟨b, o, none⟩) ∧ (∀ b o, b < W.heap.size → w1.frozen? ⟨b, o, none⟩ = W.frozen? ⟨b, o, none⟩) :=
  ⟨fun b o h => hb.cell (p := ⟨b, o, none⟩) h, fun b o h => hb.frozen (p := ⟨b, o, none⟩) h⟩

set_option maxRecDepth 100000 in
set_option maxHeartbeats 1000000 in
theorem wholeMake_any (neg : Bool) (m : ByteArray) (w : World) :
    Calls Tryz.prog 13 #[.bool neg, .string m] w fun e w' => e = .returned (mkW neg (Nt.V m)) ∧ Below w.heap.size w w' := by
  have HT := Lib.hid (fun w => natTrim_any m w)
  by_cases h0 : Nt.V m = 0
  · have hv := Lib.hid (sgn_zero neg)
    have e0 : Nt.E 0 = ⟨#[]⟩ := rfl
    rw [h0, e0] at HT
    rw [h0]
    clear h0
    cases neg
    all_goals
      go_enter Tryz.func13, Tryz.ntmps13
      go_wp2_with (go_at_call 57; refine (HT.out _).mono ?_; rintro e w1 ⟨rfl, rfl⟩)
      refine bodyPost_ret (v := .agg #[.bool false, .string ⟨#[]⟩]) (by simp [results, Tryz.results13, go_sem]) rfl ⟨ret_agg2 hv.out.symm e0.symm, ?_⟩
      exact (Below.refl _ _).alloc (Nat.le_refl _) _
  · have hv := Lib.hid (sgn_pos neg h0)
    have hne := E_toList_ne _ h0
    have hne2 : (Nt.E (Nt.V m)).toList.isEmpty = false := by simpa using hne
    obtain ⟨n, hn⟩ : ∃ n, n = Nt.V m := ⟨_, rfl⟩
    rw [← hn] at HT hv hne hne2 ⊢
    obtain ⟨t, ht⟩ : ∃ t, t = Nt.E n := ⟨_, rfl⟩
    rw [← ht] at HT hne hne2
    have HTT := Lib.hid ht
    clear h0 hn ht
    cases neg
    · go_enter Tryz.func13, Tryz.ntmps13
      go_wp2_with (go_at_call 57; refine (HT.out _).mono ?_; rintro e w1 ⟨rfl, rfl⟩)
      refine bodyPost_ret (v := .agg #[.bool false, .string t]) (by simp [results, Tryz.results13, go_sem]) rfl ⟨ret_agg2 hv.out.symm HTT.out, ?_⟩
      exact (Below.refl _ _).alloc (Nat.le_refl _) _
    · go_enter Tryz.func13, Tryz.ntmps13
      go_wp2_with (go_at_call 57; refine (HT.out _).mono ?_; rintro e w1 ⟨rfl, rfl⟩)
      refine bodyPost_ret (v := .agg #[.bool true, .string t]) (by simp [results, Tryz.results13, go_sem]) rfl ⟨ret_agg2 hv.out.symm HTT.out, ?_⟩
      exact (Below.refl _ _).alloc (Nat.le_refl _) _
set_option maxRecDepth 100000 in
set_option maxHeartbeats 1000000 in
theorem refMake_any (neg : Bool) (m : ByteArray) (w : World) :
    Calls Tryz.prog 14 #[.bool neg, .string m] w fun e w' => e = .returned (mkW neg (Nt.V m)) ∧ Below w.heap.size w w' := by
  have HT := Lib.hid (fun w => refTrim_any m w)
  by_cases h0 : Nt.V m = 0
  · have hv := Lib.hid (sgn_zero neg)
    have e0 : Nt.E 0 = ⟨#[]⟩ := rfl
    rw [h0, e0] at HT
    rw [h0]
    clear h0
    cases neg
    all_goals
      go_enter Tryz.func14, Tryz.ntmps14
      go_wp2_with (go_at_call 58; refine (HT.out _).mono ?_; rintro e w1 ⟨rfl, rfl⟩)
      refine bodyPost_ret (v := .agg #[.bool false, .string ⟨#[]⟩]) (by simp [results, Tryz.results14, go_sem]) rfl ⟨ret_agg2 hv.out.symm e0.symm, ?_⟩
      exact (Below.refl _ _).alloc (Nat.le_refl _) _
  · have hv := Lib.hid (sgn_pos neg h0)
    have hne := E_toList_ne _ h0
    have hne2 : (Nt.E (Nt.V m)).toList.isEmpty = false := by simpa using hne
    obtain ⟨n, hn⟩ : ∃ n, n = Nt.V m := ⟨_, rfl⟩
    rw [← hn] at HT hv hne hne2 ⊢
    obtain ⟨t, ht⟩ : ∃ t, t = Nt.E n := ⟨_, rfl⟩
    rw [← ht] at HT hne hne2
    have HTT := Lib.hid ht
    clear h0 hn ht
    cases neg
    · go_enter Tryz.func14, Tryz.ntmps14
      go_wp2_with (go_at_call 58; refine (HT.out _).mono ?_; rintro e w1 ⟨rfl, rfl⟩)
      refine bodyPost_ret (v := .agg #[.bool false, .string t]) (by simp [results, Tryz.results14, go_sem]) rfl ⟨ret_agg2 hv.out.symm HTT.out, ?_⟩
      exact (Below.refl _ _).alloc (Nat.le_refl _) _
    · go_enter Tryz.func14, Tryz.ntmps14
      go_wp2_with (go_at_call 58; refine (HT.out _).mono ?_; rintro e w1 ⟨rfl, rfl⟩)
      refine bodyPost_ret (v := .agg #[.bool true, .string t]) (by simp [results, Tryz.results14, go_sem]) rfl ⟨ret_agg2 hv.out.symm HTT.out, ?_⟩
      exact (Below.refl _ _).alloc (Nat.le_refl _) _
end Go.Proofs.YtjbpipbmcicjiaaGreatDoor
