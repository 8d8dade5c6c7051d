/-
  LAYER 10, ADDRESSES: Text of both, isRow, Letters.
-/
import Derived.Test.YtkgkgdgbkkhblaaDoorAddr2
import Derived.Deep.RegionWith
namespace Go.Proofs.YtkgkgdgbkkhblaaDoor
set_option linter.unusedSimpArgs false
set_option linter.unusedVariables false
open Go.RowKit Go.Shelf

theorem decDigits_dec : ∀ n : Nat, Lib.decDigits n = (Nt.dec n).map UInt8.ofNat := by
  intro n
  induction n using Nat.strongRecOn with
  | _ n ih =>
    rw [Lib.decDigits]
    by_cases h : n < 10
    · rw [dif_pos h, Nt.dec_small h]; rfl
    · rw [dif_neg h, Nt.dec_big h, ih (n / 10) (by omega), List.map_append]; rfl
theorem colT_size (n : Nat) : (colT n).size ≤ 2 := by
  show (colL n).toArray.size ≤ 2
  unfold colL
  split
  · simp
  · split <;> simp
theorem D_size {n : Nat} (h : n < 100) : (Nt.D n).size ≤ 2 := by
  unfold Nt.D; rw [Nt.S_size]; exact Nt.dec_length_le (m := 1) (by omega)
theorem inG_no {c r : Int} (h : inG c r = false) : adrT c r = ⟨#[]⟩ := by unfold adrT; rw [h]; rfl
theorem inG_yes {c r : Int} (h : inG c r = true) : adrT c r = colT c.toNat ++ Nt.D r.toNat := by unfold adrT; rw [h]; rfl

theorem itoa_any (r : Int) (h0 : 0 ≤ r) (h1 : r < 100) (w : World) :
    Calls Tryd.prog 30 #[.int .i64 r] w fun e w' => e = .returned (.string (Nt.D r.toNat)) ∧ Below w.heap.size w w' := by
  obtain ⟨k, rfl⟩ : ∃ k : Nat, r = (k : Int) := ⟨r.toNat, by omega⟩
  refine (Tryd.strconv_Itoa_small k (by omega) w).mono ?_
  rintro e w' ⟨rfl, rfl⟩
  rw [Int.toNat_natCast, decDigits_dec]
  exact ⟨rfl, Below.refl _ _⟩
set_option maxRecDepth 100000 in
theorem addrText_any (c r : Int) (w : World) :
    Calls Tryd.prog 14 #[.int .i64 c, .int .i64 r] w fun e w' => e = .returned (.string (adrT c r)) ∧ Below w.heap.size w w' := by
  have HI := Lib.hid (fun w => addrIn_any c r w)
  have hB := Below.refl w.heap.size w
  cases hg : inG c r with
  | false =>
    rw [hg] at HI
    have hr := Lib.hid (inG_no hg)
    clear hg
    go_enter Tryd.func14, Tryd.ntmps14
    go_wp2_with (go_at_call 10; refine (HI.out _).mono ?_; rintro e w1 ⟨rfl, rfl⟩)
    go_ret
    exact ⟨ret_str hr.out.symm, hB⟩
  | true =>
    rw [hg] at HI
    obtain ⟨g1, g2, g3, g4⟩ := (inG_iff c r).1 hg
    have hr := Lib.hid (inG_yes hg)
    have HC := Lib.hid (fun w => addrCol_any c w)
    have HT := Lib.hid (fun w => itoa_any r (by omega) (by omega) w)
    have z1 := colT_size c.toNat
    have z2 := D_size (n := r.toNat) (by omega)
    generalize colT c.toNat = t at HC hr z1
    generalize Nt.D r.toNat = u at HT hr z2
    clear hg g1 g2 g3 g4
    go_enter Tryd.func14, Tryd.ntmps14
    go_wp2_with (first
      | (go_at_call 10; refine (HI.out _).mono ?_; rintro e w1 ⟨rfl, rfl⟩)
      | (go_at_call 12; with_reducible refine (chain hB (HC.out _)).mono ?_; clear hB; rintro e w1 ⟨rfl, hB⟩)
      | (go_at_call 30; with_reducible refine (chain hB (HT.out _)).mono ?_; clear hB; rintro e w1 ⟨rfl, hB⟩))
    all_goals (go_ret; exact ⟨ret_str hr.out.symm, hB⟩)
set_option maxRecDepth 100000 in
theorem refNum_any (r : Int) (h0 : 0 ≤ r) (h1 : r < 100) (w : World) :
    Calls Tryd.prog 31 #[.int .i64 r] w fun e w' => e = .returned (.string (Nt.D r.toNat)) ∧ Below w.heap.size w w' := by
  obtain ⟨k, rfl⟩ : ∃ k : Nat, r = (k : Int) := ⟨r.toNat, by omega⟩
  rw [Int.toNat_natCast]
  have h2 := fun w => refText_of (Nt.E k) w (Nat.le_trans (Nt.E_size_lt (m := 1) (by omega)) (by omega))
  rw [Nt.V_E] at h2
  have H1 := Lib.hid (fun w => refOf_any k w (by omega))
  have H2 := Lib.hid h2
  have hB := Below.refl w.heap.size w
  have q1 : max (k : Int) 0 = k := by omega
  have q2 : IntKind.u64.wrap (k : Int) = (k : Int) := u64w (by omega) (by omega)
  clear h2
  go_enter Tryd.func31, Tryd.ntmps31
  go_wp2_with (first
    | (go_at_call 45; with_reducible refine (chain hB (H1.out _)).mono ?_; clear hB; rintro e w1 ⟨rfl, hB⟩)
    | (go_at_call 44; with_reducible refine (chain hB (H2.out _)).mono ?_; clear hB; rintro e w1 ⟨rfl, hB⟩))
  go_ret
  exact ⟨rfl, hB⟩
set_option maxRecDepth 100000 in
theorem refAdr_any (c r : Int) (w : World) :
    Calls Tryd.prog 15 #[.int .i64 c, .int .i64 r] w fun e w' => e = .returned (.string (adrT c r)) ∧ Below w.heap.size w w' := by
  have HI := Lib.hid (fun w => refIn_any c r w)
  have hB := Below.refl w.heap.size w
  cases hg : inG c r with
  | false =>
    rw [hg] at HI
    have hr := Lib.hid (inG_no hg)
    clear hg
    go_enter Tryd.func15, Tryd.ntmps15
    go_wp2_with (go_at_call 11; refine (HI.out _).mono ?_; rintro e w1 ⟨rfl, rfl⟩)
    go_ret
    exact ⟨ret_str hr.out.symm, hB⟩
  | true =>
    rw [hg] at HI
    obtain ⟨g1, g2, g3, g4⟩ := (inG_iff c r).1 hg
    have hr := Lib.hid (inG_yes hg)
    have HC := Lib.hid (fun w => refCol_any c w)
    have HT := Lib.hid (fun w => refNum_any r (by omega) (by omega) w)
    have z1 := colT_size c.toNat
    have z2 := D_size (n := r.toNat) (by omega)
    generalize colT c.toNat = t at HC hr z1
    generalize Nt.D r.toNat = u at HT hr z2
    clear hg g1 g2 g3 g4
    go_enter Tryd.func15, Tryd.ntmps15
    go_wp2_with (first
      | (go_at_call 11; refine (HI.out _).mono ?_; rintro e w1 ⟨rfl, rfl⟩)
      | (go_at_call 13; with_reducible refine (chain hB (HC.out _)).mono ?_; clear hB; rintro e w1 ⟨rfl, hB⟩)
      | (go_at_call 31; with_reducible refine (chain hB (HT.out _)).mono ?_; clear hB; rintro e w1 ⟨rfl, hB⟩))
    all_goals (go_ret; exact ⟨ret_str hr.out.symm, hB⟩)
end Go.Proofs.YtkgkgdgbkkhblaaDoor
