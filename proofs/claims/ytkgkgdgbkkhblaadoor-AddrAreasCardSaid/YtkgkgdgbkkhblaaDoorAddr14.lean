/-
  LAYER 10's STATEMENTS, WALKED: the fixed calls; addresses.
-/
import Derived.Test.YtkgkgdgbkkhblaaDoorAddr13
import Derived.Test.YtkgkgdgbkkhblaaDoorAddr6
namespace Go.Proofs.YtkgkgdgbkkhblaaDoor
set_option linter.unusedSimpArgs false
set_option linter.unusedVariables false
open Go.RowKit Go.Shelf

theorem known_cells (w : World) : Calls Tryd.prog 18 #[areaV 1 1 2 2, .int .i64 0] w fun e w' => (∃ g cap : Nat, e = .returned (.slice (some ⟨g, 0, none⟩) 4 cap)) ∧ Below w.heap.size w w' := by
  refine (areaCells_any 1 1 2 2 0 w).mono ?_
  rintro e w' ⟨⟨v, rfl, hv⟩, hb⟩
  have h4 : cntN 1 1 2 2 = 4 := by decide +kernel
  rw [h4] at hv
  refine ⟨?_, hb⟩
  rcases hv with ⟨_, h⟩ | ⟨g, cap, rfl, _⟩
  · cases h
  · exact ⟨g, cap, rfl⟩
set_option maxRecDepth 100000 in
set_option maxHeartbeats 4000000 in
theorem known10_any (w : World) : Calls Tryd.prog 5 #[] w fun e w' => e = .returned (.bool true) ∧ Below w.heap.size w w' := by
  have h1 := fun w => addrParse_any ⟨#[65, 66, 49, 50]⟩ w (by decide)
  have h2 := fun w => addrParse_any ⟨#[65, 49, 48, 48]⟩ w (by decide)
  have h3 := fun w => addrText_any 28 12 w
  have e1 : adrP ⟨#[65, 66, 49, 50]⟩ = (28, 12, 0) := by decide +kernel
  have e2 : adrP ⟨#[65, 49, 48, 48]⟩ = (0, 0, 6) := by decide +kernel
  have e3 : adrT 28 12 = ⟨#[65, 66, 49, 50]⟩ := by decide +kernel
  rw [e1] at h1
  rw [e2] at h2
  rw [e3] at h3
  unfold adrOut at h1 h2
  dsimp only [Int.cast_ofNat_Int, Int.natCast_zero] at h1 h2
  have H1 := Lib.hid h1
  have H2 := Lib.hid h2
  have H3 := Lib.hid h3
  have H4 := Lib.hid known_cells
  have hB := Below.refl w.heap.size w
  clear h1 h2 h3 e1 e2 e3
  go_enter Tryd.func5, Tryd.ntmps5
  go_wp2_with (first
    | (refine (chain hB (H1.out _)).mono ?_; clear hB; rintro e w1 ⟨rfl, hB⟩; clear H1)
    | (refine (chain hB (H2.out _)).mono ?_; clear hB; rintro e w1 ⟨rfl, hB⟩; clear H2)
    | (go_at_call 14; refine (chain hB (H3.out _)).mono ?_; clear hB; rintro e w1 ⟨rfl, hB⟩)
    | (go_at_call 18; refine (H4.out _).mono ?_; rintro e w1 ⟨⟨g, cap, rfl⟩, hb⟩; replace hB := hB.trans (hb.mono hB.size); clear hb))
  go_ret
  exact ⟨rfl, hB⟩
theorem adrT_size (c r : Int) : (adrT c r).size ≤ 4 := by
  cases h : inG c r with
  | false => rw [inG_no h]; decide
  | true =>
    obtain ⟨g1, g2, g3, g4⟩ := (inG_iff c r).1 h
    rw [inG_yes h]
    have z1 := colT_size c.toNat
    have z2 := D_size (n := r.toNat) (by omega)
    simp; omega
theorem adrOut_eq (p : Nat × Nat × Nat) : adrOut p = .tuple #[.int .i64 p.1, .int .i64 p.2.1, .int .i64 p.2.2] := rfl
set_option maxRecDepth 100000 in
set_option maxHeartbeats 4000000 in
theorem addrTexts_any (c r : Int) (s : ByteArray) (w : World) (hs : s.size ≤ maxLen) :
    Calls Tryd.prog 3 #[.int .i64 c, .int .i64 r, .string s] w fun e w' => e = .returned (.bool true) ∧ Below w.heap.size w w' := by
  have HK := Lib.hid known10_any
  have hB := Below.refl w.heap.size w
  have hud : undef = Value.tuple #[] := rfl
  by_cases hbig : 100 < s.size
  · go_enter Tryd.func3, Tryd.ntmps3
    go_wp2_with (go_at_call 5; refine (chain hB (HK.out _)).mono ?_; clear hB; rintro e w1 ⟨rfl, hB⟩)
    go_ret
    exact ⟨rfl, hB⟩
  · have h1 := fun w => addrColOf_any s w
    have h2 := fun w => refColOf_any s w
    have h3 := fun w => addrParse_any s w hs
    have h4 := fun w => refAdrParse_any s w hs
    have h5 := fun w => addrIn_any c r w
    have h6 := fun w => refIn_any c r w
    have h7 := fun w => addrCol_any c w
    have h8 := fun w => refCol_any c w
    have h9 := fun w => addrText_any c r w
    have h10 := fun w => refAdr_any c r w
    have hz := adrT_size c r
    have h11 := fun w => addrParse_any (adrT c r) w (by unfold maxLen; omega)
    have hback := fun h => adr_back (c := c) (r := r) h
    have hto : inG c r = true → ((c.toNat : Nat) : Int) = c ∧ ((r.toNat : Nat) : Int) = r := fun h => by
      obtain ⟨g1, g2, g3, g4⟩ := (inG_iff c r).1 h
      omega
    have hag : ∀ a b : Nat, adrP s = (a, b, 0) → adrT a b = s := fun a b h => adr_again h
    unfold colOut at h1 h2
    generalize colF s = cf at *
    generalize (cf != 0) = cb at *
    obtain ⟨pa, pb, pe, hP⟩ : ∃ a b e, adrP s = (a, b, e) := ⟨_, _, _, rfl⟩
    obtain ⟨qa, qb, qe, hQ⟩ : ∃ a b e, adrP (adrT c r) = (a, b, e) := ⟨_, _, _, rfl⟩
    rw [hP] at h3 h4 hag
    rw [hQ] at h11 hback
    rw [adrOut_eq] at h3 h4 h11
    dsimp only at h3 h4 h11
    generalize colT c.toNat = ct at *
    generalize adrT c r = at' at *
    have H1 := Lib.hid h1
    have H2 := Lib.hid h2
    have H3 := Lib.hid h3
    have H4 := Lib.hid h4
    have H7 := Lib.hid h7
    have H8 := Lib.hid h8
    have H9 := Lib.hid h9
    have H10 := Lib.hid h10
    clear h1 h2 h3 h4 h7 h8 h9 h10 hz hP hQ
    have fin : ∀ g : Bool, inG c r = g → (g = true → qa = c.toNat ∧ qb = r.toNat ∧ qe = 0) := fun g hg h => by
      rw [h] at hg
      have := hback hg
      exact ⟨congrArg (fun t => t.1) this, congrArg (fun t => t.2.1) this, congrArg (fun t => t.2.2) this⟩
    by_cases he : pe = 0
    · subst he
      have hs2 := hag pa pb rfl
      have h12 := fun w => addrText_any pa pb w
      rw [hs2] at h12
      have H12 := Lib.hid h12
      cases hg : inG c r with
      | false =>
        rw [hg] at h5 h6
        have H5 := Lib.hid h5
        have H6 := Lib.hid h6
        have H11 := Lib.hid h11
        clear h5 h6 h11 h12 hs2 hag hback hto fin hg
        go_enter Tryd.func3, Tryd.ntmps3
        go_wp2_with (first
          | (go_at_call 6; refine (chain hB (H1.out _)).mono ?_; clear hB; rintro e w1 ⟨rfl, hB⟩)
          | (go_at_call 7; refine (chain hB (H2.out _)).mono ?_; clear hB; rintro e w1 ⟨rfl, hB⟩)
          | (go_at_call_of 8 s; refine (chain hB (H3.out _)).mono ?_; clear hB; rintro e w1 ⟨rfl, hB⟩)
          | (go_at_call_of 8 at'; refine (chain hB (H11.out _)).mono ?_; clear hB; rintro e w1 ⟨rfl, hB⟩)
          | (go_at_call 9; refine (chain hB (H4.out _)).mono ?_; clear hB; rintro e w1 ⟨rfl, hB⟩)
          | (go_at_call 10; refine (H5.out _).mono ?_; rintro e w1 ⟨rfl, rfl⟩)
          | (go_at_call 11; refine (H6.out _).mono ?_; rintro e w1 ⟨rfl, rfl⟩)
          | (go_at_call 12; refine (chain hB (H7.out _)).mono ?_; clear hB; rintro e w1 ⟨rfl, hB⟩)
          | (go_at_call 13; refine (chain hB (H8.out _)).mono ?_; clear hB; rintro e w1 ⟨rfl, hB⟩)
          | (go_at_call_of 14 c; refine (chain hB (H9.out _)).mono ?_; clear hB; rintro e w1 ⟨rfl, hB⟩)
          | (go_at_call 15; refine (chain hB (H10.out _)).mono ?_; clear hB; rintro e w1 ⟨rfl, hB⟩)
          | (go_at_call 14; refine (chain hB (H12.out _)).mono ?_; clear hB; rintro e w1 ⟨rfl, hB⟩)
          | (go_at_call 5; refine (chain hB (HK.out _)).mono ?_; clear hB; rintro e w1 ⟨rfl, hB⟩))
        all_goals (go_ret; exact ⟨rfl, hB⟩)
      | true =>
        obtain ⟨rfl, rfl, rfl⟩ := fin true hg rfl
        obtain ⟨t1, t2⟩ := hto hg
        rw [hg] at h5 h6
        rw [t1, t2] at h11
        have H5 := Lib.hid h5
        have H6 := Lib.hid h6
        have H11 := Lib.hid h11
        clear h5 h6 h11 h12 hs2 hag hback hto fin hg t1 t2
        go_enter Tryd.func3, Tryd.ntmps3
        go_wp2_with (first
          | (go_at_call 6; refine (chain hB (H1.out _)).mono ?_; clear hB; rintro e w1 ⟨rfl, hB⟩)
          | (go_at_call 7; refine (chain hB (H2.out _)).mono ?_; clear hB; rintro e w1 ⟨rfl, hB⟩)
          | (go_at_call_of 8 s; refine (chain hB (H3.out _)).mono ?_; clear hB; rintro e w1 ⟨rfl, hB⟩)
          | (go_at_call_of 8 at'; refine (chain hB (H11.out _)).mono ?_; clear hB; rintro e w1 ⟨rfl, hB⟩)
          | (go_at_call 9; refine (chain hB (H4.out _)).mono ?_; clear hB; rintro e w1 ⟨rfl, hB⟩)
          | (go_at_call 10; refine (H5.out _).mono ?_; rintro e w1 ⟨rfl, rfl⟩)
          | (go_at_call 11; refine (H6.out _).mono ?_; rintro e w1 ⟨rfl, rfl⟩)
          | (go_at_call 12; refine (chain hB (H7.out _)).mono ?_; clear hB; rintro e w1 ⟨rfl, hB⟩)
          | (go_at_call 13; refine (chain hB (H8.out _)).mono ?_; clear hB; rintro e w1 ⟨rfl, hB⟩)
          | (go_at_call_of 14 c; refine (chain hB (H9.out _)).mono ?_; clear hB; rintro e w1 ⟨rfl, hB⟩)
          | (go_at_call 15; refine (chain hB (H10.out _)).mono ?_; clear hB; rintro e w1 ⟨rfl, hB⟩)
          | (go_at_call 14; refine (chain hB (H12.out _)).mono ?_; clear hB; rintro e w1 ⟨rfl, hB⟩)
          | (go_at_call 5; refine (chain hB (HK.out _)).mono ?_; clear hB; rintro e w1 ⟨rfl, hB⟩))
        all_goals (go_ret; exact ⟨rfl, hB⟩)
    · have heb : (((pe : Nat) : Int) == 0) = false := by simp; omega
      have heb2 : (((pe : Nat) : Int) != 0) = true := by simp; omega
      cases hg : inG c r with
      | false =>
        rw [hg] at h5 h6
        have H5 := Lib.hid h5
        have H6 := Lib.hid h6
        have H11 := Lib.hid h11
        clear h5 h6 h11 hag hback hto fin hg he
        go_enter Tryd.func3, Tryd.ntmps3
        go_wp2_with (first
          | (go_at_call 6; refine (chain hB (H1.out _)).mono ?_; clear hB; rintro e w1 ⟨rfl, hB⟩)
          | (go_at_call 7; refine (chain hB (H2.out _)).mono ?_; clear hB; rintro e w1 ⟨rfl, hB⟩)
          | (go_at_call_of 8 s; refine (chain hB (H3.out _)).mono ?_; clear hB; rintro e w1 ⟨rfl, hB⟩)
          | (go_at_call_of 8 at'; refine (chain hB (H11.out _)).mono ?_; clear hB; rintro e w1 ⟨rfl, hB⟩)
          | (go_at_call 9; refine (chain hB (H4.out _)).mono ?_; clear hB; rintro e w1 ⟨rfl, hB⟩)
          | (go_at_call 10; refine (H5.out _).mono ?_; rintro e w1 ⟨rfl, rfl⟩)
          | (go_at_call 11; refine (H6.out _).mono ?_; rintro e w1 ⟨rfl, rfl⟩)
          | (go_at_call 12; refine (chain hB (H7.out _)).mono ?_; clear hB; rintro e w1 ⟨rfl, hB⟩)
          | (go_at_call 13; refine (chain hB (H8.out _)).mono ?_; clear hB; rintro e w1 ⟨rfl, hB⟩)
          | (go_at_call_of 14 c; refine (chain hB (H9.out _)).mono ?_; clear hB; rintro e w1 ⟨rfl, hB⟩)
          | (go_at_call 15; refine (chain hB (H10.out _)).mono ?_; clear hB; rintro e w1 ⟨rfl, hB⟩)
          | (go_at_call 5; refine (chain hB (HK.out _)).mono ?_; clear hB; rintro e w1 ⟨rfl, hB⟩))
        all_goals (go_ret; exact ⟨rfl, hB⟩)
      | true =>
        obtain ⟨rfl, rfl, rfl⟩ := fin true hg rfl
        obtain ⟨t1, t2⟩ := hto hg
        rw [hg] at h5 h6
        rw [t1, t2] at h11
        have H5 := Lib.hid h5
        have H6 := Lib.hid h6
        have H11 := Lib.hid h11
        clear h5 h6 h11 hag hback hto fin hg t1 t2 he
        go_enter Tryd.func3, Tryd.ntmps3
        go_wp2_with (first
          | (go_at_call 6; refine (chain hB (H1.out _)).mono ?_; clear hB; rintro e w1 ⟨rfl, hB⟩)
          | (go_at_call 7; refine (chain hB (H2.out _)).mono ?_; clear hB; rintro e w1 ⟨rfl, hB⟩)
          | (go_at_call_of 8 s; refine (chain hB (H3.out _)).mono ?_; clear hB; rintro e w1 ⟨rfl, hB⟩)
          | (go_at_call_of 8 at'; refine (chain hB (H11.out _)).mono ?_; clear hB; rintro e w1 ⟨rfl, hB⟩)
          | (go_at_call 9; refine (chain hB (H4.out _)).mono ?_; clear hB; rintro e w1 ⟨rfl, hB⟩)
          | (go_at_call 10; refine (H5.out _).mono ?_; rintro e w1 ⟨rfl, rfl⟩)
          | (go_at_call 11; refine (H6.out _).mono ?_; rintro e w1 ⟨rfl, rfl⟩)
          | (go_at_call 12; refine (chain hB (H7.out _)).mono ?_; clear hB; rintro e w1 ⟨rfl, hB⟩)
          | (go_at_call 13; refine (chain hB (H8.out _)).mono ?_; clear hB; rintro e w1 ⟨rfl, hB⟩)
          | (go_at_call_of 14 c; refine (chain hB (H9.out _)).mono ?_; clear hB; rintro e w1 ⟨rfl, hB⟩)
          | (go_at_call 15; refine (chain hB (H10.out _)).mono ?_; clear hB; rintro e w1 ⟨rfl, hB⟩)
          | (go_at_call 5; refine (chain hB (HK.out _)).mono ?_; clear hB; rintro e w1 ⟨rfl, hB⟩))
        all_goals (go_ret; exact ⟨rfl, hB⟩)
end Go.Proofs.YtkgkgdgbkkhblaaDoor
