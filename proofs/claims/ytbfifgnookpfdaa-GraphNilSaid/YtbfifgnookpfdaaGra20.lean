/-
  LAYER 28's STATEMENT ON A GRAPH THAT IS NOT THERE, walked.
-/
import Derived.Test.YtbfifgnookpfdaaGra19
set_option linter.unusedSimpArgs false
set_option linter.unusedVariables false
namespace Go.Proofs.Ytbfifgnookpfdaa
open Go.RowKit Go.Shelf Go.Sort Go.Lib Go.Maps

set_option maxRecDepth 100000 in
set_option maxHeartbeats 8000000 in
theorem graphNil_any (x : Ce) (w : World) : Calls Try.prog 5 #[mkC x] w fun e w' => e = .returned (.bool true) ∧ Below w.heap.size w w' := by
  obtain ⟨A, hA⟩ : ∃ A, A = w.heap.size := ⟨_, rfl⟩
  obtain ⟨s, hs⟩ : ∃ s, s = w.alloc (.cells #[.int .i64 x.1, .int .i64 x.2.1, .int .i64 x.2.2] 32) := ⟨_, rfl⟩
  have hb : Below w.heap.size w s := by rw [hs]; exact (Below.refl _ w).alloc (Nat.le_refl _) _
  have hbx := box_at hs
  have zA : A < s.heap.size := by rw [hs, hA]; simp
  rw [← hA] at hbx
  have h1 : Hid (∀ W v, Calls Try.prog 11 #[.pointer none, mkC x, v] W fun e w' => e = .returned (.int .i64 1) ∧ Below W.heap.size W w') := Lib.hid fun W v => set_nil x v W
  have h2 : Hid (∀ W, Calls Try.prog 8 #[.pointer none, mkC x] W fun e w' => e = .returned (.int .i64 1) ∧ Below W.heap.size W w') := Lib.hid (drop_nil x)
  have h3 : Hid (∀ W, Calls Try.prog 19 #[.pointer none, mkC x] W fun e w' => e = .returned (.bool false) ∧ Below W.heap.size W w') := Lib.hid (has_nil x)
  have h4 : Hid (∀ W, Calls Try.prog 16 #[.pointer none, mkC x] W fun e w' => e = .returned (.slice none 0 0) ∧ Below W.heap.size W w') := Lib.hid (needs_nil x)
  have h5 : Hid (∀ W, Calls Try.prog 15 #[.pointer none, mkC x] W fun e w' => e = .returned (.slice none 0 0) ∧ Below W.heap.size W w') := Lib.hid (for_nil x)
  have HS := Lib.hid hs
  have HA := Lib.hid hA
  have HB := Lib.hid hb
  clear hs hA hb
  obtain ⟨x1, x2, x3⟩ := x
  unfold mkC at *
  dsimp only at h1 h2 h3 h4 h5 hbx HS ⊢
  go_enter Try.func5, Try.ntmps5
  go_wp2_with fail
  rw [← HS.out, ← HA.out]
  refine wrp (S := fun w' => Below s.heap.size s w' ∧ w'.cell? ⟨A, 0, none⟩ = some (.int .i64 x1) ∧ w'.cell? ⟨A, 1, none⟩ = some (.int .i64 x2) ∧ w'.cell? ⟨A, 2, none⟩ = some (.int .i64 x3)) (by kernel_rfl) (fun w' hx => ⟨hx, belK hx hbx.1 zA, belK hx hbx.2.1 zA, belK hx hbx.2.2 zA⟩) (fun HKP hHeld => ?_)
  clear hbx zA
  refine tk 0 ?_
  refine tk 1 ?_
  refine rd1 2 (by kernel_rfl) rfl fun K hK => ?_
  go_simp
  (go_at_call 11; refine (h1.out _ _).mono ?_; rintro e y2 ⟨rfl, hbx⟩)
  try (go_wp2_with fail)
  refine hK.out _ _ (HKP.out y2 (hHeld.1.trans (hbx.mono hHeld.1.size))) (fun hHeld => ?_)
  clear hK K hbx
  try simp only [pz]
  refine tk 3 ?_
  refine tk 4 ?_
  refine tk 5 ?_
  refine tk 6 ?_
  refine rd1 7 (by kernel_rfl) rfl fun K hK => ?_
  go_simp
  (go_at_call 8; refine (h2.out _).mono ?_; rintro e y7 ⟨rfl, hbx⟩)
  try (go_wp2_with fail)
  refine hK.out _ _ (HKP.out y7 (hHeld.1.trans (hbx.mono hHeld.1.size))) (fun hHeld => ?_)
  clear hK K hbx
  try simp only [pz]
  refine tk 8 ?_
  refine tk 9 ?_
  refine tk 10 ?_
  refine tk 11 ?_
  refine tk 12 ?_
  refine rd1 13 (by kernel_rfl) rfl fun K hK => ?_
  go_simp
  (go_at_call 19; refine (h3.out _).mono ?_; rintro e y13 ⟨rfl, hbx⟩)
  try (go_wp2_with fail)
  refine hK.out _ _ (HKP.out y13 (hHeld.1.trans (hbx.mono hHeld.1.size))) (fun hHeld => ?_)
  clear hK K hbx
  try simp only [pz]
  refine tk 14 ?_
  refine tk 15 ?_
  refine tk 16 ?_
  refine tk 17 ?_
  refine tk 18 ?_
  refine tk 21 ?_
  refine tk 22 ?_
  refine tk 26 ?_
  refine rd1 19 (by kernel_rfl) rfl fun K hK => ?_
  go_simp
  (go_at_call 16; refine (h4.out _).mono ?_; rintro e y19 ⟨rfl, hbx⟩)
  try (go_wp2_with fail)
  refine hK.out _ _ (HKP.out y19 (hHeld.1.trans (hbx.mono hHeld.1.size))) (fun hHeld => ?_)
  clear hK K hbx
  try simp only [pz]
  refine tk 20 ?_
  refine rd1 23 (by kernel_rfl) rfl fun K hK => ?_
  go_simp
  (go_at_call 15; refine (h5.out _).mono ?_; rintro e y23 ⟨rfl, hbx⟩)
  try (go_wp2_with fail)
  refine hK.out _ _ (HKP.out y23 (hHeld.1.trans (hbx.mono hHeld.1.size))) (fun hHeld => ?_)
  clear hK K hbx
  try simp only [pz]
  refine tk 24 ?_
  refine tk 25 ?_
  rw [show IntKind.i64.wrap 0 = 0 from rfl]
  refine rd1 27 (by kernel_rfl) rfl fun K hK => ?_
  go_simp
  (go_at_call 18; refine (cells_nil _).mono ?_; rintro e y27 ⟨rfl, hbx⟩)
  try (go_wp2_with fail)
  refine hK.out _ _ (HKP.out y27 (hHeld.1.trans (hbx.mono hHeld.1.size))) (fun hHeld => ?_)
  clear hK K hbx
  try simp only [pz]
  refine tk 28 ?_
  refine tk 29 ?_
  rw [show IntKind.i64.wrap 0 = 0 from rfl]
  refine tk 30 ?_
  refine tk 31 ?_
  refine tk 32 ?_
  refine rd1 33 (by kernel_rfl) rfl fun K hK => ?_
  go_simp
  (go_at_call 6; refine (known28_any _).mono ?_; rintro e y33 ⟨rfl, hbx⟩)
  try (go_wp2_with fail)
  refine hK.out _ _ (HKP.out y33 (hHeld.1.trans (hbx.mono hHeld.1.size))) (fun hHeld => ?_)
  clear hK K hbx
  try simp only [pz]
  refine tk 34 ?_
  refine tk 35 ?_
  refine wpAnyH_done (by kernel_rfl) ?_ _
  all_goals go_wp2_with fail
  all_goals first | go_ret | go_ret2
  exact ⟨rfl, HB.out.trans (hHeld.1.mono HB.out.size)⟩
end Go.Proofs.Ytbfifgnookpfdaa
