/-
  LAYER 11, REFERENCES: Insert2 where the first end leaves the grid (the document's).
-/
import Derived.Test.YtlpjaflolnggnaaGreatDoorCel12
namespace Go.Proofs.YtlpjaflolnggnaaGreatDoor
open Go.RowKit Go.Shelf
set_option linter.unusedSimpArgs false
set_option linter.unusedVariables false

set_option maxRecDepth 100000 in
set_option maxHeartbeats 8000000 in
theorem refInsert2_out (a b : Rf) (way x n : Int) (h1 : insB a way x n = false) (w : World) (hs : a.sh.size ≤ maxLen) (hs2 : b.sh.size ≤ maxLen) (g1 : rgtR a = true) (g2 : rgtR b = true) (g3 : mayB way x n = true) (g4 : ¬ plZ b way < plZ a way) :
    Calls Tryz.prog 13 #[.agg #[.string a.sh, .int .i64 a.c, .int .i64 a.r, .bool a.fc, .bool a.fr], .agg #[.string b.sh, .int .i64 b.c, .int .i64 b.r, .bool b.fc, .bool b.fr], .int .i64 way, .int .i64 x, .int .i64 n] w fun e w' => e = .returned (.tuple #[.agg #[.string ⟨#[]⟩, .int .i64 0, .int .i64 0, .bool false, .bool false], .agg #[.string ⟨#[]⟩, .int .i64 0, .int .i64 0, .bool false, .bool false], .bool false]) ∧ Below w.heap.size w w' := by
  have hud : undef = Value.tuple #[] := rfl
  have HA := Lib.hid (fun w => right2_any a true w hs g1)
  have HB := Lib.hid (fun w => right2_any b true w hs2 g2)
  have HM := Lib.hid (fun w => refMay_any way x n true w g3)
  have HPa := Lib.hid (fun w => refPlace_any a way _ w rfl)
  have HPb := Lib.hid (fun w => refPlace_any b way _ w rfl)
  have H1 := Lib.hid (fun w => refInsert_any a way x n _ _ w hs rfl rfl)
  rw [h1, insR_no h1] at H1
  clear h1
  clear g1 g2 g3
  generalize plZ a way = za at *
  generalize plZ b way = zb at *
  go_enter Tryz.func13, Tryz.ntmps13
  go_wp2_with fail
  obtain ⟨s1, hws⟩ : ∃ s, s = ((((w.alloc (.cells #[.string a.sh, .int .i64 a.c, .int .i64 a.r, .bool a.fc, .bool a.fr] 23)).alloc (.cells #[.string b.sh, .int .i64 b.c, .int .i64 b.r, .bool b.fc, .bool b.fr] 23)).alloc (.cells #[.string ⟨#[]⟩, .int .i64 0, .int .i64 0, .bool false, .bool false] 23)).alloc (.cells #[.string ⟨#[]⟩, .int .i64 0, .int .i64 0, .bool false, .bool false] 23)) := ⟨_, rfl⟩
  have hBs : Below w.heap.size w s1 := by rw [hws]; exact (((((Below.refl w.heap.size w).alloc (by simp) _).alloc (by simp) _).alloc (by simp; omega) _).alloc (by simp; omega) _)
  obtain ⟨A, hdA⟩ : ∃ b, b = w.heap.size := ⟨_, rfl⟩
  obtain ⟨B, hdB⟩ : ∃ b, b = w.heap.size + 1 := ⟨_, rfl⟩
  obtain ⟨C, hdC⟩ : ∃ b, b = w.heap.size + 1 + 1 := ⟨_, rfl⟩
  obtain ⟨D, hdD⟩ : ∃ b, b = w.heap.size + 1 + 1 + 1 := ⟨_, rfl⟩
  have hsz : s1.heap.size = w.heap.size + 1 + 1 + 1 + 1 := by rw [hws]; simp
  have dCA : C ≠ A := by omega
  have dCB : C ≠ B := by omega
  have dCD : C ≠ D := by omega
  have dDA : D ≠ A := by omega
  have dDB : D ≠ B := by omega
  have dDC : D ≠ C := by omega
  have kA0 : s1.cell? ⟨A, 0, none⟩ = some (.string a.sh) := by rw [hws]; simp [go_sem, hdA, hdB, hdC, hdD]
  have kA1 : s1.cell? ⟨A, 1, none⟩ = some (.int .i64 a.c) := by rw [hws]; simp [go_sem, hdA, hdB, hdC, hdD]
  have kA2 : s1.cell? ⟨A, 2, none⟩ = some (.int .i64 a.r) := by rw [hws]; simp [go_sem, hdA, hdB, hdC, hdD]
  have kA3 : s1.cell? ⟨A, 3, none⟩ = some (.bool a.fc) := by rw [hws]; simp [go_sem, hdA, hdB, hdC, hdD]
  have kA4 : s1.cell? ⟨A, 4, none⟩ = some (.bool a.fr) := by rw [hws]; simp [go_sem, hdA, hdB, hdC, hdD]
  have zA : A < s1.heap.size := by omega
  have lA : w.heap.size ≤ A := by have := Nat.le_refl w.heap.size; omega
  have kB0 : s1.cell? ⟨B, 0, none⟩ = some (.string b.sh) := by rw [hws]; simp [go_sem, hdA, hdB, hdC, hdD]
  have kB1 : s1.cell? ⟨B, 1, none⟩ = some (.int .i64 b.c) := by rw [hws]; simp [go_sem, hdA, hdB, hdC, hdD]
  have kB2 : s1.cell? ⟨B, 2, none⟩ = some (.int .i64 b.r) := by rw [hws]; simp [go_sem, hdA, hdB, hdC, hdD]
  have kB3 : s1.cell? ⟨B, 3, none⟩ = some (.bool b.fc) := by rw [hws]; simp [go_sem, hdA, hdB, hdC, hdD]
  have kB4 : s1.cell? ⟨B, 4, none⟩ = some (.bool b.fr) := by rw [hws]; simp [go_sem, hdA, hdB, hdC, hdD]
  have zB : B < s1.heap.size := by omega
  have lB : w.heap.size ≤ B := by have := Nat.le_refl w.heap.size; omega
  have kC0 : s1.cell? ⟨C, 0, none⟩ = some (.string ⟨#[]⟩) := by rw [hws]; simp [go_sem, hdA, hdB, hdC, hdD]
  have fC0 : s1.frozen? ⟨C, 0, none⟩ = false := by rw [hws]; simp [go_sem, hdA, hdB, hdC, hdD]
  have kC1 : s1.cell? ⟨C, 1, none⟩ = some (.int .i64 0) := by rw [hws]; simp [go_sem, hdA, hdB, hdC, hdD]
  have fC1 : s1.frozen? ⟨C, 1, none⟩ = false := by rw [hws]; simp [go_sem, hdA, hdB, hdC, hdD]
  have kC2 : s1.cell? ⟨C, 2, none⟩ = some (.int .i64 0) := by rw [hws]; simp [go_sem, hdA, hdB, hdC, hdD]
  have fC2 : s1.frozen? ⟨C, 2, none⟩ = false := by rw [hws]; simp [go_sem, hdA, hdB, hdC, hdD]
  have kC3 : s1.cell? ⟨C, 3, none⟩ = some (.bool false) := by rw [hws]; simp [go_sem, hdA, hdB, hdC, hdD]
  have fC3 : s1.frozen? ⟨C, 3, none⟩ = false := by rw [hws]; simp [go_sem, hdA, hdB, hdC, hdD]
  have kC4 : s1.cell? ⟨C, 4, none⟩ = some (.bool false) := by rw [hws]; simp [go_sem, hdA, hdB, hdC, hdD]
  have fC4 : s1.frozen? ⟨C, 4, none⟩ = false := by rw [hws]; simp [go_sem, hdA, hdB, hdC, hdD]
  have zC : C < s1.heap.size := by omega
  have lC : w.heap.size ≤ C := by have := Nat.le_refl w.heap.size; omega
  have kD0 : s1.cell? ⟨D, 0, none⟩ = some (.string ⟨#[]⟩) := by rw [hws]; simp [go_sem, hdA, hdB, hdC, hdD]
  have fD0 : s1.frozen? ⟨D, 0, none⟩ = false := by rw [hws]; simp [go_sem, hdA, hdB, hdC, hdD]
  have kD1 : s1.cell? ⟨D, 1, none⟩ = some (.int .i64 0) := by rw [hws]; simp [go_sem, hdA, hdB, hdC, hdD]
  have fD1 : s1.frozen? ⟨D, 1, none⟩ = false := by rw [hws]; simp [go_sem, hdA, hdB, hdC, hdD]
  have kD2 : s1.cell? ⟨D, 2, none⟩ = some (.int .i64 0) := by rw [hws]; simp [go_sem, hdA, hdB, hdC, hdD]
  have fD2 : s1.frozen? ⟨D, 2, none⟩ = false := by rw [hws]; simp [go_sem, hdA, hdB, hdC, hdD]
  have kD3 : s1.cell? ⟨D, 3, none⟩ = some (.bool false) := by rw [hws]; simp [go_sem, hdA, hdB, hdC, hdD]
  have fD3 : s1.frozen? ⟨D, 3, none⟩ = false := by rw [hws]; simp [go_sem, hdA, hdB, hdC, hdD]
  have kD4 : s1.cell? ⟨D, 4, none⟩ = some (.bool false) := by rw [hws]; simp [go_sem, hdA, hdB, hdC, hdD]
  have fD4 : s1.frozen? ⟨D, 4, none⟩ = false := by rw [hws]; simp [go_sem, hdA, hdB, hdC, hdD]
  have zD : D < s1.heap.size := by omega
  have lD : w.heap.size ≤ D := by have := Nat.le_refl w.heap.size; omega
  rw [← hws]
  try rw [← hdD]
  try rw [← hdC]
  try rw [← hdB]
  try rw [← hdA]
  clear hws hsz hdA hdB hdC hdD
  have hBo := hBs; clear hBs
  have HF : Hid (∀ W, Below s1.heap.size s1 W → Below w.heap.size w W) := fun W hW => hBo.trans (hW.mono hBo.size)
  clear hBo
  refine wp_region_held_drew (S := fun w' => w'.cell? ⟨A, 0, none⟩ = some (.string a.sh) ∧ w'.cell? ⟨A, 1, none⟩ = some (.int .i64 a.c) ∧ w'.cell? ⟨A, 2, none⟩ = some (.int .i64 a.r) ∧ w'.cell? ⟨A, 3, none⟩ = some (.bool a.fc) ∧ w'.cell? ⟨A, 4, none⟩ = some (.bool a.fr) ∧ w'.cell? ⟨B, 0, none⟩ = some (.string b.sh) ∧ w'.cell? ⟨B, 1, none⟩ = some (.int .i64 b.c) ∧ w'.cell? ⟨B, 2, none⟩ = some (.int .i64 b.r) ∧ w'.cell? ⟨B, 3, none⟩ = some (.bool b.fc) ∧ w'.cell? ⟨B, 4, none⟩ = some (.bool b.fr)) (by kernel_rfl) (by ((try dsimp only); (go_keep))) (fun hHeld => ?_)
  refine wpAnyH_take (i := 0) (v := ?_) rfl (by kernel_rfl) (by kernel_rfl) (by kernel_rfl) (fun _ _ _ h => h) (Or.inl ⟨by rfl, ?_⟩) (by assumption) ?_
  rotate_left 1
  · (intro w hSw; (try dsimp only at hSw); go_simp; first | done | with_reducible rfl)
  try simp only [Act.put, List.getElem_toArray, List.getElem_cons_succ, List.getElem_cons_zero, List.setIfInBounds_toArray, List.set_cons_zero, List.set_cons_succ]
  refine wpAnyH_ready (rs := [1]) (by kernel_rfl) (by simp) ?_
  refine AllReadyH.cons rfl (fun K hK => ?_) AllReadyH.nil
  go_simp
  (go_at_call 20; refine (HA.out _).mono ?_; rintro e x2 ⟨rfl, hbx⟩; have hTx : Below s1.heap.size s1 x2 := (by first | exact (Below.refl _ _).drew.trans hbx | exact Below.trans (by assumption) (hbx.mono (Below.size (by assumption))) | exact (Below.refl _ _).trans hbx); obtain ⟨hcx, hfx⟩ := bcell hTx)
  try (go_wp2_with fail)
  refine hK.out _ _ (by ((try dsimp only); (go_keep))) (fun hHeld => ?_)
  clear hK K
  try simp only [Act.put, List.getElem_toArray, List.getElem_cons_succ, List.getElem_cons_zero, List.setIfInBounds_toArray, List.set_cons_zero, List.set_cons_succ]
  refine wpAnyH_take (i := 2) (v := ?_) rfl (by kernel_rfl) (by kernel_rfl) (by kernel_rfl) (fun _ _ _ h => h) (Or.inl ⟨by rfl, ?_⟩) (by assumption) ?_
  rotate_left 1
  · (intro w hSw; (try dsimp only at hSw); go_simp; first | done | with_reducible rfl)
  try simp only [Act.put, List.getElem_toArray, List.getElem_cons_succ, List.getElem_cons_zero, List.setIfInBounds_toArray, List.set_cons_zero, List.set_cons_succ]
  refine wpAnyH_take (i := 3) (v := ?_) rfl (by kernel_rfl) (by kernel_rfl) (by kernel_rfl) (fun _ _ _ h => h) (Or.inl ⟨by rfl, ?_⟩) (by assumption) ?_
  rotate_left 1
  · (intro w hSw; (try dsimp only at hSw); go_simp; first | done | with_reducible rfl)
  try simp only [Act.put, List.getElem_toArray, List.getElem_cons_succ, List.getElem_cons_zero, List.setIfInBounds_toArray, List.set_cons_zero, List.set_cons_succ]
  refine wpAnyH_take (i := 4) (v := ?_) rfl (by kernel_rfl) (by kernel_rfl) (by kernel_rfl) (fun _ _ _ h => h) (Or.inl ⟨by rfl, ?_⟩) (by assumption) ?_
  rotate_left 1
  · (intro w hSw; (try dsimp only at hSw); go_simp; first | done | with_reducible rfl)
  try simp only [Act.put, List.getElem_toArray, List.getElem_cons_succ, List.getElem_cons_zero, List.setIfInBounds_toArray, List.set_cons_zero, List.set_cons_succ]
  refine wpAnyH_ready (rs := [5]) (by kernel_rfl) (by simp) ?_
  refine AllReadyH.cons rfl (fun K hK => ?_) AllReadyH.nil
  go_simp
  (go_at_call 20; refine (HB.out _).mono ?_; rintro e x2 ⟨rfl, hbx⟩; have hTx : Below s1.heap.size s1 x2 := (by first | exact (Below.refl _ _).drew.trans hbx | exact Below.trans (by assumption) (hbx.mono (Below.size (by assumption))) | exact (Below.refl _ _).trans hbx); obtain ⟨hcx, hfx⟩ := bcell hTx)
  try (go_wp2_with fail)
  refine hK.out _ _ (by ((try dsimp only); (go_keep))) (fun hHeld => ?_)
  clear hK K
  try simp only [Act.put, List.getElem_toArray, List.getElem_cons_succ, List.getElem_cons_zero, List.setIfInBounds_toArray, List.set_cons_zero, List.set_cons_succ]
  refine wpAnyH_take (i := 6) (v := ?_) rfl (by kernel_rfl) (by kernel_rfl) (by kernel_rfl) (fun _ _ _ h => h) (Or.inl ⟨by rfl, ?_⟩) (by assumption) ?_
  rotate_left 1
  · (intro w hSw; (try dsimp only at hSw); go_simp; first | done | with_reducible rfl)
  try simp only [Act.put, List.getElem_toArray, List.getElem_cons_succ, List.getElem_cons_zero, List.setIfInBounds_toArray, List.set_cons_zero, List.set_cons_succ]
  refine wpAnyH_take (i := 7) (v := ?_) rfl (by kernel_rfl) (by kernel_rfl) (by kernel_rfl) (fun _ _ _ h => h) (Or.inl ⟨by rfl, ?_⟩) (by assumption) ?_
  rotate_left 1
  · (intro w hSw; (try dsimp only at hSw); go_simp; first | done | with_reducible rfl)
  try simp only [Act.put, List.getElem_toArray, List.getElem_cons_succ, List.getElem_cons_zero, List.setIfInBounds_toArray, List.set_cons_zero, List.set_cons_succ]
  refine wpAnyH_take (i := 8) (v := ?_) rfl (by kernel_rfl) (by kernel_rfl) (by kernel_rfl) (fun _ _ _ h => h) (Or.inl ⟨by rfl, ?_⟩) (by assumption) ?_
  rotate_left 1
  · (intro w hSw; (try dsimp only at hSw); go_simp; first | done | with_reducible rfl)
  try simp only [Act.put, List.getElem_toArray, List.getElem_cons_succ, List.getElem_cons_zero, List.setIfInBounds_toArray, List.set_cons_zero, List.set_cons_succ]
  refine wpAnyH_take (i := 9) (v := ?_) rfl (by kernel_rfl) (by kernel_rfl) (by kernel_rfl) (fun _ _ _ h => h) (Or.inl ⟨by rfl, ?_⟩) (by assumption) ?_
  rotate_left 1
  · (intro w hSw; (try dsimp only at hSw); go_simp; first | done | with_reducible rfl)
  try simp only [Act.put, List.getElem_toArray, List.getElem_cons_succ, List.getElem_cons_zero, List.setIfInBounds_toArray, List.set_cons_zero, List.set_cons_succ]
  refine wpAnyH_take (i := 10) (v := ?_) rfl (by kernel_rfl) (by kernel_rfl) (by kernel_rfl) (fun _ _ _ h => h) (Or.inl ⟨by rfl, ?_⟩) (by assumption) ?_
  rotate_left 1
  · (intro w hSw; (try dsimp only at hSw); go_simp; first | done | with_reducible rfl)
  try simp only [Act.put, List.getElem_toArray, List.getElem_cons_succ, List.getElem_cons_zero, List.setIfInBounds_toArray, List.set_cons_zero, List.set_cons_succ]
  refine wpAnyH_take (i := 11) (v := ?_) rfl (by kernel_rfl) (by kernel_rfl) (by kernel_rfl) (fun _ _ _ h => h) (Or.inl ⟨by rfl, ?_⟩) (by assumption) ?_
  rotate_left 1
  · (intro w hSw; (try dsimp only at hSw); go_simp; first | done | with_reducible rfl)
  try simp only [Act.put, List.getElem_toArray, List.getElem_cons_succ, List.getElem_cons_zero, List.setIfInBounds_toArray, List.set_cons_zero, List.set_cons_succ]
  refine wpAnyH_ready (rs := [12]) (by kernel_rfl) (by simp) ?_
  refine AllReadyH.cons rfl (fun K hK => ?_) AllReadyH.nil
  go_simp
  (go_at_call 23; refine (HM.out _).mono ?_; rintro e wx ⟨rfl, rfl⟩)
  try (go_wp2_with fail)
  refine hK.out _ _ (by ((try dsimp only); (go_keep))) (fun hHeld => ?_)
  clear hK K
  try simp only [Act.put, List.getElem_toArray, List.getElem_cons_succ, List.getElem_cons_zero, List.setIfInBounds_toArray, List.set_cons_zero, List.set_cons_succ]
  refine wpAnyH_take (i := 13) (v := ?_) rfl (by kernel_rfl) (by kernel_rfl) (by kernel_rfl) (fun _ _ _ h => h) (Or.inl ⟨by rfl, ?_⟩) (by assumption) ?_
  rotate_left 1
  · (intro w hSw; (try dsimp only at hSw); go_simp; first | done | with_reducible rfl)
  try simp only [Act.put, List.getElem_toArray, List.getElem_cons_succ, List.getElem_cons_zero, List.setIfInBounds_toArray, List.set_cons_zero, List.set_cons_succ]
  refine wpAnyH_take (i := 14) (v := ?_) rfl (by kernel_rfl) (by kernel_rfl) (by kernel_rfl) (fun _ _ _ h => h) (Or.inl ⟨by rfl, ?_⟩) (by assumption) ?_
  rotate_left 1
  · (intro w hSw; (try dsimp only at hSw); go_simp; first | done | with_reducible rfl)
  try simp only [Act.put, List.getElem_toArray, List.getElem_cons_succ, List.getElem_cons_zero, List.setIfInBounds_toArray, List.set_cons_zero, List.set_cons_succ]
  refine wpAnyH_take (i := 15) (v := ?_) rfl (by kernel_rfl) (by kernel_rfl) (by kernel_rfl) (fun _ _ _ h => h) (Or.inl ⟨by rfl, ?_⟩) (by assumption) ?_
  rotate_left 1
  · (intro w hSw; (try dsimp only at hSw); go_simp; first | done | with_reducible rfl)
  try simp only [Act.put, List.getElem_toArray, List.getElem_cons_succ, List.getElem_cons_zero, List.setIfInBounds_toArray, List.set_cons_zero, List.set_cons_succ]
  refine wpAnyH_take (i := 16) (v := ?_) rfl (by kernel_rfl) (by kernel_rfl) (by kernel_rfl) (fun _ _ _ h => h) (Or.inl ⟨by rfl, ?_⟩) (by assumption) ?_
  rotate_left 1
  · (intro w hSw; (try dsimp only at hSw); go_simp; first | done | with_reducible rfl)
  try simp only [Act.put, List.getElem_toArray, List.getElem_cons_succ, List.getElem_cons_zero, List.setIfInBounds_toArray, List.set_cons_zero, List.set_cons_succ]
  refine wpAnyH_take (i := 17) (v := ?_) rfl (by kernel_rfl) (by kernel_rfl) (by kernel_rfl) (fun _ _ _ h => h) (Or.inl ⟨by rfl, ?_⟩) (by assumption) ?_
  rotate_left 1
  · (intro w hSw; (try dsimp only at hSw); go_simp; first | done | with_reducible rfl)
  try simp only [Act.put, List.getElem_toArray, List.getElem_cons_succ, List.getElem_cons_zero, List.setIfInBounds_toArray, List.set_cons_zero, List.set_cons_succ]
  refine wpAnyH_take (i := 19) (v := ?_) rfl (by kernel_rfl) (by kernel_rfl) (by kernel_rfl) (fun _ _ _ h => h) (Or.inl ⟨by rfl, ?_⟩) (by assumption) ?_
  rotate_left 1
  · (intro w hSw; (try dsimp only at hSw); go_simp; first | done | with_reducible rfl)
  try simp only [Act.put, List.getElem_toArray, List.getElem_cons_succ, List.getElem_cons_zero, List.setIfInBounds_toArray, List.set_cons_zero, List.set_cons_succ]
  refine wpAnyH_take (i := 20) (v := ?_) rfl (by kernel_rfl) (by kernel_rfl) (by kernel_rfl) (fun _ _ _ h => h) (Or.inl ⟨by rfl, ?_⟩) (by assumption) ?_
  rotate_left 1
  · (intro w hSw; (try dsimp only at hSw); go_simp; first | done | with_reducible rfl)
  try simp only [Act.put, List.getElem_toArray, List.getElem_cons_succ, List.getElem_cons_zero, List.setIfInBounds_toArray, List.set_cons_zero, List.set_cons_succ]
  refine wpAnyH_ready (rs := [18]) (by kernel_rfl) (by simp) ?_
  refine AllReadyH.cons rfl (fun K hK => ?_) AllReadyH.nil
  go_simp
  (go_at_call 24; refine (HPa.out _).mono ?_; rintro e x2 ⟨rfl, hbx⟩; have hTx : Below s1.heap.size s1 x2 := (by first | exact (Below.refl _ _).drew.trans hbx | exact Below.trans (by assumption) (hbx.mono (Below.size (by assumption))) | exact (Below.refl _ _).trans hbx); obtain ⟨hcx, hfx⟩ := bcell hTx)
  try (go_wp2_with fail)
  refine hK.out _ _ (by ((try dsimp only); (go_keep))) (fun hHeld => ?_)
  clear hK K
  try simp only [Act.put, List.getElem_toArray, List.getElem_cons_succ, List.getElem_cons_zero, List.setIfInBounds_toArray, List.set_cons_zero, List.set_cons_succ]
  refine wpAnyH_ready (rs := [21]) (by kernel_rfl) (by simp) ?_
  refine AllReadyH.cons rfl (fun K hK => ?_) AllReadyH.nil
  go_simp
  (go_at_call 24; refine (HPb.out _).mono ?_; rintro e x2 ⟨rfl, hbx⟩; have hTx : Below s1.heap.size s1 x2 := (by first | exact (Below.refl _ _).drew.trans hbx | exact Below.trans (by assumption) (hbx.mono (Below.size (by assumption))) | exact (Below.refl _ _).trans hbx); obtain ⟨hcx, hfx⟩ := bcell hTx)
  try (go_wp2_with fail)
  refine hK.out _ _ (by ((try dsimp only); (go_keep))) (fun hHeld => ?_)
  clear hK K
  try simp only [Act.put, List.getElem_toArray, List.getElem_cons_succ, List.getElem_cons_zero, List.setIfInBounds_toArray, List.set_cons_zero, List.set_cons_succ]
  refine wpAnyH_take (i := 22) (v := ?_) rfl (by kernel_rfl) (by kernel_rfl) (by kernel_rfl) (fun _ _ _ h => h) (Or.inl ⟨by rfl, ?_⟩) (by assumption) ?_
  rotate_left 1
  · (intro w hSw; (try dsimp only at hSw); go_simp; first | done | with_reducible rfl)
  try simp only [Act.put, List.getElem_toArray, List.getElem_cons_succ, List.getElem_cons_zero, List.setIfInBounds_toArray, List.set_cons_zero, List.set_cons_succ]
  refine wpAnyH_take (i := 23) (v := ?_) rfl (by kernel_rfl) (by kernel_rfl) (by kernel_rfl) (fun _ _ _ h => h) (Or.inl ⟨by rfl, ?_⟩) (by assumption) ?_
  rotate_left 1
  · (intro w hSw; (try dsimp only at hSw); go_simp; first | done | with_reducible rfl)
  try simp only [Act.put, List.getElem_toArray, List.getElem_cons_succ, List.getElem_cons_zero, List.setIfInBounds_toArray, List.set_cons_zero, List.set_cons_succ]
  refine wpAnyH_done (by kernel_rfl) ?_ _
  go_wp2_with fail
  replace kA0 := (hcx A 0 zA).trans kA0
  replace kA1 := (hcx A 1 zA).trans kA1
  replace kA2 := (hcx A 2 zA).trans kA2
  replace kA3 := (hcx A 3 zA).trans kA3
  replace kA4 := (hcx A 4 zA).trans kA4
  replace zA := Nat.lt_of_lt_of_le zA hTx.size
  replace kB0 := (hcx B 0 zB).trans kB0
  replace kB1 := (hcx B 1 zB).trans kB1
  replace kB2 := (hcx B 2 zB).trans kB2
  replace kB3 := (hcx B 3 zB).trans kB3
  replace kB4 := (hcx B 4 zB).trans kB4
  replace zB := Nat.lt_of_lt_of_le zB hTx.size
  replace kC0 := (hcx C 0 zC).trans kC0
  replace fC0 := (hfx C 0 zC).trans fC0
  replace kC1 := (hcx C 1 zC).trans kC1
  replace fC1 := (hfx C 1 zC).trans fC1
  replace kC2 := (hcx C 2 zC).trans kC2
  replace fC2 := (hfx C 2 zC).trans fC2
  replace kC3 := (hcx C 3 zC).trans kC3
  replace fC3 := (hfx C 3 zC).trans fC3
  replace kC4 := (hcx C 4 zC).trans kC4
  replace fC4 := (hfx C 4 zC).trans fC4
  replace zC := Nat.lt_of_lt_of_le zC hTx.size
  replace kD0 := (hcx D 0 zD).trans kD0
  replace fD0 := (hfx D 0 zD).trans fD0
  replace kD1 := (hcx D 1 zD).trans kD1
  replace fD1 := (hfx D 1 zD).trans fD1
  replace kD2 := (hcx D 2 zD).trans kD2
  replace fD2 := (hfx D 2 zD).trans fD2
  replace kD3 := (hcx D 3 zD).trans kD3
  replace fD3 := (hfx D 3 zD).trans fD3
  replace kD4 := (hcx D 4 zD).trans kD4
  replace fD4 := (hfx D 4 zD).trans fD4
  replace zD := Nat.lt_of_lt_of_le zD hTx.size
  have hBo := HF.out _ hTx
  clear HF hcx hfx hTx
  refine (H1.out _).mono ?_; rintro e s3 ⟨rfl, hb⟩
  replace kA0 := belK hb kA0 zA; replace kA1 := belK hb kA1 zA; replace kA2 := belK hb kA2 zA; replace kA3 := belK hb kA3 zA; replace kA4 := belK hb kA4 zA; replace zA := Nat.lt_of_lt_of_le zA hb.size
  replace kB0 := belK hb kB0 zB; replace kB1 := belK hb kB1 zB; replace kB2 := belK hb kB2 zB; replace kB3 := belK hb kB3 zB; replace kB4 := belK hb kB4 zB; replace zB := Nat.lt_of_lt_of_le zB hb.size
  replace kC0 := belK hb kC0 zC; replace fC0 := belF hb fC0 zC; replace kC1 := belK hb kC1 zC; replace fC1 := belF hb fC1 zC; replace kC2 := belK hb kC2 zC; replace fC2 := belF hb fC2 zC; replace kC3 := belK hb kC3 zC; replace fC3 := belF hb fC3 zC; replace kC4 := belK hb kC4 zC; replace fC4 := belF hb fC4 zC; replace zC := Nat.lt_of_lt_of_le zC hb.size
  replace kD0 := belK hb kD0 zD; replace fD0 := belF hb fD0 zD; replace kD1 := belK hb kD1 zD; replace fD1 := belF hb fD1 zD; replace kD2 := belK hb kD2 zD; replace fD2 := belF hb fD2 zD; replace kD3 := belK hb kD3 zD; replace fD3 := belF hb fD3 zD; replace kD4 := belK hb kD4 zD; replace fD4 := belF hb fD4 zD; replace zD := Nat.lt_of_lt_of_le zD hb.size
  replace hBo := hBo.trans (hb.mono hBo.size)
  clear hb
  all_goals go_wp2_with fail
  all_goals refine bodyPost_ret (v := .tuple #[.agg #[.string ⟨#[]⟩, .int .i64 0, .int .i64 0, .bool false, .bool false], .agg #[.string ⟨#[]⟩, .int .i64 0, .int .i64 0, .bool false, .bool false], .bool false]) (by simp [results, Tryz.results13, go_sem, kC0, kC1, kC2, kC3, kC4, kD0, kD1, kD2, kD3, kD4, zC, zD]) rfl ⟨rfl, ?_⟩
  all_goals exact (al_below ((((((((((hBo.setCell lC _).setCell lC _).setCell lC _).setCell lC _).setCell lC _).setCell lD _).setCell lD _).setCell lD _).setCell lD _).setCell lD _))
end Go.Proofs.YtlpjaflolnggnaaGreatDoor
