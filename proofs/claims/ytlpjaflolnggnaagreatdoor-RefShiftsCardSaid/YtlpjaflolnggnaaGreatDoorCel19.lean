/-
  LAYER 11, REFERENCES: Delete2, the first end kept, the second one taken out (the document's).
-/
import Derived.Test.YtlpjaflolnggnaaGreatDoorCel12
namespace Go.Proofs.YtlpjaflolnggnaaGreatDoor
open Go.RowKit Go.Shelf
set_option linter.unusedSimpArgs false
set_option linter.unusedVariables false

set_option maxRecDepth 100000 in
set_option maxHeartbeats 8000000 in
theorem refDelete2_tf (a b : Rf) (way x n : Int) (p q : Rf) (h1 : delB a way x n = true) (h2 : delB b way x n = false) (hp : delR a way x n = p) (hq : ptR b way (x - 1) = q) (zp zq : Int) (hzp : plZ p way = zp) (hzq : plZ q way = zq) (r1 : rgtR p = true) (r2 : rgtR q = true) (g6 : ¬ zq < zp) (sp : p.sh.size ≤ maxLen) (sq : q.sh.size ≤ maxLen) (x1 : 1 ≤ x) (x2 : x ≤ 99) (w : World) (hs : a.sh.size ≤ maxLen) (hs2 : b.sh.size ≤ maxLen) (g1 : rgtR a = true) (g2 : rgtR b = true) (g3 : mayB way x n = true) (g4 : ¬ plZ b way < plZ a way) :
    Calls Tryz.prog 15 #[.agg #[.string a.sh, .int .i64 a.c, .int .i64 a.r, .bool a.fc, .bool a.fr], .agg #[.string b.sh, .int .i64 b.c, .int .i64 b.r, .bool b.fc, .bool b.fr], .int .i64 way, .int .i64 x, .int .i64 n] w fun e w' => e = .returned (.tuple #[.agg #[.string p.sh, .int .i64 p.c, .int .i64 p.r, .bool p.fc, .bool p.fr], .agg #[.string q.sh, .int .i64 q.c, .int .i64 q.r, .bool q.fc, .bool q.fr], .bool true]) ∧ Below w.heap.size w w' := by
  have hud : undef = Value.tuple #[] := rfl
  have HA := Lib.hid (fun w => right2_any a true w hs g1)
  have HB := Lib.hid (fun w => right2_any b true w hs2 g2)
  have HM := Lib.hid (fun w => refMay_any way x n true w g3)
  have HPa := Lib.hid (fun w => refPlace_any a way _ w rfl)
  have HPb := Lib.hid (fun w => refPlace_any b way _ w rfl)
  have H1 := Lib.hid (fun w => refDelete_any a way x n p true w hs hp h1)
  have H2 := Lib.hid (fun w => refDelete_any b way x n rf0 false w hs2 (delR_no h2) h2)
  have HY := Lib.hid (fun w => refPut_any b way (x - 1) q w hq)
  have HPp := Lib.hid (fun w => refPlace_any p way zp w hzp)
  have HPq := Lib.hid (fun w => refPlace_any q way zq w hzq)
  have HRp := Lib.hid (fun w => right2_any p true w sp r1)
  have HRq := Lib.hid (fun w => right2_any q true w sq r2)
  have g7 : decide (zq < zp) = false := decide_eq_false g6
  clear h1 h2 hp hq hzp hzq r1 r2
  clear g1 g2 g3
  generalize plZ a way = za at *
  generalize plZ b way = zb at *
  go_enter Tryz.func15, Tryz.ntmps15
  go_wp2_with fail
  obtain ⟨s1, hws⟩ : ∃ s, s = ((((w.alloc (.cells #[.string a.sh, .int .i64 a.c, .int .i64 a.r, .bool a.fc, .bool a.fr] 23)).alloc (.cells #[.string b.sh, .int .i64 b.c, .int .i64 b.r, .bool b.fc, .bool b.fr] 23)).alloc (.cells #[.string ⟨#[]⟩, .int .i64 0, .int .i64 0, .bool false, .bool false] 23)).alloc (.cells #[.string ⟨#[]⟩, .int .i64 0, .int .i64 0, .bool false, .bool false] 23)) := ⟨_, rfl⟩
  have hBs : Below w.heap.size w s1 := by rw [hws]; exact (((((Below.refl w.heap.size w).alloc (by simp) _).alloc (by simp) _).alloc (by simp; omega) _).alloc (by simp; omega) _)
  obtain ⟨A, hdA⟩ : ∃ b, b = w.heap.size := ⟨_, rfl⟩
  obtain ⟨B, hdB⟩ : ∃ b, b = w.heap.size + 1 := ⟨_, rfl⟩
  obtain ⟨C, hdC⟩ : ∃ b, b = w.heap.size + 1 + 1 := ⟨_, rfl⟩
  obtain ⟨D, hdD⟩ : ∃ b, b = w.heap.size + 1 + 1 + 1 := ⟨_, rfl⟩
  have hsz : s1.heap.size = w.heap.size + 1 + 1 + 1 + 1 := by rw [hws]; simp
  have dCA : C ≠ A := by omega
  have dCB : C ≠ B := by omega
  have dCD : C ≠ D := by omega
  have dDA : D ≠ A := by omega
  have dDB : D ≠ B := by omega
  have dDC : D ≠ C := by omega
  have kA0 : s1.cell? ⟨A, 0, none⟩ = some (.string a.sh) := by rw [hws]; simp [go_sem, hdA, hdB, hdC, hdD]
  have kA1 : s1.cell? ⟨A, 1, none⟩ = some (.int .i64 a.c) := by rw [hws]; simp [go_sem, hdA, hdB, hdC, hdD]
  have kA2 : s1.cell? ⟨A, 2, none⟩ = some (.int .i64 a.r) := by rw [hws]; simp [go_sem, hdA, hdB, hdC, hdD]
  have kA3 : s1.cell? ⟨A, 3, none⟩ = some (.bool a.fc) := by rw [hws]; simp [go_sem, hdA, hdB, hdC, hdD]
  have kA4 : s1.cell? ⟨A, 4, none⟩ = some (.bool a.fr) := by rw [hws]; simp [go_sem, hdA, hdB, hdC, hdD]
  have zA : A < s1.heap.size := by omega
  have lA : w.heap.size ≤ A := by have := Nat.le_refl w.heap.size; omega
  have kB0 : s1.cell? ⟨B, 0, none⟩ = some (.string b.sh) := by rw [hws]; simp [go_sem, hdA, hdB, hdC, hdD]
  have kB1 : s1.cell? ⟨B, 1, none⟩ = some (.int .i64 b.c) := by rw [hws]; simp [go_sem, hdA, hdB, hdC, hdD]
  have kB2 : s1.cell? ⟨B, 2, none⟩ = some (.int .i64 b.r) := by rw [hws]; simp [go_sem, hdA, hdB, hdC, hdD]
  have kB3 : s1.cell? ⟨B, 3, none⟩ = some (.bool b.fc) := by rw [hws]; simp [go_sem, hdA, hdB, hdC, hdD]
  have kB4 : s1.cell? ⟨B, 4, none⟩ = some (.bool b.fr) := by rw [hws]; simp [go_sem, hdA, hdB, hdC, hdD]
  have zB : B < s1.heap.size := by omega
  have lB : w.heap.size ≤ B := by have := Nat.le_refl w.heap.size; omega
  have kC0 : s1.cell? ⟨C, 0, none⟩ = some (.string ⟨#[]⟩) := by rw [hws]; simp [go_sem, hdA, hdB, hdC, hdD]
  have fC0 : s1.frozen? ⟨C, 0, none⟩ = false := by rw [hws]; simp [go_sem, hdA, hdB, hdC, hdD]
  have kC1 : s1.cell? ⟨C, 1, none⟩ = some (.int .i64 0) := by rw [hws]; simp [go_sem, hdA, hdB, hdC, hdD]
  have fC1 : s1.frozen? ⟨C, 1, none⟩ = false := by rw [hws]; simp [go_sem, hdA, hdB, hdC, hdD]
  have kC2 : s1.cell? ⟨C, 2, none⟩ = some (.int .i64 0) := by rw [hws]; simp [go_sem, hdA, hdB, hdC, hdD]
  have fC2 : s1.frozen? ⟨C, 2, none⟩ = false := by rw [hws]; simp [go_sem, hdA, hdB, hdC, hdD]
  have kC3 : s1.cell? ⟨C, 3, none⟩ = some (.bool false) := by rw [hws]; simp [go_sem, hdA, hdB, hdC, hdD]
  have fC3 : s1.frozen? ⟨C, 3, none⟩ = false := by rw [hws]; simp [go_sem, hdA, hdB, hdC, hdD]
  have kC4 : s1.cell? ⟨C, 4, none⟩ = some (.bool false) := by rw [hws]; simp [go_sem, hdA, hdB, hdC, hdD]
  have fC4 : s1.frozen? ⟨C, 4, none⟩ = false := by rw [hws]; simp [go_sem, hdA, hdB, hdC, hdD]
  have zC : C < s1.heap.size := by omega
  have lC : w.heap.size ≤ C := by have := Nat.le_refl w.heap.size; omega
  have kD0 : s1.cell? ⟨D, 0, none⟩ = some (.string ⟨#[]⟩) := by rw [hws]; simp [go_sem, hdA, hdB, hdC, hdD]
  have fD0 : s1.frozen? ⟨D, 0, none⟩ = false := by rw [hws]; simp [go_sem, hdA, hdB, hdC, hdD]
  have kD1 : s1.cell? ⟨D, 1, none⟩ = some (.int .i64 0) := by rw [hws]; simp [go_sem, hdA, hdB, hdC, hdD]
  have fD1 : s1.frozen? ⟨D, 1, none⟩ = false := by rw [hws]; simp [go_sem, hdA, hdB, hdC, hdD]
  have kD2 : s1.cell? ⟨D, 2, none⟩ = some (.int .i64 0) := by rw [hws]; simp [go_sem, hdA, hdB, hdC, hdD]
  have fD2 : s1.frozen? ⟨D, 2, none⟩ = false := by rw [hws]; simp [go_sem, hdA, hdB, hdC, hdD]
  have kD3 : s1.cell? ⟨D, 3, none⟩ = some (.bool false) := by rw [hws]; simp [go_sem, hdA, hdB, hdC, hdD]
  have fD3 : s1.frozen? ⟨D, 3, none⟩ = false := by rw [hws]; simp [go_sem, hdA, hdB, hdC, hdD]
  have kD4 : s1.cell? ⟨D, 4, none⟩ = some (.bool false) := by rw [hws]; simp [go_sem, hdA, hdB, hdC, hdD]
  have fD4 : s1.frozen? ⟨D, 4, none⟩ = false := by rw [hws]; simp [go_sem, hdA, hdB, hdC, hdD]
  have zD : D < s1.heap.size := by omega
  have lD : w.heap.size ≤ D := by have := Nat.le_refl w.heap.size; omega
  rw [← hws]
  try rw [← hdD]
  try rw [← hdC]
  try rw [← hdB]
  try rw [← hdA]
  clear hws hsz hdA hdB hdC hdD
  have hBo := hBs; clear hBs
  have HF : Hid (∀ W, Below s1.heap.size s1 W → Below w.heap.size w W) := fun W hW => hBo.trans (hW.mono hBo.size)
  clear hBo
  refine wp_region_held_drew (S := fun w' => w'.cell? ⟨A, 0, none⟩ = some (.string a.sh) ∧ w'.cell? ⟨A, 1, none⟩ = some (.int .i64 a.c) ∧ w'.cell? ⟨A, 2, none⟩ = some (.int .i64 a.r) ∧ w'.cell? ⟨A, 3, none⟩ = some (.bool a.fc) ∧ w'.cell? ⟨A, 4, none⟩ = some (.bool a.fr) ∧ w'.cell? ⟨B, 0, none⟩ = some (.string b.sh) ∧ w'.cell? ⟨B, 1, none⟩ = some (.int .i64 b.c) ∧ w'.cell? ⟨B, 2, none⟩ = some (.int .i64 b.r) ∧ w'.cell? ⟨B, 3, none⟩ = some (.bool b.fc) ∧ w'.cell? ⟨B, 4, none⟩ = some (.bool b.fr)) (by kernel_rfl) (by ((try dsimp only); (go_keep))) (fun hHeld => ?_)
  refine wpAnyH_take (i := 0) (v := ?_) rfl (by kernel_rfl) (by kernel_rfl) (by kernel_rfl) (fun _ _ _ h => h) (Or.inl ⟨by rfl, ?_⟩) (by assumption) ?_
  rotate_left 1
  · (intro w hSw; (try dsimp only at hSw); go_simp; first | done | with_reducible rfl)
  try simp only [Act.put, List.getElem_toArray, List.getElem_cons_succ, List.getElem_cons_zero, List.setIfInBounds_toArray, List.set_cons_zero, List.set_cons_succ]
  refine wpAnyH_ready (rs := [1]) (by kernel_rfl) (by simp) ?_
  refine AllReadyH.cons rfl (fun K hK => ?_) AllReadyH.nil
  go_simp
  (go_at_call 20; refine (HA.out _).mono ?_; rintro e x2 ⟨rfl, hbx⟩; have hTx : Below s1.heap.size s1 x2 := (by first | exact (Below.refl _ _).drew.trans hbx | exact Below.trans (by assumption) (hbx.mono (Below.size (by assumption))) | exact (Below.refl _ _).trans hbx); obtain ⟨hcx, hfx⟩ := bcell hTx)
  try (go_wp2_with fail)
  refine hK.out _ _ (by ((try dsimp only); (go_keep))) (fun hHeld => ?_)
  clear hK K
  try simp only [Act.put, List.getElem_toArray, List.getElem_cons_succ, List.getElem_cons_zero, List.setIfInBounds_toArray, List.set_cons_zero, List.set_cons_succ]
  refine wpAnyH_take (i := 2) (v := ?_) rfl (by kernel_rfl) (by kernel_rfl) (by kernel_rfl) (fun _ _ _ h => h) (Or.inl ⟨by rfl, ?_⟩) (by assumption) ?_
  rotate_left 1
  · (intro w hSw; (try dsimp only at hSw); go_simp; first | done | with_reducible rfl)
  try simp only [Act.put, List.getElem_toArray, List.getElem_cons_succ, List.getElem_cons_zero, List.setIfInBounds_toArray, List.set_cons_zero, List.set_cons_succ]
  refine wpAnyH_take (i := 3) (v := ?_) rfl (by kernel_rfl) (by kernel_rfl) (by kernel_rfl) (fun _ _ _ h => h) (Or.inl ⟨by rfl, ?_⟩) (by assumption) ?_
  rotate_left 1
  · (intro w hSw; (try dsimp only at hSw); go_simp; first | done | with_reducible rfl)
  try simp only [Act.put, List.getElem_toArray, List.getElem_cons_succ, List.getElem_cons_zero, List.setIfInBounds_toArray, List.set_cons_zero, List.set_cons_succ]
  refine wpAnyH_take (i := 4) (v := ?_) rfl (by kernel_rfl) (by kernel_rfl) (by kernel_rfl) (fun _ _ _ h => h) (Or.inl ⟨by rfl, ?_⟩) (by assumption) ?_
  rotate_left 1
  · (intro w hSw; (try dsimp only at hSw); go_simp; first | done | with_reducible rfl)
  try simp only [Act.put, List.getElem_toArray, List.getElem_cons_succ, List.getElem_cons_zero, List.setIfInBounds_toArray, List.set_cons_zero, List.set_cons_succ]
  refine wpAnyH_ready (rs := [5]) (by kernel_rfl) (by simp) ?_
  refine AllReadyH.cons rfl (fun K hK => ?_) AllReadyH.nil
  go_simp
  (go_at_call 20; refine (HB.out _).mono ?_; rintro e x2 ⟨rfl, hbx⟩; have hTx : Below s1.heap.size s1 x2 := (by first | exact (Below.refl _ _).drew.trans hbx | exact Below.trans (by assumption) (hbx.mono (Below.size (by assumption))) | exact (Below.refl _ _).trans hbx); obtain ⟨hcx, hfx⟩ := bcell hTx)
  try (go_wp2_with fail)
  refine hK.out _ _ (by ((try dsimp only); (go_keep))) (fun hHeld => ?_)
  clear hK K
  try simp only [Act.put, List.getElem_toArray, List.getElem_cons_succ, List.getElem_cons_zero, List.setIfInBounds_toArray, List.set_cons_zero, List.set_cons_succ]
  refine wpAnyH_take (i := 6) (v := ?_) rfl (by kernel_rfl) (by kernel_rfl) (by kernel_rfl) (fun _ _ _ h => h) (Or.inl ⟨by rfl, ?_⟩) (by assumption) ?_
  rotate_left 1
  · (intro w hSw; (try dsimp only at hSw); go_simp; first | done | with_reducible rfl)
  try simp only [Act.put, List.getElem_toArray, List.getElem_cons_succ, List.getElem_cons_zero, List.setIfInBounds_toArray, List.set_cons_zero, List.set_cons_succ]
  refine wpAnyH_take (i := 7) (v := ?_) rfl (by kernel_rfl) (by kernel_rfl) (by kernel_rfl) (fun _ _ _ h => h) (Or.inl ⟨by rfl, ?_⟩) (by assumption) ?_
  rotate_left 1
  · (intro w hSw; (try dsimp only at hSw); go_simp; first | done | with_reducible rfl)
  try simp only [Act.put, List.getElem_toArray, List.getElem_cons_succ, List.getElem_cons_zero, List.setIfInBounds_toArray, List.set_cons_zero, List.set_cons_succ]
  refine wpAnyH_take (i := 8) (v := ?_) rfl (by kernel_rfl) (by kernel_rfl) (by kernel_rfl) (fun _ _ _ h => h) (Or.inl ⟨by rfl, ?_⟩) (by assumption) ?_
  rotate_left 1
  · (intro w hSw; (try dsimp only at hSw); go_simp; first | done | with_reducible rfl)
  try simp only [Act.put, List.getElem_toArray, List.getElem_cons_succ, List.getElem_cons_zero, List.setIfInBounds_toArray, List.set_cons_zero, List.set_cons_succ]
  refine wpAnyH_take (i := 9) (v := ?_) rfl (by kernel_rfl) (by kernel_rfl) (by kernel_rfl) (fun _ _ _ h => h) (Or.inl ⟨by rfl, ?_⟩) (by assumption) ?_
  rotate_left 1
  · (intro w hSw; (try dsimp only at hSw); go_simp; first | done | with_reducible rfl)
  try simp only [Act.put, List.getElem_toArray, List.getElem_cons_succ, List.getElem_cons_zero, List.setIfInBounds_toArray, List.set_cons_zero, List.set_cons_succ]
  refine wpAnyH_take (i := 10) (v := ?_) rfl (by kernel_rfl) (by kernel_rfl) (by kernel_rfl) (fun _ _ _ h => h) (Or.inl ⟨by rfl, ?_⟩) (by assumption) ?_
  rotate_left 1
  · (intro w hSw; (try dsimp only at hSw); go_simp; first | done | with_reducible rfl)
  try simp only [Act.put, List.getElem_toArray, List.getElem_cons_succ, List.getElem_cons_zero, List.setIfInBounds_toArray, List.set_cons_zero, List.set_cons_succ]
  refine wpAnyH_take (i := 11) (v := ?_) rfl (by kernel_rfl) (by kernel_rfl) (by kernel_rfl) (fun _ _ _ h => h) (Or.inl ⟨by rfl, ?_⟩) (by assumption) ?_
  rotate_left 1
  · (intro w hSw; (try dsimp only at hSw); go_simp; first | done | with_reducible rfl)
  try simp only [Act.put, List.getElem_toArray, List.getElem_cons_succ, List.getElem_cons_zero, List.setIfInBounds_toArray, List.set_cons_zero, List.set_cons_succ]
  refine wpAnyH_ready (rs := [12]) (by kernel_rfl) (by simp) ?_
  refine AllReadyH.cons rfl (fun K hK => ?_) AllReadyH.nil
  go_simp
  (go_at_call 23; refine (HM.out _).mono ?_; rintro e wx ⟨rfl, rfl⟩)
  try (go_wp2_with fail)
  refine hK.out _ _ (by ((try dsimp only); (go_keep))) (fun hHeld => ?_)
  clear hK K
  try simp only [Act.put, List.getElem_toArray, List.getElem_cons_succ, List.getElem_cons_zero, List.setIfInBounds_toArray, List.set_cons_zero, List.set_cons_succ]
  refine wpAnyH_take (i := 13) (v := ?_) rfl (by kernel_rfl) (by kernel_rfl) (by kernel_rfl) (fun _ _ _ h => h) (Or.inl ⟨by rfl, ?_⟩) (by assumption) ?_
  rotate_left 1
  · (intro w hSw; (try dsimp only at hSw); go_simp; first | done | with_reducible rfl)
  try simp only [Act.put, List.getElem_toArray, List.getElem_cons_succ, List.getElem_cons_zero, List.setIfInBounds_toArray, List.set_cons_zero, List.set_cons_succ]
  refine wpAnyH_take (i := 14) (v := ?_) rfl (by kernel_rfl) (by kernel_rfl) (by kernel_rfl) (fun _ _ _ h => h) (Or.inl ⟨by rfl, ?_⟩) (by assumption) ?_
  rotate_left 1
  · (intro w hSw; (try dsimp only at hSw); go_simp; first | done | with_reducible rfl)
  try simp only [Act.put, List.getElem_toArray, List.getElem_cons_succ, List.getElem_cons_zero, List.setIfInBounds_toArray, List.set_cons_zero, List.set_cons_succ]
  refine wpAnyH_take (i := 15) (v := ?_) rfl (by kernel_rfl) (by kernel_rfl) (by kernel_rfl) (fun _ _ _ h => h) (Or.inl ⟨by rfl, ?_⟩) (by assumption) ?_
  rotate_left 1
  · (intro w hSw; (try dsimp only at hSw); go_simp; first | done | with_reducible rfl)
  try simp only [Act.put, List.getElem_toArray, List.getElem_cons_succ, List.getElem_cons_zero, List.setIfInBounds_toArray, List.set_cons_zero, List.set_cons_succ]
  refine wpAnyH_take (i := 16) (v := ?_) rfl (by kernel_rfl) (by kernel_rfl) (by kernel_rfl) (fun _ _ _ h => h) (Or.inl ⟨by rfl, ?_⟩) (by assumption) ?_
  rotate_left 1
  · (intro w hSw; (try dsimp only at hSw); go_simp; first | done | with_reducible rfl)
  try simp only [Act.put, List.getElem_toArray, List.getElem_cons_succ, List.getElem_cons_zero, List.setIfInBounds_toArray, List.set_cons_zero, List.set_cons_succ]
  refine wpAnyH_take (i := 17) (v := ?_) rfl (by kernel_rfl) (by kernel_rfl) (by kernel_rfl) (fun _ _ _ h => h) (Or.inl ⟨by rfl, ?_⟩) (by assumption) ?_
  rotate_left 1
  · (intro w hSw; (try dsimp only at hSw); go_simp; first | done | with_reducible rfl)
  try simp only [Act.put, List.getElem_toArray, List.getElem_cons_succ, List.getElem_cons_zero, List.setIfInBounds_toArray, List.set_cons_zero, List.set_cons_succ]
  refine wpAnyH_take (i := 19) (v := ?_) rfl (by kernel_rfl) (by kernel_rfl) (by kernel_rfl) (fun _ _ _ h => h) (Or.inl ⟨by rfl, ?_⟩) (by assumption) ?_
  rotate_left 1
  · (intro w hSw; (try dsimp only at hSw); go_simp; first | done | with_reducible rfl)
  try simp only [Act.put, List.getElem_toArray, List.getElem_cons_succ, List.getElem_cons_zero, List.setIfInBounds_toArray, List.set_cons_zero, List.set_cons_succ]
  refine wpAnyH_take (i := 20) (v := ?_) rfl (by kernel_rfl) (by kernel_rfl) (by kernel_rfl) (fun _ _ _ h => h) (Or.inl ⟨by rfl, ?_⟩) (by assumption) ?_
  rotate_left 1
  · (intro w hSw; (try dsimp only at hSw); go_simp; first | done | with_reducible rfl)
  try simp only [Act.put, List.getElem_toArray, List.getElem_cons_succ, List.getElem_cons_zero, List.setIfInBounds_toArray, List.set_cons_zero, List.set_cons_succ]
  refine wpAnyH_ready (rs := [18]) (by kernel_rfl) (by simp) ?_
  refine AllReadyH.cons rfl (fun K hK => ?_) AllReadyH.nil
  go_simp
  (go_at_call 24; refine (HPa.out _).mono ?_; rintro e x2 ⟨rfl, hbx⟩; have hTx : Below s1.heap.size s1 x2 := (by first | exact (Below.refl _ _).drew.trans hbx | exact Below.trans (by assumption) (hbx.mono (Below.size (by assumption))) | exact (Below.refl _ _).trans hbx); obtain ⟨hcx, hfx⟩ := bcell hTx)
  try (go_wp2_with fail)
  refine hK.out _ _ (by ((try dsimp only); (go_keep))) (fun hHeld => ?_)
  clear hK K
  try simp only [Act.put, List.getElem_toArray, List.getElem_cons_succ, List.getElem_cons_zero, List.setIfInBounds_toArray, List.set_cons_zero, List.set_cons_succ]
  refine wpAnyH_ready (rs := [21]) (by kernel_rfl) (by simp) ?_
  refine AllReadyH.cons rfl (fun K hK => ?_) AllReadyH.nil
  go_simp
  (go_at_call 24; refine (HPb.out _).mono ?_; rintro e x2 ⟨rfl, hbx⟩; have hTx : Below s1.heap.size s1 x2 := (by first | exact (Below.refl _ _).drew.trans hbx | exact Below.trans (by assumption) (hbx.mono (Below.size (by assumption))) | exact (Below.refl _ _).trans hbx); obtain ⟨hcx, hfx⟩ := bcell hTx)
  try (go_wp2_with fail)
  refine hK.out _ _ (by ((try dsimp only); (go_keep))) (fun hHeld => ?_)
  clear hK K
  try simp only [Act.put, List.getElem_toArray, List.getElem_cons_succ, List.getElem_cons_zero, List.setIfInBounds_toArray, List.set_cons_zero, List.set_cons_succ]
  refine wpAnyH_take (i := 22) (v := ?_) rfl (by kernel_rfl) (by kernel_rfl) (by kernel_rfl) (fun _ _ _ h => h) (Or.inl ⟨by rfl, ?_⟩) (by assumption) ?_
  rotate_left 1
  · (intro w hSw; (try dsimp only at hSw); go_simp; first | done | with_reducible rfl)
  try simp only [Act.put, List.getElem_toArray, List.getElem_cons_succ, List.getElem_cons_zero, List.setIfInBounds_toArray, List.set_cons_zero, List.set_cons_succ]
  refine wpAnyH_take (i := 23) (v := ?_) rfl (by kernel_rfl) (by kernel_rfl) (by kernel_rfl) (fun _ _ _ h => h) (Or.inl ⟨by rfl, ?_⟩) (by assumption) ?_
  rotate_left 1
  · (intro w hSw; (try dsimp only at hSw); go_simp; first | done | with_reducible rfl)
  try simp only [Act.put, List.getElem_toArray, List.getElem_cons_succ, List.getElem_cons_zero, List.setIfInBounds_toArray, List.set_cons_zero, List.set_cons_succ]
  refine wpAnyH_done (by kernel_rfl) ?_ _
  go_wp2_with fail
  replace kA0 := (hcx A 0 zA).trans kA0
  replace kA1 := (hcx A 1 zA).trans kA1
  replace kA2 := (hcx A 2 zA).trans kA2
  replace kA3 := (hcx A 3 zA).trans kA3
  replace kA4 := (hcx A 4 zA).trans kA4
  replace zA := Nat.lt_of_lt_of_le zA hTx.size
  replace kB0 := (hcx B 0 zB).trans kB0
  replace kB1 := (hcx B 1 zB).trans kB1
  replace kB2 := (hcx B 2 zB).trans kB2
  replace kB3 := (hcx B 3 zB).trans kB3
  replace kB4 := (hcx B 4 zB).trans kB4
  replace zB := Nat.lt_of_lt_of_le zB hTx.size
  replace kC0 := (hcx C 0 zC).trans kC0
  replace fC0 := (hfx C 0 zC).trans fC0
  replace kC1 := (hcx C 1 zC).trans kC1
  replace fC1 := (hfx C 1 zC).trans fC1
  replace kC2 := (hcx C 2 zC).trans kC2
  replace fC2 := (hfx C 2 zC).trans fC2
  replace kC3 := (hcx C 3 zC).trans kC3
  replace fC3 := (hfx C 3 zC).trans fC3
  replace kC4 := (hcx C 4 zC).trans kC4
  replace fC4 := (hfx C 4 zC).trans fC4
  replace zC := Nat.lt_of_lt_of_le zC hTx.size
  replace kD0 := (hcx D 0 zD).trans kD0
  replace fD0 := (hfx D 0 zD).trans fD0
  replace kD1 := (hcx D 1 zD).trans kD1
  replace fD1 := (hfx D 1 zD).trans fD1
  replace kD2 := (hcx D 2 zD).trans kD2
  replace fD2 := (hfx D 2 zD).trans fD2
  replace kD3 := (hcx D 3 zD).trans kD3
  replace fD3 := (hfx D 3 zD).trans fD3
  replace kD4 := (hcx D 4 zD).trans kD4
  replace fD4 := (hfx D 4 zD).trans fD4
  replace zD := Nat.lt_of_lt_of_le zD hTx.size
  have hBo := HF.out _ hTx
  clear HF hcx hfx hTx
  refine (H1.out _).mono ?_; rintro e s3 ⟨rfl, hb⟩
  replace kA0 := belK hb kA0 zA; replace kA1 := belK hb kA1 zA; replace kA2 := belK hb kA2 zA; replace kA3 := belK hb kA3 zA; replace kA4 := belK hb kA4 zA; replace zA := Nat.lt_of_lt_of_le zA hb.size
  replace kB0 := belK hb kB0 zB; replace kB1 := belK hb kB1 zB; replace kB2 := belK hb kB2 zB; replace kB3 := belK hb kB3 zB; replace kB4 := belK hb kB4 zB; replace zB := Nat.lt_of_lt_of_le zB hb.size
  replace kC0 := belK hb kC0 zC; replace fC0 := belF hb fC0 zC; replace kC1 := belK hb kC1 zC; replace fC1 := belF hb fC1 zC; replace kC2 := belK hb kC2 zC; replace fC2 := belF hb fC2 zC; replace kC3 := belK hb kC3 zC; replace fC3 := belF hb fC3 zC; replace kC4 := belK hb kC4 zC; replace fC4 := belF hb fC4 zC; replace zC := Nat.lt_of_lt_of_le zC hb.size
  replace kD0 := belK hb kD0 zD; replace fD0 := belF hb fD0 zD; replace kD1 := belK hb kD1 zD; replace fD1 := belF hb fD1 zD; replace kD2 := belK hb kD2 zD; replace fD2 := belF hb fD2 zD; replace kD3 := belK hb kD3 zD; replace fD3 := belF hb fD3 zD; replace kD4 := belK hb kD4 zD; replace fD4 := belF hb fD4 zD; replace zD := Nat.lt_of_lt_of_le zD hb.size
  replace hBo := hBo.trans (hb.mono hBo.size)
  clear hb
  go_wp2_with fail
  obtain ⟨s4, hws⟩ : ∃ s, s = (s3.alloc (.cells #[.string p.sh, .int .i64 p.c, .int .i64 p.r, .bool p.fc, .bool p.fr] 23)) := ⟨_, rfl⟩
  have hBs : Below w.heap.size w s4 := by rw [hws]; exact ((hBo).alloc (by exact hBo.size) _)
  obtain ⟨X, hdX⟩ : ∃ b, b = s3.heap.size := ⟨_, rfl⟩
  have hsz : s4.heap.size = s3.heap.size + 1 := by rw [hws]; simp
  have dCX : C ≠ X := by omega
  have dDX : D ≠ X := by omega
  have hQC : ∀ p v, s3.cell? p = some v → s4.cell? p = some v := fun p v h => by rw [hws]; exact (alK h)
  have hQZ : ∀ b, b < s3.heap.size → b < s4.heap.size := fun b h => by omega
  have hQF : ∀ b j, b < s3.heap.size → s3.frozen? ⟨b, j, none⟩ = false → s4.frozen? ⟨b, j, none⟩ = false := fun b j z h => by rw [hws]; exact (alF z h)
  replace kA0 := hQC _ _ kA0; replace kA1 := hQC _ _ kA1; replace kA2 := hQC _ _ kA2; replace kA3 := hQC _ _ kA3; replace kA4 := hQC _ _ kA4; replace zA := hQZ _ zA
  replace kB0 := hQC _ _ kB0; replace kB1 := hQC _ _ kB1; replace kB2 := hQC _ _ kB2; replace kB3 := hQC _ _ kB3; replace kB4 := hQC _ _ kB4; replace zB := hQZ _ zB
  replace kC0 := hQC _ _ kC0; replace fC0 := hQF _ _ zC fC0; replace kC1 := hQC _ _ kC1; replace fC1 := hQF _ _ zC fC1; replace kC2 := hQC _ _ kC2; replace fC2 := hQF _ _ zC fC2; replace kC3 := hQC _ _ kC3; replace fC3 := hQF _ _ zC fC3; replace kC4 := hQC _ _ kC4; replace fC4 := hQF _ _ zC fC4; replace zC := hQZ _ zC
  replace kD0 := hQC _ _ kD0; replace fD0 := hQF _ _ zD fD0; replace kD1 := hQC _ _ kD1; replace fD1 := hQF _ _ zD fD1; replace kD2 := hQC _ _ kD2; replace fD2 := hQF _ _ zD fD2; replace kD3 := hQC _ _ kD3; replace fD3 := hQF _ _ zD fD3; replace kD4 := hQC _ _ kD4; replace fD4 := hQF _ _ zD fD4; replace zD := hQZ _ zD
  clear hQC hQZ hQF
  have kX0 : s4.cell? ⟨X, 0, none⟩ = some (.string p.sh) := by rw [hws]; simp [go_sem, hdX]
  have kX1 : s4.cell? ⟨X, 1, none⟩ = some (.int .i64 p.c) := by rw [hws]; simp [go_sem, hdX]
  have kX2 : s4.cell? ⟨X, 2, none⟩ = some (.int .i64 p.r) := by rw [hws]; simp [go_sem, hdX]
  have kX3 : s4.cell? ⟨X, 3, none⟩ = some (.bool p.fc) := by rw [hws]; simp [go_sem, hdX]
  have kX4 : s4.cell? ⟨X, 4, none⟩ = some (.bool p.fr) := by rw [hws]; simp [go_sem, hdX]
  have zX : X < s4.heap.size := by omega
  have lX : w.heap.size ≤ X := by have := hBo.size; omega
  rw [← hws]
  try rw [← hdX]
  clear hBo
  clear hws hsz hdX
  have hBo := hBs; clear hBs
  refine (H2.out _).mono ?_; rintro e s5 ⟨rfl, hb⟩
  replace kA0 := belK hb kA0 zA; replace kA1 := belK hb kA1 zA; replace kA2 := belK hb kA2 zA; replace kA3 := belK hb kA3 zA; replace kA4 := belK hb kA4 zA; replace zA := Nat.lt_of_lt_of_le zA hb.size
  replace kB0 := belK hb kB0 zB; replace kB1 := belK hb kB1 zB; replace kB2 := belK hb kB2 zB; replace kB3 := belK hb kB3 zB; replace kB4 := belK hb kB4 zB; replace zB := Nat.lt_of_lt_of_le zB hb.size
  replace kC0 := belK hb kC0 zC; replace fC0 := belF hb fC0 zC; replace kC1 := belK hb kC1 zC; replace fC1 := belF hb fC1 zC; replace kC2 := belK hb kC2 zC; replace fC2 := belF hb fC2 zC; replace kC3 := belK hb kC3 zC; replace fC3 := belF hb fC3 zC; replace kC4 := belK hb kC4 zC; replace fC4 := belF hb fC4 zC; replace zC := Nat.lt_of_lt_of_le zC hb.size
  replace kD0 := belK hb kD0 zD; replace fD0 := belF hb fD0 zD; replace kD1 := belK hb kD1 zD; replace fD1 := belF hb fD1 zD; replace kD2 := belK hb kD2 zD; replace fD2 := belF hb fD2 zD; replace kD3 := belK hb kD3 zD; replace fD3 := belF hb fD3 zD; replace kD4 := belK hb kD4 zD; replace fD4 := belF hb fD4 zD; replace zD := Nat.lt_of_lt_of_le zD hb.size
  replace kX0 := belK hb kX0 zX; replace kX1 := belK hb kX1 zX; replace kX2 := belK hb kX2 zX; replace kX3 := belK hb kX3 zX; replace kX4 := belK hb kX4 zX; replace zX := Nat.lt_of_lt_of_le zX hb.size
  replace hBo := hBo.trans (hb.mono hBo.size)
  clear hb
  go_wp2_with fail
  obtain ⟨s6, hws⟩ : ∃ s, s = (s5.alloc (.cells #[.string rf0.sh, .int .i64 rf0.c, .int .i64 rf0.r, .bool rf0.fc, .bool rf0.fr] 23)) := ⟨_, rfl⟩
  have hBs : Below w.heap.size w s6 := by rw [hws]; exact ((hBo).alloc (by exact hBo.size) _)
  obtain ⟨Y, hdY⟩ : ∃ b, b = s5.heap.size := ⟨_, rfl⟩
  have hsz : s6.heap.size = s5.heap.size + 1 := by rw [hws]; simp
  have dCY : C ≠ Y := by omega
  have dDY : D ≠ Y := by omega
  have dYA : Y ≠ A := by omega
  have dYB : Y ≠ B := by omega
  have dYC : Y ≠ C := by omega
  have dYD : Y ≠ D := by omega
  have dYX : Y ≠ X := by omega
  have hQC : ∀ p v, s5.cell? p = some v → s6.cell? p = some v := fun p v h => by rw [hws]; exact (alK h)
  have hQZ : ∀ b, b < s5.heap.size → b < s6.heap.size := fun b h => by omega
  have hQF : ∀ b j, b < s5.heap.size → s5.frozen? ⟨b, j, none⟩ = false → s6.frozen? ⟨b, j, none⟩ = false := fun b j z h => by rw [hws]; exact (alF z h)
  replace kA0 := hQC _ _ kA0; replace kA1 := hQC _ _ kA1; replace kA2 := hQC _ _ kA2; replace kA3 := hQC _ _ kA3; replace kA4 := hQC _ _ kA4; replace zA := hQZ _ zA
  replace kB0 := hQC _ _ kB0; replace kB1 := hQC _ _ kB1; replace kB2 := hQC _ _ kB2; replace kB3 := hQC _ _ kB3; replace kB4 := hQC _ _ kB4; replace zB := hQZ _ zB
  replace kC0 := hQC _ _ kC0; replace fC0 := hQF _ _ zC fC0; replace kC1 := hQC _ _ kC1; replace fC1 := hQF _ _ zC fC1; replace kC2 := hQC _ _ kC2; replace fC2 := hQF _ _ zC fC2; replace kC3 := hQC _ _ kC3; replace fC3 := hQF _ _ zC fC3; replace kC4 := hQC _ _ kC4; replace fC4 := hQF _ _ zC fC4; replace zC := hQZ _ zC
  replace kD0 := hQC _ _ kD0; replace fD0 := hQF _ _ zD fD0; replace kD1 := hQC _ _ kD1; replace fD1 := hQF _ _ zD fD1; replace kD2 := hQC _ _ kD2; replace fD2 := hQF _ _ zD fD2; replace kD3 := hQC _ _ kD3; replace fD3 := hQF _ _ zD fD3; replace kD4 := hQC _ _ kD4; replace fD4 := hQF _ _ zD fD4; replace zD := hQZ _ zD
  replace kX0 := hQC _ _ kX0; replace kX1 := hQC _ _ kX1; replace kX2 := hQC _ _ kX2; replace kX3 := hQC _ _ kX3; replace kX4 := hQC _ _ kX4; replace zX := hQZ _ zX
  clear hQC hQZ hQF
  have kY0 : s6.cell? ⟨Y, 0, none⟩ = some (.string rf0.sh) := by rw [hws]; simp [go_sem, hdY]
  have fY0 : s6.frozen? ⟨Y, 0, none⟩ = false := by rw [hws]; simp [go_sem, hdY]
  have kY1 : s6.cell? ⟨Y, 1, none⟩ = some (.int .i64 rf0.c) := by rw [hws]; simp [go_sem, hdY]
  have fY1 : s6.frozen? ⟨Y, 1, none⟩ = false := by rw [hws]; simp [go_sem, hdY]
  have kY2 : s6.cell? ⟨Y, 2, none⟩ = some (.int .i64 rf0.r) := by rw [hws]; simp [go_sem, hdY]
  have fY2 : s6.frozen? ⟨Y, 2, none⟩ = false := by rw [hws]; simp [go_sem, hdY]
  have kY3 : s6.cell? ⟨Y, 3, none⟩ = some (.bool rf0.fc) := by rw [hws]; simp [go_sem, hdY]
  have fY3 : s6.frozen? ⟨Y, 3, none⟩ = false := by rw [hws]; simp [go_sem, hdY]
  have kY4 : s6.cell? ⟨Y, 4, none⟩ = some (.bool rf0.fr) := by rw [hws]; simp [go_sem, hdY]
  have fY4 : s6.frozen? ⟨Y, 4, none⟩ = false := by rw [hws]; simp [go_sem, hdY]
  have zY : Y < s6.heap.size := by omega
  have lY : w.heap.size ≤ Y := by have := hBo.size; omega
  rw [← hws]
  try rw [← hdY]
  clear hBo
  clear hws hsz hdY
  have hBo := hBs; clear hBs
  refine (HY.out _).mono ?_; rintro e s7 ⟨rfl, hb⟩
  replace kA0 := belK hb kA0 zA; replace kA1 := belK hb kA1 zA; replace kA2 := belK hb kA2 zA; replace kA3 := belK hb kA3 zA; replace kA4 := belK hb kA4 zA; replace zA := Nat.lt_of_lt_of_le zA hb.size
  replace kB0 := belK hb kB0 zB; replace kB1 := belK hb kB1 zB; replace kB2 := belK hb kB2 zB; replace kB3 := belK hb kB3 zB; replace kB4 := belK hb kB4 zB; replace zB := Nat.lt_of_lt_of_le zB hb.size
  replace kC0 := belK hb kC0 zC; replace fC0 := belF hb fC0 zC; replace kC1 := belK hb kC1 zC; replace fC1 := belF hb fC1 zC; replace kC2 := belK hb kC2 zC; replace fC2 := belF hb fC2 zC; replace kC3 := belK hb kC3 zC; replace fC3 := belF hb fC3 zC; replace kC4 := belK hb kC4 zC; replace fC4 := belF hb fC4 zC; replace zC := Nat.lt_of_lt_of_le zC hb.size
  replace kD0 := belK hb kD0 zD; replace fD0 := belF hb fD0 zD; replace kD1 := belK hb kD1 zD; replace fD1 := belF hb fD1 zD; replace kD2 := belK hb kD2 zD; replace fD2 := belF hb fD2 zD; replace kD3 := belK hb kD3 zD; replace fD3 := belF hb fD3 zD; replace kD4 := belK hb kD4 zD; replace fD4 := belF hb fD4 zD; replace zD := Nat.lt_of_lt_of_le zD hb.size
  replace kX0 := belK hb kX0 zX; replace kX1 := belK hb kX1 zX; replace kX2 := belK hb kX2 zX; replace kX3 := belK hb kX3 zX; replace kX4 := belK hb kX4 zX; replace zX := Nat.lt_of_lt_of_le zX hb.size
  replace kY0 := belK hb kY0 zY; replace fY0 := belF hb fY0 zY; replace kY1 := belK hb kY1 zY; replace fY1 := belF hb fY1 zY; replace kY2 := belK hb kY2 zY; replace fY2 := belF hb fY2 zY; replace kY3 := belK hb kY3 zY; replace fY3 := belF hb fY3 zY; replace kY4 := belK hb kY4 zY; replace fY4 := belF hb fY4 zY; replace zY := Nat.lt_of_lt_of_le zY hb.size
  replace hBo := hBo.trans (hb.mono hBo.size)
  clear hb
  go_wp2_with fail
  obtain ⟨s8, hws⟩ : ∃ s, s = (((((s7.setCell ⟨Y, 0, none⟩ (.string q.sh)).setCell ⟨Y, 1, none⟩ (.int .i64 q.c)).setCell ⟨Y, 2, none⟩ (.int .i64 q.r)).setCell ⟨Y, 3, none⟩ (.bool q.fc)).setCell ⟨Y, 4, none⟩ (.bool q.fr)) := ⟨_, rfl⟩
  have hBs : Below w.heap.size w s8 := by rw [hws]; exact ((((((hBo).setCell lY _).setCell lY _).setCell lY _).setCell lY _).setCell lY _)
  have hsz : s8.heap.size = s7.heap.size := by rw [hws]; simp
  have hQC : ∀ b j v, s7.cell? ⟨b, j, none⟩ = some v → Y ≠ b → s8.cell? ⟨b, j, none⟩ = some v := fun b j v h dY => by rw [hws]; exact (stK (stK (stK (stK (stK h dY) dY) dY) dY) dY)
  replace kA0 := hQC _ _ _ kA0 dYA; replace kA1 := hQC _ _ _ kA1 dYA; replace kA2 := hQC _ _ _ kA2 dYA; replace kA3 := hQC _ _ _ kA3 dYA; replace kA4 := hQC _ _ _ kA4 dYA
  replace kB0 := hQC _ _ _ kB0 dYB; replace kB1 := hQC _ _ _ kB1 dYB; replace kB2 := hQC _ _ _ kB2 dYB; replace kB3 := hQC _ _ _ kB3 dYB; replace kB4 := hQC _ _ _ kB4 dYB
  replace kC0 := hQC _ _ _ kC0 dYC; replace kC1 := hQC _ _ _ kC1 dYC; replace kC2 := hQC _ _ _ kC2 dYC; replace kC3 := hQC _ _ _ kC3 dYC; replace kC4 := hQC _ _ _ kC4 dYC
  replace kD0 := hQC _ _ _ kD0 dYD; replace kD1 := hQC _ _ _ kD1 dYD; replace kD2 := hQC _ _ _ kD2 dYD; replace kD3 := hQC _ _ _ kD3 dYD; replace kD4 := hQC _ _ _ kD4 dYD
  replace kX0 := hQC _ _ _ kX0 dYX; replace kX1 := hQC _ _ _ kX1 dYX; replace kX2 := hQC _ _ _ kX2 dYX; replace kX3 := hQC _ _ _ kX3 dYX; replace kX4 := hQC _ _ _ kX4 dYX
  clear hQC
  have kY0_ : s8.cell? ⟨Y, 0, none⟩ = some (.string q.sh) := by rw [hws]; simp [go_sem, kY0, kY1, kY2, kY3, kY4, fY0, fY1, fY2, fY3, fY4]
  have kY1_ : s8.cell? ⟨Y, 1, none⟩ = some (.int .i64 q.c) := by rw [hws]; simp [go_sem, kY0, kY1, kY2, kY3, kY4, fY0, fY1, fY2, fY3, fY4]
  have kY2_ : s8.cell? ⟨Y, 2, none⟩ = some (.int .i64 q.r) := by rw [hws]; simp [go_sem, kY0, kY1, kY2, kY3, kY4, fY0, fY1, fY2, fY3, fY4]
  have kY3_ : s8.cell? ⟨Y, 3, none⟩ = some (.bool q.fc) := by rw [hws]; simp [go_sem, kY0, kY1, kY2, kY3, kY4, fY0, fY1, fY2, fY3, fY4]
  have kY4_ : s8.cell? ⟨Y, 4, none⟩ = some (.bool q.fr) := by rw [hws]; simp [go_sem, kY0, kY1, kY2, kY3, kY4, fY0, fY1, fY2, fY3, fY4]
  replace kY0 := kY0_; clear kY0_; replace kY1 := kY1_; clear kY1_; replace kY2 := kY2_; clear kY2_; replace kY3 := kY3_; clear kY3_; replace kY4 := kY4_; clear kY4_
  have hQF : ∀ p, s8.frozen? p = s7.frozen? p := fun p => by rw [hws]; simp [go_sem]
  replace fC0 := (hQF _).trans fC0; replace fC1 := (hQF _).trans fC1; replace fC2 := (hQF _).trans fC2; replace fC3 := (hQF _).trans fC3; replace fC4 := (hQF _).trans fC4
  replace fD0 := (hQF _).trans fD0; replace fD1 := (hQF _).trans fD1; replace fD2 := (hQF _).trans fD2; replace fD3 := (hQF _).trans fD3; replace fD4 := (hQF _).trans fD4
  replace fY0 := (hQF _).trans fY0; replace fY1 := (hQF _).trans fY1; replace fY2 := (hQF _).trans fY2; replace fY3 := (hQF _).trans fY3; replace fY4 := (hQF _).trans fY4
  clear hQF
  replace zA : A < s8.heap.size := by omega
  replace zB : B < s8.heap.size := by omega
  replace zC : C < s8.heap.size := by omega
  replace zD : D < s8.heap.size := by omega
  replace zX : X < s8.heap.size := by omega
  replace zY : Y < s8.heap.size := by omega
  rw [← hws]
  clear hBo hws hsz
  have hBo := hBs; clear hBs
  have HF : Hid (∀ W, Below s8.heap.size s8 W → Below w.heap.size w W) := fun W hW => hBo.trans (hW.mono hBo.size)
  clear hBo
  refine wp_region_held_drew (S := fun w' => w'.cell? ⟨A, 0, none⟩ = some (.string a.sh) ∧ w'.cell? ⟨A, 1, none⟩ = some (.int .i64 a.c) ∧ w'.cell? ⟨A, 2, none⟩ = some (.int .i64 a.r) ∧ w'.cell? ⟨A, 3, none⟩ = some (.bool a.fc) ∧ w'.cell? ⟨A, 4, none⟩ = some (.bool a.fr) ∧ w'.cell? ⟨B, 0, none⟩ = some (.string b.sh) ∧ w'.cell? ⟨B, 1, none⟩ = some (.int .i64 b.c) ∧ w'.cell? ⟨B, 2, none⟩ = some (.int .i64 b.r) ∧ w'.cell? ⟨B, 3, none⟩ = some (.bool b.fc) ∧ w'.cell? ⟨B, 4, none⟩ = some (.bool b.fr) ∧ w'.cell? ⟨X, 0, none⟩ = some (.string p.sh) ∧ w'.cell? ⟨X, 1, none⟩ = some (.int .i64 p.c) ∧ w'.cell? ⟨X, 2, none⟩ = some (.int .i64 p.r) ∧ w'.cell? ⟨X, 3, none⟩ = some (.bool p.fc) ∧ w'.cell? ⟨X, 4, none⟩ = some (.bool p.fr) ∧ w'.cell? ⟨Y, 0, none⟩ = some (.string q.sh) ∧ w'.cell? ⟨Y, 1, none⟩ = some (.int .i64 q.c) ∧ w'.cell? ⟨Y, 2, none⟩ = some (.int .i64 q.r) ∧ w'.cell? ⟨Y, 3, none⟩ = some (.bool q.fc) ∧ w'.cell? ⟨Y, 4, none⟩ = some (.bool q.fr)) (by kernel_rfl) (by ((try dsimp only); (go_keep))) (fun hHeld => ?_)
  refine wpAnyH_take (i := 0) (v := ?_) rfl (by kernel_rfl) (by kernel_rfl) (by kernel_rfl) (fun _ _ _ h => h) (Or.inl ⟨by rfl, ?_⟩) (by assumption) ?_
  rotate_left 1
  · (intro w hSw; (try dsimp only at hSw); go_simp; first | done | with_reducible rfl)
  try simp only [Act.put, List.getElem_toArray, List.getElem_cons_succ, List.getElem_cons_zero, List.setIfInBounds_toArray, List.set_cons_zero, List.set_cons_succ]
  refine wpAnyH_take (i := 1) (v := ?_) rfl (by kernel_rfl) (by kernel_rfl) (by kernel_rfl) (fun _ _ _ h => h) (Or.inl ⟨by rfl, ?_⟩) (by assumption) ?_
  rotate_left 1
  · (intro w hSw; (try dsimp only at hSw); go_simp; first | done | with_reducible rfl)
  try simp only [Act.put, List.getElem_toArray, List.getElem_cons_succ, List.getElem_cons_zero, List.setIfInBounds_toArray, List.set_cons_zero, List.set_cons_succ]
  refine wpAnyH_take (i := 3) (v := ?_) rfl (by kernel_rfl) (by kernel_rfl) (by kernel_rfl) (fun _ _ _ h => h) (Or.inl ⟨by rfl, ?_⟩) (by assumption) ?_
  rotate_left 1
  · (intro w hSw; (try dsimp only at hSw); go_simp; first | done | with_reducible rfl)
  try simp only [Act.put, List.getElem_toArray, List.getElem_cons_succ, List.getElem_cons_zero, List.setIfInBounds_toArray, List.set_cons_zero, List.set_cons_succ]
  refine wpAnyH_take (i := 4) (v := ?_) rfl (by kernel_rfl) (by kernel_rfl) (by kernel_rfl) (fun _ _ _ h => h) (Or.inl ⟨by rfl, ?_⟩) (by assumption) ?_
  rotate_left 1
  · (intro w hSw; (try dsimp only at hSw); go_simp; first | done | with_reducible rfl)
  try simp only [Act.put, List.getElem_toArray, List.getElem_cons_succ, List.getElem_cons_zero, List.setIfInBounds_toArray, List.set_cons_zero, List.set_cons_succ]
  refine wpAnyH_ready (rs := [2]) (by kernel_rfl) (by simp) ?_
  refine AllReadyH.cons rfl (fun K hK => ?_) AllReadyH.nil
  go_simp
  (go_at_call 24; refine (HPp.out _).mono ?_; rintro e x9 ⟨rfl, hbx⟩; have hTx : Below s8.heap.size s8 x9 := (by first | exact (Below.refl _ _).drew.trans hbx | exact Below.trans (by assumption) (hbx.mono (Below.size (by assumption))) | exact (Below.refl _ _).trans hbx); obtain ⟨hcx, hfx⟩ := bcell hTx)
  try (go_wp2_with fail)
  refine hK.out _ _ (by ((try dsimp only); (go_keep))) (fun hHeld => ?_)
  clear hK K
  try simp only [Act.put, List.getElem_toArray, List.getElem_cons_succ, List.getElem_cons_zero, List.setIfInBounds_toArray, List.set_cons_zero, List.set_cons_succ]
  refine wpAnyH_ready (rs := [5]) (by kernel_rfl) (by simp) ?_
  refine AllReadyH.cons rfl (fun K hK => ?_) AllReadyH.nil
  go_simp
  (go_at_call 24; refine (HPq.out _).mono ?_; rintro e x9 ⟨rfl, hbx⟩; have hTx : Below s8.heap.size s8 x9 := (by first | exact (Below.refl _ _).drew.trans hbx | exact Below.trans (by assumption) (hbx.mono (Below.size (by assumption))) | exact (Below.refl _ _).trans hbx); obtain ⟨hcx, hfx⟩ := bcell hTx)
  try (go_wp2_with fail)
  refine hK.out _ _ (by ((try dsimp only); (go_keep))) (fun hHeld => ?_)
  clear hK K
  try simp only [Act.put, List.getElem_toArray, List.getElem_cons_succ, List.getElem_cons_zero, List.setIfInBounds_toArray, List.set_cons_zero, List.set_cons_succ]
  refine wpAnyH_take (i := 6) (v := ?_) rfl (by kernel_rfl) (by kernel_rfl) (by kernel_rfl) (fun _ _ _ h => h) (Or.inl ⟨by rfl, ?_⟩) (by assumption) ?_
  rotate_left 1
  · (intro w hSw; (try dsimp only at hSw); go_simp; first | done | with_reducible rfl)
  try simp only [Act.put, List.getElem_toArray, List.getElem_cons_succ, List.getElem_cons_zero, List.setIfInBounds_toArray, List.set_cons_zero, List.set_cons_succ]
  refine wpAnyH_take (i := 7) (v := ?_) rfl (by kernel_rfl) (by kernel_rfl) (by kernel_rfl) (fun _ _ _ h => h) (Or.inl ⟨by rfl, ?_⟩) (by assumption) ?_
  rotate_left 1
  · (intro w hSw; (try dsimp only at hSw); go_simp; first | done | with_reducible rfl)
  try simp only [Act.put, List.getElem_toArray, List.getElem_cons_succ, List.getElem_cons_zero, List.setIfInBounds_toArray, List.set_cons_zero, List.set_cons_succ]
  refine wpAnyH_take (i := 8) (v := ?_) rfl (by kernel_rfl) (by kernel_rfl) (by kernel_rfl) (fun _ _ _ h => h) (Or.inl ⟨by rfl, ?_⟩) (by assumption) ?_
  rotate_left 1
  · (intro w hSw; (try dsimp only at hSw); go_simp; first | done | with_reducible rfl)
  try simp only [Act.put, List.getElem_toArray, List.getElem_cons_succ, List.getElem_cons_zero, List.setIfInBounds_toArray, List.set_cons_zero, List.set_cons_succ]
  refine wpAnyH_ready (rs := [9]) (by kernel_rfl) (by simp) ?_
  refine AllReadyH.cons rfl (fun K hK => ?_) AllReadyH.nil
  go_simp
  (go_at_call 20; refine (HRp.out _).mono ?_; rintro e x9 ⟨rfl, hbx⟩; have hTx : Below s8.heap.size s8 x9 := (by first | exact (Below.refl _ _).drew.trans hbx | exact Below.trans (by assumption) (hbx.mono (Below.size (by assumption))) | exact (Below.refl _ _).trans hbx); obtain ⟨hcx, hfx⟩ := bcell hTx)
  try (go_wp2_with fail)
  refine hK.out _ _ (by ((try dsimp only); (go_keep))) (fun hHeld => ?_)
  clear hK K
  try simp only [Act.put, List.getElem_toArray, List.getElem_cons_succ, List.getElem_cons_zero, List.setIfInBounds_toArray, List.set_cons_zero, List.set_cons_succ]
  refine wpAnyH_take (i := 10) (v := ?_) rfl (by kernel_rfl) (by kernel_rfl) (by kernel_rfl) (fun _ _ _ h => h) (Or.inl ⟨by rfl, ?_⟩) (by assumption) ?_
  rotate_left 1
  · (intro w hSw; (try dsimp only at hSw); go_simp; first | done | with_reducible rfl)
  try simp only [Act.put, List.getElem_toArray, List.getElem_cons_succ, List.getElem_cons_zero, List.setIfInBounds_toArray, List.set_cons_zero, List.set_cons_succ]
  refine wpAnyH_take (i := 11) (v := ?_) rfl (by kernel_rfl) (by kernel_rfl) (by kernel_rfl) (fun _ _ _ h => h) (Or.inl ⟨by rfl, ?_⟩) (by assumption) ?_
  rotate_left 1
  · (intro w hSw; (try dsimp only at hSw); go_simp; first | done | with_reducible rfl)
  try simp only [Act.put, List.getElem_toArray, List.getElem_cons_succ, List.getElem_cons_zero, List.setIfInBounds_toArray, List.set_cons_zero, List.set_cons_succ]
  refine wpAnyH_take (i := 12) (v := ?_) rfl (by kernel_rfl) (by kernel_rfl) (by kernel_rfl) (fun _ _ _ h => h) (Or.inl ⟨by rfl, ?_⟩) (by assumption) ?_
  rotate_left 1
  · (intro w hSw; (try dsimp only at hSw); go_simp; first | done | with_reducible rfl)
  try simp only [Act.put, List.getElem_toArray, List.getElem_cons_succ, List.getElem_cons_zero, List.setIfInBounds_toArray, List.set_cons_zero, List.set_cons_succ]
  refine wpAnyH_take (i := 13) (v := ?_) rfl (by kernel_rfl) (by kernel_rfl) (by kernel_rfl) (fun _ _ _ h => h) (Or.inl ⟨by rfl, ?_⟩) (by assumption) ?_
  rotate_left 1
  · (intro w hSw; (try dsimp only at hSw); go_simp; first | done | with_reducible rfl)
  try simp only [Act.put, List.getElem_toArray, List.getElem_cons_succ, List.getElem_cons_zero, List.setIfInBounds_toArray, List.set_cons_zero, List.set_cons_succ]
  refine wpAnyH_ready (rs := [14]) (by kernel_rfl) (by simp) ?_
  refine AllReadyH.cons rfl (fun K hK => ?_) AllReadyH.nil
  go_simp
  (go_at_call 20; refine (HRq.out _).mono ?_; rintro e x9 ⟨rfl, hbx⟩; have hTx : Below s8.heap.size s8 x9 := (by first | exact (Below.refl _ _).drew.trans hbx | exact Below.trans (by assumption) (hbx.mono (Below.size (by assumption))) | exact (Below.refl _ _).trans hbx); obtain ⟨hcx, hfx⟩ := bcell hTx)
  try (go_wp2_with fail)
  refine hK.out _ _ (by ((try dsimp only); (go_keep))) (fun hHeld => ?_)
  clear hK K
  try simp only [Act.put, List.getElem_toArray, List.getElem_cons_succ, List.getElem_cons_zero, List.setIfInBounds_toArray, List.set_cons_zero, List.set_cons_succ]
  refine wpAnyH_take (i := 15) (v := ?_) rfl (by kernel_rfl) (by kernel_rfl) (by kernel_rfl) (fun _ _ _ h => h) (Or.inl ⟨by rfl, ?_⟩) (by assumption) ?_
  rotate_left 1
  · (intro w hSw; (try dsimp only at hSw); go_simp; first | done | with_reducible rfl)
  try simp only [Act.put, List.getElem_toArray, List.getElem_cons_succ, List.getElem_cons_zero, List.setIfInBounds_toArray, List.set_cons_zero, List.set_cons_succ]
  refine wpAnyH_take (i := 16) (v := ?_) rfl (by kernel_rfl) (by kernel_rfl) (by kernel_rfl) (fun _ _ _ h => h) (Or.inl ⟨by rfl, ?_⟩) (by assumption) ?_
  rotate_left 1
  · (intro w hSw; (try dsimp only at hSw); go_simp; first | done | with_reducible rfl)
  try simp only [Act.put, List.getElem_toArray, List.getElem_cons_succ, List.getElem_cons_zero, List.setIfInBounds_toArray, List.set_cons_zero, List.set_cons_succ]
  refine wpAnyH_done (by kernel_rfl) ?_ _
  go_wp2_with fail
  replace kA0 := (hcx A 0 zA).trans kA0
  replace kA1 := (hcx A 1 zA).trans kA1
  replace kA2 := (hcx A 2 zA).trans kA2
  replace kA3 := (hcx A 3 zA).trans kA3
  replace kA4 := (hcx A 4 zA).trans kA4
  replace zA := Nat.lt_of_lt_of_le zA hTx.size
  replace kB0 := (hcx B 0 zB).trans kB0
  replace kB1 := (hcx B 1 zB).trans kB1
  replace kB2 := (hcx B 2 zB).trans kB2
  replace kB3 := (hcx B 3 zB).trans kB3
  replace kB4 := (hcx B 4 zB).trans kB4
  replace zB := Nat.lt_of_lt_of_le zB hTx.size
  replace kC0 := (hcx C 0 zC).trans kC0
  replace fC0 := (hfx C 0 zC).trans fC0
  replace kC1 := (hcx C 1 zC).trans kC1
  replace fC1 := (hfx C 1 zC).trans fC1
  replace kC2 := (hcx C 2 zC).trans kC2
  replace fC2 := (hfx C 2 zC).trans fC2
  replace kC3 := (hcx C 3 zC).trans kC3
  replace fC3 := (hfx C 3 zC).trans fC3
  replace kC4 := (hcx C 4 zC).trans kC4
  replace fC4 := (hfx C 4 zC).trans fC4
  replace zC := Nat.lt_of_lt_of_le zC hTx.size
  replace kD0 := (hcx D 0 zD).trans kD0
  replace fD0 := (hfx D 0 zD).trans fD0
  replace kD1 := (hcx D 1 zD).trans kD1
  replace fD1 := (hfx D 1 zD).trans fD1
  replace kD2 := (hcx D 2 zD).trans kD2
  replace fD2 := (hfx D 2 zD).trans fD2
  replace kD3 := (hcx D 3 zD).trans kD3
  replace fD3 := (hfx D 3 zD).trans fD3
  replace kD4 := (hcx D 4 zD).trans kD4
  replace fD4 := (hfx D 4 zD).trans fD4
  replace zD := Nat.lt_of_lt_of_le zD hTx.size
  replace kX0 := (hcx X 0 zX).trans kX0
  replace kX1 := (hcx X 1 zX).trans kX1
  replace kX2 := (hcx X 2 zX).trans kX2
  replace kX3 := (hcx X 3 zX).trans kX3
  replace kX4 := (hcx X 4 zX).trans kX4
  replace zX := Nat.lt_of_lt_of_le zX hTx.size
  replace kY0 := (hcx Y 0 zY).trans kY0
  replace fY0 := (hfx Y 0 zY).trans fY0
  replace kY1 := (hcx Y 1 zY).trans kY1
  replace fY1 := (hfx Y 1 zY).trans fY1
  replace kY2 := (hcx Y 2 zY).trans kY2
  replace fY2 := (hfx Y 2 zY).trans fY2
  replace kY3 := (hcx Y 3 zY).trans kY3
  replace fY3 := (hfx Y 3 zY).trans fY3
  replace kY4 := (hcx Y 4 zY).trans kY4
  replace fY4 := (hfx Y 4 zY).trans fY4
  replace zY := Nat.lt_of_lt_of_le zY hTx.size
  have hBo := HF.out _ hTx
  clear HF hcx hfx hTx
  go_region
  all_goals go_wp2_with fail
  all_goals refine bodyPost_ret (v := .tuple #[.agg #[.string p.sh, .int .i64 p.c, .int .i64 p.r, .bool p.fc, .bool p.fr], .agg #[.string q.sh, .int .i64 q.c, .int .i64 q.r, .bool q.fc, .bool q.fr], .bool true]) (by simp [results, Tryz.results15, go_sem, kC0, kC1, kC2, kC3, kC4, kD0, kD1, kD2, kD3, kD4, zC, zD]) rfl ⟨rfl, ?_⟩
  all_goals exact (Below.drew ((((((((((hBo.setCell lC _).setCell lC _).setCell lC _).setCell lC _).setCell lC _).setCell lD _).setCell lD _).setCell lD _).setCell lD _).setCell lD _))
end Go.Proofs.YtlpjaflolnggnaaGreatDoor
