/-
  LAYER 11, REFERENCES: Insert2 (the document's).
-/
import Derived.Test.YtlpjaflolnggnaaGreatDoorCel11
namespace Go.Proofs.YtlpjaflolnggnaaGreatDoor
open Go.RowKit Go.Shelf
set_option linter.unusedSimpArgs false
set_option linter.unusedVariables false

/-- an area's ends and a change that can be. -/
def preB (a b : Rf) (way x n : Int) : Bool := rgtR a && rgtR b && mayB way x n && decide (plZ a way ≤ plZ b way)
def ins2B (a b : Rf) (way x n : Int) : Bool := preB a b way x n && insB a way x n
def ins2a (a b : Rf) (way x n : Int) : Rf := if ins2B a b way x n then insR a way x n else rf0
def ins2b (a b : Rf) (way x n : Int) : Rf := if ins2B a b way x n then (if insB b way x n then insR b way x n else ptR b way (lastZ way)) else rf0
theorem ins2_no {a b : Rf} {way x n : Int} (h : ins2B a b way x n = false) : ins2a a b way x n = rf0 ∧ ins2b a b way x n = rf0 := by
  unfold ins2a ins2b; rw [h]; exact ⟨rfl, rfl⟩
theorem ins2_yes {a b : Rf} {way x n : Int} (h : ins2B a b way x n = true) : ins2a a b way x n = insR a way x n ∧ ins2b a b way x n = if insB b way x n then insR b way x n else ptR b way (lastZ way) := by
  unfold ins2a ins2b; rw [h]; exact ⟨rfl, rfl⟩
theorem preB_cases (a b : Rf) (way x n : Int) : (rgtR a = false ∧ preB a b way x n = false) ∨ (rgtR a = true ∧ rgtR b = false ∧ preB a b way x n = false) ∨ (rgtR a = true ∧ rgtR b = true ∧ mayB way x n = false ∧ preB a b way x n = false) ∨
    (rgtR a = true ∧ rgtR b = true ∧ mayB way x n = true ∧ plZ b way < plZ a way ∧ preB a b way x n = false) ∨ (rgtR a = true ∧ rgtR b = true ∧ mayB way x n = true ∧ ¬ plZ b way < plZ a way ∧ preB a b way x n = true) := by
  unfold preB
  cases rgtR a <;> cases rgtR b <;> cases mayB way x n <;> simp
  omega
set_option maxRecDepth 100000 in
set_option maxHeartbeats 8000000 in
theorem refInsert2_no (a b : Rf) (way x n : Int) (w : World) (hs : a.sh.size ≤ maxLen) (hs2 : b.sh.size ≤ maxLen) (h : preB a b way x n = false) :
    Calls Tryz.prog 13 #[.agg #[.string a.sh, .int .i64 a.c, .int .i64 a.r, .bool a.fc, .bool a.fr], .agg #[.string b.sh, .int .i64 b.c, .int .i64 b.r, .bool b.fc, .bool b.fr], .int .i64 way, .int .i64 x, .int .i64 n] w fun e w' => e = .returned (.tuple #[.agg #[.string ⟨#[]⟩, .int .i64 0, .int .i64 0, .bool false, .bool false], .agg #[.string ⟨#[]⟩, .int .i64 0, .int .i64 0, .bool false, .bool false], .bool false]) ∧ Below w.heap.size w w' := by
  have hud : undef = Value.tuple #[] := rfl
  rcases preB_cases a b way x n with ⟨g1, g5⟩ | ⟨g1, g2, g5⟩ | ⟨g1, g2, g3, g5⟩ | ⟨g1, g2, g3, g4, g5⟩ | ⟨g1, g2, g3, g4, g5⟩
  · skip
    have HA := Lib.hid (fun w => right2_any a false w hs g1)
    clear h g5 g1
    go_enter Tryz.func13, Tryz.ntmps13
    go_wp2_with fail
    obtain ⟨s1, hws⟩ : ∃ s, s = ((((w.alloc (.cells #[.string a.sh, .int .i64 a.c, .int .i64 a.r, .bool a.fc, .bool a.fr] 23)).alloc (.cells #[.string b.sh, .int .i64 b.c, .int .i64 b.r, .bool b.fc, .bool b.fr] 23)).alloc (.cells #[.string ⟨#[]⟩, .int .i64 0, .int .i64 0, .bool false, .bool false] 23)).alloc (.cells #[.string ⟨#[]⟩, .int .i64 0, .int .i64 0, .bool false, .bool false] 23)) := ⟨_, rfl⟩
    have hBs : Below w.heap.size w s1 := by rw [hws]; exact (((((Below.refl w.heap.size w).alloc (by simp) _).alloc (by simp) _).alloc (by simp; omega) _).alloc (by simp; omega) _)
    obtain ⟨A, hdA⟩ : ∃ b, b = w.heap.size := ⟨_, rfl⟩
    obtain ⟨B, hdB⟩ : ∃ b, b = w.heap.size + 1 := ⟨_, rfl⟩
    obtain ⟨C, hdC⟩ : ∃ b, b = w.heap.size + 1 + 1 := ⟨_, rfl⟩
    obtain ⟨D, hdD⟩ : ∃ b, b = w.heap.size + 1 + 1 + 1 := ⟨_, rfl⟩
    have hsz : s1.heap.size = w.heap.size + 1 + 1 + 1 + 1 := by rw [hws]; simp
    have dCA : C ≠ A := by omega
    have dCB : C ≠ B := by omega
    have dCD : C ≠ D := by omega
    have dDA : D ≠ A := by omega
    have dDB : D ≠ B := by omega
    have dDC : D ≠ C := by omega
    have kA0 : s1.cell? ⟨A, 0, none⟩ = some (.string a.sh) := by rw [hws]; simp [go_sem, hdA, hdB, hdC, hdD]
    have kA1 : s1.cell? ⟨A, 1, none⟩ = some (.int .i64 a.c) := by rw [hws]; simp [go_sem, hdA, hdB, hdC, hdD]
    have kA2 : s1.cell? ⟨A, 2, none⟩ = some (.int .i64 a.r) := by rw [hws]; simp [go_sem, hdA, hdB, hdC, hdD]
    have kA3 : s1.cell? ⟨A, 3, none⟩ = some (.bool a.fc) := by rw [hws]; simp [go_sem, hdA, hdB, hdC, hdD]
    have kA4 : s1.cell? ⟨A, 4, none⟩ = some (.bool a.fr) := by rw [hws]; simp [go_sem, hdA, hdB, hdC, hdD]
    have zA : A < s1.heap.size := by omega
    have lA : w.heap.size ≤ A := by have := Nat.le_refl w.heap.size; omega
    have kB0 : s1.cell? ⟨B, 0, none⟩ = some (.string b.sh) := by rw [hws]; simp [go_sem, hdA, hdB, hdC, hdD]
    have kB1 : s1.cell? ⟨B, 1, none⟩ = some (.int .i64 b.c) := by rw [hws]; simp [go_sem, hdA, hdB, hdC, hdD]
    have kB2 : s1.cell? ⟨B, 2, none⟩ = some (.int .i64 b.r) := by rw [hws]; simp [go_sem, hdA, hdB, hdC, hdD]
    have kB3 : s1.cell? ⟨B, 3, none⟩ = some (.bool b.fc) := by rw [hws]; simp [go_sem, hdA, hdB, hdC, hdD]
    have kB4 : s1.cell? ⟨B, 4, none⟩ = some (.bool b.fr) := by rw [hws]; simp [go_sem, hdA, hdB, hdC, hdD]
    have zB : B < s1.heap.size := by omega
    have lB : w.heap.size ≤ B := by have := Nat.le_refl w.heap.size; omega
    have kC0 : s1.cell? ⟨C, 0, none⟩ = some (.string ⟨#[]⟩) := by rw [hws]; simp [go_sem, hdA, hdB, hdC, hdD]
    have fC0 : s1.frozen? ⟨C, 0, none⟩ = false := by rw [hws]; simp [go_sem, hdA, hdB, hdC, hdD]
    have kC1 : s1.cell? ⟨C, 1, none⟩ = some (.int .i64 0) := by rw [hws]; simp [go_sem, hdA, hdB, hdC, hdD]
    have fC1 : s1.frozen? ⟨C, 1, none⟩ = false := by rw [hws]; simp [go_sem, hdA, hdB, hdC, hdD]
    have kC2 : s1.cell? ⟨C, 2, none⟩ = some (.int .i64 0) := by rw [hws]; simp [go_sem, hdA, hdB, hdC, hdD]
    have fC2 : s1.frozen? ⟨C, 2, none⟩ = false := by rw [hws]; simp [go_sem, hdA, hdB, hdC, hdD]
    have kC3 : s1.cell? ⟨C, 3, none⟩ = some (.bool false) := by rw [hws]; simp [go_sem, hdA, hdB, hdC, hdD]
    have fC3 : s1.frozen? ⟨C, 3, none⟩ = false := by rw [hws]; simp [go_sem, hdA, hdB, hdC, hdD]
    have kC4 : s1.cell? ⟨C, 4, none⟩ = some (.bool false) := by rw [hws]; simp [go_sem, hdA, hdB, hdC, hdD]
    have fC4 : s1.frozen? ⟨C, 4, none⟩ = false := by rw [hws]; simp [go_sem, hdA, hdB, hdC, hdD]
    have zC : C < s1.heap.size := by omega
    have lC : w.heap.size ≤ C := by have := Nat.le_refl w.heap.size; omega
    have kD0 : s1.cell? ⟨D, 0, none⟩ = some (.string ⟨#[]⟩) := by rw [hws]; simp [go_sem, hdA, hdB, hdC, hdD]
    have fD0 : s1.frozen? ⟨D, 0, none⟩ = false := by rw [hws]; simp [go_sem, hdA, hdB, hdC, hdD]
    have kD1 : s1.cell? ⟨D, 1, none⟩ = some (.int .i64 0) := by rw [hws]; simp [go_sem, hdA, hdB, hdC, hdD]
    have fD1 : s1.frozen? ⟨D, 1, none⟩ = false := by rw [hws]; simp [go_sem, hdA, hdB, hdC, hdD]
    have kD2 : s1.cell? ⟨D, 2, none⟩ = some (.int .i64 0) := by rw [hws]; simp [go_sem, hdA, hdB, hdC, hdD]
    have fD2 : s1.frozen? ⟨D, 2, none⟩ = false := by rw [hws]; simp [go_sem, hdA, hdB, hdC, hdD]
    have kD3 : s1.cell? ⟨D, 3, none⟩ = some (.bool false) := by rw [hws]; simp [go_sem, hdA, hdB, hdC, hdD]
    have fD3 : s1.frozen? ⟨D, 3, none⟩ = false := by rw [hws]; simp [go_sem, hdA, hdB, hdC, hdD]
    have kD4 : s1.cell? ⟨D, 4, none⟩ = some (.bool false) := by rw [hws]; simp [go_sem, hdA, hdB, hdC, hdD]
    have fD4 : s1.frozen? ⟨D, 4, none⟩ = false := by rw [hws]; simp [go_sem, hdA, hdB, hdC, hdD]
    have zD : D < s1.heap.size := by omega
    have lD : w.heap.size ≤ D := by have := Nat.le_refl w.heap.size; omega
    rw [← hws]
    try rw [← hdD]
    try rw [← hdC]
    try rw [← hdB]
    try rw [← hdA]
    clear hws hsz hdA hdB hdC hdD
    have hBo := hBs; clear hBs
    have HF : Hid (∀ W, Below s1.heap.size s1 W → Below w.heap.size w W) := fun W hW => hBo.trans (hW.mono hBo.size)
    clear hBo
    refine wp_region_held_drew (S := fun w' => w'.cell? ⟨A, 0, none⟩ = some (.string a.sh) ∧ w'.cell? ⟨A, 1, none⟩ = some (.int .i64 a.c) ∧ w'.cell? ⟨A, 2, none⟩ = some (.int .i64 a.r) ∧ w'.cell? ⟨A, 3, none⟩ = some (.bool a.fc) ∧ w'.cell? ⟨A, 4, none⟩ = some (.bool a.fr) ∧ w'.cell? ⟨B, 0, none⟩ = some (.string b.sh) ∧ w'.cell? ⟨B, 1, none⟩ = some (.int .i64 b.c) ∧ w'.cell? ⟨B, 2, none⟩ = some (.int .i64 b.r) ∧ w'.cell? ⟨B, 3, none⟩ = some (.bool b.fc) ∧ w'.cell? ⟨B, 4, none⟩ = some (.bool b.fr)) (by kernel_rfl) (by ((try dsimp only); (go_keep))) (fun hHeld => ?_)
    refine wpAnyH_take (i := 0) (v := ?_) rfl (by kernel_rfl) (by kernel_rfl) (by kernel_rfl) (fun _ _ _ h => h) (Or.inl ⟨by rfl, ?_⟩) (by assumption) ?_
    rotate_left 1
    · (intro w hSw; (try dsimp only at hSw); go_simp; first | done | with_reducible rfl)
    try simp only [Act.put, List.getElem_toArray, List.getElem_cons_succ, List.getElem_cons_zero, List.setIfInBounds_toArray, List.set_cons_zero, List.set_cons_succ]
    refine wpAnyH_ready (rs := [1]) (by kernel_rfl) (by simp) ?_
    refine AllReadyH.cons rfl (fun K hK => ?_) AllReadyH.nil
    go_simp
    (go_at_call 20; refine (HA.out _).mono ?_; rintro e x2 ⟨rfl, hbx⟩; have hTx : Below s1.heap.size s1 x2 := (by first | exact (Below.refl _ _).drew.trans hbx | exact Below.trans (by assumption) (hbx.mono (Below.size (by assumption))) | exact (Below.refl _ _).trans hbx); obtain ⟨hcx, hfx⟩ := bcell hTx)
    try (go_wp2_with fail)
    refine hK.out _ _ (by ((try dsimp only); (go_keep))) (fun hHeld => ?_)
    clear hK K
    try simp only [Act.put, List.getElem_toArray, List.getElem_cons_succ, List.getElem_cons_zero, List.setIfInBounds_toArray, List.set_cons_zero, List.set_cons_succ]
    refine wpAnyH_take (i := 2) (v := ?_) rfl (by kernel_rfl) (by kernel_rfl) (by kernel_rfl) (fun _ _ _ h => h) (Or.inl ⟨by rfl, ?_⟩) (by assumption) ?_
    rotate_left 1
    · (intro w hSw; (try dsimp only at hSw); go_simp; first | done | with_reducible rfl)
    try simp only [Act.put, List.getElem_toArray, List.getElem_cons_succ, List.getElem_cons_zero, List.setIfInBounds_toArray, List.set_cons_zero, List.set_cons_succ]
    refine wpAnyH_take (i := 3) (v := ?_) rfl (by kernel_rfl) (by kernel_rfl) (by kernel_rfl) (fun _ _ _ h => h) (Or.inl ⟨by rfl, ?_⟩) (by assumption) ?_
    rotate_left 1
    · (intro w hSw; (try dsimp only at hSw); go_simp; first | done | with_reducible rfl)
    try simp only [Act.put, List.getElem_toArray, List.getElem_cons_succ, List.getElem_cons_zero, List.setIfInBounds_toArray, List.set_cons_zero, List.set_cons_succ]
    refine wpAnyH_take (i := 4) (v := undef) rfl (by kernel_rfl) (by kernel_rfl) (by kernel_rfl) (fun _ _ _ h => h) (Or.inr ⟨by rfl, rfl⟩) (by assumption) ?_
    try simp only [Act.put, List.getElem_toArray, List.getElem_cons_succ, List.getElem_cons_zero, List.setIfInBounds_toArray, List.set_cons_zero, List.set_cons_succ]
    refine wpAnyH_take (i := 5) (v := undef) rfl (by kernel_rfl) (by kernel_rfl) (by kernel_rfl) (fun _ _ _ h => h) (Or.inr ⟨by rfl, rfl⟩) (by assumption) ?_
    try simp only [Act.put, List.getElem_toArray, List.getElem_cons_succ, List.getElem_cons_zero, List.setIfInBounds_toArray, List.set_cons_zero, List.set_cons_succ]
    refine wpAnyH_take (i := 6) (v := undef) rfl (by kernel_rfl) (by kernel_rfl) (by kernel_rfl) (fun _ _ _ h => h) (Or.inr ⟨by rfl, rfl⟩) (by assumption) ?_
    try simp only [Act.put, List.getElem_toArray, List.getElem_cons_succ, List.getElem_cons_zero, List.setIfInBounds_toArray, List.set_cons_zero, List.set_cons_succ]
    refine wpAnyH_take (i := 7) (v := ?_) rfl (by kernel_rfl) (by kernel_rfl) (by kernel_rfl) (fun _ _ _ h => h) (Or.inl ⟨by rfl, ?_⟩) (by assumption) ?_
    rotate_left 1
    · (intro w hSw; (try dsimp only at hSw); go_simp; first | done | with_reducible rfl)
    try simp only [Act.put, List.getElem_toArray, List.getElem_cons_succ, List.getElem_cons_zero, List.setIfInBounds_toArray, List.set_cons_zero, List.set_cons_succ]
    refine wpAnyH_take (i := 8) (v := ?_) rfl (by kernel_rfl) (by kernel_rfl) (by kernel_rfl) (fun _ _ _ h => h) (Or.inl ⟨by rfl, ?_⟩) (by assumption) ?_
    rotate_left 1
    · (intro w hSw; (try dsimp only at hSw); go_simp; first | done | with_reducible rfl)
    try simp only [Act.put, List.getElem_toArray, List.getElem_cons_succ, List.getElem_cons_zero, List.setIfInBounds_toArray, List.set_cons_zero, List.set_cons_succ]
    refine wpAnyH_take (i := 9) (v := undef) rfl (by kernel_rfl) (by kernel_rfl) (by kernel_rfl) (fun _ _ _ h => h) (Or.inr ⟨by rfl, rfl⟩) (by assumption) ?_
    try simp only [Act.put, List.getElem_toArray, List.getElem_cons_succ, List.getElem_cons_zero, List.setIfInBounds_toArray, List.set_cons_zero, List.set_cons_succ]
    refine wpAnyH_take (i := 10) (v := undef) rfl (by kernel_rfl) (by kernel_rfl) (by kernel_rfl) (fun _ _ _ h => h) (Or.inr ⟨by rfl, rfl⟩) (by assumption) ?_
    try simp only [Act.put, List.getElem_toArray, List.getElem_cons_succ, List.getElem_cons_zero, List.setIfInBounds_toArray, List.set_cons_zero, List.set_cons_succ]
    refine wpAnyH_take (i := 11) (v := undef) rfl (by kernel_rfl) (by kernel_rfl) (by kernel_rfl) (fun _ _ _ h => h) (Or.inr ⟨by rfl, rfl⟩) (by assumption) ?_
    try simp only [Act.put, List.getElem_toArray, List.getElem_cons_succ, List.getElem_cons_zero, List.setIfInBounds_toArray, List.set_cons_zero, List.set_cons_succ]
    refine wpAnyH_take (i := 12) (v := undef) rfl (by kernel_rfl) (by kernel_rfl) (by kernel_rfl) (fun _ _ _ h => h) (Or.inr ⟨by rfl, rfl⟩) (by assumption) ?_
    try simp only [Act.put, List.getElem_toArray, List.getElem_cons_succ, List.getElem_cons_zero, List.setIfInBounds_toArray, List.set_cons_zero, List.set_cons_succ]
    refine wpAnyH_take (i := 13) (v := undef) rfl (by kernel_rfl) (by kernel_rfl) (by kernel_rfl) (fun _ _ _ h => h) (Or.inr ⟨by rfl, rfl⟩) (by assumption) ?_
    try simp only [Act.put, List.getElem_toArray, List.getElem_cons_succ, List.getElem_cons_zero, List.setIfInBounds_toArray, List.set_cons_zero, List.set_cons_succ]
    refine wpAnyH_take (i := 14) (v := ?_) rfl (by kernel_rfl) (by kernel_rfl) (by kernel_rfl) (fun _ _ _ h => h) (Or.inl ⟨by rfl, ?_⟩) (by assumption) ?_
    rotate_left 1
    · (intro w hSw; (try dsimp only at hSw); go_simp; first | done | with_reducible rfl)
    try simp only [Act.put, List.getElem_toArray, List.getElem_cons_succ, List.getElem_cons_zero, List.setIfInBounds_toArray, List.set_cons_zero, List.set_cons_succ]
    refine wpAnyH_take (i := 15) (v := ?_) rfl (by kernel_rfl) (by kernel_rfl) (by kernel_rfl) (fun _ _ _ h => h) (Or.inl ⟨by rfl, ?_⟩) (by assumption) ?_
    rotate_left 1
    · (intro w hSw; (try dsimp only at hSw); go_simp; first | done | with_reducible rfl)
    try simp only [Act.put, List.getElem_toArray, List.getElem_cons_succ, List.getElem_cons_zero, List.setIfInBounds_toArray, List.set_cons_zero, List.set_cons_succ]
    refine wpAnyH_take (i := 16) (v := undef) rfl (by kernel_rfl) (by kernel_rfl) (by kernel_rfl) (fun _ _ _ h => h) (Or.inr ⟨by rfl, rfl⟩) (by assumption) ?_
    try simp only [Act.put, List.getElem_toArray, List.getElem_cons_succ, List.getElem_cons_zero, List.setIfInBounds_toArray, List.set_cons_zero, List.set_cons_succ]
    refine wpAnyH_take (i := 17) (v := undef) rfl (by kernel_rfl) (by kernel_rfl) (by kernel_rfl) (fun _ _ _ h => h) (Or.inr ⟨by rfl, rfl⟩) (by assumption) ?_
    try simp only [Act.put, List.getElem_toArray, List.getElem_cons_succ, List.getElem_cons_zero, List.setIfInBounds_toArray, List.set_cons_zero, List.set_cons_succ]
    refine wpAnyH_take (i := 18) (v := undef) rfl (by kernel_rfl) (by kernel_rfl) (by kernel_rfl) (fun _ _ _ h => h) (Or.inr ⟨by rfl, rfl⟩) (by assumption) ?_
    try simp only [Act.put, List.getElem_toArray, List.getElem_cons_succ, List.getElem_cons_zero, List.setIfInBounds_toArray, List.set_cons_zero, List.set_cons_succ]
    refine wpAnyH_take (i := 19) (v := undef) rfl (by kernel_rfl) (by kernel_rfl) (by kernel_rfl) (fun _ _ _ h => h) (Or.inr ⟨by rfl, rfl⟩) (by assumption) ?_
    try simp only [Act.put, List.getElem_toArray, List.getElem_cons_succ, List.getElem_cons_zero, List.setIfInBounds_toArray, List.set_cons_zero, List.set_cons_succ]
    refine wpAnyH_take (i := 20) (v := undef) rfl (by kernel_rfl) (by kernel_rfl) (by kernel_rfl) (fun _ _ _ h => h) (Or.inr ⟨by rfl, rfl⟩) (by assumption) ?_
    try simp only [Act.put, List.getElem_toArray, List.getElem_cons_succ, List.getElem_cons_zero, List.setIfInBounds_toArray, List.set_cons_zero, List.set_cons_succ]
    refine wpAnyH_take (i := 21) (v := undef) rfl (by kernel_rfl) (by kernel_rfl) (by kernel_rfl) (fun _ _ _ h => h) (Or.inr ⟨by rfl, rfl⟩) (by assumption) ?_
    try simp only [Act.put, List.getElem_toArray, List.getElem_cons_succ, List.getElem_cons_zero, List.setIfInBounds_toArray, List.set_cons_zero, List.set_cons_succ]
    refine wpAnyH_take (i := 22) (v := undef) rfl (by kernel_rfl) (by kernel_rfl) (by kernel_rfl) (fun _ _ _ h => h) (Or.inr ⟨by rfl, rfl⟩) (by assumption) ?_
    try simp only [Act.put, List.getElem_toArray, List.getElem_cons_succ, List.getElem_cons_zero, List.setIfInBounds_toArray, List.set_cons_zero, List.set_cons_succ]
    refine wpAnyH_take (i := 23) (v := ?_) rfl (by kernel_rfl) (by kernel_rfl) (by kernel_rfl) (fun _ _ _ h => h) (Or.inl ⟨by rfl, ?_⟩) (by assumption) ?_
    rotate_left 1
    · (intro w hSw; (try dsimp only at hSw); go_simp; first | done | with_reducible rfl)
    try simp only [Act.put, List.getElem_toArray, List.getElem_cons_succ, List.getElem_cons_zero, List.setIfInBounds_toArray, List.set_cons_zero, List.set_cons_succ]
    refine wpAnyH_done (by kernel_rfl) ?_ _
    all_goals go_wp2_with fail
    all_goals refine bodyPost_ret (v := .tuple #[.agg #[.string ⟨#[]⟩, .int .i64 0, .int .i64 0, .bool false, .bool false], .agg #[.string ⟨#[]⟩, .int .i64 0, .int .i64 0, .bool false, .bool false], .bool false]) (by simp [results, Tryz.results13, go_sem, hcx, kC0, kC1, kC2, kC3, kC4, kD0, kD1, kD2, kD3, kD4, zC, zD]) rfl ⟨rfl, ?_⟩
    all_goals exact (((((((((((HF.out _ (by assumption)).setCell lC _).setCell lC _).setCell lC _).setCell lC _).setCell lC _).setCell lD _).setCell lD _).setCell lD _).setCell lD _).setCell lD _)
  · skip
    have HA := Lib.hid (fun w => right2_any a true w hs g1)
    have HB := Lib.hid (fun w => right2_any b false w hs2 g2)
    clear h g5 g1 g2
    go_enter Tryz.func13, Tryz.ntmps13
    go_wp2_with fail
    obtain ⟨s3, hws⟩ : ∃ s, s = ((((w.alloc (.cells #[.string a.sh, .int .i64 a.c, .int .i64 a.r, .bool a.fc, .bool a.fr] 23)).alloc (.cells #[.string b.sh, .int .i64 b.c, .int .i64 b.r, .bool b.fc, .bool b.fr] 23)).alloc (.cells #[.string ⟨#[]⟩, .int .i64 0, .int .i64 0, .bool false, .bool false] 23)).alloc (.cells #[.string ⟨#[]⟩, .int .i64 0, .int .i64 0, .bool false, .bool false] 23)) := ⟨_, rfl⟩
    have hBs : Below w.heap.size w s3 := by rw [hws]; exact (((((Below.refl w.heap.size w).alloc (by simp) _).alloc (by simp) _).alloc (by simp; omega) _).alloc (by simp; omega) _)
    obtain ⟨A, hdA⟩ : ∃ b, b = w.heap.size := ⟨_, rfl⟩
    obtain ⟨B, hdB⟩ : ∃ b, b = w.heap.size + 1 := ⟨_, rfl⟩
    obtain ⟨C, hdC⟩ : ∃ b, b = w.heap.size + 1 + 1 := ⟨_, rfl⟩
    obtain ⟨D, hdD⟩ : ∃ b, b = w.heap.size + 1 + 1 + 1 := ⟨_, rfl⟩
    have hsz : s3.heap.size = w.heap.size + 1 + 1 + 1 + 1 := by rw [hws]; simp
    have dCA : C ≠ A := by omega
    have dCB : C ≠ B := by omega
    have dCD : C ≠ D := by omega
    have dDA : D ≠ A := by omega
    have dDB : D ≠ B := by omega
    have dDC : D ≠ C := by omega
    have kA0 : s3.cell? ⟨A, 0, none⟩ = some (.string a.sh) := by rw [hws]; simp [go_sem, hdA, hdB, hdC, hdD]
    have kA1 : s3.cell? ⟨A, 1, none⟩ = some (.int .i64 a.c) := by rw [hws]; simp [go_sem, hdA, hdB, hdC, hdD]
    have kA2 : s3.cell? ⟨A, 2, none⟩ = some (.int .i64 a.r) := by rw [hws]; simp [go_sem, hdA, hdB, hdC, hdD]
    have kA3 : s3.cell? ⟨A, 3, none⟩ = some (.bool a.fc) := by rw [hws]; simp [go_sem, hdA, hdB, hdC, hdD]
    have kA4 : s3.cell? ⟨A, 4, none⟩ = some (.bool a.fr) := by rw [hws]; simp [go_sem, hdA, hdB, hdC, hdD]
    have zA : A < s3.heap.size := by omega
    have lA : w.heap.size ≤ A := by have := Nat.le_refl w.heap.size; omega
    have kB0 : s3.cell? ⟨B, 0, none⟩ = some (.string b.sh) := by rw [hws]; simp [go_sem, hdA, hdB, hdC, hdD]
    have kB1 : s3.cell? ⟨B, 1, none⟩ = some (.int .i64 b.c) := by rw [hws]; simp [go_sem, hdA, hdB, hdC, hdD]
    have kB2 : s3.cell? ⟨B, 2, none⟩ = some (.int .i64 b.r) := by rw [hws]; simp [go_sem, hdA, hdB, hdC, hdD]
    have kB3 : s3.cell? ⟨B, 3, none⟩ = some (.bool b.fc) := by rw [hws]; simp [go_sem, hdA, hdB, hdC, hdD]
    have kB4 : s3.cell? ⟨B, 4, none⟩ = some (.bool b.fr) := by rw [hws]; simp [go_sem, hdA, hdB, hdC, hdD]
    have zB : B < s3.heap.size := by omega
    have lB : w.heap.size ≤ B := by have := Nat.le_refl w.heap.size; omega
    have kC0 : s3.cell? ⟨C, 0, none⟩ = some (.string ⟨#[]⟩) := by rw [hws]; simp [go_sem, hdA, hdB, hdC, hdD]
    have fC0 : s3.frozen? ⟨C, 0, none⟩ = false := by rw [hws]; simp [go_sem, hdA, hdB, hdC, hdD]
    have kC1 : s3.cell? ⟨C, 1, none⟩ = some (.int .i64 0) := by rw [hws]; simp [go_sem, hdA, hdB, hdC, hdD]
    have fC1 : s3.frozen? ⟨C, 1, none⟩ = false := by rw [hws]; simp [go_sem, hdA, hdB, hdC, hdD]
    have kC2 : s3.cell? ⟨C, 2, none⟩ = some (.int .i64 0) := by rw [hws]; simp [go_sem, hdA, hdB, hdC, hdD]
    have fC2 : s3.frozen? ⟨C, 2, none⟩ = false := by rw [hws]; simp [go_sem, hdA, hdB, hdC, hdD]
    have kC3 : s3.cell? ⟨C, 3, none⟩ = some (.bool false) := by rw [hws]; simp [go_sem, hdA, hdB, hdC, hdD]
    have fC3 : s3.frozen? ⟨C, 3, none⟩ = false := by rw [hws]; simp [go_sem, hdA, hdB, hdC, hdD]
    have kC4 : s3.cell? ⟨C, 4, none⟩ = some (.bool false) := by rw [hws]; simp [go_sem, hdA, hdB, hdC, hdD]
    have fC4 : s3.frozen? ⟨C, 4, none⟩ = false := by rw [hws]; simp [go_sem, hdA, hdB, hdC, hdD]
    have zC : C < s3.heap.size := by omega
    have lC : w.heap.size ≤ C := by have := Nat.le_refl w.heap.size; omega
    have kD0 : s3.cell? ⟨D, 0, none⟩ = some (.string ⟨#[]⟩) := by rw [hws]; simp [go_sem, hdA, hdB, hdC, hdD]
    have fD0 : s3.frozen? ⟨D, 0, none⟩ = false := by rw [hws]; simp [go_sem, hdA, hdB, hdC, hdD]
    have kD1 : s3.cell? ⟨D, 1, none⟩ = some (.int .i64 0) := by rw [hws]; simp [go_sem, hdA, hdB, hdC, hdD]
    have fD1 : s3.frozen? ⟨D, 1, none⟩ = false := by rw [hws]; simp [go_sem, hdA, hdB, hdC, hdD]
    have kD2 : s3.cell? ⟨D, 2, none⟩ = some (.int .i64 0) := by rw [hws]; simp [go_sem, hdA, hdB, hdC, hdD]
    have fD2 : s3.frozen? ⟨D, 2, none⟩ = false := by rw [hws]; simp [go_sem, hdA, hdB, hdC, hdD]
    have kD3 : s3.cell? ⟨D, 3, none⟩ = some (.bool false) := by rw [hws]; simp [go_sem, hdA, hdB, hdC, hdD]
    have fD3 : s3.frozen? ⟨D, 3, none⟩ = false := by rw [hws]; simp [go_sem, hdA, hdB, hdC, hdD]
    have kD4 : s3.cell? ⟨D, 4, none⟩ = some (.bool false) := by rw [hws]; simp [go_sem, hdA, hdB, hdC, hdD]
    have fD4 : s3.frozen? ⟨D, 4, none⟩ = false := by rw [hws]; simp [go_sem, hdA, hdB, hdC, hdD]
    have zD : D < s3.heap.size := by omega
    have lD : w.heap.size ≤ D := by have := Nat.le_refl w.heap.size; omega
    rw [← hws]
    try rw [← hdD]
    try rw [← hdC]
    try rw [← hdB]
    try rw [← hdA]
    clear hws hsz hdA hdB hdC hdD
    have hBo := hBs; clear hBs
    have HF : Hid (∀ W, Below s3.heap.size s3 W → Below w.heap.size w W) := fun W hW => hBo.trans (hW.mono hBo.size)
    clear hBo
    refine wp_region_held_drew (S := fun w' => w'.cell? ⟨A, 0, none⟩ = some (.string a.sh) ∧ w'.cell? ⟨A, 1, none⟩ = some (.int .i64 a.c) ∧ w'.cell? ⟨A, 2, none⟩ = some (.int .i64 a.r) ∧ w'.cell? ⟨A, 3, none⟩ = some (.bool a.fc) ∧ w'.cell? ⟨A, 4, none⟩ = some (.bool a.fr) ∧ w'.cell? ⟨B, 0, none⟩ = some (.string b.sh) ∧ w'.cell? ⟨B, 1, none⟩ = some (.int .i64 b.c) ∧ w'.cell? ⟨B, 2, none⟩ = some (.int .i64 b.r) ∧ w'.cell? ⟨B, 3, none⟩ = some (.bool b.fc) ∧ w'.cell? ⟨B, 4, none⟩ = some (.bool b.fr)) (by kernel_rfl) (by ((try dsimp only); (go_keep))) (fun hHeld => ?_)
    refine wpAnyH_take (i := 0) (v := ?_) rfl (by kernel_rfl) (by kernel_rfl) (by kernel_rfl) (fun _ _ _ h => h) (Or.inl ⟨by rfl, ?_⟩) (by assumption) ?_
    rotate_left 1
    · (intro w hSw; (try dsimp only at hSw); go_simp; first | done | with_reducible rfl)
    try simp only [Act.put, List.getElem_toArray, List.getElem_cons_succ, List.getElem_cons_zero, List.setIfInBounds_toArray, List.set_cons_zero, List.set_cons_succ]
    refine wpAnyH_ready (rs := [1]) (by kernel_rfl) (by simp) ?_
    refine AllReadyH.cons rfl (fun K hK => ?_) AllReadyH.nil
    go_simp
    (go_at_call 20; refine (HA.out _).mono ?_; rintro e x4 ⟨rfl, hbx⟩; have hTx : Below s3.heap.size s3 x4 := (by first | exact (Below.refl _ _).drew.trans hbx | exact Below.trans (by assumption) (hbx.mono (Below.size (by assumption))) | exact (Below.refl _ _).trans hbx); obtain ⟨hcx, hfx⟩ := bcell hTx)
    try (go_wp2_with fail)
    refine hK.out _ _ (by ((try dsimp only); (go_keep))) (fun hHeld => ?_)
    clear hK K
    try simp only [Act.put, List.getElem_toArray, List.getElem_cons_succ, List.getElem_cons_zero, List.setIfInBounds_toArray, List.set_cons_zero, List.set_cons_succ]
    refine wpAnyH_take (i := 2) (v := ?_) rfl (by kernel_rfl) (by kernel_rfl) (by kernel_rfl) (fun _ _ _ h => h) (Or.inl ⟨by rfl, ?_⟩) (by assumption) ?_
    rotate_left 1
    · (intro w hSw; (try dsimp only at hSw); go_simp; first | done | with_reducible rfl)
    try simp only [Act.put, List.getElem_toArray, List.getElem_cons_succ, List.getElem_cons_zero, List.setIfInBounds_toArray, List.set_cons_zero, List.set_cons_succ]
    refine wpAnyH_take (i := 3) (v := ?_) rfl (by kernel_rfl) (by kernel_rfl) (by kernel_rfl) (fun _ _ _ h => h) (Or.inl ⟨by rfl, ?_⟩) (by assumption) ?_
    rotate_left 1
    · (intro w hSw; (try dsimp only at hSw); go_simp; first | done | with_reducible rfl)
    try simp only [Act.put, List.getElem_toArray, List.getElem_cons_succ, List.getElem_cons_zero, List.setIfInBounds_toArray, List.set_cons_zero, List.set_cons_succ]
    refine wpAnyH_take (i := 4) (v := ?_) rfl (by kernel_rfl) (by kernel_rfl) (by kernel_rfl) (fun _ _ _ h => h) (Or.inl ⟨by rfl, ?_⟩) (by assumption) ?_
    rotate_left 1
    · (intro w hSw; (try dsimp only at hSw); go_simp; first | done | with_reducible rfl)
    try simp only [Act.put, List.getElem_toArray, List.getElem_cons_succ, List.getElem_cons_zero, List.setIfInBounds_toArray, List.set_cons_zero, List.set_cons_succ]
    refine wpAnyH_ready (rs := [5]) (by kernel_rfl) (by simp) ?_
    refine AllReadyH.cons rfl (fun K hK => ?_) AllReadyH.nil
    go_simp
    (go_at_call 20; refine (HB.out _).mono ?_; rintro e x4 ⟨rfl, hbx⟩; have hTx : Below s3.heap.size s3 x4 := (by first | exact (Below.refl _ _).drew.trans hbx | exact Below.trans (by assumption) (hbx.mono (Below.size (by assumption))) | exact (Below.refl _ _).trans hbx); obtain ⟨hcx, hfx⟩ := bcell hTx)
    try (go_wp2_with fail)
    refine hK.out _ _ (by ((try dsimp only); (go_keep))) (fun hHeld => ?_)
    clear hK K
    try simp only [Act.put, List.getElem_toArray, List.getElem_cons_succ, List.getElem_cons_zero, List.setIfInBounds_toArray, List.set_cons_zero, List.set_cons_succ]
    refine wpAnyH_take (i := 6) (v := ?_) rfl (by kernel_rfl) (by kernel_rfl) (by kernel_rfl) (fun _ _ _ h => h) (Or.inl ⟨by rfl, ?_⟩) (by assumption) ?_
    rotate_left 1
    · (intro w hSw; (try dsimp only at hSw); go_simp; first | done | with_reducible rfl)
    try simp only [Act.put, List.getElem_toArray, List.getElem_cons_succ, List.getElem_cons_zero, List.setIfInBounds_toArray, List.set_cons_zero, List.set_cons_succ]
    refine wpAnyH_take (i := 7) (v := ?_) rfl (by kernel_rfl) (by kernel_rfl) (by kernel_rfl) (fun _ _ _ h => h) (Or.inl ⟨by rfl, ?_⟩) (by assumption) ?_
    rotate_left 1
    · (intro w hSw; (try dsimp only at hSw); go_simp; first | done | with_reducible rfl)
    try simp only [Act.put, List.getElem_toArray, List.getElem_cons_succ, List.getElem_cons_zero, List.setIfInBounds_toArray, List.set_cons_zero, List.set_cons_succ]
    refine wpAnyH_take (i := 8) (v := ?_) rfl (by kernel_rfl) (by kernel_rfl) (by kernel_rfl) (fun _ _ _ h => h) (Or.inl ⟨by rfl, ?_⟩) (by assumption) ?_
    rotate_left 1
    · (intro w hSw; (try dsimp only at hSw); go_simp; first | done | with_reducible rfl)
    try simp only [Act.put, List.getElem_toArray, List.getElem_cons_succ, List.getElem_cons_zero, List.setIfInBounds_toArray, List.set_cons_zero, List.set_cons_succ]
    refine wpAnyH_take (i := 9) (v := undef) rfl (by kernel_rfl) (by kernel_rfl) (by kernel_rfl) (fun _ _ _ h => h) (Or.inr ⟨by rfl, rfl⟩) (by assumption) ?_
    try simp only [Act.put, List.getElem_toArray, List.getElem_cons_succ, List.getElem_cons_zero, List.setIfInBounds_toArray, List.set_cons_zero, List.set_cons_succ]
    refine wpAnyH_take (i := 10) (v := undef) rfl (by kernel_rfl) (by kernel_rfl) (by kernel_rfl) (fun _ _ _ h => h) (Or.inr ⟨by rfl, rfl⟩) (by assumption) ?_
    try simp only [Act.put, List.getElem_toArray, List.getElem_cons_succ, List.getElem_cons_zero, List.setIfInBounds_toArray, List.set_cons_zero, List.set_cons_succ]
    refine wpAnyH_take (i := 11) (v := undef) rfl (by kernel_rfl) (by kernel_rfl) (by kernel_rfl) (fun _ _ _ h => h) (Or.inr ⟨by rfl, rfl⟩) (by assumption) ?_
    try simp only [Act.put, List.getElem_toArray, List.getElem_cons_succ, List.getElem_cons_zero, List.setIfInBounds_toArray, List.set_cons_zero, List.set_cons_succ]
    refine wpAnyH_take (i := 12) (v := undef) rfl (by kernel_rfl) (by kernel_rfl) (by kernel_rfl) (fun _ _ _ h => h) (Or.inr ⟨by rfl, rfl⟩) (by assumption) ?_
    try simp only [Act.put, List.getElem_toArray, List.getElem_cons_succ, List.getElem_cons_zero, List.setIfInBounds_toArray, List.set_cons_zero, List.set_cons_succ]
    refine wpAnyH_take (i := 13) (v := undef) rfl (by kernel_rfl) (by kernel_rfl) (by kernel_rfl) (fun _ _ _ h => h) (Or.inr ⟨by rfl, rfl⟩) (by assumption) ?_
    try simp only [Act.put, List.getElem_toArray, List.getElem_cons_succ, List.getElem_cons_zero, List.setIfInBounds_toArray, List.set_cons_zero, List.set_cons_succ]
    refine wpAnyH_take (i := 14) (v := ?_) rfl (by kernel_rfl) (by kernel_rfl) (by kernel_rfl) (fun _ _ _ h => h) (Or.inl ⟨by rfl, ?_⟩) (by assumption) ?_
    rotate_left 1
    · (intro w hSw; (try dsimp only at hSw); go_simp; first | done | with_reducible rfl)
    try simp only [Act.put, List.getElem_toArray, List.getElem_cons_succ, List.getElem_cons_zero, List.setIfInBounds_toArray, List.set_cons_zero, List.set_cons_succ]
    refine wpAnyH_take (i := 15) (v := ?_) rfl (by kernel_rfl) (by kernel_rfl) (by kernel_rfl) (fun _ _ _ h => h) (Or.inl ⟨by rfl, ?_⟩) (by assumption) ?_
    rotate_left 1
    · (intro w hSw; (try dsimp only at hSw); go_simp; first | done | with_reducible rfl)
    try simp only [Act.put, List.getElem_toArray, List.getElem_cons_succ, List.getElem_cons_zero, List.setIfInBounds_toArray, List.set_cons_zero, List.set_cons_succ]
    refine wpAnyH_take (i := 16) (v := undef) rfl (by kernel_rfl) (by kernel_rfl) (by kernel_rfl) (fun _ _ _ h => h) (Or.inr ⟨by rfl, rfl⟩) (by assumption) ?_
    try simp only [Act.put, List.getElem_toArray, List.getElem_cons_succ, List.getElem_cons_zero, List.setIfInBounds_toArray, List.set_cons_zero, List.set_cons_succ]
    refine wpAnyH_take (i := 17) (v := undef) rfl (by kernel_rfl) (by kernel_rfl) (by kernel_rfl) (fun _ _ _ h => h) (Or.inr ⟨by rfl, rfl⟩) (by assumption) ?_
    try simp only [Act.put, List.getElem_toArray, List.getElem_cons_succ, List.getElem_cons_zero, List.setIfInBounds_toArray, List.set_cons_zero, List.set_cons_succ]
    refine wpAnyH_take (i := 18) (v := undef) rfl (by kernel_rfl) (by kernel_rfl) (by kernel_rfl) (fun _ _ _ h => h) (Or.inr ⟨by rfl, rfl⟩) (by assumption) ?_
    try simp only [Act.put, List.getElem_toArray, List.getElem_cons_succ, List.getElem_cons_zero, List.setIfInBounds_toArray, List.set_cons_zero, List.set_cons_succ]
    refine wpAnyH_take (i := 19) (v := undef) rfl (by kernel_rfl) (by kernel_rfl) (by kernel_rfl) (fun _ _ _ h => h) (Or.inr ⟨by rfl, rfl⟩) (by assumption) ?_
    try simp only [Act.put, List.getElem_toArray, List.getElem_cons_succ, List.getElem_cons_zero, List.setIfInBounds_toArray, List.set_cons_zero, List.set_cons_succ]
    refine wpAnyH_take (i := 20) (v := undef) rfl (by kernel_rfl) (by kernel_rfl) (by kernel_rfl) (fun _ _ _ h => h) (Or.inr ⟨by rfl, rfl⟩) (by assumption) ?_
    try simp only [Act.put, List.getElem_toArray, List.getElem_cons_succ, List.getElem_cons_zero, List.setIfInBounds_toArray, List.set_cons_zero, List.set_cons_succ]
    refine wpAnyH_take (i := 21) (v := undef) rfl (by kernel_rfl) (by kernel_rfl) (by kernel_rfl) (fun _ _ _ h => h) (Or.inr ⟨by rfl, rfl⟩) (by assumption) ?_
    try simp only [Act.put, List.getElem_toArray, List.getElem_cons_succ, List.getElem_cons_zero, List.setIfInBounds_toArray, List.set_cons_zero, List.set_cons_succ]
    refine wpAnyH_take (i := 22) (v := undef) rfl (by kernel_rfl) (by kernel_rfl) (by kernel_rfl) (fun _ _ _ h => h) (Or.inr ⟨by rfl, rfl⟩) (by assumption) ?_
    try simp only [Act.put, List.getElem_toArray, List.getElem_cons_succ, List.getElem_cons_zero, List.setIfInBounds_toArray, List.set_cons_zero, List.set_cons_succ]
    refine wpAnyH_take (i := 23) (v := ?_) rfl (by kernel_rfl) (by kernel_rfl) (by kernel_rfl) (fun _ _ _ h => h) (Or.inl ⟨by rfl, ?_⟩) (by assumption) ?_
    rotate_left 1
    · (intro w hSw; (try dsimp only at hSw); go_simp; first | done | with_reducible rfl)
    try simp only [Act.put, List.getElem_toArray, List.getElem_cons_succ, List.getElem_cons_zero, List.setIfInBounds_toArray, List.set_cons_zero, List.set_cons_succ]
    refine wpAnyH_done (by kernel_rfl) ?_ _
    all_goals go_wp2_with fail
    all_goals refine bodyPost_ret (v := .tuple #[.agg #[.string ⟨#[]⟩, .int .i64 0, .int .i64 0, .bool false, .bool false], .agg #[.string ⟨#[]⟩, .int .i64 0, .int .i64 0, .bool false, .bool false], .bool false]) (by simp [results, Tryz.results13, go_sem, hcx, kC0, kC1, kC2, kC3, kC4, kD0, kD1, kD2, kD3, kD4, zC, zD]) rfl ⟨rfl, ?_⟩
    all_goals exact (((((((((((HF.out _ (by assumption)).setCell lC _).setCell lC _).setCell lC _).setCell lC _).setCell lC _).setCell lD _).setCell lD _).setCell lD _).setCell lD _).setCell lD _)
  · skip
    have HA := Lib.hid (fun w => right2_any a true w hs g1)
    have HB := Lib.hid (fun w => right2_any b true w hs2 g2)
    have HM := Lib.hid (fun w => refMay_any way x n false w g3)
    clear h g5 g1 g2 g3
    go_enter Tryz.func13, Tryz.ntmps13
    go_wp2_with fail
    obtain ⟨s5, hws⟩ : ∃ s, s = ((((w.alloc (.cells #[.string a.sh, .int .i64 a.c, .int .i64 a.r, .bool a.fc, .bool a.fr] 23)).alloc (.cells #[.string b.sh, .int .i64 b.c, .int .i64 b.r, .bool b.fc, .bool b.fr] 23)).alloc (.cells #[.string ⟨#[]⟩, .int .i64 0, .int .i64 0, .bool false, .bool false] 23)).alloc (.cells #[.string ⟨#[]⟩, .int .i64 0, .int .i64 0, .bool false, .bool false] 23)) := ⟨_, rfl⟩
    have hBs : Below w.heap.size w s5 := by rw [hws]; exact (((((Below.refl w.heap.size w).alloc (by simp) _).alloc (by simp) _).alloc (by simp; omega) _).alloc (by simp; omega) _)
    obtain ⟨A, hdA⟩ : ∃ b, b = w.heap.size := ⟨_, rfl⟩
    obtain ⟨B, hdB⟩ : ∃ b, b = w.heap.size + 1 := ⟨_, rfl⟩
    obtain ⟨C, hdC⟩ : ∃ b, b = w.heap.size + 1 + 1 := ⟨_, rfl⟩
    obtain ⟨D, hdD⟩ : ∃ b, b = w.heap.size + 1 + 1 + 1 := ⟨_, rfl⟩
    have hsz : s5.heap.size = w.heap.size + 1 + 1 + 1 + 1 := by rw [hws]; simp
    have dCA : C ≠ A := by omega
    have dCB : C ≠ B := by omega
    have dCD : C ≠ D := by omega
    have dDA : D ≠ A := by omega
    have dDB : D ≠ B := by omega
    have dDC : D ≠ C := by omega
    have kA0 : s5.cell? ⟨A, 0, none⟩ = some (.string a.sh) := by rw [hws]; simp [go_sem, hdA, hdB, hdC, hdD]
    have kA1 : s5.cell? ⟨A, 1, none⟩ = some (.int .i64 a.c) := by rw [hws]; simp [go_sem, hdA, hdB, hdC, hdD]
    have kA2 : s5.cell? ⟨A, 2, none⟩ = some (.int .i64 a.r) := by rw [hws]; simp [go_sem, hdA, hdB, hdC, hdD]
    have kA3 : s5.cell? ⟨A, 3, none⟩ = some (.bool a.fc) := by rw [hws]; simp [go_sem, hdA, hdB, hdC, hdD]
    have kA4 : s5.cell? ⟨A, 4, none⟩ = some (.bool a.fr) := by rw [hws]; simp [go_sem, hdA, hdB, hdC, hdD]
    have zA : A < s5.heap.size := by omega
    have lA : w.heap.size ≤ A := by have := Nat.le_refl w.heap.size; omega
    have kB0 : s5.cell? ⟨B, 0, none⟩ = some (.string b.sh) := by rw [hws]; simp [go_sem, hdA, hdB, hdC, hdD]
    have kB1 : s5.cell? ⟨B, 1, none⟩ = some (.int .i64 b.c) := by rw [hws]; simp [go_sem, hdA, hdB, hdC, hdD]
    have kB2 : s5.cell? ⟨B, 2, none⟩ = some (.int .i64 b.r) := by rw [hws]; simp [go_sem, hdA, hdB, hdC, hdD]
    have kB3 : s5.cell? ⟨B, 3, none⟩ = some (.bool b.fc) := by rw [hws]; simp [go_sem, hdA, hdB, hdC, hdD]
    have kB4 : s5.cell? ⟨B, 4, none⟩ = some (.bool b.fr) := by rw [hws]; simp [go_sem, hdA, hdB, hdC, hdD]
    have zB : B < s5.heap.size := by omega
    have lB : w.heap.size ≤ B := by have := Nat.le_refl w.heap.size; omega
    have kC0 : s5.cell? ⟨C, 0, none⟩ = some (.string ⟨#[]⟩) := by rw [hws]; simp [go_sem, hdA, hdB, hdC, hdD]
    have fC0 : s5.frozen? ⟨C, 0, none⟩ = false := by rw [hws]; simp [go_sem, hdA, hdB, hdC, hdD]
    have kC1 : s5.cell? ⟨C, 1, none⟩ = some (.int .i64 0) := by rw [hws]; simp [go_sem, hdA, hdB, hdC, hdD]
    have fC1 : s5.frozen? ⟨C, 1, none⟩ = false := by rw [hws]; simp [go_sem, hdA, hdB, hdC, hdD]
    have kC2 : s5.cell? ⟨C, 2, none⟩ = some (.int .i64 0) := by rw [hws]; simp [go_sem, hdA, hdB, hdC, hdD]
    have fC2 : s5.frozen? ⟨C, 2, none⟩ = false := by rw [hws]; simp [go_sem, hdA, hdB, hdC, hdD]
    have kC3 : s5.cell? ⟨C, 3, none⟩ = some (.bool false) := by rw [hws]; simp [go_sem, hdA, hdB, hdC, hdD]
    have fC3 : s5.frozen? ⟨C, 3, none⟩ = false := by rw [hws]; simp [go_sem, hdA, hdB, hdC, hdD]
    have kC4 : s5.cell? ⟨C, 4, none⟩ = some (.bool false) := by rw [hws]; simp [go_sem, hdA, hdB, hdC, hdD]
    have fC4 : s5.frozen? ⟨C, 4, none⟩ = false := by rw [hws]; simp [go_sem, hdA, hdB, hdC, hdD]
    have zC : C < s5.heap.size := by omega
    have lC : w.heap.size ≤ C := by have := Nat.le_refl w.heap.size; omega
    have kD0 : s5.cell? ⟨D, 0, none⟩ = some (.string ⟨#[]⟩) := by rw [hws]; simp [go_sem, hdA, hdB, hdC, hdD]
    have fD0 : s5.frozen? ⟨D, 0, none⟩ = false := by rw [hws]; simp [go_sem, hdA, hdB, hdC, hdD]
    have kD1 : s5.cell? ⟨D, 1, none⟩ = some (.int .i64 0) := by rw [hws]; simp [go_sem, hdA, hdB, hdC, hdD]
    have fD1 : s5.frozen? ⟨D, 1, none⟩ = false := by rw [hws]; simp [go_sem, hdA, hdB, hdC, hdD]
    have kD2 : s5.cell? ⟨D, 2, none⟩ = some (.int .i64 0) := by rw [hws]; simp [go_sem, hdA, hdB, hdC, hdD]
    have fD2 : s5.frozen? ⟨D, 2, none⟩ = false := by rw [hws]; simp [go_sem, hdA, hdB, hdC, hdD]
    have kD3 : s5.cell? ⟨D, 3, none⟩ = some (.bool false) := by rw [hws]; simp [go_sem, hdA, hdB, hdC, hdD]
    have fD3 : s5.frozen? ⟨D, 3, none⟩ = false := by rw [hws]; simp [go_sem, hdA, hdB, hdC, hdD]
    have kD4 : s5.cell? ⟨D, 4, none⟩ = some (.bool false) := by rw [hws]; simp [go_sem, hdA, hdB, hdC, hdD]
    have fD4 : s5.frozen? ⟨D, 4, none⟩ = false := by rw [hws]; simp [go_sem, hdA, hdB, hdC, hdD]
    have zD : D < s5.heap.size := by omega
    have lD : w.heap.size ≤ D := by have := Nat.le_refl w.heap.size; omega
    rw [← hws]
    try rw [← hdD]
    try rw [← hdC]
    try rw [← hdB]
    try rw [← hdA]
    clear hws hsz hdA hdB hdC hdD
    have hBo := hBs; clear hBs
    have HF : Hid (∀ W, Below s5.heap.size s5 W → Below w.heap.size w W) := fun W hW => hBo.trans (hW.mono hBo.size)
    clear hBo
    refine wp_region_held_drew (S := fun w' => w'.cell? ⟨A, 0, none⟩ = some (.string a.sh) ∧ w'.cell? ⟨A, 1, none⟩ = some (.int .i64 a.c) ∧ w'.cell? ⟨A, 2, none⟩ = some (.int .i64 a.r) ∧ w'.cell? ⟨A, 3, none⟩ = some (.bool a.fc) ∧ w'.cell? ⟨A, 4, none⟩ = some (.bool a.fr) ∧ w'.cell? ⟨B, 0, none⟩ = some (.string b.sh) ∧ w'.cell? ⟨B, 1, none⟩ = some (.int .i64 b.c) ∧ w'.cell? ⟨B, 2, none⟩ = some (.int .i64 b.r) ∧ w'.cell? ⟨B, 3, none⟩ = some (.bool b.fc) ∧ w'.cell? ⟨B, 4, none⟩ = some (.bool b.fr)) (by kernel_rfl) (by ((try dsimp only); (go_keep))) (fun hHeld => ?_)
    refine wpAnyH_take (i := 0) (v := ?_) rfl (by kernel_rfl) (by kernel_rfl) (by kernel_rfl) (fun _ _ _ h => h) (Or.inl ⟨by rfl, ?_⟩) (by assumption) ?_
    rotate_left 1
    · (intro w hSw; (try dsimp only at hSw); go_simp; first | done | with_reducible rfl)
    try simp only [Act.put, List.getElem_toArray, List.getElem_cons_succ, List.getElem_cons_zero, List.setIfInBounds_toArray, List.set_cons_zero, List.set_cons_succ]
    refine wpAnyH_ready (rs := [1]) (by kernel_rfl) (by simp) ?_
    refine AllReadyH.cons rfl (fun K hK => ?_) AllReadyH.nil
    go_simp
    (go_at_call 20; refine (HA.out _).mono ?_; rintro e x6 ⟨rfl, hbx⟩; have hTx : Below s5.heap.size s5 x6 := (by first | exact (Below.refl _ _).drew.trans hbx | exact Below.trans (by assumption) (hbx.mono (Below.size (by assumption))) | exact (Below.refl _ _).trans hbx); obtain ⟨hcx, hfx⟩ := bcell hTx)
    try (go_wp2_with fail)
    refine hK.out _ _ (by ((try dsimp only); (go_keep))) (fun hHeld => ?_)
    clear hK K
    try simp only [Act.put, List.getElem_toArray, List.getElem_cons_succ, List.getElem_cons_zero, List.setIfInBounds_toArray, List.set_cons_zero, List.set_cons_succ]
    refine wpAnyH_take (i := 2) (v := ?_) rfl (by kernel_rfl) (by kernel_rfl) (by kernel_rfl) (fun _ _ _ h => h) (Or.inl ⟨by rfl, ?_⟩) (by assumption) ?_
    rotate_left 1
    · (intro w hSw; (try dsimp only at hSw); go_simp; first | done | with_reducible rfl)
    try simp only [Act.put, List.getElem_toArray, List.getElem_cons_succ, List.getElem_cons_zero, List.setIfInBounds_toArray, List.set_cons_zero, List.set_cons_succ]
    refine wpAnyH_take (i := 3) (v := ?_) rfl (by kernel_rfl) (by kernel_rfl) (by kernel_rfl) (fun _ _ _ h => h) (Or.inl ⟨by rfl, ?_⟩) (by assumption) ?_
    rotate_left 1
    · (intro w hSw; (try dsimp only at hSw); go_simp; first | done | with_reducible rfl)
    try simp only [Act.put, List.getElem_toArray, List.getElem_cons_succ, List.getElem_cons_zero, List.setIfInBounds_toArray, List.set_cons_zero, List.set_cons_succ]
    refine wpAnyH_take (i := 4) (v := ?_) rfl (by kernel_rfl) (by kernel_rfl) (by kernel_rfl) (fun _ _ _ h => h) (Or.inl ⟨by rfl, ?_⟩) (by assumption) ?_
    rotate_left 1
    · (intro w hSw; (try dsimp only at hSw); go_simp; first | done | with_reducible rfl)
    try simp only [Act.put, List.getElem_toArray, List.getElem_cons_succ, List.getElem_cons_zero, List.setIfInBounds_toArray, List.set_cons_zero, List.set_cons_succ]
    refine wpAnyH_ready (rs := [5]) (by kernel_rfl) (by simp) ?_
    refine AllReadyH.cons rfl (fun K hK => ?_) AllReadyH.nil
    go_simp
    (go_at_call 20; refine (HB.out _).mono ?_; rintro e x6 ⟨rfl, hbx⟩; have hTx : Below s5.heap.size s5 x6 := (by first | exact (Below.refl _ _).drew.trans hbx | exact Below.trans (by assumption) (hbx.mono (Below.size (by assumption))) | exact (Below.refl _ _).trans hbx); obtain ⟨hcx, hfx⟩ := bcell hTx)
    try (go_wp2_with fail)
    refine hK.out _ _ (by ((try dsimp only); (go_keep))) (fun hHeld => ?_)
    clear hK K
    try simp only [Act.put, List.getElem_toArray, List.getElem_cons_succ, List.getElem_cons_zero, List.setIfInBounds_toArray, List.set_cons_zero, List.set_cons_succ]
    refine wpAnyH_take (i := 6) (v := ?_) rfl (by kernel_rfl) (by kernel_rfl) (by kernel_rfl) (fun _ _ _ h => h) (Or.inl ⟨by rfl, ?_⟩) (by assumption) ?_
    rotate_left 1
    · (intro w hSw; (try dsimp only at hSw); go_simp; first | done | with_reducible rfl)
    try simp only [Act.put, List.getElem_toArray, List.getElem_cons_succ, List.getElem_cons_zero, List.setIfInBounds_toArray, List.set_cons_zero, List.set_cons_succ]
    refine wpAnyH_take (i := 7) (v := ?_) rfl (by kernel_rfl) (by kernel_rfl) (by kernel_rfl) (fun _ _ _ h => h) (Or.inl ⟨by rfl, ?_⟩) (by assumption) ?_
    rotate_left 1
    · (intro w hSw; (try dsimp only at hSw); go_simp; first | done | with_reducible rfl)
    try simp only [Act.put, List.getElem_toArray, List.getElem_cons_succ, List.getElem_cons_zero, List.setIfInBounds_toArray, List.set_cons_zero, List.set_cons_succ]
    refine wpAnyH_take (i := 8) (v := ?_) rfl (by kernel_rfl) (by kernel_rfl) (by kernel_rfl) (fun _ _ _ h => h) (Or.inl ⟨by rfl, ?_⟩) (by assumption) ?_
    rotate_left 1
    · (intro w hSw; (try dsimp only at hSw); go_simp; first | done | with_reducible rfl)
    try simp only [Act.put, List.getElem_toArray, List.getElem_cons_succ, List.getElem_cons_zero, List.setIfInBounds_toArray, List.set_cons_zero, List.set_cons_succ]
    refine wpAnyH_take (i := 9) (v := ?_) rfl (by kernel_rfl) (by kernel_rfl) (by kernel_rfl) (fun _ _ _ h => h) (Or.inl ⟨by rfl, ?_⟩) (by assumption) ?_
    rotate_left 1
    · (intro w hSw; (try dsimp only at hSw); go_simp; first | done | with_reducible rfl)
    try simp only [Act.put, List.getElem_toArray, List.getElem_cons_succ, List.getElem_cons_zero, List.setIfInBounds_toArray, List.set_cons_zero, List.set_cons_succ]
    refine wpAnyH_take (i := 10) (v := ?_) rfl (by kernel_rfl) (by kernel_rfl) (by kernel_rfl) (fun _ _ _ h => h) (Or.inl ⟨by rfl, ?_⟩) (by assumption) ?_
    rotate_left 1
    · (intro w hSw; (try dsimp only at hSw); go_simp; first | done | with_reducible rfl)
    try simp only [Act.put, List.getElem_toArray, List.getElem_cons_succ, List.getElem_cons_zero, List.setIfInBounds_toArray, List.set_cons_zero, List.set_cons_succ]
    refine wpAnyH_take (i := 11) (v := ?_) rfl (by kernel_rfl) (by kernel_rfl) (by kernel_rfl) (fun _ _ _ h => h) (Or.inl ⟨by rfl, ?_⟩) (by assumption) ?_
    rotate_left 1
    · (intro w hSw; (try dsimp only at hSw); go_simp; first | done | with_reducible rfl)
    try simp only [Act.put, List.getElem_toArray, List.getElem_cons_succ, List.getElem_cons_zero, List.setIfInBounds_toArray, List.set_cons_zero, List.set_cons_succ]
    refine wpAnyH_ready (rs := [12]) (by kernel_rfl) (by simp) ?_
    refine AllReadyH.cons rfl (fun K hK => ?_) AllReadyH.nil
    go_simp
    (go_at_call 23; refine (HM.out _).mono ?_; rintro e wx ⟨rfl, rfl⟩)
    try (go_wp2_with fail)
    refine hK.out _ _ (by ((try dsimp only); (go_keep))) (fun hHeld => ?_)
    clear hK K
    try simp only [Act.put, List.getElem_toArray, List.getElem_cons_succ, List.getElem_cons_zero, List.setIfInBounds_toArray, List.set_cons_zero, List.set_cons_succ]
    refine wpAnyH_take (i := 13) (v := ?_) rfl (by kernel_rfl) (by kernel_rfl) (by kernel_rfl) (fun _ _ _ h => h) (Or.inl ⟨by rfl, ?_⟩) (by assumption) ?_
    rotate_left 1
    · (intro w hSw; (try dsimp only at hSw); go_simp; first | done | with_reducible rfl)
    try simp only [Act.put, List.getElem_toArray, List.getElem_cons_succ, List.getElem_cons_zero, List.setIfInBounds_toArray, List.set_cons_zero, List.set_cons_succ]
    refine wpAnyH_take (i := 14) (v := ?_) rfl (by kernel_rfl) (by kernel_rfl) (by kernel_rfl) (fun _ _ _ h => h) (Or.inl ⟨by rfl, ?_⟩) (by assumption) ?_
    rotate_left 1
    · (intro w hSw; (try dsimp only at hSw); go_simp; first | done | with_reducible rfl)
    try simp only [Act.put, List.getElem_toArray, List.getElem_cons_succ, List.getElem_cons_zero, List.setIfInBounds_toArray, List.set_cons_zero, List.set_cons_succ]
    refine wpAnyH_take (i := 15) (v := ?_) rfl (by kernel_rfl) (by kernel_rfl) (by kernel_rfl) (fun _ _ _ h => h) (Or.inl ⟨by rfl, ?_⟩) (by assumption) ?_
    rotate_left 1
    · (intro w hSw; (try dsimp only at hSw); go_simp; first | done | with_reducible rfl)
    try simp only [Act.put, List.getElem_toArray, List.getElem_cons_succ, List.getElem_cons_zero, List.setIfInBounds_toArray, List.set_cons_zero, List.set_cons_succ]
    refine wpAnyH_take (i := 16) (v := undef) rfl (by kernel_rfl) (by kernel_rfl) (by kernel_rfl) (fun _ _ _ h => h) (Or.inr ⟨by rfl, rfl⟩) (by assumption) ?_
    try simp only [Act.put, List.getElem_toArray, List.getElem_cons_succ, List.getElem_cons_zero, List.setIfInBounds_toArray, List.set_cons_zero, List.set_cons_succ]
    refine wpAnyH_take (i := 17) (v := undef) rfl (by kernel_rfl) (by kernel_rfl) (by kernel_rfl) (fun _ _ _ h => h) (Or.inr ⟨by rfl, rfl⟩) (by assumption) ?_
    try simp only [Act.put, List.getElem_toArray, List.getElem_cons_succ, List.getElem_cons_zero, List.setIfInBounds_toArray, List.set_cons_zero, List.set_cons_succ]
    refine wpAnyH_take (i := 18) (v := undef) rfl (by kernel_rfl) (by kernel_rfl) (by kernel_rfl) (fun _ _ _ h => h) (Or.inr ⟨by rfl, rfl⟩) (by assumption) ?_
    try simp only [Act.put, List.getElem_toArray, List.getElem_cons_succ, List.getElem_cons_zero, List.setIfInBounds_toArray, List.set_cons_zero, List.set_cons_succ]
    refine wpAnyH_take (i := 19) (v := undef) rfl (by kernel_rfl) (by kernel_rfl) (by kernel_rfl) (fun _ _ _ h => h) (Or.inr ⟨by rfl, rfl⟩) (by assumption) ?_
    try simp only [Act.put, List.getElem_toArray, List.getElem_cons_succ, List.getElem_cons_zero, List.setIfInBounds_toArray, List.set_cons_zero, List.set_cons_succ]
    refine wpAnyH_take (i := 20) (v := undef) rfl (by kernel_rfl) (by kernel_rfl) (by kernel_rfl) (fun _ _ _ h => h) (Or.inr ⟨by rfl, rfl⟩) (by assumption) ?_
    try simp only [Act.put, List.getElem_toArray, List.getElem_cons_succ, List.getElem_cons_zero, List.setIfInBounds_toArray, List.set_cons_zero, List.set_cons_succ]
    refine wpAnyH_take (i := 21) (v := undef) rfl (by kernel_rfl) (by kernel_rfl) (by kernel_rfl) (fun _ _ _ h => h) (Or.inr ⟨by rfl, rfl⟩) (by assumption) ?_
    try simp only [Act.put, List.getElem_toArray, List.getElem_cons_succ, List.getElem_cons_zero, List.setIfInBounds_toArray, List.set_cons_zero, List.set_cons_succ]
    refine wpAnyH_take (i := 22) (v := undef) rfl (by kernel_rfl) (by kernel_rfl) (by kernel_rfl) (fun _ _ _ h => h) (Or.inr ⟨by rfl, rfl⟩) (by assumption) ?_
    try simp only [Act.put, List.getElem_toArray, List.getElem_cons_succ, List.getElem_cons_zero, List.setIfInBounds_toArray, List.set_cons_zero, List.set_cons_succ]
    refine wpAnyH_take (i := 23) (v := ?_) rfl (by kernel_rfl) (by kernel_rfl) (by kernel_rfl) (fun _ _ _ h => h) (Or.inl ⟨by rfl, ?_⟩) (by assumption) ?_
    rotate_left 1
    · (intro w hSw; (try dsimp only at hSw); go_simp; first | done | with_reducible rfl)
    try simp only [Act.put, List.getElem_toArray, List.getElem_cons_succ, List.getElem_cons_zero, List.setIfInBounds_toArray, List.set_cons_zero, List.set_cons_succ]
    refine wpAnyH_done (by kernel_rfl) ?_ _
    all_goals go_wp2_with fail
    all_goals refine bodyPost_ret (v := .tuple #[.agg #[.string ⟨#[]⟩, .int .i64 0, .int .i64 0, .bool false, .bool false], .agg #[.string ⟨#[]⟩, .int .i64 0, .int .i64 0, .bool false, .bool false], .bool false]) (by simp [results, Tryz.results13, go_sem, hcx, kC0, kC1, kC2, kC3, kC4, kD0, kD1, kD2, kD3, kD4, zC, zD]) rfl ⟨rfl, ?_⟩
    all_goals exact (((((((((((HF.out _ (by assumption)).setCell lC _).setCell lC _).setCell lC _).setCell lC _).setCell lC _).setCell lD _).setCell lD _).setCell lD _).setCell lD _).setCell lD _)
  · skip
    have HA := Lib.hid (fun w => right2_any a true w hs g1)
    have HB := Lib.hid (fun w => right2_any b true w hs2 g2)
    have HM := Lib.hid (fun w => refMay_any way x n true w g3)
    have HPa := Lib.hid (fun w => refPlace_any a way _ w rfl)
    have HPb := Lib.hid (fun w => refPlace_any b way _ w rfl)
    clear h g5 g1 g2 g3
    generalize plZ a way = za at *
    generalize plZ b way = zb at *
    go_enter Tryz.func13, Tryz.ntmps13
    go_wp2_with fail
    obtain ⟨s7, hws⟩ : ∃ s, s = ((((w.alloc (.cells #[.string a.sh, .int .i64 a.c, .int .i64 a.r, .bool a.fc, .bool a.fr] 23)).alloc (.cells #[.string b.sh, .int .i64 b.c, .int .i64 b.r, .bool b.fc, .bool b.fr] 23)).alloc (.cells #[.string ⟨#[]⟩, .int .i64 0, .int .i64 0, .bool false, .bool false] 23)).alloc (.cells #[.string ⟨#[]⟩, .int .i64 0, .int .i64 0, .bool false, .bool false] 23)) := ⟨_, rfl⟩
    have hBs : Below w.heap.size w s7 := by rw [hws]; exact (((((Below.refl w.heap.size w).alloc (by simp) _).alloc (by simp) _).alloc (by simp; omega) _).alloc (by simp; omega) _)
    obtain ⟨A, hdA⟩ : ∃ b, b = w.heap.size := ⟨_, rfl⟩
    obtain ⟨B, hdB⟩ : ∃ b, b = w.heap.size + 1 := ⟨_, rfl⟩
    obtain ⟨C, hdC⟩ : ∃ b, b = w.heap.size + 1 + 1 := ⟨_, rfl⟩
    obtain ⟨D, hdD⟩ : ∃ b, b = w.heap.size + 1 + 1 + 1 := ⟨_, rfl⟩
    have hsz : s7.heap.size = w.heap.size + 1 + 1 + 1 + 1 := by rw [hws]; simp
    have dCA : C ≠ A := by omega
    have dCB : C ≠ B := by omega
    have dCD : C ≠ D := by omega
    have dDA : D ≠ A := by omega
    have dDB : D ≠ B := by omega
    have dDC : D ≠ C := by omega
    have kA0 : s7.cell? ⟨A, 0, none⟩ = some (.string a.sh) := by rw [hws]; simp [go_sem, hdA, hdB, hdC, hdD]
    have kA1 : s7.cell? ⟨A, 1, none⟩ = some (.int .i64 a.c) := by rw [hws]; simp [go_sem, hdA, hdB, hdC, hdD]
    have kA2 : s7.cell? ⟨A, 2, none⟩ = some (.int .i64 a.r) := by rw [hws]; simp [go_sem, hdA, hdB, hdC, hdD]
    have kA3 : s7.cell? ⟨A, 3, none⟩ = some (.bool a.fc) := by rw [hws]; simp [go_sem, hdA, hdB, hdC, hdD]
    have kA4 : s7.cell? ⟨A, 4, none⟩ = some (.bool a.fr) := by rw [hws]; simp [go_sem, hdA, hdB, hdC, hdD]
    have zA : A < s7.heap.size := by omega
    have lA : w.heap.size ≤ A := by have := Nat.le_refl w.heap.size; omega
    have kB0 : s7.cell? ⟨B, 0, none⟩ = some (.string b.sh) := by rw [hws]; simp [go_sem, hdA, hdB, hdC, hdD]
    have kB1 : s7.cell? ⟨B, 1, none⟩ = some (.int .i64 b.c) := by rw [hws]; simp [go_sem, hdA, hdB, hdC, hdD]
    have kB2 : s7.cell? ⟨B, 2, none⟩ = some (.int .i64 b.r) := by rw [hws]; simp [go_sem, hdA, hdB, hdC, hdD]
    have kB3 : s7.cell? ⟨B, 3, none⟩ = some (.bool b.fc) := by rw [hws]; simp [go_sem, hdA, hdB, hdC, hdD]
    have kB4 : s7.cell? ⟨B, 4, none⟩ = some (.bool b.fr) := by rw [hws]; simp [go_sem, hdA, hdB, hdC, hdD]
    have zB : B < s7.heap.size := by omega
    have lB : w.heap.size ≤ B := by have := Nat.le_refl w.heap.size; omega
    have kC0 : s7.cell? ⟨C, 0, none⟩ = some (.string ⟨#[]⟩) := by rw [hws]; simp [go_sem, hdA, hdB, hdC, hdD]
    have fC0 : s7.frozen? ⟨C, 0, none⟩ = false := by rw [hws]; simp [go_sem, hdA, hdB, hdC, hdD]
    have kC1 : s7.cell? ⟨C, 1, none⟩ = some (.int .i64 0) := by rw [hws]; simp [go_sem, hdA, hdB, hdC, hdD]
    have fC1 : s7.frozen? ⟨C, 1, none⟩ = false := by rw [hws]; simp [go_sem, hdA, hdB, hdC, hdD]
    have kC2 : s7.cell? ⟨C, 2, none⟩ = some (.int .i64 0) := by rw [hws]; simp [go_sem, hdA, hdB, hdC, hdD]
    have fC2 : s7.frozen? ⟨C, 2, none⟩ = false := by rw [hws]; simp [go_sem, hdA, hdB, hdC, hdD]
    have kC3 : s7.cell? ⟨C, 3, none⟩ = some (.bool false) := by rw [hws]; simp [go_sem, hdA, hdB, hdC, hdD]
    have fC3 : s7.frozen? ⟨C, 3, none⟩ = false := by rw [hws]; simp [go_sem, hdA, hdB, hdC, hdD]
    have kC4 : s7.cell? ⟨C, 4, none⟩ = some (.bool false) := by rw [hws]; simp [go_sem, hdA, hdB, hdC, hdD]
    have fC4 : s7.frozen? ⟨C, 4, none⟩ = false := by rw [hws]; simp [go_sem, hdA, hdB, hdC, hdD]
    have zC : C < s7.heap.size := by omega
    have lC : w.heap.size ≤ C := by have := Nat.le_refl w.heap.size; omega
    have kD0 : s7.cell? ⟨D, 0, none⟩ = some (.string ⟨#[]⟩) := by rw [hws]; simp [go_sem, hdA, hdB, hdC, hdD]
    have fD0 : s7.frozen? ⟨D, 0, none⟩ = false := by rw [hws]; simp [go_sem, hdA, hdB, hdC, hdD]
    have kD1 : s7.cell? ⟨D, 1, none⟩ = some (.int .i64 0) := by rw [hws]; simp [go_sem, hdA, hdB, hdC, hdD]
    have fD1 : s7.frozen? ⟨D, 1, none⟩ = false := by rw [hws]; simp [go_sem, hdA, hdB, hdC, hdD]
    have kD2 : s7.cell? ⟨D, 2, none⟩ = some (.int .i64 0) := by rw [hws]; simp [go_sem, hdA, hdB, hdC, hdD]
    have fD2 : s7.frozen? ⟨D, 2, none⟩ = false := by rw [hws]; simp [go_sem, hdA, hdB, hdC, hdD]
    have kD3 : s7.cell? ⟨D, 3, none⟩ = some (.bool false) := by rw [hws]; simp [go_sem, hdA, hdB, hdC, hdD]
    have fD3 : s7.frozen? ⟨D, 3, none⟩ = false := by rw [hws]; simp [go_sem, hdA, hdB, hdC, hdD]
    have kD4 : s7.cell? ⟨D, 4, none⟩ = some (.bool false) := by rw [hws]; simp [go_sem, hdA, hdB, hdC, hdD]
    have fD4 : s7.frozen? ⟨D, 4, none⟩ = false := by rw [hws]; simp [go_sem, hdA, hdB, hdC, hdD]
    have zD : D < s7.heap.size := by omega
    have lD : w.heap.size ≤ D := by have := Nat.le_refl w.heap.size; omega
    rw [← hws]
    try rw [← hdD]
    try rw [← hdC]
    try rw [← hdB]
    try rw [← hdA]
    clear hws hsz hdA hdB hdC hdD
    have hBo := hBs; clear hBs
    have HF : Hid (∀ W, Below s7.heap.size s7 W → Below w.heap.size w W) := fun W hW => hBo.trans (hW.mono hBo.size)
    clear hBo
    refine wp_region_held_drew (S := fun w' => w'.cell? ⟨A, 0, none⟩ = some (.string a.sh) ∧ w'.cell? ⟨A, 1, none⟩ = some (.int .i64 a.c) ∧ w'.cell? ⟨A, 2, none⟩ = some (.int .i64 a.r) ∧ w'.cell? ⟨A, 3, none⟩ = some (.bool a.fc) ∧ w'.cell? ⟨A, 4, none⟩ = some (.bool a.fr) ∧ w'.cell? ⟨B, 0, none⟩ = some (.string b.sh) ∧ w'.cell? ⟨B, 1, none⟩ = some (.int .i64 b.c) ∧ w'.cell? ⟨B, 2, none⟩ = some (.int .i64 b.r) ∧ w'.cell? ⟨B, 3, none⟩ = some (.bool b.fc) ∧ w'.cell? ⟨B, 4, none⟩ = some (.bool b.fr)) (by kernel_rfl) (by ((try dsimp only); (go_keep))) (fun hHeld => ?_)
    refine wpAnyH_take (i := 0) (v := ?_) rfl (by kernel_rfl) (by kernel_rfl) (by kernel_rfl) (fun _ _ _ h => h) (Or.inl ⟨by rfl, ?_⟩) (by assumption) ?_
    rotate_left 1
    · (intro w hSw; (try dsimp only at hSw); go_simp; first | done | with_reducible rfl)
    try simp only [Act.put, List.getElem_toArray, List.getElem_cons_succ, List.getElem_cons_zero, List.setIfInBounds_toArray, List.set_cons_zero, List.set_cons_succ]
    refine wpAnyH_ready (rs := [1]) (by kernel_rfl) (by simp) ?_
    refine AllReadyH.cons rfl (fun K hK => ?_) AllReadyH.nil
    go_simp
    (go_at_call 20; refine (HA.out _).mono ?_; rintro e x8 ⟨rfl, hbx⟩; have hTx : Below s7.heap.size s7 x8 := (by first | exact (Below.refl _ _).drew.trans hbx | exact Below.trans (by assumption) (hbx.mono (Below.size (by assumption))) | exact (Below.refl _ _).trans hbx); obtain ⟨hcx, hfx⟩ := bcell hTx)
    try (go_wp2_with fail)
    refine hK.out _ _ (by ((try dsimp only); (go_keep))) (fun hHeld => ?_)
    clear hK K
    try simp only [Act.put, List.getElem_toArray, List.getElem_cons_succ, List.getElem_cons_zero, List.setIfInBounds_toArray, List.set_cons_zero, List.set_cons_succ]
    refine wpAnyH_take (i := 2) (v := ?_) rfl (by kernel_rfl) (by kernel_rfl) (by kernel_rfl) (fun _ _ _ h => h) (Or.inl ⟨by rfl, ?_⟩) (by assumption) ?_
    rotate_left 1
    · (intro w hSw; (try dsimp only at hSw); go_simp; first | done | with_reducible rfl)
    try simp only [Act.put, List.getElem_toArray, List.getElem_cons_succ, List.getElem_cons_zero, List.setIfInBounds_toArray, List.set_cons_zero, List.set_cons_succ]
    refine wpAnyH_take (i := 3) (v := ?_) rfl (by kernel_rfl) (by kernel_rfl) (by kernel_rfl) (fun _ _ _ h => h) (Or.inl ⟨by rfl, ?_⟩) (by assumption) ?_
    rotate_left 1
    · (intro w hSw; (try dsimp only at hSw); go_simp; first | done | with_reducible rfl)
    try simp only [Act.put, List.getElem_toArray, List.getElem_cons_succ, List.getElem_cons_zero, List.setIfInBounds_toArray, List.set_cons_zero, List.set_cons_succ]
    refine wpAnyH_take (i := 4) (v := ?_) rfl (by kernel_rfl) (by kernel_rfl) (by kernel_rfl) (fun _ _ _ h => h) (Or.inl ⟨by rfl, ?_⟩) (by assumption) ?_
    rotate_left 1
    · (intro w hSw; (try dsimp only at hSw); go_simp; first | done | with_reducible rfl)
    try simp only [Act.put, List.getElem_toArray, List.getElem_cons_succ, List.getElem_cons_zero, List.setIfInBounds_toArray, List.set_cons_zero, List.set_cons_succ]
    refine wpAnyH_ready (rs := [5]) (by kernel_rfl) (by simp) ?_
    refine AllReadyH.cons rfl (fun K hK => ?_) AllReadyH.nil
    go_simp
    (go_at_call 20; refine (HB.out _).mono ?_; rintro e x8 ⟨rfl, hbx⟩; have hTx : Below s7.heap.size s7 x8 := (by first | exact (Below.refl _ _).drew.trans hbx | exact Below.trans (by assumption) (hbx.mono (Below.size (by assumption))) | exact (Below.refl _ _).trans hbx); obtain ⟨hcx, hfx⟩ := bcell hTx)
    try (go_wp2_with fail)
    refine hK.out _ _ (by ((try dsimp only); (go_keep))) (fun hHeld => ?_)
    clear hK K
    try simp only [Act.put, List.getElem_toArray, List.getElem_cons_succ, List.getElem_cons_zero, List.setIfInBounds_toArray, List.set_cons_zero, List.set_cons_succ]
    refine wpAnyH_take (i := 6) (v := ?_) rfl (by kernel_rfl) (by kernel_rfl) (by kernel_rfl) (fun _ _ _ h => h) (Or.inl ⟨by rfl, ?_⟩) (by assumption) ?_
    rotate_left 1
    · (intro w hSw; (try dsimp only at hSw); go_simp; first | done | with_reducible rfl)
    try simp only [Act.put, List.getElem_toArray, List.getElem_cons_succ, List.getElem_cons_zero, List.setIfInBounds_toArray, List.set_cons_zero, List.set_cons_succ]
    refine wpAnyH_take (i := 7) (v := ?_) rfl (by kernel_rfl) (by kernel_rfl) (by kernel_rfl) (fun _ _ _ h => h) (Or.inl ⟨by rfl, ?_⟩) (by assumption) ?_
    rotate_left 1
    · (intro w hSw; (try dsimp only at hSw); go_simp; first | done | with_reducible rfl)
    try simp only [Act.put, List.getElem_toArray, List.getElem_cons_succ, List.getElem_cons_zero, List.setIfInBounds_toArray, List.set_cons_zero, List.set_cons_succ]
    refine wpAnyH_take (i := 8) (v := ?_) rfl (by kernel_rfl) (by kernel_rfl) (by kernel_rfl) (fun _ _ _ h => h) (Or.inl ⟨by rfl, ?_⟩) (by assumption) ?_
    rotate_left 1
    · (intro w hSw; (try dsimp only at hSw); go_simp; first | done | with_reducible rfl)
    try simp only [Act.put, List.getElem_toArray, List.getElem_cons_succ, List.getElem_cons_zero, List.setIfInBounds_toArray, List.set_cons_zero, List.set_cons_succ]
    refine wpAnyH_take (i := 9) (v := ?_) rfl (by kernel_rfl) (by kernel_rfl) (by kernel_rfl) (fun _ _ _ h => h) (Or.inl ⟨by rfl, ?_⟩) (by assumption) ?_
    rotate_left 1
    · (intro w hSw; (try dsimp only at hSw); go_simp; first | done | with_reducible rfl)
    try simp only [Act.put, List.getElem_toArray, List.getElem_cons_succ, List.getElem_cons_zero, List.setIfInBounds_toArray, List.set_cons_zero, List.set_cons_succ]
    refine wpAnyH_take (i := 10) (v := ?_) rfl (by kernel_rfl) (by kernel_rfl) (by kernel_rfl) (fun _ _ _ h => h) (Or.inl ⟨by rfl, ?_⟩) (by assumption) ?_
    rotate_left 1
    · (intro w hSw; (try dsimp only at hSw); go_simp; first | done | with_reducible rfl)
    try simp only [Act.put, List.getElem_toArray, List.getElem_cons_succ, List.getElem_cons_zero, List.setIfInBounds_toArray, List.set_cons_zero, List.set_cons_succ]
    refine wpAnyH_take (i := 11) (v := ?_) rfl (by kernel_rfl) (by kernel_rfl) (by kernel_rfl) (fun _ _ _ h => h) (Or.inl ⟨by rfl, ?_⟩) (by assumption) ?_
    rotate_left 1
    · (intro w hSw; (try dsimp only at hSw); go_simp; first | done | with_reducible rfl)
    try simp only [Act.put, List.getElem_toArray, List.getElem_cons_succ, List.getElem_cons_zero, List.setIfInBounds_toArray, List.set_cons_zero, List.set_cons_succ]
    refine wpAnyH_ready (rs := [12]) (by kernel_rfl) (by simp) ?_
    refine AllReadyH.cons rfl (fun K hK => ?_) AllReadyH.nil
    go_simp
    (go_at_call 23; refine (HM.out _).mono ?_; rintro e wx ⟨rfl, rfl⟩)
    try (go_wp2_with fail)
    refine hK.out _ _ (by ((try dsimp only); (go_keep))) (fun hHeld => ?_)
    clear hK K
    try simp only [Act.put, List.getElem_toArray, List.getElem_cons_succ, List.getElem_cons_zero, List.setIfInBounds_toArray, List.set_cons_zero, List.set_cons_succ]
    refine wpAnyH_take (i := 13) (v := ?_) rfl (by kernel_rfl) (by kernel_rfl) (by kernel_rfl) (fun _ _ _ h => h) (Or.inl ⟨by rfl, ?_⟩) (by assumption) ?_
    rotate_left 1
    · (intro w hSw; (try dsimp only at hSw); go_simp; first | done | with_reducible rfl)
    try simp only [Act.put, List.getElem_toArray, List.getElem_cons_succ, List.getElem_cons_zero, List.setIfInBounds_toArray, List.set_cons_zero, List.set_cons_succ]
    refine wpAnyH_take (i := 14) (v := ?_) rfl (by kernel_rfl) (by kernel_rfl) (by kernel_rfl) (fun _ _ _ h => h) (Or.inl ⟨by rfl, ?_⟩) (by assumption) ?_
    rotate_left 1
    · (intro w hSw; (try dsimp only at hSw); go_simp; first | done | with_reducible rfl)
    try simp only [Act.put, List.getElem_toArray, List.getElem_cons_succ, List.getElem_cons_zero, List.setIfInBounds_toArray, List.set_cons_zero, List.set_cons_succ]
    refine wpAnyH_take (i := 15) (v := ?_) rfl (by kernel_rfl) (by kernel_rfl) (by kernel_rfl) (fun _ _ _ h => h) (Or.inl ⟨by rfl, ?_⟩) (by assumption) ?_
    rotate_left 1
    · (intro w hSw; (try dsimp only at hSw); go_simp; first | done | with_reducible rfl)
    try simp only [Act.put, List.getElem_toArray, List.getElem_cons_succ, List.getElem_cons_zero, List.setIfInBounds_toArray, List.set_cons_zero, List.set_cons_succ]
    refine wpAnyH_take (i := 16) (v := ?_) rfl (by kernel_rfl) (by kernel_rfl) (by kernel_rfl) (fun _ _ _ h => h) (Or.inl ⟨by rfl, ?_⟩) (by assumption) ?_
    rotate_left 1
    · (intro w hSw; (try dsimp only at hSw); go_simp; first | done | with_reducible rfl)
    try simp only [Act.put, List.getElem_toArray, List.getElem_cons_succ, List.getElem_cons_zero, List.setIfInBounds_toArray, List.set_cons_zero, List.set_cons_succ]
    refine wpAnyH_take (i := 17) (v := ?_) rfl (by kernel_rfl) (by kernel_rfl) (by kernel_rfl) (fun _ _ _ h => h) (Or.inl ⟨by rfl, ?_⟩) (by assumption) ?_
    rotate_left 1
    · (intro w hSw; (try dsimp only at hSw); go_simp; first | done | with_reducible rfl)
    try simp only [Act.put, List.getElem_toArray, List.getElem_cons_succ, List.getElem_cons_zero, List.setIfInBounds_toArray, List.set_cons_zero, List.set_cons_succ]
    refine wpAnyH_take (i := 19) (v := ?_) rfl (by kernel_rfl) (by kernel_rfl) (by kernel_rfl) (fun _ _ _ h => h) (Or.inl ⟨by rfl, ?_⟩) (by assumption) ?_
    rotate_left 1
    · (intro w hSw; (try dsimp only at hSw); go_simp; first | done | with_reducible rfl)
    try simp only [Act.put, List.getElem_toArray, List.getElem_cons_succ, List.getElem_cons_zero, List.setIfInBounds_toArray, List.set_cons_zero, List.set_cons_succ]
    refine wpAnyH_take (i := 20) (v := ?_) rfl (by kernel_rfl) (by kernel_rfl) (by kernel_rfl) (fun _ _ _ h => h) (Or.inl ⟨by rfl, ?_⟩) (by assumption) ?_
    rotate_left 1
    · (intro w hSw; (try dsimp only at hSw); go_simp; first | done | with_reducible rfl)
    try simp only [Act.put, List.getElem_toArray, List.getElem_cons_succ, List.getElem_cons_zero, List.setIfInBounds_toArray, List.set_cons_zero, List.set_cons_succ]
    refine wpAnyH_ready (rs := [18]) (by kernel_rfl) (by simp) ?_
    refine AllReadyH.cons rfl (fun K hK => ?_) AllReadyH.nil
    go_simp
    (go_at_call 24; refine (HPa.out _).mono ?_; rintro e x8 ⟨rfl, hbx⟩; have hTx : Below s7.heap.size s7 x8 := (by first | exact (Below.refl _ _).drew.trans hbx | exact Below.trans (by assumption) (hbx.mono (Below.size (by assumption))) | exact (Below.refl _ _).trans hbx); obtain ⟨hcx, hfx⟩ := bcell hTx)
    try (go_wp2_with fail)
    refine hK.out _ _ (by ((try dsimp only); (go_keep))) (fun hHeld => ?_)
    clear hK K
    try simp only [Act.put, List.getElem_toArray, List.getElem_cons_succ, List.getElem_cons_zero, List.setIfInBounds_toArray, List.set_cons_zero, List.set_cons_succ]
    refine wpAnyH_ready (rs := [21]) (by kernel_rfl) (by simp) ?_
    refine AllReadyH.cons rfl (fun K hK => ?_) AllReadyH.nil
    go_simp
    (go_at_call 24; refine (HPb.out _).mono ?_; rintro e x8 ⟨rfl, hbx⟩; have hTx : Below s7.heap.size s7 x8 := (by first | exact (Below.refl _ _).drew.trans hbx | exact Below.trans (by assumption) (hbx.mono (Below.size (by assumption))) | exact (Below.refl _ _).trans hbx); obtain ⟨hcx, hfx⟩ := bcell hTx)
    try (go_wp2_with fail)
    refine hK.out _ _ (by ((try dsimp only); (go_keep))) (fun hHeld => ?_)
    clear hK K
    try simp only [Act.put, List.getElem_toArray, List.getElem_cons_succ, List.getElem_cons_zero, List.setIfInBounds_toArray, List.set_cons_zero, List.set_cons_succ]
    refine wpAnyH_take (i := 22) (v := ?_) rfl (by kernel_rfl) (by kernel_rfl) (by kernel_rfl) (fun _ _ _ h => h) (Or.inl ⟨by rfl, ?_⟩) (by assumption) ?_
    rotate_left 1
    · (intro w hSw; (try dsimp only at hSw); go_simp; first | done | with_reducible rfl)
    try simp only [Act.put, List.getElem_toArray, List.getElem_cons_succ, List.getElem_cons_zero, List.setIfInBounds_toArray, List.set_cons_zero, List.set_cons_succ]
    refine wpAnyH_take (i := 23) (v := ?_) rfl (by kernel_rfl) (by kernel_rfl) (by kernel_rfl) (fun _ _ _ h => h) (Or.inl ⟨by rfl, ?_⟩) (by assumption) ?_
    rotate_left 1
    · (intro w hSw; (try dsimp only at hSw); go_simp; first | done | with_reducible rfl)
    try simp only [Act.put, List.getElem_toArray, List.getElem_cons_succ, List.getElem_cons_zero, List.setIfInBounds_toArray, List.set_cons_zero, List.set_cons_succ]
    refine wpAnyH_done (by kernel_rfl) ?_ _
    all_goals go_wp2_with fail
    all_goals refine bodyPost_ret (v := .tuple #[.agg #[.string ⟨#[]⟩, .int .i64 0, .int .i64 0, .bool false, .bool false], .agg #[.string ⟨#[]⟩, .int .i64 0, .int .i64 0, .bool false, .bool false], .bool false]) (by simp [results, Tryz.results13, go_sem, hcx, kC0, kC1, kC2, kC3, kC4, kD0, kD1, kD2, kD3, kD4, zC, zD]) rfl ⟨rfl, ?_⟩
    all_goals exact (((((((((((HF.out _ (by assumption)).setCell lC _).setCell lC _).setCell lC _).setCell lC _).setCell lC _).setCell lD _).setCell lD _).setCell lD _).setCell lD _).setCell lD _)
  · rw [h] at g5; cases g5
end Go.Proofs.YtlpjaflolnggnaaGreatDoor
