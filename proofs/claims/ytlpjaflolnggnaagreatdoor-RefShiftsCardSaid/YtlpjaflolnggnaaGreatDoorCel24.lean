/-
  LAYER 11, REFERENCES: follow2 of what can not be (the program's).
-/
import Derived.Test.YtlpjaflolnggnaaGreatDoorCel23
import Derived.Test.YtlpjaflolnggnaaGreatDoorCel12
namespace Go.Proofs.YtlpjaflolnggnaaGreatDoor
open Go.RowKit Go.Shelf
set_option linter.unusedSimpArgs false
set_option linter.unusedVariables false

theorem preB_cases2 (a b : Rf) (way x n : Int) : (mayB way x n = false ∧ preB a b way x n = false) ∨ (mayB way x n = true ∧ rgtR a = false ∧ preB a b way x n = false) ∨ (mayB way x n = true ∧ rgtR a = true ∧ rgtR b = false ∧ preB a b way x n = false) ∨
    (mayB way x n = true ∧ rgtR a = true ∧ rgtR b = true ∧ plZ b way < plZ a way ∧ preB a b way x n = false) ∨ (mayB way x n = true ∧ rgtR a = true ∧ rgtR b = true ∧ ¬ plZ b way < plZ a way ∧ preB a b way x n = true) := by
  unfold preB
  cases rgtR a <;> cases rgtR b <;> cases mayB way x n <;> simp
  omega
set_option maxRecDepth 100000 in
set_option maxHeartbeats 8000000 in
theorem follow2_no (K : Nat) (a b : Rf) (way x n : Int) (w : World) (hs : a.sh.size ≤ maxLen) (hs2 : b.sh.size ≤ maxLen) (h : preB a b way x n = false) :
    Calls Tryz.prog 28 #[.agg #[.string a.sh, .int .i64 a.c, .int .i64 a.r, .bool a.fc, .bool a.fr], .agg #[.string b.sh, .int .i64 b.c, .int .i64 b.r, .bool b.fc, .bool b.fr], .int .i64 way, .int .i64 x, .int .i64 n, .func (.func K) #[] #[]] w fun e w' => e = .returned (.tuple #[.agg #[.string ⟨#[]⟩, .int .i64 0, .int .i64 0, .bool false, .bool false], .agg #[.string ⟨#[]⟩, .int .i64 0, .int .i64 0, .bool false, .bool false], .bool false]) ∧ Below w.heap.size w w' := by
  have hud : undef = Value.tuple #[] := rfl
  rcases preB_cases2 a b way x n with ⟨g1, g5⟩ | ⟨g1, g2, g5⟩ | ⟨g1, g2, g3, g5⟩ | ⟨g1, g2, g3, g4, g5⟩ | ⟨g1, g2, g3, g4, g5⟩
  · have HC := Lib.hid (fun w => changeOf_no way x n w g1)
    unfold ch0 at HC
    clear h g1 g5
    go_enter Tryz.func28, Tryz.ntmps28
    go_wp2_with fail
    obtain ⟨s1, hws⟩ : ∃ s, s = ((((w.alloc (.cells #[.string a.sh, .int .i64 a.c, .int .i64 a.r, .bool a.fc, .bool a.fr] 23)).alloc (.cells #[.string b.sh, .int .i64 b.c, .int .i64 b.r, .bool b.fc, .bool b.fr] 23)).alloc (.cells #[.string ⟨#[]⟩, .int .i64 0, .int .i64 0, .bool false, .bool false] 23)).alloc (.cells #[.string ⟨#[]⟩, .int .i64 0, .int .i64 0, .bool false, .bool false] 23)) := ⟨_, rfl⟩
    have hBs : Below w.heap.size w s1 := by rw [hws]; exact (((((Below.refl w.heap.size w).alloc (by simp) _).alloc (by simp) _).alloc (by simp; omega) _).alloc (by simp; omega) _)
    obtain ⟨A, hdA⟩ : ∃ b, b = w.heap.size := ⟨_, rfl⟩
    obtain ⟨B, hdB⟩ : ∃ b, b = w.heap.size + 1 := ⟨_, rfl⟩
    obtain ⟨C, hdC⟩ : ∃ b, b = w.heap.size + 1 + 1 := ⟨_, rfl⟩
    obtain ⟨D, hdD⟩ : ∃ b, b = w.heap.size + 1 + 1 + 1 := ⟨_, rfl⟩
    have hsz : s1.heap.size = w.heap.size + 1 + 1 + 1 + 1 := by rw [hws]; simp
    have dCA : C ≠ A := by omega
    have dCB : C ≠ B := by omega
    have dCD : C ≠ D := by omega
    have dDA : D ≠ A := by omega
    have dDB : D ≠ B := by omega
    have dDC : D ≠ C := by omega
    have kA0 : s1.cell? ⟨A, 0, none⟩ = some (.string a.sh) := by rw [hws]; simp [go_sem, hdA, hdB, hdC, hdD]
    have kA1 : s1.cell? ⟨A, 1, none⟩ = some (.int .i64 a.c) := by rw [hws]; simp [go_sem, hdA, hdB, hdC, hdD]
    have kA2 : s1.cell? ⟨A, 2, none⟩ = some (.int .i64 a.r) := by rw [hws]; simp [go_sem, hdA, hdB, hdC, hdD]
    have kA3 : s1.cell? ⟨A, 3, none⟩ = some (.bool a.fc) := by rw [hws]; simp [go_sem, hdA, hdB, hdC, hdD]
    have kA4 : s1.cell? ⟨A, 4, none⟩ = some (.bool a.fr) := by rw [hws]; simp [go_sem, hdA, hdB, hdC, hdD]
    have zA : A < s1.heap.size := by omega
    have lA : w.heap.size ≤ A := by have := Nat.le_refl w.heap.size; omega
    have kB0 : s1.cell? ⟨B, 0, none⟩ = some (.string b.sh) := by rw [hws]; simp [go_sem, hdA, hdB, hdC, hdD]
    have kB1 : s1.cell? ⟨B, 1, none⟩ = some (.int .i64 b.c) := by rw [hws]; simp [go_sem, hdA, hdB, hdC, hdD]
    have kB2 : s1.cell? ⟨B, 2, none⟩ = some (.int .i64 b.r) := by rw [hws]; simp [go_sem, hdA, hdB, hdC, hdD]
    have kB3 : s1.cell? ⟨B, 3, none⟩ = some (.bool b.fc) := by rw [hws]; simp [go_sem, hdA, hdB, hdC, hdD]
    have kB4 : s1.cell? ⟨B, 4, none⟩ = some (.bool b.fr) := by rw [hws]; simp [go_sem, hdA, hdB, hdC, hdD]
    have zB : B < s1.heap.size := by omega
    have lB : w.heap.size ≤ B := by have := Nat.le_refl w.heap.size; omega
    have kC0 : s1.cell? ⟨C, 0, none⟩ = some (.string ⟨#[]⟩) := by rw [hws]; simp [go_sem, hdA, hdB, hdC, hdD]
    have fC0 : s1.frozen? ⟨C, 0, none⟩ = false := by rw [hws]; simp [go_sem, hdA, hdB, hdC, hdD]
    have kC1 : s1.cell? ⟨C, 1, none⟩ = some (.int .i64 0) := by rw [hws]; simp [go_sem, hdA, hdB, hdC, hdD]
    have fC1 : s1.frozen? ⟨C, 1, none⟩ = false := by rw [hws]; simp [go_sem, hdA, hdB, hdC, hdD]
    have kC2 : s1.cell? ⟨C, 2, none⟩ = some (.int .i64 0) := by rw [hws]; simp [go_sem, hdA, hdB, hdC, hdD]
    have fC2 : s1.frozen? ⟨C, 2, none⟩ = false := by rw [hws]; simp [go_sem, hdA, hdB, hdC, hdD]
    have kC3 : s1.cell? ⟨C, 3, none⟩ = some (.bool false) := by rw [hws]; simp [go_sem, hdA, hdB, hdC, hdD]
    have fC3 : s1.frozen? ⟨C, 3, none⟩ = false := by rw [hws]; simp [go_sem, hdA, hdB, hdC, hdD]
    have kC4 : s1.cell? ⟨C, 4, none⟩ = some (.bool false) := by rw [hws]; simp [go_sem, hdA, hdB, hdC, hdD]
    have fC4 : s1.frozen? ⟨C, 4, none⟩ = false := by rw [hws]; simp [go_sem, hdA, hdB, hdC, hdD]
    have zC : C < s1.heap.size := by omega
    have lC : w.heap.size ≤ C := by have := Nat.le_refl w.heap.size; omega
    have kD0 : s1.cell? ⟨D, 0, none⟩ = some (.string ⟨#[]⟩) := by rw [hws]; simp [go_sem, hdA, hdB, hdC, hdD]
    have fD0 : s1.frozen? ⟨D, 0, none⟩ = false := by rw [hws]; simp [go_sem, hdA, hdB, hdC, hdD]
    have kD1 : s1.cell? ⟨D, 1, none⟩ = some (.int .i64 0) := by rw [hws]; simp [go_sem, hdA, hdB, hdC, hdD]
    have fD1 : s1.frozen? ⟨D, 1, none⟩ = false := by rw [hws]; simp [go_sem, hdA, hdB, hdC, hdD]
    have kD2 : s1.cell? ⟨D, 2, none⟩ = some (.int .i64 0) := by rw [hws]; simp [go_sem, hdA, hdB, hdC, hdD]
    have fD2 : s1.frozen? ⟨D, 2, none⟩ = false := by rw [hws]; simp [go_sem, hdA, hdB, hdC, hdD]
    have kD3 : s1.cell? ⟨D, 3, none⟩ = some (.bool false) := by rw [hws]; simp [go_sem, hdA, hdB, hdC, hdD]
    have fD3 : s1.frozen? ⟨D, 3, none⟩ = false := by rw [hws]; simp [go_sem, hdA, hdB, hdC, hdD]
    have kD4 : s1.cell? ⟨D, 4, none⟩ = some (.bool false) := by rw [hws]; simp [go_sem, hdA, hdB, hdC, hdD]
    have fD4 : s1.frozen? ⟨D, 4, none⟩ = false := by rw [hws]; simp [go_sem, hdA, hdB, hdC, hdD]
    have zD : D < s1.heap.size := by omega
    have lD : w.heap.size ≤ D := by have := Nat.le_refl w.heap.size; omega
    rw [← hws]
    try rw [← hdD]
    try rw [← hdC]
    try rw [← hdB]
    try rw [← hdA]
    clear hws hsz hdA hdB hdC hdD
    have hBo := hBs; clear hBs
    refine (HC.out _).mono ?_; rintro e s2 ⟨rfl, hb⟩
    replace kA0 := belK hb kA0 zA; replace kA1 := belK hb kA1 zA; replace kA2 := belK hb kA2 zA; replace kA3 := belK hb kA3 zA; replace kA4 := belK hb kA4 zA; replace zA := Nat.lt_of_lt_of_le zA hb.size
    replace kB0 := belK hb kB0 zB; replace kB1 := belK hb kB1 zB; replace kB2 := belK hb kB2 zB; replace kB3 := belK hb kB3 zB; replace kB4 := belK hb kB4 zB; replace zB := Nat.lt_of_lt_of_le zB hb.size
    replace kC0 := belK hb kC0 zC; replace fC0 := belF hb fC0 zC; replace kC1 := belK hb kC1 zC; replace fC1 := belF hb fC1 zC; replace kC2 := belK hb kC2 zC; replace fC2 := belF hb fC2 zC; replace kC3 := belK hb kC3 zC; replace fC3 := belF hb fC3 zC; replace kC4 := belK hb kC4 zC; replace fC4 := belF hb fC4 zC; replace zC := Nat.lt_of_lt_of_le zC hb.size
    replace kD0 := belK hb kD0 zD; replace fD0 := belF hb fD0 zD; replace kD1 := belK hb kD1 zD; replace fD1 := belF hb fD1 zD; replace kD2 := belK hb kD2 zD; replace fD2 := belF hb fD2 zD; replace kD3 := belK hb kD3 zD; replace fD3 := belF hb fD3 zD; replace kD4 := belK hb kD4 zD; replace fD4 := belF hb fD4 zD; replace zD := Nat.lt_of_lt_of_le zD hb.size
    replace hBo := hBo.trans (hb.mono hBo.size)
    clear hb
    go_wp2_with fail
    obtain ⟨s3, hws⟩ : ∃ s, s = (s2.alloc (.cells #[.int .i64 0, .int .i64 0, .int .i64 0, .nilFunc, .nilFunc] 46)) := ⟨_, rfl⟩
    have hBs : Below w.heap.size w s3 := by rw [hws]; exact ((hBo).alloc (by exact hBo.size) _)
    obtain ⟨Q, hdQ⟩ : ∃ b, b = s2.heap.size := ⟨_, rfl⟩
    have hsz : s3.heap.size = s2.heap.size + 1 := by rw [hws]; simp
    have dCQ : C ≠ Q := by omega
    have dDQ : D ≠ Q := by omega
    have hQC : ∀ p v, s2.cell? p = some v → s3.cell? p = some v := fun p v h => by rw [hws]; exact (alK h)
    have hQZ : ∀ b, b < s2.heap.size → b < s3.heap.size := fun b h => by omega
    have hQF : ∀ b j, b < s2.heap.size → s2.frozen? ⟨b, j, none⟩ = false → s3.frozen? ⟨b, j, none⟩ = false := fun b j z h => by rw [hws]; exact (alF z h)
    replace kA0 := hQC _ _ kA0; replace kA1 := hQC _ _ kA1; replace kA2 := hQC _ _ kA2; replace kA3 := hQC _ _ kA3; replace kA4 := hQC _ _ kA4; replace zA := hQZ _ zA
    replace kB0 := hQC _ _ kB0; replace kB1 := hQC _ _ kB1; replace kB2 := hQC _ _ kB2; replace kB3 := hQC _ _ kB3; replace kB4 := hQC _ _ kB4; replace zB := hQZ _ zB
    replace kC0 := hQC _ _ kC0; replace fC0 := hQF _ _ zC fC0; replace kC1 := hQC _ _ kC1; replace fC1 := hQF _ _ zC fC1; replace kC2 := hQC _ _ kC2; replace fC2 := hQF _ _ zC fC2; replace kC3 := hQC _ _ kC3; replace fC3 := hQF _ _ zC fC3; replace kC4 := hQC _ _ kC4; replace fC4 := hQF _ _ zC fC4; replace zC := hQZ _ zC
    replace kD0 := hQC _ _ kD0; replace fD0 := hQF _ _ zD fD0; replace kD1 := hQC _ _ kD1; replace fD1 := hQF _ _ zD fD1; replace kD2 := hQC _ _ kD2; replace fD2 := hQF _ _ zD fD2; replace kD3 := hQC _ _ kD3; replace fD3 := hQF _ _ zD fD3; replace kD4 := hQC _ _ kD4; replace fD4 := hQF _ _ zD fD4; replace zD := hQZ _ zD
    clear hQC hQZ hQF
    have kQ0 : s3.cell? ⟨Q, 0, none⟩ = some (.int .i64 0) := by rw [hws]; simp [go_sem, hdQ]
    have kQ1 : s3.cell? ⟨Q, 1, none⟩ = some (.int .i64 0) := by rw [hws]; simp [go_sem, hdQ]
    have kQ2 : s3.cell? ⟨Q, 2, none⟩ = some (.int .i64 0) := by rw [hws]; simp [go_sem, hdQ]
    have kQ3 : s3.cell? ⟨Q, 3, none⟩ = some (.nilFunc) := by rw [hws]; simp [go_sem, hdQ]
    have kQ4 : s3.cell? ⟨Q, 4, none⟩ = some (.nilFunc) := by rw [hws]; simp [go_sem, hdQ]
    have zQ : Q < s3.heap.size := by omega
    have lQ : w.heap.size ≤ Q := by have := hBo.size; omega
    rw [← hws]
    try rw [← hdQ]
    clear hBo
    clear hws hsz hdQ
    have hBo := hBs; clear hBs
    have HF : Hid (∀ W, Below s3.heap.size s3 W → Below w.heap.size w W) := fun W hW => hBo.trans (hW.mono hBo.size)
    clear hBo
    refine wp_region_held_drew (S := fun w' => w'.cell? ⟨A, 0, none⟩ = some (.string a.sh) ∧ w'.cell? ⟨A, 1, none⟩ = some (.int .i64 a.c) ∧ w'.cell? ⟨A, 2, none⟩ = some (.int .i64 a.r) ∧ w'.cell? ⟨A, 3, none⟩ = some (.bool a.fc) ∧ w'.cell? ⟨A, 4, none⟩ = some (.bool a.fr) ∧ w'.cell? ⟨B, 0, none⟩ = some (.string b.sh) ∧ w'.cell? ⟨B, 1, none⟩ = some (.int .i64 b.c) ∧ w'.cell? ⟨B, 2, none⟩ = some (.int .i64 b.r) ∧ w'.cell? ⟨B, 3, none⟩ = some (.bool b.fc) ∧ w'.cell? ⟨B, 4, none⟩ = some (.bool b.fr) ∧ w'.cell? ⟨Q, 0, none⟩ = some (.int .i64 0) ∧ w'.cell? ⟨Q, 1, none⟩ = some (.int .i64 0) ∧ w'.cell? ⟨Q, 2, none⟩ = some (.int .i64 0) ∧ w'.cell? ⟨Q, 3, none⟩ = some (.nilFunc) ∧ w'.cell? ⟨Q, 4, none⟩ = some (.nilFunc)) (by kernel_rfl) (by ((try dsimp only); (go_keep))) (fun hHeld => ?_)
    refine wpAnyH_take (i := 0) (v := ?_) rfl (by kernel_rfl) (by kernel_rfl) (by kernel_rfl) (fun _ _ _ h => h) (Or.inl ⟨by rfl, ?_⟩) (by assumption) ?_
    rotate_left 1
    · (intro w hSw; (try dsimp only at hSw); go_simp; first | done | with_reducible rfl)
    try simp only [Act.put, List.getElem_toArray, List.getElem_cons_succ, List.getElem_cons_zero, List.setIfInBounds_toArray, List.set_cons_zero, List.set_cons_succ]
    refine wpAnyH_take (i := 1) (v := ?_) rfl (by kernel_rfl) (by kernel_rfl) (by kernel_rfl) (fun _ _ _ h => h) (Or.inl ⟨by rfl, ?_⟩) (by assumption) ?_
    rotate_left 1
    · (intro w hSw; (try dsimp only at hSw); go_simp; first | done | with_reducible rfl)
    try simp only [Act.put, List.getElem_toArray, List.getElem_cons_succ, List.getElem_cons_zero, List.setIfInBounds_toArray, List.set_cons_zero, List.set_cons_succ]
    refine wpAnyH_take (i := 2) (v := ?_) rfl (by kernel_rfl) (by kernel_rfl) (by kernel_rfl) (fun _ _ _ h => h) (Or.inl ⟨by rfl, ?_⟩) (by assumption) ?_
    rotate_left 1
    · (intro w hSw; (try dsimp only at hSw); go_simp; first | done | with_reducible rfl)
    try simp only [Act.put, List.getElem_toArray, List.getElem_cons_succ, List.getElem_cons_zero, List.setIfInBounds_toArray, List.set_cons_zero, List.set_cons_succ]
    refine wpAnyH_take (i := 3) (v := undef) rfl (by kernel_rfl) (by kernel_rfl) (by kernel_rfl) (fun _ _ _ h => h) (Or.inr ⟨by rfl, rfl⟩) (by assumption) ?_
    try simp only [Act.put, List.getElem_toArray, List.getElem_cons_succ, List.getElem_cons_zero, List.setIfInBounds_toArray, List.set_cons_zero, List.set_cons_succ]
    refine wpAnyH_take (i := 4) (v := undef) rfl (by kernel_rfl) (by kernel_rfl) (by kernel_rfl) (fun _ _ _ h => h) (Or.inr ⟨by rfl, rfl⟩) (by assumption) ?_
    try simp only [Act.put, List.getElem_toArray, List.getElem_cons_succ, List.getElem_cons_zero, List.setIfInBounds_toArray, List.set_cons_zero, List.set_cons_succ]
    refine wpAnyH_take (i := 5) (v := undef) rfl (by kernel_rfl) (by kernel_rfl) (by kernel_rfl) (fun _ _ _ h => h) (Or.inr ⟨by rfl, rfl⟩) (by assumption) ?_
    try simp only [Act.put, List.getElem_toArray, List.getElem_cons_succ, List.getElem_cons_zero, List.setIfInBounds_toArray, List.set_cons_zero, List.set_cons_succ]
    refine wpAnyH_take (i := 6) (v := ?_) rfl (by kernel_rfl) (by kernel_rfl) (by kernel_rfl) (fun _ _ _ h => h) (Or.inl ⟨by rfl, ?_⟩) (by assumption) ?_
    rotate_left 1
    · (intro w hSw; (try dsimp only at hSw); go_simp; first | done | with_reducible rfl)
    try simp only [Act.put, List.getElem_toArray, List.getElem_cons_succ, List.getElem_cons_zero, List.setIfInBounds_toArray, List.set_cons_zero, List.set_cons_succ]
    refine wpAnyH_take (i := 7) (v := ?_) rfl (by kernel_rfl) (by kernel_rfl) (by kernel_rfl) (fun _ _ _ h => h) (Or.inl ⟨by rfl, ?_⟩) (by assumption) ?_
    rotate_left 1
    · (intro w hSw; (try dsimp only at hSw); go_simp; first | done | with_reducible rfl)
    try simp only [Act.put, List.getElem_toArray, List.getElem_cons_succ, List.getElem_cons_zero, List.setIfInBounds_toArray, List.set_cons_zero, List.set_cons_succ]
    refine wpAnyH_take (i := 8) (v := undef) rfl (by kernel_rfl) (by kernel_rfl) (by kernel_rfl) (fun _ _ _ h => h) (Or.inr ⟨by rfl, rfl⟩) (by assumption) ?_
    try simp only [Act.put, List.getElem_toArray, List.getElem_cons_succ, List.getElem_cons_zero, List.setIfInBounds_toArray, List.set_cons_zero, List.set_cons_succ]
    refine wpAnyH_take (i := 9) (v := undef) rfl (by kernel_rfl) (by kernel_rfl) (by kernel_rfl) (fun _ _ _ h => h) (Or.inr ⟨by rfl, rfl⟩) (by assumption) ?_
    try simp only [Act.put, List.getElem_toArray, List.getElem_cons_succ, List.getElem_cons_zero, List.setIfInBounds_toArray, List.set_cons_zero, List.set_cons_succ]
    refine wpAnyH_take (i := 10) (v := undef) rfl (by kernel_rfl) (by kernel_rfl) (by kernel_rfl) (fun _ _ _ h => h) (Or.inr ⟨by rfl, rfl⟩) (by assumption) ?_
    try simp only [Act.put, List.getElem_toArray, List.getElem_cons_succ, List.getElem_cons_zero, List.setIfInBounds_toArray, List.set_cons_zero, List.set_cons_succ]
    refine wpAnyH_take (i := 11) (v := ?_) rfl (by kernel_rfl) (by kernel_rfl) (by kernel_rfl) (fun _ _ _ h => h) (Or.inl ⟨by rfl, ?_⟩) (by assumption) ?_
    rotate_left 1
    · (intro w hSw; (try dsimp only at hSw); go_simp; first | done | with_reducible rfl)
    try simp only [Act.put, List.getElem_toArray, List.getElem_cons_succ, List.getElem_cons_zero, List.setIfInBounds_toArray, List.set_cons_zero, List.set_cons_succ]
    refine wpAnyH_take (i := 12) (v := ?_) rfl (by kernel_rfl) (by kernel_rfl) (by kernel_rfl) (fun _ _ _ h => h) (Or.inl ⟨by rfl, ?_⟩) (by assumption) ?_
    rotate_left 1
    · (intro w hSw; (try dsimp only at hSw); go_simp; first | done | with_reducible rfl)
    try simp only [Act.put, List.getElem_toArray, List.getElem_cons_succ, List.getElem_cons_zero, List.setIfInBounds_toArray, List.set_cons_zero, List.set_cons_succ]
    refine wpAnyH_take (i := 13) (v := undef) rfl (by kernel_rfl) (by kernel_rfl) (by kernel_rfl) (fun _ _ _ h => h) (Or.inr ⟨by rfl, rfl⟩) (by assumption) ?_
    try simp only [Act.put, List.getElem_toArray, List.getElem_cons_succ, List.getElem_cons_zero, List.setIfInBounds_toArray, List.set_cons_zero, List.set_cons_succ]
    refine wpAnyH_take (i := 14) (v := undef) rfl (by kernel_rfl) (by kernel_rfl) (by kernel_rfl) (fun _ _ _ h => h) (Or.inr ⟨by rfl, rfl⟩) (by assumption) ?_
    try simp only [Act.put, List.getElem_toArray, List.getElem_cons_succ, List.getElem_cons_zero, List.setIfInBounds_toArray, List.set_cons_zero, List.set_cons_succ]
    refine wpAnyH_take (i := 15) (v := undef) rfl (by kernel_rfl) (by kernel_rfl) (by kernel_rfl) (fun _ _ _ h => h) (Or.inr ⟨by rfl, rfl⟩) (by assumption) ?_
    try simp only [Act.put, List.getElem_toArray, List.getElem_cons_succ, List.getElem_cons_zero, List.setIfInBounds_toArray, List.set_cons_zero, List.set_cons_succ]
    refine wpAnyH_take (i := 16) (v := undef) rfl (by kernel_rfl) (by kernel_rfl) (by kernel_rfl) (fun _ _ _ h => h) (Or.inr ⟨by rfl, rfl⟩) (by assumption) ?_
    try simp only [Act.put, List.getElem_toArray, List.getElem_cons_succ, List.getElem_cons_zero, List.setIfInBounds_toArray, List.set_cons_zero, List.set_cons_succ]
    refine wpAnyH_take (i := 17) (v := undef) rfl (by kernel_rfl) (by kernel_rfl) (by kernel_rfl) (fun _ _ _ h => h) (Or.inr ⟨by rfl, rfl⟩) (by assumption) ?_
    try simp only [Act.put, List.getElem_toArray, List.getElem_cons_succ, List.getElem_cons_zero, List.setIfInBounds_toArray, List.set_cons_zero, List.set_cons_succ]
    refine wpAnyH_take (i := 18) (v := undef) rfl (by kernel_rfl) (by kernel_rfl) (by kernel_rfl) (fun _ _ _ h => h) (Or.inr ⟨by rfl, rfl⟩) (by assumption) ?_
    try simp only [Act.put, List.getElem_toArray, List.getElem_cons_succ, List.getElem_cons_zero, List.setIfInBounds_toArray, List.set_cons_zero, List.set_cons_succ]
    refine wpAnyH_take (i := 19) (v := undef) rfl (by kernel_rfl) (by kernel_rfl) (by kernel_rfl) (fun _ _ _ h => h) (Or.inr ⟨by rfl, rfl⟩) (by assumption) ?_
    try simp only [Act.put, List.getElem_toArray, List.getElem_cons_succ, List.getElem_cons_zero, List.setIfInBounds_toArray, List.set_cons_zero, List.set_cons_succ]
    refine wpAnyH_take (i := 20) (v := undef) rfl (by kernel_rfl) (by kernel_rfl) (by kernel_rfl) (fun _ _ _ h => h) (Or.inr ⟨by rfl, rfl⟩) (by assumption) ?_
    try simp only [Act.put, List.getElem_toArray, List.getElem_cons_succ, List.getElem_cons_zero, List.setIfInBounds_toArray, List.set_cons_zero, List.set_cons_succ]
    refine wpAnyH_take (i := 21) (v := undef) rfl (by kernel_rfl) (by kernel_rfl) (by kernel_rfl) (fun _ _ _ h => h) (Or.inr ⟨by rfl, rfl⟩) (by assumption) ?_
    try simp only [Act.put, List.getElem_toArray, List.getElem_cons_succ, List.getElem_cons_zero, List.setIfInBounds_toArray, List.set_cons_zero, List.set_cons_succ]
    refine wpAnyH_take (i := 22) (v := ?_) rfl (by kernel_rfl) (by kernel_rfl) (by kernel_rfl) (fun _ _ _ h => h) (Or.inl ⟨by rfl, ?_⟩) (by assumption) ?_
    rotate_left 1
    · (intro w hSw; (try dsimp only at hSw); go_simp; first | done | with_reducible rfl)
    try simp only [Act.put, List.getElem_toArray, List.getElem_cons_succ, List.getElem_cons_zero, List.setIfInBounds_toArray, List.set_cons_zero, List.set_cons_succ]
    refine wpAnyH_done (by kernel_rfl) ?_ _
    have hBo := HF.out _ (Below.refl _ _)
    clear HF
    all_goals go_wp2_with fail
    all_goals refine bodyPost_ret (v := .tuple #[.agg #[.string ⟨#[]⟩, .int .i64 0, .int .i64 0, .bool false, .bool false], .agg #[.string ⟨#[]⟩, .int .i64 0, .int .i64 0, .bool false, .bool false], .bool false]) (by simp [results, Tryz.results28, go_sem, kC0, kC1, kC2, kC3, kC4, kD0, kD1, kD2, kD3, kD4, zC, zD]) rfl ⟨rfl, ?_⟩
    all_goals exact (Below.drew ((((((((((hBo.setCell lC _).setCell lC _).setCell lC _).setCell lC _).setCell lC _).setCell lD _).setCell lD _).setCell lD _).setCell lD _).setCell lD _))
  · have HC := Lib.hid (fun w => changeOf_yes way x n w g1)
    unfold chV at HC
    have HA := Lib.hid (fun w => right1_any a false w hs g2)
    generalize getF way = g at *
    generalize putF way = p at *
    generalize lastZ way = L at *
    clear h g1 g2 g5
    go_enter Tryz.func28, Tryz.ntmps28
    go_wp2_with fail
    obtain ⟨s5, hws⟩ : ∃ s, s = ((((w.alloc (.cells #[.string a.sh, .int .i64 a.c, .int .i64 a.r, .bool a.fc, .bool a.fr] 23)).alloc (.cells #[.string b.sh, .int .i64 b.c, .int .i64 b.r, .bool b.fc, .bool b.fr] 23)).alloc (.cells #[.string ⟨#[]⟩, .int .i64 0, .int .i64 0, .bool false, .bool false] 23)).alloc (.cells #[.string ⟨#[]⟩, .int .i64 0, .int .i64 0, .bool false, .bool false] 23)) := ⟨_, rfl⟩
    have hBs : Below w.heap.size w s5 := by rw [hws]; exact (((((Below.refl w.heap.size w).alloc (by simp) _).alloc (by simp) _).alloc (by simp; omega) _).alloc (by simp; omega) _)
    obtain ⟨A, hdA⟩ : ∃ b, b = w.heap.size := ⟨_, rfl⟩
    obtain ⟨B, hdB⟩ : ∃ b, b = w.heap.size + 1 := ⟨_, rfl⟩
    obtain ⟨C, hdC⟩ : ∃ b, b = w.heap.size + 1 + 1 := ⟨_, rfl⟩
    obtain ⟨D, hdD⟩ : ∃ b, b = w.heap.size + 1 + 1 + 1 := ⟨_, rfl⟩
    have hsz : s5.heap.size = w.heap.size + 1 + 1 + 1 + 1 := by rw [hws]; simp
    have dCA : C ≠ A := by omega
    have dCB : C ≠ B := by omega
    have dCD : C ≠ D := by omega
    have dDA : D ≠ A := by omega
    have dDB : D ≠ B := by omega
    have dDC : D ≠ C := by omega
    have kA0 : s5.cell? ⟨A, 0, none⟩ = some (.string a.sh) := by rw [hws]; simp [go_sem, hdA, hdB, hdC, hdD]
    have kA1 : s5.cell? ⟨A, 1, none⟩ = some (.int .i64 a.c) := by rw [hws]; simp [go_sem, hdA, hdB, hdC, hdD]
    have kA2 : s5.cell? ⟨A, 2, none⟩ = some (.int .i64 a.r) := by rw [hws]; simp [go_sem, hdA, hdB, hdC, hdD]
    have kA3 : s5.cell? ⟨A, 3, none⟩ = some (.bool a.fc) := by rw [hws]; simp [go_sem, hdA, hdB, hdC, hdD]
    have kA4 : s5.cell? ⟨A, 4, none⟩ = some (.bool a.fr) := by rw [hws]; simp [go_sem, hdA, hdB, hdC, hdD]
    have zA : A < s5.heap.size := by omega
    have lA : w.heap.size ≤ A := by have := Nat.le_refl w.heap.size; omega
    have kB0 : s5.cell? ⟨B, 0, none⟩ = some (.string b.sh) := by rw [hws]; simp [go_sem, hdA, hdB, hdC, hdD]
    have kB1 : s5.cell? ⟨B, 1, none⟩ = some (.int .i64 b.c) := by rw [hws]; simp [go_sem, hdA, hdB, hdC, hdD]
    have kB2 : s5.cell? ⟨B, 2, none⟩ = some (.int .i64 b.r) := by rw [hws]; simp [go_sem, hdA, hdB, hdC, hdD]
    have kB3 : s5.cell? ⟨B, 3, none⟩ = some (.bool b.fc) := by rw [hws]; simp [go_sem, hdA, hdB, hdC, hdD]
    have kB4 : s5.cell? ⟨B, 4, none⟩ = some (.bool b.fr) := by rw [hws]; simp [go_sem, hdA, hdB, hdC, hdD]
    have zB : B < s5.heap.size := by omega
    have lB : w.heap.size ≤ B := by have := Nat.le_refl w.heap.size; omega
    have kC0 : s5.cell? ⟨C, 0, none⟩ = some (.string ⟨#[]⟩) := by rw [hws]; simp [go_sem, hdA, hdB, hdC, hdD]
    have fC0 : s5.frozen? ⟨C, 0, none⟩ = false := by rw [hws]; simp [go_sem, hdA, hdB, hdC, hdD]
    have kC1 : s5.cell? ⟨C, 1, none⟩ = some (.int .i64 0) := by rw [hws]; simp [go_sem, hdA, hdB, hdC, hdD]
    have fC1 : s5.frozen? ⟨C, 1, none⟩ = false := by rw [hws]; simp [go_sem, hdA, hdB, hdC, hdD]
    have kC2 : s5.cell? ⟨C, 2, none⟩ = some (.int .i64 0) := by rw [hws]; simp [go_sem, hdA, hdB, hdC, hdD]
    have fC2 : s5.frozen? ⟨C, 2, none⟩ = false := by rw [hws]; simp [go_sem, hdA, hdB, hdC, hdD]
    have kC3 : s5.cell? ⟨C, 3, none⟩ = some (.bool false) := by rw [hws]; simp [go_sem, hdA, hdB, hdC, hdD]
    have fC3 : s5.frozen? ⟨C, 3, none⟩ = false := by rw [hws]; simp [go_sem, hdA, hdB, hdC, hdD]
    have kC4 : s5.cell? ⟨C, 4, none⟩ = some (.bool false) := by rw [hws]; simp [go_sem, hdA, hdB, hdC, hdD]
    have fC4 : s5.frozen? ⟨C, 4, none⟩ = false := by rw [hws]; simp [go_sem, hdA, hdB, hdC, hdD]
    have zC : C < s5.heap.size := by omega
    have lC : w.heap.size ≤ C := by have := Nat.le_refl w.heap.size; omega
    have kD0 : s5.cell? ⟨D, 0, none⟩ = some (.string ⟨#[]⟩) := by rw [hws]; simp [go_sem, hdA, hdB, hdC, hdD]
    have fD0 : s5.frozen? ⟨D, 0, none⟩ = false := by rw [hws]; simp [go_sem, hdA, hdB, hdC, hdD]
    have kD1 : s5.cell? ⟨D, 1, none⟩ = some (.int .i64 0) := by rw [hws]; simp [go_sem, hdA, hdB, hdC, hdD]
    have fD1 : s5.frozen? ⟨D, 1, none⟩ = false := by rw [hws]; simp [go_sem, hdA, hdB, hdC, hdD]
    have kD2 : s5.cell? ⟨D, 2, none⟩ = some (.int .i64 0) := by rw [hws]; simp [go_sem, hdA, hdB, hdC, hdD]
    have fD2 : s5.frozen? ⟨D, 2, none⟩ = false := by rw [hws]; simp [go_sem, hdA, hdB, hdC, hdD]
    have kD3 : s5.cell? ⟨D, 3, none⟩ = some (.bool false) := by rw [hws]; simp [go_sem, hdA, hdB, hdC, hdD]
    have fD3 : s5.frozen? ⟨D, 3, none⟩ = false := by rw [hws]; simp [go_sem, hdA, hdB, hdC, hdD]
    have kD4 : s5.cell? ⟨D, 4, none⟩ = some (.bool false) := by rw [hws]; simp [go_sem, hdA, hdB, hdC, hdD]
    have fD4 : s5.frozen? ⟨D, 4, none⟩ = false := by rw [hws]; simp [go_sem, hdA, hdB, hdC, hdD]
    have zD : D < s5.heap.size := by omega
    have lD : w.heap.size ≤ D := by have := Nat.le_refl w.heap.size; omega
    rw [← hws]
    try rw [← hdD]
    try rw [← hdC]
    try rw [← hdB]
    try rw [← hdA]
    clear hws hsz hdA hdB hdC hdD
    have hBo := hBs; clear hBs
    refine (HC.out _).mono ?_; rintro e s6 ⟨rfl, hb⟩
    replace kA0 := belK hb kA0 zA; replace kA1 := belK hb kA1 zA; replace kA2 := belK hb kA2 zA; replace kA3 := belK hb kA3 zA; replace kA4 := belK hb kA4 zA; replace zA := Nat.lt_of_lt_of_le zA hb.size
    replace kB0 := belK hb kB0 zB; replace kB1 := belK hb kB1 zB; replace kB2 := belK hb kB2 zB; replace kB3 := belK hb kB3 zB; replace kB4 := belK hb kB4 zB; replace zB := Nat.lt_of_lt_of_le zB hb.size
    replace kC0 := belK hb kC0 zC; replace fC0 := belF hb fC0 zC; replace kC1 := belK hb kC1 zC; replace fC1 := belF hb fC1 zC; replace kC2 := belK hb kC2 zC; replace fC2 := belF hb fC2 zC; replace kC3 := belK hb kC3 zC; replace fC3 := belF hb fC3 zC; replace kC4 := belK hb kC4 zC; replace fC4 := belF hb fC4 zC; replace zC := Nat.lt_of_lt_of_le zC hb.size
    replace kD0 := belK hb kD0 zD; replace fD0 := belF hb fD0 zD; replace kD1 := belK hb kD1 zD; replace fD1 := belF hb fD1 zD; replace kD2 := belK hb kD2 zD; replace fD2 := belF hb fD2 zD; replace kD3 := belK hb kD3 zD; replace fD3 := belF hb fD3 zD; replace kD4 := belK hb kD4 zD; replace fD4 := belF hb fD4 zD; replace zD := Nat.lt_of_lt_of_le zD hb.size
    replace hBo := hBo.trans (hb.mono hBo.size)
    clear hb
    go_wp2_with fail
    obtain ⟨s7, hws⟩ : ∃ s, s = (s6.alloc (.cells #[.int .i64 L, .int .i64 x, .int .i64 n, .func (.func g) #[] #[], .func (.func p) #[] #[]] 46)) := ⟨_, rfl⟩
    have hBs : Below w.heap.size w s7 := by rw [hws]; exact ((hBo).alloc (by exact hBo.size) _)
    obtain ⟨Q, hdQ⟩ : ∃ b, b = s6.heap.size := ⟨_, rfl⟩
    have hsz : s7.heap.size = s6.heap.size + 1 := by rw [hws]; simp
    have dCQ : C ≠ Q := by omega
    have dDQ : D ≠ Q := by omega
    have hQC : ∀ p v, s6.cell? p = some v → s7.cell? p = some v := fun p v h => by rw [hws]; exact (alK h)
    have hQZ : ∀ b, b < s6.heap.size → b < s7.heap.size := fun b h => by omega
    have hQF : ∀ b j, b < s6.heap.size → s6.frozen? ⟨b, j, none⟩ = false → s7.frozen? ⟨b, j, none⟩ = false := fun b j z h => by rw [hws]; exact (alF z h)
    replace kA0 := hQC _ _ kA0; replace kA1 := hQC _ _ kA1; replace kA2 := hQC _ _ kA2; replace kA3 := hQC _ _ kA3; replace kA4 := hQC _ _ kA4; replace zA := hQZ _ zA
    replace kB0 := hQC _ _ kB0; replace kB1 := hQC _ _ kB1; replace kB2 := hQC _ _ kB2; replace kB3 := hQC _ _ kB3; replace kB4 := hQC _ _ kB4; replace zB := hQZ _ zB
    replace kC0 := hQC _ _ kC0; replace fC0 := hQF _ _ zC fC0; replace kC1 := hQC _ _ kC1; replace fC1 := hQF _ _ zC fC1; replace kC2 := hQC _ _ kC2; replace fC2 := hQF _ _ zC fC2; replace kC3 := hQC _ _ kC3; replace fC3 := hQF _ _ zC fC3; replace kC4 := hQC _ _ kC4; replace fC4 := hQF _ _ zC fC4; replace zC := hQZ _ zC
    replace kD0 := hQC _ _ kD0; replace fD0 := hQF _ _ zD fD0; replace kD1 := hQC _ _ kD1; replace fD1 := hQF _ _ zD fD1; replace kD2 := hQC _ _ kD2; replace fD2 := hQF _ _ zD fD2; replace kD3 := hQC _ _ kD3; replace fD3 := hQF _ _ zD fD3; replace kD4 := hQC _ _ kD4; replace fD4 := hQF _ _ zD fD4; replace zD := hQZ _ zD
    clear hQC hQZ hQF
    have kQ0 : s7.cell? ⟨Q, 0, none⟩ = some (.int .i64 L) := by rw [hws]; simp [go_sem, hdQ]
    have kQ1 : s7.cell? ⟨Q, 1, none⟩ = some (.int .i64 x) := by rw [hws]; simp [go_sem, hdQ]
    have kQ2 : s7.cell? ⟨Q, 2, none⟩ = some (.int .i64 n) := by rw [hws]; simp [go_sem, hdQ]
    have kQ3 : s7.cell? ⟨Q, 3, none⟩ = some (.func (.func g) #[] #[]) := by rw [hws]; simp [go_sem, hdQ]
    have kQ4 : s7.cell? ⟨Q, 4, none⟩ = some (.func (.func p) #[] #[]) := by rw [hws]; simp [go_sem, hdQ]
    have zQ : Q < s7.heap.size := by omega
    have lQ : w.heap.size ≤ Q := by have := hBo.size; omega
    rw [← hws]
    try rw [← hdQ]
    clear hBo
    clear hws hsz hdQ
    have hBo := hBs; clear hBs
    have HF : Hid (∀ W, Below s7.heap.size s7 W → Below w.heap.size w W) := fun W hW => hBo.trans (hW.mono hBo.size)
    clear hBo
    refine wp_region_held_drew (S := fun w' => w'.cell? ⟨A, 0, none⟩ = some (.string a.sh) ∧ w'.cell? ⟨A, 1, none⟩ = some (.int .i64 a.c) ∧ w'.cell? ⟨A, 2, none⟩ = some (.int .i64 a.r) ∧ w'.cell? ⟨A, 3, none⟩ = some (.bool a.fc) ∧ w'.cell? ⟨A, 4, none⟩ = some (.bool a.fr) ∧ w'.cell? ⟨B, 0, none⟩ = some (.string b.sh) ∧ w'.cell? ⟨B, 1, none⟩ = some (.int .i64 b.c) ∧ w'.cell? ⟨B, 2, none⟩ = some (.int .i64 b.r) ∧ w'.cell? ⟨B, 3, none⟩ = some (.bool b.fc) ∧ w'.cell? ⟨B, 4, none⟩ = some (.bool b.fr) ∧ w'.cell? ⟨Q, 0, none⟩ = some (.int .i64 L) ∧ w'.cell? ⟨Q, 1, none⟩ = some (.int .i64 x) ∧ w'.cell? ⟨Q, 2, none⟩ = some (.int .i64 n) ∧ w'.cell? ⟨Q, 3, none⟩ = some (.func (.func g) #[] #[]) ∧ w'.cell? ⟨Q, 4, none⟩ = some (.func (.func p) #[] #[])) (by kernel_rfl) (by ((try dsimp only); (go_keep))) (fun hHeld => ?_)
    refine wpAnyH_take (i := 0) (v := ?_) rfl (by kernel_rfl) (by kernel_rfl) (by kernel_rfl) (fun _ _ _ h => h) (Or.inl ⟨by rfl, ?_⟩) (by assumption) ?_
    rotate_left 1
    · (intro w hSw; (try dsimp only at hSw); go_simp; first | done | with_reducible rfl)
    try simp only [Act.put, List.getElem_toArray, List.getElem_cons_succ, List.getElem_cons_zero, List.setIfInBounds_toArray, List.set_cons_zero, List.set_cons_succ]
    refine wpAnyH_take (i := 1) (v := ?_) rfl (by kernel_rfl) (by kernel_rfl) (by kernel_rfl) (fun _ _ _ h => h) (Or.inl ⟨by rfl, ?_⟩) (by assumption) ?_
    rotate_left 1
    · (intro w hSw; (try dsimp only at hSw); go_simp; first | done | with_reducible rfl)
    try simp only [Act.put, List.getElem_toArray, List.getElem_cons_succ, List.getElem_cons_zero, List.setIfInBounds_toArray, List.set_cons_zero, List.set_cons_succ]
    refine wpAnyH_take (i := 2) (v := ?_) rfl (by kernel_rfl) (by kernel_rfl) (by kernel_rfl) (fun _ _ _ h => h) (Or.inl ⟨by rfl, ?_⟩) (by assumption) ?_
    rotate_left 1
    · (intro w hSw; (try dsimp only at hSw); go_simp; first | done | with_reducible rfl)
    try simp only [Act.put, List.getElem_toArray, List.getElem_cons_succ, List.getElem_cons_zero, List.setIfInBounds_toArray, List.set_cons_zero, List.set_cons_succ]
    refine wpAnyH_take (i := 3) (v := ?_) rfl (by kernel_rfl) (by kernel_rfl) (by kernel_rfl) (fun _ _ _ h => h) (Or.inl ⟨by rfl, ?_⟩) (by assumption) ?_
    rotate_left 1
    · (intro w hSw; (try dsimp only at hSw); go_simp; first | done | with_reducible rfl)
    try simp only [Act.put, List.getElem_toArray, List.getElem_cons_succ, List.getElem_cons_zero, List.setIfInBounds_toArray, List.set_cons_zero, List.set_cons_succ]
    refine wpAnyH_ready (rs := [4]) (by kernel_rfl) (by simp) ?_
    refine AllReadyH.cons rfl (fun K hK => ?_) AllReadyH.nil
    go_simp
    (go_at_call 19; refine (HA.out _).mono ?_; rintro e x8 ⟨rfl, hbx⟩; have hTx : Below s7.heap.size s7 x8 := (by first | exact (Below.refl _ _).drew.trans hbx | exact Below.trans (by assumption) (hbx.mono (Below.size (by assumption))) | exact (Below.refl _ _).trans hbx); obtain ⟨hcx, hfx⟩ := bcell hTx)
    try (go_wp2_with fail)
    refine hK.out _ _ (by ((try dsimp only); (go_keep))) (fun hHeld => ?_)
    clear hK K
    try simp only [Act.put, List.getElem_toArray, List.getElem_cons_succ, List.getElem_cons_zero, List.setIfInBounds_toArray, List.set_cons_zero, List.set_cons_succ]
    refine wpAnyH_take (i := 5) (v := ?_) rfl (by kernel_rfl) (by kernel_rfl) (by kernel_rfl) (fun _ _ _ h => h) (Or.inl ⟨by rfl, ?_⟩) (by assumption) ?_
    rotate_left 1
    · (intro w hSw; (try dsimp only at hSw); go_simp; first | done | with_reducible rfl)
    try simp only [Act.put, List.getElem_toArray, List.getElem_cons_succ, List.getElem_cons_zero, List.setIfInBounds_toArray, List.set_cons_zero, List.set_cons_succ]
    refine wpAnyH_take (i := 6) (v := ?_) rfl (by kernel_rfl) (by kernel_rfl) (by kernel_rfl) (fun _ _ _ h => h) (Or.inl ⟨by rfl, ?_⟩) (by assumption) ?_
    rotate_left 1
    · (intro w hSw; (try dsimp only at hSw); go_simp; first | done | with_reducible rfl)
    try simp only [Act.put, List.getElem_toArray, List.getElem_cons_succ, List.getElem_cons_zero, List.setIfInBounds_toArray, List.set_cons_zero, List.set_cons_succ]
    refine wpAnyH_take (i := 7) (v := ?_) rfl (by kernel_rfl) (by kernel_rfl) (by kernel_rfl) (fun _ _ _ h => h) (Or.inl ⟨by rfl, ?_⟩) (by assumption) ?_
    rotate_left 1
    · (intro w hSw; (try dsimp only at hSw); go_simp; first | done | with_reducible rfl)
    try simp only [Act.put, List.getElem_toArray, List.getElem_cons_succ, List.getElem_cons_zero, List.setIfInBounds_toArray, List.set_cons_zero, List.set_cons_succ]
    refine wpAnyH_take (i := 8) (v := undef) rfl (by kernel_rfl) (by kernel_rfl) (by kernel_rfl) (fun _ _ _ h => h) (Or.inr ⟨by rfl, rfl⟩) (by assumption) ?_
    try simp only [Act.put, List.getElem_toArray, List.getElem_cons_succ, List.getElem_cons_zero, List.setIfInBounds_toArray, List.set_cons_zero, List.set_cons_succ]
    refine wpAnyH_take (i := 9) (v := undef) rfl (by kernel_rfl) (by kernel_rfl) (by kernel_rfl) (fun _ _ _ h => h) (Or.inr ⟨by rfl, rfl⟩) (by assumption) ?_
    try simp only [Act.put, List.getElem_toArray, List.getElem_cons_succ, List.getElem_cons_zero, List.setIfInBounds_toArray, List.set_cons_zero, List.set_cons_succ]
    refine wpAnyH_take (i := 10) (v := undef) rfl (by kernel_rfl) (by kernel_rfl) (by kernel_rfl) (fun _ _ _ h => h) (Or.inr ⟨by rfl, rfl⟩) (by assumption) ?_
    try simp only [Act.put, List.getElem_toArray, List.getElem_cons_succ, List.getElem_cons_zero, List.setIfInBounds_toArray, List.set_cons_zero, List.set_cons_succ]
    refine wpAnyH_take (i := 11) (v := ?_) rfl (by kernel_rfl) (by kernel_rfl) (by kernel_rfl) (fun _ _ _ h => h) (Or.inl ⟨by rfl, ?_⟩) (by assumption) ?_
    rotate_left 1
    · (intro w hSw; (try dsimp only at hSw); go_simp; first | done | with_reducible rfl)
    try simp only [Act.put, List.getElem_toArray, List.getElem_cons_succ, List.getElem_cons_zero, List.setIfInBounds_toArray, List.set_cons_zero, List.set_cons_succ]
    refine wpAnyH_take (i := 12) (v := ?_) rfl (by kernel_rfl) (by kernel_rfl) (by kernel_rfl) (fun _ _ _ h => h) (Or.inl ⟨by rfl, ?_⟩) (by assumption) ?_
    rotate_left 1
    · (intro w hSw; (try dsimp only at hSw); go_simp; first | done | with_reducible rfl)
    try simp only [Act.put, List.getElem_toArray, List.getElem_cons_succ, List.getElem_cons_zero, List.setIfInBounds_toArray, List.set_cons_zero, List.set_cons_succ]
    refine wpAnyH_take (i := 13) (v := undef) rfl (by kernel_rfl) (by kernel_rfl) (by kernel_rfl) (fun _ _ _ h => h) (Or.inr ⟨by rfl, rfl⟩) (by assumption) ?_
    try simp only [Act.put, List.getElem_toArray, List.getElem_cons_succ, List.getElem_cons_zero, List.setIfInBounds_toArray, List.set_cons_zero, List.set_cons_succ]
    refine wpAnyH_take (i := 14) (v := undef) rfl (by kernel_rfl) (by kernel_rfl) (by kernel_rfl) (fun _ _ _ h => h) (Or.inr ⟨by rfl, rfl⟩) (by assumption) ?_
    try simp only [Act.put, List.getElem_toArray, List.getElem_cons_succ, List.getElem_cons_zero, List.setIfInBounds_toArray, List.set_cons_zero, List.set_cons_succ]
    refine wpAnyH_take (i := 15) (v := undef) rfl (by kernel_rfl) (by kernel_rfl) (by kernel_rfl) (fun _ _ _ h => h) (Or.inr ⟨by rfl, rfl⟩) (by assumption) ?_
    try simp only [Act.put, List.getElem_toArray, List.getElem_cons_succ, List.getElem_cons_zero, List.setIfInBounds_toArray, List.set_cons_zero, List.set_cons_succ]
    refine wpAnyH_take (i := 16) (v := undef) rfl (by kernel_rfl) (by kernel_rfl) (by kernel_rfl) (fun _ _ _ h => h) (Or.inr ⟨by rfl, rfl⟩) (by assumption) ?_
    try simp only [Act.put, List.getElem_toArray, List.getElem_cons_succ, List.getElem_cons_zero, List.setIfInBounds_toArray, List.set_cons_zero, List.set_cons_succ]
    refine wpAnyH_take (i := 17) (v := undef) rfl (by kernel_rfl) (by kernel_rfl) (by kernel_rfl) (fun _ _ _ h => h) (Or.inr ⟨by rfl, rfl⟩) (by assumption) ?_
    try simp only [Act.put, List.getElem_toArray, List.getElem_cons_succ, List.getElem_cons_zero, List.setIfInBounds_toArray, List.set_cons_zero, List.set_cons_succ]
    refine wpAnyH_take (i := 18) (v := undef) rfl (by kernel_rfl) (by kernel_rfl) (by kernel_rfl) (fun _ _ _ h => h) (Or.inr ⟨by rfl, rfl⟩) (by assumption) ?_
    try simp only [Act.put, List.getElem_toArray, List.getElem_cons_succ, List.getElem_cons_zero, List.setIfInBounds_toArray, List.set_cons_zero, List.set_cons_succ]
    refine wpAnyH_take (i := 19) (v := undef) rfl (by kernel_rfl) (by kernel_rfl) (by kernel_rfl) (fun _ _ _ h => h) (Or.inr ⟨by rfl, rfl⟩) (by assumption) ?_
    try simp only [Act.put, List.getElem_toArray, List.getElem_cons_succ, List.getElem_cons_zero, List.setIfInBounds_toArray, List.set_cons_zero, List.set_cons_succ]
    refine wpAnyH_take (i := 20) (v := undef) rfl (by kernel_rfl) (by kernel_rfl) (by kernel_rfl) (fun _ _ _ h => h) (Or.inr ⟨by rfl, rfl⟩) (by assumption) ?_
    try simp only [Act.put, List.getElem_toArray, List.getElem_cons_succ, List.getElem_cons_zero, List.setIfInBounds_toArray, List.set_cons_zero, List.set_cons_succ]
    refine wpAnyH_take (i := 21) (v := undef) rfl (by kernel_rfl) (by kernel_rfl) (by kernel_rfl) (fun _ _ _ h => h) (Or.inr ⟨by rfl, rfl⟩) (by assumption) ?_
    try simp only [Act.put, List.getElem_toArray, List.getElem_cons_succ, List.getElem_cons_zero, List.setIfInBounds_toArray, List.set_cons_zero, List.set_cons_succ]
    refine wpAnyH_take (i := 22) (v := ?_) rfl (by kernel_rfl) (by kernel_rfl) (by kernel_rfl) (fun _ _ _ h => h) (Or.inl ⟨by rfl, ?_⟩) (by assumption) ?_
    rotate_left 1
    · (intro w hSw; (try dsimp only at hSw); go_simp; first | done | with_reducible rfl)
    try simp only [Act.put, List.getElem_toArray, List.getElem_cons_succ, List.getElem_cons_zero, List.setIfInBounds_toArray, List.set_cons_zero, List.set_cons_succ]
    refine wpAnyH_done (by kernel_rfl) ?_ _
    all_goals go_wp2_with fail
    all_goals refine bodyPost_ret (v := .tuple #[.agg #[.string ⟨#[]⟩, .int .i64 0, .int .i64 0, .bool false, .bool false], .agg #[.string ⟨#[]⟩, .int .i64 0, .int .i64 0, .bool false, .bool false], .bool false]) (by simp [results, Tryz.results28, go_sem, hcx, kC0, kC1, kC2, kC3, kC4, kD0, kD1, kD2, kD3, kD4, zC, zD]) rfl ⟨rfl, ?_⟩
    all_goals exact (((((((((((HF.out _ (by assumption)).setCell lC _).setCell lC _).setCell lC _).setCell lC _).setCell lC _).setCell lD _).setCell lD _).setCell lD _).setCell lD _).setCell lD _)
  · have HC := Lib.hid (fun w => changeOf_yes way x n w g1)
    unfold chV at HC
    have HA := Lib.hid (fun w => right1_any a true w hs g2)
    have HB := Lib.hid (fun w => right1_any b false w hs2 g3)
    generalize getF way = g at *
    generalize putF way = p at *
    generalize lastZ way = L at *
    clear h g1 g2 g5 g3
    go_enter Tryz.func28, Tryz.ntmps28
    go_wp2_with fail
    obtain ⟨s9, hws⟩ : ∃ s, s = ((((w.alloc (.cells #[.string a.sh, .int .i64 a.c, .int .i64 a.r, .bool a.fc, .bool a.fr] 23)).alloc (.cells #[.string b.sh, .int .i64 b.c, .int .i64 b.r, .bool b.fc, .bool b.fr] 23)).alloc (.cells #[.string ⟨#[]⟩, .int .i64 0, .int .i64 0, .bool false, .bool false] 23)).alloc (.cells #[.string ⟨#[]⟩, .int .i64 0, .int .i64 0, .bool false, .bool false] 23)) := ⟨_, rfl⟩
    have hBs : Below w.heap.size w s9 := by rw [hws]; exact (((((Below.refl w.heap.size w).alloc (by simp) _).alloc (by simp) _).alloc (by simp; omega) _).alloc (by simp; omega) _)
    obtain ⟨A, hdA⟩ : ∃ b, b = w.heap.size := ⟨_, rfl⟩
    obtain ⟨B, hdB⟩ : ∃ b, b = w.heap.size + 1 := ⟨_, rfl⟩
    obtain ⟨C, hdC⟩ : ∃ b, b = w.heap.size + 1 + 1 := ⟨_, rfl⟩
    obtain ⟨D, hdD⟩ : ∃ b, b = w.heap.size + 1 + 1 + 1 := ⟨_, rfl⟩
    have hsz : s9.heap.size = w.heap.size + 1 + 1 + 1 + 1 := by rw [hws]; simp
    have dCA : C ≠ A := by omega
    have dCB : C ≠ B := by omega
    have dCD : C ≠ D := by omega
    have dDA : D ≠ A := by omega
    have dDB : D ≠ B := by omega
    have dDC : D ≠ C := by omega
    have kA0 : s9.cell? ⟨A, 0, none⟩ = some (.string a.sh) := by rw [hws]; simp [go_sem, hdA, hdB, hdC, hdD]
    have kA1 : s9.cell? ⟨A, 1, none⟩ = some (.int .i64 a.c) := by rw [hws]; simp [go_sem, hdA, hdB, hdC, hdD]
    have kA2 : s9.cell? ⟨A, 2, none⟩ = some (.int .i64 a.r) := by rw [hws]; simp [go_sem, hdA, hdB, hdC, hdD]
    have kA3 : s9.cell? ⟨A, 3, none⟩ = some (.bool a.fc) := by rw [hws]; simp [go_sem, hdA, hdB, hdC, hdD]
    have kA4 : s9.cell? ⟨A, 4, none⟩ = some (.bool a.fr) := by rw [hws]; simp [go_sem, hdA, hdB, hdC, hdD]
    have zA : A < s9.heap.size := by omega
    have lA : w.heap.size ≤ A := by have := Nat.le_refl w.heap.size; omega
    have kB0 : s9.cell? ⟨B, 0, none⟩ = some (.string b.sh) := by rw [hws]; simp [go_sem, hdA, hdB, hdC, hdD]
    have kB1 : s9.cell? ⟨B, 1, none⟩ = some (.int .i64 b.c) := by rw [hws]; simp [go_sem, hdA, hdB, hdC, hdD]
    have kB2 : s9.cell? ⟨B, 2, none⟩ = some (.int .i64 b.r) := by rw [hws]; simp [go_sem, hdA, hdB, hdC, hdD]
    have kB3 : s9.cell? ⟨B, 3, none⟩ = some (.bool b.fc) := by rw [hws]; simp [go_sem, hdA, hdB, hdC, hdD]
    have kB4 : s9.cell? ⟨B, 4, none⟩ = some (.bool b.fr) := by rw [hws]; simp [go_sem, hdA, hdB, hdC, hdD]
    have zB : B < s9.heap.size := by omega
    have lB : w.heap.size ≤ B := by have := Nat.le_refl w.heap.size; omega
    have kC0 : s9.cell? ⟨C, 0, none⟩ = some (.string ⟨#[]⟩) := by rw [hws]; simp [go_sem, hdA, hdB, hdC, hdD]
    have fC0 : s9.frozen? ⟨C, 0, none⟩ = false := by rw [hws]; simp [go_sem, hdA, hdB, hdC, hdD]
    have kC1 : s9.cell? ⟨C, 1, none⟩ = some (.int .i64 0) := by rw [hws]; simp [go_sem, hdA, hdB, hdC, hdD]
    have fC1 : s9.frozen? ⟨C, 1, none⟩ = false := by rw [hws]; simp [go_sem, hdA, hdB, hdC, hdD]
    have kC2 : s9.cell? ⟨C, 2, none⟩ = some (.int .i64 0) := by rw [hws]; simp [go_sem, hdA, hdB, hdC, hdD]
    have fC2 : s9.frozen? ⟨C, 2, none⟩ = false := by rw [hws]; simp [go_sem, hdA, hdB, hdC, hdD]
    have kC3 : s9.cell? ⟨C, 3, none⟩ = some (.bool false) := by rw [hws]; simp [go_sem, hdA, hdB, hdC, hdD]
    have fC3 : s9.frozen? ⟨C, 3, none⟩ = false := by rw [hws]; simp [go_sem, hdA, hdB, hdC, hdD]
    have kC4 : s9.cell? ⟨C, 4, none⟩ = some (.bool false) := by rw [hws]; simp [go_sem, hdA, hdB, hdC, hdD]
    have fC4 : s9.frozen? ⟨C, 4, none⟩ = false := by rw [hws]; simp [go_sem, hdA, hdB, hdC, hdD]
    have zC : C < s9.heap.size := by omega
    have lC : w.heap.size ≤ C := by have := Nat.le_refl w.heap.size; omega
    have kD0 : s9.cell? ⟨D, 0, none⟩ = some (.string ⟨#[]⟩) := by rw [hws]; simp [go_sem, hdA, hdB, hdC, hdD]
    have fD0 : s9.frozen? ⟨D, 0, none⟩ = false := by rw [hws]; simp [go_sem, hdA, hdB, hdC, hdD]
    have kD1 : s9.cell? ⟨D, 1, none⟩ = some (.int .i64 0) := by rw [hws]; simp [go_sem, hdA, hdB, hdC, hdD]
    have fD1 : s9.frozen? ⟨D, 1, none⟩ = false := by rw [hws]; simp [go_sem, hdA, hdB, hdC, hdD]
    have kD2 : s9.cell? ⟨D, 2, none⟩ = some (.int .i64 0) := by rw [hws]; simp [go_sem, hdA, hdB, hdC, hdD]
    have fD2 : s9.frozen? ⟨D, 2, none⟩ = false := by rw [hws]; simp [go_sem, hdA, hdB, hdC, hdD]
    have kD3 : s9.cell? ⟨D, 3, none⟩ = some (.bool false) := by rw [hws]; simp [go_sem, hdA, hdB, hdC, hdD]
    have fD3 : s9.frozen? ⟨D, 3, none⟩ = false := by rw [hws]; simp [go_sem, hdA, hdB, hdC, hdD]
    have kD4 : s9.cell? ⟨D, 4, none⟩ = some (.bool false) := by rw [hws]; simp [go_sem, hdA, hdB, hdC, hdD]
    have fD4 : s9.frozen? ⟨D, 4, none⟩ = false := by rw [hws]; simp [go_sem, hdA, hdB, hdC, hdD]
    have zD : D < s9.heap.size := by omega
    have lD : w.heap.size ≤ D := by have := Nat.le_refl w.heap.size; omega
    rw [← hws]
    try rw [← hdD]
    try rw [← hdC]
    try rw [← hdB]
    try rw [← hdA]
    clear hws hsz hdA hdB hdC hdD
    have hBo := hBs; clear hBs
    refine (HC.out _).mono ?_; rintro e s10 ⟨rfl, hb⟩
    replace kA0 := belK hb kA0 zA; replace kA1 := belK hb kA1 zA; replace kA2 := belK hb kA2 zA; replace kA3 := belK hb kA3 zA; replace kA4 := belK hb kA4 zA; replace zA := Nat.lt_of_lt_of_le zA hb.size
    replace kB0 := belK hb kB0 zB; replace kB1 := belK hb kB1 zB; replace kB2 := belK hb kB2 zB; replace kB3 := belK hb kB3 zB; replace kB4 := belK hb kB4 zB; replace zB := Nat.lt_of_lt_of_le zB hb.size
    replace kC0 := belK hb kC0 zC; replace fC0 := belF hb fC0 zC; replace kC1 := belK hb kC1 zC; replace fC1 := belF hb fC1 zC; replace kC2 := belK hb kC2 zC; replace fC2 := belF hb fC2 zC; replace kC3 := belK hb kC3 zC; replace fC3 := belF hb fC3 zC; replace kC4 := belK hb kC4 zC; replace fC4 := belF hb fC4 zC; replace zC := Nat.lt_of_lt_of_le zC hb.size
    replace kD0 := belK hb kD0 zD; replace fD0 := belF hb fD0 zD; replace kD1 := belK hb kD1 zD; replace fD1 := belF hb fD1 zD; replace kD2 := belK hb kD2 zD; replace fD2 := belF hb fD2 zD; replace kD3 := belK hb kD3 zD; replace fD3 := belF hb fD3 zD; replace kD4 := belK hb kD4 zD; replace fD4 := belF hb fD4 zD; replace zD := Nat.lt_of_lt_of_le zD hb.size
    replace hBo := hBo.trans (hb.mono hBo.size)
    clear hb
    go_wp2_with fail
    obtain ⟨s11, hws⟩ : ∃ s, s = (s10.alloc (.cells #[.int .i64 L, .int .i64 x, .int .i64 n, .func (.func g) #[] #[], .func (.func p) #[] #[]] 46)) := ⟨_, rfl⟩
    have hBs : Below w.heap.size w s11 := by rw [hws]; exact ((hBo).alloc (by exact hBo.size) _)
    obtain ⟨Q, hdQ⟩ : ∃ b, b = s10.heap.size := ⟨_, rfl⟩
    have hsz : s11.heap.size = s10.heap.size + 1 := by rw [hws]; simp
    have dCQ : C ≠ Q := by omega
    have dDQ : D ≠ Q := by omega
    have hQC : ∀ p v, s10.cell? p = some v → s11.cell? p = some v := fun p v h => by rw [hws]; exact (alK h)
    have hQZ : ∀ b, b < s10.heap.size → b < s11.heap.size := fun b h => by omega
    have hQF : ∀ b j, b < s10.heap.size → s10.frozen? ⟨b, j, none⟩ = false → s11.frozen? ⟨b, j, none⟩ = false := fun b j z h => by rw [hws]; exact (alF z h)
    replace kA0 := hQC _ _ kA0; replace kA1 := hQC _ _ kA1; replace kA2 := hQC _ _ kA2; replace kA3 := hQC _ _ kA3; replace kA4 := hQC _ _ kA4; replace zA := hQZ _ zA
    replace kB0 := hQC _ _ kB0; replace kB1 := hQC _ _ kB1; replace kB2 := hQC _ _ kB2; replace kB3 := hQC _ _ kB3; replace kB4 := hQC _ _ kB4; replace zB := hQZ _ zB
    replace kC0 := hQC _ _ kC0; replace fC0 := hQF _ _ zC fC0; replace kC1 := hQC _ _ kC1; replace fC1 := hQF _ _ zC fC1; replace kC2 := hQC _ _ kC2; replace fC2 := hQF _ _ zC fC2; replace kC3 := hQC _ _ kC3; replace fC3 := hQF _ _ zC fC3; replace kC4 := hQC _ _ kC4; replace fC4 := hQF _ _ zC fC4; replace zC := hQZ _ zC
    replace kD0 := hQC _ _ kD0; replace fD0 := hQF _ _ zD fD0; replace kD1 := hQC _ _ kD1; replace fD1 := hQF _ _ zD fD1; replace kD2 := hQC _ _ kD2; replace fD2 := hQF _ _ zD fD2; replace kD3 := hQC _ _ kD3; replace fD3 := hQF _ _ zD fD3; replace kD4 := hQC _ _ kD4; replace fD4 := hQF _ _ zD fD4; replace zD := hQZ _ zD
    clear hQC hQZ hQF
    have kQ0 : s11.cell? ⟨Q, 0, none⟩ = some (.int .i64 L) := by rw [hws]; simp [go_sem, hdQ]
    have kQ1 : s11.cell? ⟨Q, 1, none⟩ = some (.int .i64 x) := by rw [hws]; simp [go_sem, hdQ]
    have kQ2 : s11.cell? ⟨Q, 2, none⟩ = some (.int .i64 n) := by rw [hws]; simp [go_sem, hdQ]
    have kQ3 : s11.cell? ⟨Q, 3, none⟩ = some (.func (.func g) #[] #[]) := by rw [hws]; simp [go_sem, hdQ]
    have kQ4 : s11.cell? ⟨Q, 4, none⟩ = some (.func (.func p) #[] #[]) := by rw [hws]; simp [go_sem, hdQ]
    have zQ : Q < s11.heap.size := by omega
    have lQ : w.heap.size ≤ Q := by have := hBo.size; omega
    rw [← hws]
    try rw [← hdQ]
    clear hBo
    clear hws hsz hdQ
    have hBo := hBs; clear hBs
    have HF : Hid (∀ W, Below s11.heap.size s11 W → Below w.heap.size w W) := fun W hW => hBo.trans (hW.mono hBo.size)
    clear hBo
    refine wp_region_held_drew (S := fun w' => w'.cell? ⟨A, 0, none⟩ = some (.string a.sh) ∧ w'.cell? ⟨A, 1, none⟩ = some (.int .i64 a.c) ∧ w'.cell? ⟨A, 2, none⟩ = some (.int .i64 a.r) ∧ w'.cell? ⟨A, 3, none⟩ = some (.bool a.fc) ∧ w'.cell? ⟨A, 4, none⟩ = some (.bool a.fr) ∧ w'.cell? ⟨B, 0, none⟩ = some (.string b.sh) ∧ w'.cell? ⟨B, 1, none⟩ = some (.int .i64 b.c) ∧ w'.cell? ⟨B, 2, none⟩ = some (.int .i64 b.r) ∧ w'.cell? ⟨B, 3, none⟩ = some (.bool b.fc) ∧ w'.cell? ⟨B, 4, none⟩ = some (.bool b.fr) ∧ w'.cell? ⟨Q, 0, none⟩ = some (.int .i64 L) ∧ w'.cell? ⟨Q, 1, none⟩ = some (.int .i64 x) ∧ w'.cell? ⟨Q, 2, none⟩ = some (.int .i64 n) ∧ w'.cell? ⟨Q, 3, none⟩ = some (.func (.func g) #[] #[]) ∧ w'.cell? ⟨Q, 4, none⟩ = some (.func (.func p) #[] #[])) (by kernel_rfl) (by ((try dsimp only); (go_keep))) (fun hHeld => ?_)
    refine wpAnyH_take (i := 0) (v := ?_) rfl (by kernel_rfl) (by kernel_rfl) (by kernel_rfl) (fun _ _ _ h => h) (Or.inl ⟨by rfl, ?_⟩) (by assumption) ?_
    rotate_left 1
    · (intro w hSw; (try dsimp only at hSw); go_simp; first | done | with_reducible rfl)
    try simp only [Act.put, List.getElem_toArray, List.getElem_cons_succ, List.getElem_cons_zero, List.setIfInBounds_toArray, List.set_cons_zero, List.set_cons_succ]
    refine wpAnyH_take (i := 1) (v := ?_) rfl (by kernel_rfl) (by kernel_rfl) (by kernel_rfl) (fun _ _ _ h => h) (Or.inl ⟨by rfl, ?_⟩) (by assumption) ?_
    rotate_left 1
    · (intro w hSw; (try dsimp only at hSw); go_simp; first | done | with_reducible rfl)
    try simp only [Act.put, List.getElem_toArray, List.getElem_cons_succ, List.getElem_cons_zero, List.setIfInBounds_toArray, List.set_cons_zero, List.set_cons_succ]
    refine wpAnyH_take (i := 2) (v := ?_) rfl (by kernel_rfl) (by kernel_rfl) (by kernel_rfl) (fun _ _ _ h => h) (Or.inl ⟨by rfl, ?_⟩) (by assumption) ?_
    rotate_left 1
    · (intro w hSw; (try dsimp only at hSw); go_simp; first | done | with_reducible rfl)
    try simp only [Act.put, List.getElem_toArray, List.getElem_cons_succ, List.getElem_cons_zero, List.setIfInBounds_toArray, List.set_cons_zero, List.set_cons_succ]
    refine wpAnyH_take (i := 3) (v := ?_) rfl (by kernel_rfl) (by kernel_rfl) (by kernel_rfl) (fun _ _ _ h => h) (Or.inl ⟨by rfl, ?_⟩) (by assumption) ?_
    rotate_left 1
    · (intro w hSw; (try dsimp only at hSw); go_simp; first | done | with_reducible rfl)
    try simp only [Act.put, List.getElem_toArray, List.getElem_cons_succ, List.getElem_cons_zero, List.setIfInBounds_toArray, List.set_cons_zero, List.set_cons_succ]
    refine wpAnyH_ready (rs := [4]) (by kernel_rfl) (by simp) ?_
    refine AllReadyH.cons rfl (fun K hK => ?_) AllReadyH.nil
    go_simp
    (go_at_call 19; refine (HA.out _).mono ?_; rintro e x12 ⟨rfl, hbx⟩; have hTx : Below s11.heap.size s11 x12 := (by first | exact (Below.refl _ _).drew.trans hbx | exact Below.trans (by assumption) (hbx.mono (Below.size (by assumption))) | exact (Below.refl _ _).trans hbx); obtain ⟨hcx, hfx⟩ := bcell hTx)
    try (go_wp2_with fail)
    refine hK.out _ _ (by ((try dsimp only); (go_keep))) (fun hHeld => ?_)
    clear hK K
    try simp only [Act.put, List.getElem_toArray, List.getElem_cons_succ, List.getElem_cons_zero, List.setIfInBounds_toArray, List.set_cons_zero, List.set_cons_succ]
    refine wpAnyH_take (i := 5) (v := ?_) rfl (by kernel_rfl) (by kernel_rfl) (by kernel_rfl) (fun _ _ _ h => h) (Or.inl ⟨by rfl, ?_⟩) (by assumption) ?_
    rotate_left 1
    · (intro w hSw; (try dsimp only at hSw); go_simp; first | done | with_reducible rfl)
    try simp only [Act.put, List.getElem_toArray, List.getElem_cons_succ, List.getElem_cons_zero, List.setIfInBounds_toArray, List.set_cons_zero, List.set_cons_succ]
    refine wpAnyH_take (i := 6) (v := ?_) rfl (by kernel_rfl) (by kernel_rfl) (by kernel_rfl) (fun _ _ _ h => h) (Or.inl ⟨by rfl, ?_⟩) (by assumption) ?_
    rotate_left 1
    · (intro w hSw; (try dsimp only at hSw); go_simp; first | done | with_reducible rfl)
    try simp only [Act.put, List.getElem_toArray, List.getElem_cons_succ, List.getElem_cons_zero, List.setIfInBounds_toArray, List.set_cons_zero, List.set_cons_succ]
    refine wpAnyH_take (i := 7) (v := ?_) rfl (by kernel_rfl) (by kernel_rfl) (by kernel_rfl) (fun _ _ _ h => h) (Or.inl ⟨by rfl, ?_⟩) (by assumption) ?_
    rotate_left 1
    · (intro w hSw; (try dsimp only at hSw); go_simp; first | done | with_reducible rfl)
    try simp only [Act.put, List.getElem_toArray, List.getElem_cons_succ, List.getElem_cons_zero, List.setIfInBounds_toArray, List.set_cons_zero, List.set_cons_succ]
    refine wpAnyH_take (i := 8) (v := ?_) rfl (by kernel_rfl) (by kernel_rfl) (by kernel_rfl) (fun _ _ _ h => h) (Or.inl ⟨by rfl, ?_⟩) (by assumption) ?_
    rotate_left 1
    · (intro w hSw; (try dsimp only at hSw); go_simp; first | done | with_reducible rfl)
    try simp only [Act.put, List.getElem_toArray, List.getElem_cons_succ, List.getElem_cons_zero, List.setIfInBounds_toArray, List.set_cons_zero, List.set_cons_succ]
    refine wpAnyH_ready (rs := [9]) (by kernel_rfl) (by simp) ?_
    refine AllReadyH.cons rfl (fun K hK => ?_) AllReadyH.nil
    go_simp
    (go_at_call 19; refine (HB.out _).mono ?_; rintro e x12 ⟨rfl, hbx⟩; have hTx : Below s11.heap.size s11 x12 := (by first | exact (Below.refl _ _).drew.trans hbx | exact Below.trans (by assumption) (hbx.mono (Below.size (by assumption))) | exact (Below.refl _ _).trans hbx); obtain ⟨hcx, hfx⟩ := bcell hTx)
    try (go_wp2_with fail)
    refine hK.out _ _ (by ((try dsimp only); (go_keep))) (fun hHeld => ?_)
    clear hK K
    try simp only [Act.put, List.getElem_toArray, List.getElem_cons_succ, List.getElem_cons_zero, List.setIfInBounds_toArray, List.set_cons_zero, List.set_cons_succ]
    refine wpAnyH_take (i := 10) (v := ?_) rfl (by kernel_rfl) (by kernel_rfl) (by kernel_rfl) (fun _ _ _ h => h) (Or.inl ⟨by rfl, ?_⟩) (by assumption) ?_
    rotate_left 1
    · (intro w hSw; (try dsimp only at hSw); go_simp; first | done | with_reducible rfl)
    try simp only [Act.put, List.getElem_toArray, List.getElem_cons_succ, List.getElem_cons_zero, List.setIfInBounds_toArray, List.set_cons_zero, List.set_cons_succ]
    refine wpAnyH_take (i := 11) (v := ?_) rfl (by kernel_rfl) (by kernel_rfl) (by kernel_rfl) (fun _ _ _ h => h) (Or.inl ⟨by rfl, ?_⟩) (by assumption) ?_
    rotate_left 1
    · (intro w hSw; (try dsimp only at hSw); go_simp; first | done | with_reducible rfl)
    try simp only [Act.put, List.getElem_toArray, List.getElem_cons_succ, List.getElem_cons_zero, List.setIfInBounds_toArray, List.set_cons_zero, List.set_cons_succ]
    refine wpAnyH_take (i := 12) (v := ?_) rfl (by kernel_rfl) (by kernel_rfl) (by kernel_rfl) (fun _ _ _ h => h) (Or.inl ⟨by rfl, ?_⟩) (by assumption) ?_
    rotate_left 1
    · (intro w hSw; (try dsimp only at hSw); go_simp; first | done | with_reducible rfl)
    try simp only [Act.put, List.getElem_toArray, List.getElem_cons_succ, List.getElem_cons_zero, List.setIfInBounds_toArray, List.set_cons_zero, List.set_cons_succ]
    refine wpAnyH_take (i := 13) (v := undef) rfl (by kernel_rfl) (by kernel_rfl) (by kernel_rfl) (fun _ _ _ h => h) (Or.inr ⟨by rfl, rfl⟩) (by assumption) ?_
    try simp only [Act.put, List.getElem_toArray, List.getElem_cons_succ, List.getElem_cons_zero, List.setIfInBounds_toArray, List.set_cons_zero, List.set_cons_succ]
    refine wpAnyH_take (i := 14) (v := undef) rfl (by kernel_rfl) (by kernel_rfl) (by kernel_rfl) (fun _ _ _ h => h) (Or.inr ⟨by rfl, rfl⟩) (by assumption) ?_
    try simp only [Act.put, List.getElem_toArray, List.getElem_cons_succ, List.getElem_cons_zero, List.setIfInBounds_toArray, List.set_cons_zero, List.set_cons_succ]
    refine wpAnyH_take (i := 15) (v := undef) rfl (by kernel_rfl) (by kernel_rfl) (by kernel_rfl) (fun _ _ _ h => h) (Or.inr ⟨by rfl, rfl⟩) (by assumption) ?_
    try simp only [Act.put, List.getElem_toArray, List.getElem_cons_succ, List.getElem_cons_zero, List.setIfInBounds_toArray, List.set_cons_zero, List.set_cons_succ]
    refine wpAnyH_take (i := 16) (v := undef) rfl (by kernel_rfl) (by kernel_rfl) (by kernel_rfl) (fun _ _ _ h => h) (Or.inr ⟨by rfl, rfl⟩) (by assumption) ?_
    try simp only [Act.put, List.getElem_toArray, List.getElem_cons_succ, List.getElem_cons_zero, List.setIfInBounds_toArray, List.set_cons_zero, List.set_cons_succ]
    refine wpAnyH_take (i := 17) (v := undef) rfl (by kernel_rfl) (by kernel_rfl) (by kernel_rfl) (fun _ _ _ h => h) (Or.inr ⟨by rfl, rfl⟩) (by assumption) ?_
    try simp only [Act.put, List.getElem_toArray, List.getElem_cons_succ, List.getElem_cons_zero, List.setIfInBounds_toArray, List.set_cons_zero, List.set_cons_succ]
    refine wpAnyH_take (i := 18) (v := undef) rfl (by kernel_rfl) (by kernel_rfl) (by kernel_rfl) (fun _ _ _ h => h) (Or.inr ⟨by rfl, rfl⟩) (by assumption) ?_
    try simp only [Act.put, List.getElem_toArray, List.getElem_cons_succ, List.getElem_cons_zero, List.setIfInBounds_toArray, List.set_cons_zero, List.set_cons_succ]
    refine wpAnyH_take (i := 19) (v := undef) rfl (by kernel_rfl) (by kernel_rfl) (by kernel_rfl) (fun _ _ _ h => h) (Or.inr ⟨by rfl, rfl⟩) (by assumption) ?_
    try simp only [Act.put, List.getElem_toArray, List.getElem_cons_succ, List.getElem_cons_zero, List.setIfInBounds_toArray, List.set_cons_zero, List.set_cons_succ]
    refine wpAnyH_take (i := 20) (v := undef) rfl (by kernel_rfl) (by kernel_rfl) (by kernel_rfl) (fun _ _ _ h => h) (Or.inr ⟨by rfl, rfl⟩) (by assumption) ?_
    try simp only [Act.put, List.getElem_toArray, List.getElem_cons_succ, List.getElem_cons_zero, List.setIfInBounds_toArray, List.set_cons_zero, List.set_cons_succ]
    refine wpAnyH_take (i := 21) (v := undef) rfl (by kernel_rfl) (by kernel_rfl) (by kernel_rfl) (fun _ _ _ h => h) (Or.inr ⟨by rfl, rfl⟩) (by assumption) ?_
    try simp only [Act.put, List.getElem_toArray, List.getElem_cons_succ, List.getElem_cons_zero, List.setIfInBounds_toArray, List.set_cons_zero, List.set_cons_succ]
    refine wpAnyH_take (i := 22) (v := ?_) rfl (by kernel_rfl) (by kernel_rfl) (by kernel_rfl) (fun _ _ _ h => h) (Or.inl ⟨by rfl, ?_⟩) (by assumption) ?_
    rotate_left 1
    · (intro w hSw; (try dsimp only at hSw); go_simp; first | done | with_reducible rfl)
    try simp only [Act.put, List.getElem_toArray, List.getElem_cons_succ, List.getElem_cons_zero, List.setIfInBounds_toArray, List.set_cons_zero, List.set_cons_succ]
    refine wpAnyH_done (by kernel_rfl) ?_ _
    all_goals go_wp2_with fail
    all_goals refine bodyPost_ret (v := .tuple #[.agg #[.string ⟨#[]⟩, .int .i64 0, .int .i64 0, .bool false, .bool false], .agg #[.string ⟨#[]⟩, .int .i64 0, .int .i64 0, .bool false, .bool false], .bool false]) (by simp [results, Tryz.results28, go_sem, hcx, kC0, kC1, kC2, kC3, kC4, kD0, kD1, kD2, kD3, kD4, zC, zD]) rfl ⟨rfl, ?_⟩
    all_goals exact (((((((((((HF.out _ (by assumption)).setCell lC _).setCell lC _).setCell lC _).setCell lC _).setCell lC _).setCell lD _).setCell lD _).setCell lD _).setCell lD _).setCell lD _)
  · have HC := Lib.hid (fun w => changeOf_yes way x n w g1)
    unfold chV at HC
    have HA := Lib.hid (fun w => right1_any a true w hs g2)
    have HB := Lib.hid (fun w => right1_any b true w hs2 g3)
    have HGa := Lib.hid (fun w => getF_any a way _ w rfl)
    have HGb := Lib.hid (fun w => getF_any b way _ w rfl)
    have hcg := cfGet way
    generalize getF way = g at *
    generalize putF way = p at *
    generalize lastZ way = L at *
    generalize plZ a way = za at *
    generalize plZ b way = zb at *
    clear h g1 g2 g5 g3
    go_enter Tryz.func28, Tryz.ntmps28
    go_wp2_with fail
    obtain ⟨s13, hws⟩ : ∃ s, s = ((((w.alloc (.cells #[.string a.sh, .int .i64 a.c, .int .i64 a.r, .bool a.fc, .bool a.fr] 23)).alloc (.cells #[.string b.sh, .int .i64 b.c, .int .i64 b.r, .bool b.fc, .bool b.fr] 23)).alloc (.cells #[.string ⟨#[]⟩, .int .i64 0, .int .i64 0, .bool false, .bool false] 23)).alloc (.cells #[.string ⟨#[]⟩, .int .i64 0, .int .i64 0, .bool false, .bool false] 23)) := ⟨_, rfl⟩
    have hBs : Below w.heap.size w s13 := by rw [hws]; exact (((((Below.refl w.heap.size w).alloc (by simp) _).alloc (by simp) _).alloc (by simp; omega) _).alloc (by simp; omega) _)
    obtain ⟨A, hdA⟩ : ∃ b, b = w.heap.size := ⟨_, rfl⟩
    obtain ⟨B, hdB⟩ : ∃ b, b = w.heap.size + 1 := ⟨_, rfl⟩
    obtain ⟨C, hdC⟩ : ∃ b, b = w.heap.size + 1 + 1 := ⟨_, rfl⟩
    obtain ⟨D, hdD⟩ : ∃ b, b = w.heap.size + 1 + 1 + 1 := ⟨_, rfl⟩
    have hsz : s13.heap.size = w.heap.size + 1 + 1 + 1 + 1 := by rw [hws]; simp
    have dCA : C ≠ A := by omega
    have dCB : C ≠ B := by omega
    have dCD : C ≠ D := by omega
    have dDA : D ≠ A := by omega
    have dDB : D ≠ B := by omega
    have dDC : D ≠ C := by omega
    have kA0 : s13.cell? ⟨A, 0, none⟩ = some (.string a.sh) := by rw [hws]; simp [go_sem, hdA, hdB, hdC, hdD]
    have kA1 : s13.cell? ⟨A, 1, none⟩ = some (.int .i64 a.c) := by rw [hws]; simp [go_sem, hdA, hdB, hdC, hdD]
    have kA2 : s13.cell? ⟨A, 2, none⟩ = some (.int .i64 a.r) := by rw [hws]; simp [go_sem, hdA, hdB, hdC, hdD]
    have kA3 : s13.cell? ⟨A, 3, none⟩ = some (.bool a.fc) := by rw [hws]; simp [go_sem, hdA, hdB, hdC, hdD]
    have kA4 : s13.cell? ⟨A, 4, none⟩ = some (.bool a.fr) := by rw [hws]; simp [go_sem, hdA, hdB, hdC, hdD]
    have zA : A < s13.heap.size := by omega
    have lA : w.heap.size ≤ A := by have := Nat.le_refl w.heap.size; omega
    have kB0 : s13.cell? ⟨B, 0, none⟩ = some (.string b.sh) := by rw [hws]; simp [go_sem, hdA, hdB, hdC, hdD]
    have kB1 : s13.cell? ⟨B, 1, none⟩ = some (.int .i64 b.c) := by rw [hws]; simp [go_sem, hdA, hdB, hdC, hdD]
    have kB2 : s13.cell? ⟨B, 2, none⟩ = some (.int .i64 b.r) := by rw [hws]; simp [go_sem, hdA, hdB, hdC, hdD]
    have kB3 : s13.cell? ⟨B, 3, none⟩ = some (.bool b.fc) := by rw [hws]; simp [go_sem, hdA, hdB, hdC, hdD]
    have kB4 : s13.cell? ⟨B, 4, none⟩ = some (.bool b.fr) := by rw [hws]; simp [go_sem, hdA, hdB, hdC, hdD]
    have zB : B < s13.heap.size := by omega
    have lB : w.heap.size ≤ B := by have := Nat.le_refl w.heap.size; omega
    have kC0 : s13.cell? ⟨C, 0, none⟩ = some (.string ⟨#[]⟩) := by rw [hws]; simp [go_sem, hdA, hdB, hdC, hdD]
    have fC0 : s13.frozen? ⟨C, 0, none⟩ = false := by rw [hws]; simp [go_sem, hdA, hdB, hdC, hdD]
    have kC1 : s13.cell? ⟨C, 1, none⟩ = some (.int .i64 0) := by rw [hws]; simp [go_sem, hdA, hdB, hdC, hdD]
    have fC1 : s13.frozen? ⟨C, 1, none⟩ = false := by rw [hws]; simp [go_sem, hdA, hdB, hdC, hdD]
    have kC2 : s13.cell? ⟨C, 2, none⟩ = some (.int .i64 0) := by rw [hws]; simp [go_sem, hdA, hdB, hdC, hdD]
    have fC2 : s13.frozen? ⟨C, 2, none⟩ = false := by rw [hws]; simp [go_sem, hdA, hdB, hdC, hdD]
    have kC3 : s13.cell? ⟨C, 3, none⟩ = some (.bool false) := by rw [hws]; simp [go_sem, hdA, hdB, hdC, hdD]
    have fC3 : s13.frozen? ⟨C, 3, none⟩ = false := by rw [hws]; simp [go_sem, hdA, hdB, hdC, hdD]
    have kC4 : s13.cell? ⟨C, 4, none⟩ = some (.bool false) := by rw [hws]; simp [go_sem, hdA, hdB, hdC, hdD]
    have fC4 : s13.frozen? ⟨C, 4, none⟩ = false := by rw [hws]; simp [go_sem, hdA, hdB, hdC, hdD]
    have zC : C < s13.heap.size := by omega
    have lC : w.heap.size ≤ C := by have := Nat.le_refl w.heap.size; omega
    have kD0 : s13.cell? ⟨D, 0, none⟩ = some (.string ⟨#[]⟩) := by rw [hws]; simp [go_sem, hdA, hdB, hdC, hdD]
    have fD0 : s13.frozen? ⟨D, 0, none⟩ = false := by rw [hws]; simp [go_sem, hdA, hdB, hdC, hdD]
    have kD1 : s13.cell? ⟨D, 1, none⟩ = some (.int .i64 0) := by rw [hws]; simp [go_sem, hdA, hdB, hdC, hdD]
    have fD1 : s13.frozen? ⟨D, 1, none⟩ = false := by rw [hws]; simp [go_sem, hdA, hdB, hdC, hdD]
    have kD2 : s13.cell? ⟨D, 2, none⟩ = some (.int .i64 0) := by rw [hws]; simp [go_sem, hdA, hdB, hdC, hdD]
    have fD2 : s13.frozen? ⟨D, 2, none⟩ = false := by rw [hws]; simp [go_sem, hdA, hdB, hdC, hdD]
    have kD3 : s13.cell? ⟨D, 3, none⟩ = some (.bool false) := by rw [hws]; simp [go_sem, hdA, hdB, hdC, hdD]
    have fD3 : s13.frozen? ⟨D, 3, none⟩ = false := by rw [hws]; simp [go_sem, hdA, hdB, hdC, hdD]
    have kD4 : s13.cell? ⟨D, 4, none⟩ = some (.bool false) := by rw [hws]; simp [go_sem, hdA, hdB, hdC, hdD]
    have fD4 : s13.frozen? ⟨D, 4, none⟩ = false := by rw [hws]; simp [go_sem, hdA, hdB, hdC, hdD]
    have zD : D < s13.heap.size := by omega
    have lD : w.heap.size ≤ D := by have := Nat.le_refl w.heap.size; omega
    rw [← hws]
    try rw [← hdD]
    try rw [← hdC]
    try rw [← hdB]
    try rw [← hdA]
    clear hws hsz hdA hdB hdC hdD
    have hBo := hBs; clear hBs
    refine (HC.out _).mono ?_; rintro e s14 ⟨rfl, hb⟩
    replace kA0 := belK hb kA0 zA; replace kA1 := belK hb kA1 zA; replace kA2 := belK hb kA2 zA; replace kA3 := belK hb kA3 zA; replace kA4 := belK hb kA4 zA; replace zA := Nat.lt_of_lt_of_le zA hb.size
    replace kB0 := belK hb kB0 zB; replace kB1 := belK hb kB1 zB; replace kB2 := belK hb kB2 zB; replace kB3 := belK hb kB3 zB; replace kB4 := belK hb kB4 zB; replace zB := Nat.lt_of_lt_of_le zB hb.size
    replace kC0 := belK hb kC0 zC; replace fC0 := belF hb fC0 zC; replace kC1 := belK hb kC1 zC; replace fC1 := belF hb fC1 zC; replace kC2 := belK hb kC2 zC; replace fC2 := belF hb fC2 zC; replace kC3 := belK hb kC3 zC; replace fC3 := belF hb fC3 zC; replace kC4 := belK hb kC4 zC; replace fC4 := belF hb fC4 zC; replace zC := Nat.lt_of_lt_of_le zC hb.size
    replace kD0 := belK hb kD0 zD; replace fD0 := belF hb fD0 zD; replace kD1 := belK hb kD1 zD; replace fD1 := belF hb fD1 zD; replace kD2 := belK hb kD2 zD; replace fD2 := belF hb fD2 zD; replace kD3 := belK hb kD3 zD; replace fD3 := belF hb fD3 zD; replace kD4 := belK hb kD4 zD; replace fD4 := belF hb fD4 zD; replace zD := Nat.lt_of_lt_of_le zD hb.size
    replace hBo := hBo.trans (hb.mono hBo.size)
    clear hb
    go_wp2_with fail
    obtain ⟨s15, hws⟩ : ∃ s, s = (s14.alloc (.cells #[.int .i64 L, .int .i64 x, .int .i64 n, .func (.func g) #[] #[], .func (.func p) #[] #[]] 46)) := ⟨_, rfl⟩
    have hBs : Below w.heap.size w s15 := by rw [hws]; exact ((hBo).alloc (by exact hBo.size) _)
    obtain ⟨Q, hdQ⟩ : ∃ b, b = s14.heap.size := ⟨_, rfl⟩
    have hsz : s15.heap.size = s14.heap.size + 1 := by rw [hws]; simp
    have dCQ : C ≠ Q := by omega
    have dDQ : D ≠ Q := by omega
    have hQC : ∀ p v, s14.cell? p = some v → s15.cell? p = some v := fun p v h => by rw [hws]; exact (alK h)
    have hQZ : ∀ b, b < s14.heap.size → b < s15.heap.size := fun b h => by omega
    have hQF : ∀ b j, b < s14.heap.size → s14.frozen? ⟨b, j, none⟩ = false → s15.frozen? ⟨b, j, none⟩ = false := fun b j z h => by rw [hws]; exact (alF z h)
    replace kA0 := hQC _ _ kA0; replace kA1 := hQC _ _ kA1; replace kA2 := hQC _ _ kA2; replace kA3 := hQC _ _ kA3; replace kA4 := hQC _ _ kA4; replace zA := hQZ _ zA
    replace kB0 := hQC _ _ kB0; replace kB1 := hQC _ _ kB1; replace kB2 := hQC _ _ kB2; replace kB3 := hQC _ _ kB3; replace kB4 := hQC _ _ kB4; replace zB := hQZ _ zB
    replace kC0 := hQC _ _ kC0; replace fC0 := hQF _ _ zC fC0; replace kC1 := hQC _ _ kC1; replace fC1 := hQF _ _ zC fC1; replace kC2 := hQC _ _ kC2; replace fC2 := hQF _ _ zC fC2; replace kC3 := hQC _ _ kC3; replace fC3 := hQF _ _ zC fC3; replace kC4 := hQC _ _ kC4; replace fC4 := hQF _ _ zC fC4; replace zC := hQZ _ zC
    replace kD0 := hQC _ _ kD0; replace fD0 := hQF _ _ zD fD0; replace kD1 := hQC _ _ kD1; replace fD1 := hQF _ _ zD fD1; replace kD2 := hQC _ _ kD2; replace fD2 := hQF _ _ zD fD2; replace kD3 := hQC _ _ kD3; replace fD3 := hQF _ _ zD fD3; replace kD4 := hQC _ _ kD4; replace fD4 := hQF _ _ zD fD4; replace zD := hQZ _ zD
    clear hQC hQZ hQF
    have kQ0 : s15.cell? ⟨Q, 0, none⟩ = some (.int .i64 L) := by rw [hws]; simp [go_sem, hdQ]
    have kQ1 : s15.cell? ⟨Q, 1, none⟩ = some (.int .i64 x) := by rw [hws]; simp [go_sem, hdQ]
    have kQ2 : s15.cell? ⟨Q, 2, none⟩ = some (.int .i64 n) := by rw [hws]; simp [go_sem, hdQ]
    have kQ3 : s15.cell? ⟨Q, 3, none⟩ = some (.func (.func g) #[] #[]) := by rw [hws]; simp [go_sem, hdQ]
    have kQ4 : s15.cell? ⟨Q, 4, none⟩ = some (.func (.func p) #[] #[]) := by rw [hws]; simp [go_sem, hdQ]
    have zQ : Q < s15.heap.size := by omega
    have lQ : w.heap.size ≤ Q := by have := hBo.size; omega
    rw [← hws]
    try rw [← hdQ]
    clear hBo
    clear hws hsz hdQ
    have hBo := hBs; clear hBs
    have HF : Hid (∀ W, Below s15.heap.size s15 W → Below w.heap.size w W) := fun W hW => hBo.trans (hW.mono hBo.size)
    clear hBo
    refine wp_region_held_drew (S := fun w' => w'.cell? ⟨A, 0, none⟩ = some (.string a.sh) ∧ w'.cell? ⟨A, 1, none⟩ = some (.int .i64 a.c) ∧ w'.cell? ⟨A, 2, none⟩ = some (.int .i64 a.r) ∧ w'.cell? ⟨A, 3, none⟩ = some (.bool a.fc) ∧ w'.cell? ⟨A, 4, none⟩ = some (.bool a.fr) ∧ w'.cell? ⟨B, 0, none⟩ = some (.string b.sh) ∧ w'.cell? ⟨B, 1, none⟩ = some (.int .i64 b.c) ∧ w'.cell? ⟨B, 2, none⟩ = some (.int .i64 b.r) ∧ w'.cell? ⟨B, 3, none⟩ = some (.bool b.fc) ∧ w'.cell? ⟨B, 4, none⟩ = some (.bool b.fr) ∧ w'.cell? ⟨Q, 0, none⟩ = some (.int .i64 L) ∧ w'.cell? ⟨Q, 1, none⟩ = some (.int .i64 x) ∧ w'.cell? ⟨Q, 2, none⟩ = some (.int .i64 n) ∧ w'.cell? ⟨Q, 3, none⟩ = some (.func (.func g) #[] #[]) ∧ w'.cell? ⟨Q, 4, none⟩ = some (.func (.func p) #[] #[])) (by kernel_rfl) (by ((try dsimp only); (go_keep))) (fun hHeld => ?_)
    refine wpAnyH_take (i := 0) (v := ?_) rfl (by kernel_rfl) (by kernel_rfl) (by kernel_rfl) (fun _ _ _ h => h) (Or.inl ⟨by rfl, ?_⟩) (by assumption) ?_
    rotate_left 1
    · (intro w hSw; (try dsimp only at hSw); go_simp; first | done | with_reducible rfl)
    try simp only [Act.put, List.getElem_toArray, List.getElem_cons_succ, List.getElem_cons_zero, List.setIfInBounds_toArray, List.set_cons_zero, List.set_cons_succ]
    refine wpAnyH_take (i := 1) (v := ?_) rfl (by kernel_rfl) (by kernel_rfl) (by kernel_rfl) (fun _ _ _ h => h) (Or.inl ⟨by rfl, ?_⟩) (by assumption) ?_
    rotate_left 1
    · (intro w hSw; (try dsimp only at hSw); go_simp; first | done | with_reducible rfl)
    try simp only [Act.put, List.getElem_toArray, List.getElem_cons_succ, List.getElem_cons_zero, List.setIfInBounds_toArray, List.set_cons_zero, List.set_cons_succ]
    refine wpAnyH_take (i := 2) (v := ?_) rfl (by kernel_rfl) (by kernel_rfl) (by kernel_rfl) (fun _ _ _ h => h) (Or.inl ⟨by rfl, ?_⟩) (by assumption) ?_
    rotate_left 1
    · (intro w hSw; (try dsimp only at hSw); go_simp; first | done | with_reducible rfl)
    try simp only [Act.put, List.getElem_toArray, List.getElem_cons_succ, List.getElem_cons_zero, List.setIfInBounds_toArray, List.set_cons_zero, List.set_cons_succ]
    refine wpAnyH_take (i := 3) (v := ?_) rfl (by kernel_rfl) (by kernel_rfl) (by kernel_rfl) (fun _ _ _ h => h) (Or.inl ⟨by rfl, ?_⟩) (by assumption) ?_
    rotate_left 1
    · (intro w hSw; (try dsimp only at hSw); go_simp; first | done | with_reducible rfl)
    try simp only [Act.put, List.getElem_toArray, List.getElem_cons_succ, List.getElem_cons_zero, List.setIfInBounds_toArray, List.set_cons_zero, List.set_cons_succ]
    refine wpAnyH_ready (rs := [4]) (by kernel_rfl) (by simp) ?_
    refine AllReadyH.cons rfl (fun K hK => ?_) AllReadyH.nil
    go_simp
    (go_at_call 19; refine (HA.out _).mono ?_; rintro e x16 ⟨rfl, hbx⟩; have hTx : Below s15.heap.size s15 x16 := (by first | exact (Below.refl _ _).drew.trans hbx | exact Below.trans (by assumption) (hbx.mono (Below.size (by assumption))) | exact (Below.refl _ _).trans hbx); obtain ⟨hcx, hfx⟩ := bcell hTx)
    try (go_wp2_with fail)
    refine hK.out _ _ (by ((try dsimp only); (go_keep))) (fun hHeld => ?_)
    clear hK K
    try simp only [Act.put, List.getElem_toArray, List.getElem_cons_succ, List.getElem_cons_zero, List.setIfInBounds_toArray, List.set_cons_zero, List.set_cons_succ]
    refine wpAnyH_take (i := 5) (v := ?_) rfl (by kernel_rfl) (by kernel_rfl) (by kernel_rfl) (fun _ _ _ h => h) (Or.inl ⟨by rfl, ?_⟩) (by assumption) ?_
    rotate_left 1
    · (intro w hSw; (try dsimp only at hSw); go_simp; first | done | with_reducible rfl)
    try simp only [Act.put, List.getElem_toArray, List.getElem_cons_succ, List.getElem_cons_zero, List.setIfInBounds_toArray, List.set_cons_zero, List.set_cons_succ]
    refine wpAnyH_take (i := 6) (v := ?_) rfl (by kernel_rfl) (by kernel_rfl) (by kernel_rfl) (fun _ _ _ h => h) (Or.inl ⟨by rfl, ?_⟩) (by assumption) ?_
    rotate_left 1
    · (intro w hSw; (try dsimp only at hSw); go_simp; first | done | with_reducible rfl)
    try simp only [Act.put, List.getElem_toArray, List.getElem_cons_succ, List.getElem_cons_zero, List.setIfInBounds_toArray, List.set_cons_zero, List.set_cons_succ]
    refine wpAnyH_take (i := 7) (v := ?_) rfl (by kernel_rfl) (by kernel_rfl) (by kernel_rfl) (fun _ _ _ h => h) (Or.inl ⟨by rfl, ?_⟩) (by assumption) ?_
    rotate_left 1
    · (intro w hSw; (try dsimp only at hSw); go_simp; first | done | with_reducible rfl)
    try simp only [Act.put, List.getElem_toArray, List.getElem_cons_succ, List.getElem_cons_zero, List.setIfInBounds_toArray, List.set_cons_zero, List.set_cons_succ]
    refine wpAnyH_take (i := 8) (v := ?_) rfl (by kernel_rfl) (by kernel_rfl) (by kernel_rfl) (fun _ _ _ h => h) (Or.inl ⟨by rfl, ?_⟩) (by assumption) ?_
    rotate_left 1
    · (intro w hSw; (try dsimp only at hSw); go_simp; first | done | with_reducible rfl)
    try simp only [Act.put, List.getElem_toArray, List.getElem_cons_succ, List.getElem_cons_zero, List.setIfInBounds_toArray, List.set_cons_zero, List.set_cons_succ]
    refine wpAnyH_ready (rs := [9]) (by kernel_rfl) (by simp) ?_
    refine AllReadyH.cons rfl (fun K hK => ?_) AllReadyH.nil
    go_simp
    (go_at_call 19; refine (HB.out _).mono ?_; rintro e x16 ⟨rfl, hbx⟩; have hTx : Below s15.heap.size s15 x16 := (by first | exact (Below.refl _ _).drew.trans hbx | exact Below.trans (by assumption) (hbx.mono (Below.size (by assumption))) | exact (Below.refl _ _).trans hbx); obtain ⟨hcx, hfx⟩ := bcell hTx)
    try (go_wp2_with fail)
    refine hK.out _ _ (by ((try dsimp only); (go_keep))) (fun hHeld => ?_)
    clear hK K
    try simp only [Act.put, List.getElem_toArray, List.getElem_cons_succ, List.getElem_cons_zero, List.setIfInBounds_toArray, List.set_cons_zero, List.set_cons_succ]
    refine wpAnyH_take (i := 10) (v := ?_) rfl (by kernel_rfl) (by kernel_rfl) (by kernel_rfl) (fun _ _ _ h => h) (Or.inl ⟨by rfl, ?_⟩) (by assumption) ?_
    rotate_left 1
    · (intro w hSw; (try dsimp only at hSw); go_simp; first | done | with_reducible rfl)
    try simp only [Act.put, List.getElem_toArray, List.getElem_cons_succ, List.getElem_cons_zero, List.setIfInBounds_toArray, List.set_cons_zero, List.set_cons_succ]
    refine wpAnyH_take (i := 11) (v := ?_) rfl (by kernel_rfl) (by kernel_rfl) (by kernel_rfl) (fun _ _ _ h => h) (Or.inl ⟨by rfl, ?_⟩) (by assumption) ?_
    rotate_left 1
    · (intro w hSw; (try dsimp only at hSw); go_simp; first | done | with_reducible rfl)
    try simp only [Act.put, List.getElem_toArray, List.getElem_cons_succ, List.getElem_cons_zero, List.setIfInBounds_toArray, List.set_cons_zero, List.set_cons_succ]
    refine wpAnyH_take (i := 12) (v := ?_) rfl (by kernel_rfl) (by kernel_rfl) (by kernel_rfl) (fun _ _ _ h => h) (Or.inl ⟨by rfl, ?_⟩) (by assumption) ?_
    rotate_left 1
    · (intro w hSw; (try dsimp only at hSw); go_simp; first | done | with_reducible rfl)
    try simp only [Act.put, List.getElem_toArray, List.getElem_cons_succ, List.getElem_cons_zero, List.setIfInBounds_toArray, List.set_cons_zero, List.set_cons_succ]
    refine wpAnyH_take (i := 13) (v := ?_) rfl (by kernel_rfl) (by kernel_rfl) (by kernel_rfl) (fun _ _ _ h => h) (Or.inl ⟨by rfl, ?_⟩) (by assumption) ?_
    rotate_left 1
    · (intro w hSw; (try dsimp only at hSw); go_simp; first | done | with_reducible rfl)
    try simp only [Act.put, List.getElem_toArray, List.getElem_cons_succ, List.getElem_cons_zero, List.setIfInBounds_toArray, List.set_cons_zero, List.set_cons_succ]
    refine wpAnyH_take (i := 14) (v := ?_) rfl (by kernel_rfl) (by kernel_rfl) (by kernel_rfl) (fun _ _ _ h => h) (Or.inl ⟨by rfl, ?_⟩) (by assumption) ?_
    rotate_left 1
    · (intro w hSw; (try dsimp only at hSw); go_simp; first | done | with_reducible rfl)
    try simp only [Act.put, List.getElem_toArray, List.getElem_cons_succ, List.getElem_cons_zero, List.setIfInBounds_toArray, List.set_cons_zero, List.set_cons_succ]
    refine wpAnyH_take (i := 15) (v := ?_) rfl (by kernel_rfl) (by kernel_rfl) (by kernel_rfl) (fun _ _ _ h => h) (Or.inl ⟨by rfl, ?_⟩) (by assumption) ?_
    rotate_left 1
    · (intro w hSw; (try dsimp only at hSw); go_simp; first | done | with_reducible rfl)
    try simp only [Act.put, List.getElem_toArray, List.getElem_cons_succ, List.getElem_cons_zero, List.setIfInBounds_toArray, List.set_cons_zero, List.set_cons_succ]
    refine wpAnyH_take (i := 17) (v := ?_) rfl (by kernel_rfl) (by kernel_rfl) (by kernel_rfl) (fun _ _ _ h => h) (Or.inl ⟨by rfl, ?_⟩) (by assumption) ?_
    rotate_left 1
    · (intro w hSw; (try dsimp only at hSw); go_simp; first | done | with_reducible rfl)
    try simp only [Act.put, List.getElem_toArray, List.getElem_cons_succ, List.getElem_cons_zero, List.setIfInBounds_toArray, List.set_cons_zero, List.set_cons_succ]
    refine wpAnyH_take (i := 18) (v := ?_) rfl (by kernel_rfl) (by kernel_rfl) (by kernel_rfl) (fun _ _ _ h => h) (Or.inl ⟨by rfl, ?_⟩) (by assumption) ?_
    rotate_left 1
    · (intro w hSw; (try dsimp only at hSw); go_simp; first | done | with_reducible rfl)
    try simp only [Act.put, List.getElem_toArray, List.getElem_cons_succ, List.getElem_cons_zero, List.setIfInBounds_toArray, List.set_cons_zero, List.set_cons_succ]
    refine wpAnyH_take (i := 19) (v := ?_) rfl (by kernel_rfl) (by kernel_rfl) (by kernel_rfl) (fun _ _ _ h => h) (Or.inl ⟨by rfl, ?_⟩) (by assumption) ?_
    rotate_left 1
    · (intro w hSw; (try dsimp only at hSw); go_simp; first | done | with_reducible rfl)
    try simp only [Act.put, List.getElem_toArray, List.getElem_cons_succ, List.getElem_cons_zero, List.setIfInBounds_toArray, List.set_cons_zero, List.set_cons_succ]
    refine wpAnyH_ready (rs := [16]) (by kernel_rfl) (by simp) ?_
    refine AllReadyH.cons rfl (fun K hK => ?_) AllReadyH.nil
    go_simp
    (refine (HGa.out _).mono ?_; rintro e x16 ⟨rfl, hbx⟩; have hTx : Below s15.heap.size s15 x16 := (by first | exact (Below.refl _ _).drew.trans hbx | exact Below.trans (by assumption) (hbx.mono (Below.size (by assumption))) | exact (Below.refl _ _).trans hbx); obtain ⟨hcx, hfx⟩ := bcell hTx)
    try (go_wp2_with fail)
    refine hK.out _ _ (by ((try dsimp only); (go_keep))) (fun hHeld => ?_)
    clear hK K
    try simp only [Act.put, List.getElem_toArray, List.getElem_cons_succ, List.getElem_cons_zero, List.setIfInBounds_toArray, List.set_cons_zero, List.set_cons_succ]
    refine wpAnyH_ready (rs := [20]) (by kernel_rfl) (by simp) ?_
    refine AllReadyH.cons rfl (fun K hK => ?_) AllReadyH.nil
    go_simp
    (refine (HGb.out _).mono ?_; rintro e x16 ⟨rfl, hbx⟩; have hTx : Below s15.heap.size s15 x16 := (by first | exact (Below.refl _ _).drew.trans hbx | exact Below.trans (by assumption) (hbx.mono (Below.size (by assumption))) | exact (Below.refl _ _).trans hbx); obtain ⟨hcx, hfx⟩ := bcell hTx)
    try (go_wp2_with fail)
    refine hK.out _ _ (by ((try dsimp only); (go_keep))) (fun hHeld => ?_)
    clear hK K
    try simp only [Act.put, List.getElem_toArray, List.getElem_cons_succ, List.getElem_cons_zero, List.setIfInBounds_toArray, List.set_cons_zero, List.set_cons_succ]
    refine wpAnyH_take (i := 21) (v := ?_) rfl (by kernel_rfl) (by kernel_rfl) (by kernel_rfl) (fun _ _ _ h => h) (Or.inl ⟨by rfl, ?_⟩) (by assumption) ?_
    rotate_left 1
    · (intro w hSw; (try dsimp only at hSw); go_simp; first | done | with_reducible rfl)
    try simp only [Act.put, List.getElem_toArray, List.getElem_cons_succ, List.getElem_cons_zero, List.setIfInBounds_toArray, List.set_cons_zero, List.set_cons_succ]
    refine wpAnyH_take (i := 22) (v := ?_) rfl (by kernel_rfl) (by kernel_rfl) (by kernel_rfl) (fun _ _ _ h => h) (Or.inl ⟨by rfl, ?_⟩) (by assumption) ?_
    rotate_left 1
    · (intro w hSw; (try dsimp only at hSw); go_simp; first | done | with_reducible rfl)
    try simp only [Act.put, List.getElem_toArray, List.getElem_cons_succ, List.getElem_cons_zero, List.setIfInBounds_toArray, List.set_cons_zero, List.set_cons_succ]
    refine wpAnyH_done (by kernel_rfl) ?_ _
    all_goals go_wp2_with fail
    all_goals refine bodyPost_ret (v := .tuple #[.agg #[.string ⟨#[]⟩, .int .i64 0, .int .i64 0, .bool false, .bool false], .agg #[.string ⟨#[]⟩, .int .i64 0, .int .i64 0, .bool false, .bool false], .bool false]) (by simp [results, Tryz.results28, go_sem, hcx, kC0, kC1, kC2, kC3, kC4, kD0, kD1, kD2, kD3, kD4, zC, zD]) rfl ⟨rfl, ?_⟩
    all_goals exact (((((((((((HF.out _ (by assumption)).setCell lC _).setCell lC _).setCell lC _).setCell lC _).setCell lC _).setCell lD _).setCell lD _).setCell lD _).setCell lD _).setCell lD _)
  · rw [h] at g5; cases g5
end Go.Proofs.YtlpjaflolnggnaaGreatDoor
