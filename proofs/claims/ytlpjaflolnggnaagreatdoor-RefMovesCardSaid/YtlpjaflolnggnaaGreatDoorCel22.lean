/-
  LAYER 11, REFERENCES: the program's places, got and put; places behind a change.
-/
import Derived.Test.YtlpjaflolnggnaaGreatDoorCel21
namespace Go.Proofs.YtlpjaflolnggnaaGreatDoor
open Go.RowKit Go.Shelf
set_option linter.unusedSimpArgs false
set_option linter.unusedVariables false

set_option maxRecDepth 100000 in
theorem getF_any (q : Rf) (way z : Int) (w : World) (hz : plZ q way = z) :
    Calls Tryz.prog (getF way) #[.agg #[.string q.sh, .int .i64 q.c, .int .i64 q.r, .bool q.fc, .bool q.fr]] w fun e w' => e = .returned (.int .i64 z) ∧ Below w.heap.size w w' := by
  unfold getF
  by_cases h0 : way = 0
  · rw [if_pos h0]
    obtain rfl : q.c = z := by unfold plZ at hz; rwa [if_pos h0] at hz
    go_enter Tryz.func70, Tryz.ntmps70
    go_wp2_with fail
    go_ret
    exact ⟨rfl, (Below.refl _ _).alloc (Nat.le_refl _) _⟩
  · rw [if_neg h0]
    obtain rfl : q.r = z := by unfold plZ at hz; rwa [if_neg h0] at hz
    go_enter Tryz.func72, Tryz.ntmps72
    go_wp2_with fail
    go_ret
    exact ⟨rfl, (Below.refl _ _).alloc (Nat.le_refl _) _⟩
set_option maxRecDepth 100000 in
theorem putF_any (q : Rf) (way z : Int) (t : Rf) (w : World) (ht : ptR q way z = t) :
    Calls Tryz.prog (putF way) #[.agg #[.string q.sh, .int .i64 q.c, .int .i64 q.r, .bool q.fc, .bool q.fr], .int .i64 z] w fun e w' => e = .returned (.agg #[.string t.sh, .int .i64 t.c, .int .i64 t.r, .bool t.fc, .bool t.fr]) ∧ Below w.heap.size w w' := by
  unfold putF
  by_cases h0 : way = 0
  · rw [if_pos h0]
    obtain rfl : (⟨q.sh, z, q.r, q.fc, q.fr⟩ : Rf) = t := by unfold ptR at ht; rwa [if_pos h0] at ht
    go_enter Tryz.func71, Tryz.ntmps71
    go_wp2_with fail
    refine bodyPost_ret (v := .agg #[.string q.sh, .int .i64 z, .int .i64 q.r, .bool q.fc, .bool q.fr]) (by simp [results, Tryz.results71, go_sem]) rfl ⟨rfl, ?_⟩
    exact al_below (al_below (Below.refl _ _))
  · rw [if_neg h0]
    obtain rfl : (⟨q.sh, q.c, z, q.fc, q.fr⟩ : Rf) = t := by unfold ptR at ht; rwa [if_neg h0] at ht
    go_enter Tryz.func73, Tryz.ntmps73
    go_wp2_with fail
    refine bodyPost_ret (v := .agg #[.string q.sh, .int .i64 q.c, .int .i64 z, .bool q.fc, .bool q.fr]) (by simp [results, Tryz.results73, go_sem]) rfl ⟨rfl, ?_⟩
    exact al_below (al_below (Below.refl _ _))
theorem cfGet (way : Int) (x : Value) (w : World) : (callFunc (getF way) #[x]).run Tryz.prog w = .ok (.enter (getF way) #[x]) w := by
  unfold getF
  split <;> kernel_rfl
theorem cfPut (way : Int) (x y : Value) (w : World) : (callFunc (putF way) #[x, y]).run Tryz.prog w = .ok (.enter (putF way) #[x, y]) w := by
  unfold putF
  split <;> kernel_rfl
theorem cfIn (x y : Value) (w : World) : (callFunc 22 #[x, y]).run Tryz.prog w = .ok (.enter 22 #[x, y]) w := by kernel_rfl
theorem cfOut (x y : Value) (w : World) : (callFunc 27 #[x, y]).run Tryz.prog w = .ok (.enter 27 #[x, y]) w := by kernel_rfl
theorem cfIn2 (x y z : Value) (w : World) : (callFunc 29 #[x, y, z]).run Tryz.prog w = .ok (.enter 29 #[x, y, z]) w := by kernel_rfl
theorem cfOut2 (x y z : Value) (w : World) : (callFunc 30 #[x, y, z]).run Tryz.prog w = .ok (.enter 30 #[x, y, z]) w := by kernel_rfl
/-- a place behind some that were taken out; 0: it is one of them. -/
def tkP (p a n : Int) : Int := if a + n ≤ p then p - n else if a ≤ p then 0 else p
set_option maxRecDepth 100000 in
theorem putIn_any (L a n : Int) (g p : Nat) (z : Int) (w : World) (h1 : 0 ≤ z) (h2 : z ≤ 1000) (h3 : 0 ≤ n) (h4 : n ≤ 1000) :
    Calls Tryz.prog 22 #[.agg #[.int .i64 L, .int .i64 a, .int .i64 n, .func (.func g) #[] #[], .func (.func p) #[] #[]], .int .i64 z] w fun e w' => e = .returned (.int .i64 (shP z a n)) ∧ Below w.heap.size w w' := by
  unfold shP
  by_cases h : a ≤ z
  · rw [if_pos h]
    go_enter Tryz.func22, Tryz.ntmps22
    go_wp2_with fail
    go_ret
    exact ⟨rfl, al_below (Below.refl _ _)⟩
  · rw [if_neg h]
    go_enter Tryz.func22, Tryz.ntmps22
    go_wp2_with fail
    go_ret
    exact ⟨rfl, al_below (Below.refl _ _)⟩
set_option maxRecDepth 100000 in
theorem takenOut_any (L a n : Int) (g p : Nat) (z : Int) (w : World) (h1 : 0 ≤ z) (h2 : z ≤ 1000) (h3 : 0 ≤ n) (h4 : n ≤ 1000) (h5 : 0 ≤ a) (h6 : a ≤ 1000) :
    Calls Tryz.prog 27 #[.agg #[.int .i64 L, .int .i64 a, .int .i64 n, .func (.func g) #[] #[], .func (.func p) #[] #[]], .int .i64 z] w fun e w' => e = .returned (.int .i64 (tkP z a n)) ∧ Below w.heap.size w w' := by
  unfold tkP
  by_cases h : a + n ≤ z
  · rw [if_pos h]
    go_enter Tryz.func27, Tryz.ntmps27
    go_wp2_with fail
    go_ret
    exact ⟨rfl, al_below (Below.refl _ _)⟩
  · rw [if_neg h]
    by_cases h7 : a ≤ z
    · rw [if_pos h7]
      go_enter Tryz.func27, Tryz.ntmps27
      go_wp2_with fail
      go_ret
      exact ⟨rfl, al_below (Below.refl _ _)⟩
    · rw [if_neg h7]
      go_enter Tryz.func27, Tryz.ntmps27
      go_wp2_with fail
      go_ret
      exact ⟨rfl, al_below (Below.refl _ _)⟩
set_option maxRecDepth 100000 in
set_option maxHeartbeats 4000000 in
theorem putIn2_any (L a n : Int) (g p : Nat) (y z u v : Int) (w : World) (h1 : 0 ≤ z) (h2 : z ≤ 1000) (h3 : 0 ≤ n) (h4 : n ≤ 1000) (h5 : 0 ≤ y) (h6 : y ≤ 1000) (hu : shP y a n = u) (hv : min (shP z a n) L = v) :
    Calls Tryz.prog 29 #[.agg #[.int .i64 L, .int .i64 a, .int .i64 n, .func (.func g) #[] #[], .func (.func p) #[] #[]], .int .i64 y, .int .i64 z] w fun e w' => e = .returned (.tuple #[.int .i64 u, .int .i64 v]) ∧ Below w.heap.size w w' := by
  have H1 := Lib.hid (fun w => putIn_any L a n g p y w h5 h6 h3 h4)
  have H2 := Lib.hid (fun w => putIn_any L a n g p z w h1 h2 h3 h4)
  rw [hu] at H1
  generalize shP z a n = t at *
  clear hu h1 h2 h3 h4 h5 h6
  go_enter Tryz.func29, Tryz.ntmps29
  go_wp2_with fail
  obtain ⟨s1, hws⟩ : ∃ s, s = (w.alloc (.cells #[.int .i64 L, .int .i64 a, .int .i64 n, .func (.func g) #[] #[], .func (.func p) #[] #[]] 46)) := ⟨_, rfl⟩
  have hBs : Below w.heap.size w s1 := by rw [hws]; exact ((Below.refl w.heap.size w).alloc (by simp) _)
  obtain ⟨A, hdA⟩ : ∃ b, b = w.heap.size := ⟨_, rfl⟩
  have hsz : s1.heap.size = w.heap.size + 1 := by rw [hws]; simp
  have kA0 : s1.cell? ⟨A, 0, none⟩ = some (.int .i64 L) := by rw [hws]; simp [go_sem, hdA]
  have kA1 : s1.cell? ⟨A, 1, none⟩ = some (.int .i64 a) := by rw [hws]; simp [go_sem, hdA]
  have kA2 : s1.cell? ⟨A, 2, none⟩ = some (.int .i64 n) := by rw [hws]; simp [go_sem, hdA]
  have kA3 : s1.cell? ⟨A, 3, none⟩ = some (.func (.func g) #[] #[]) := by rw [hws]; simp [go_sem, hdA]
  have kA4 : s1.cell? ⟨A, 4, none⟩ = some (.func (.func p) #[] #[]) := by rw [hws]; simp [go_sem, hdA]
  have zA : A < s1.heap.size := by omega
  have lA : w.heap.size ≤ A := by have := Nat.le_refl w.heap.size; omega
  rw [← hws]
  try rw [← hdA]
  clear hws hsz hdA
  have hBo := hBs; clear hBs
  have HF : Hid (∀ W, Below s1.heap.size s1 W → Below w.heap.size w W) := fun W hW => hBo.trans (hW.mono hBo.size)
  clear hBo
  refine wp_region_held_drew (S := fun w' => w'.cell? ⟨A, 0, none⟩ = some (.int .i64 L) ∧ w'.cell? ⟨A, 1, none⟩ = some (.int .i64 a) ∧ w'.cell? ⟨A, 2, none⟩ = some (.int .i64 n) ∧ w'.cell? ⟨A, 3, none⟩ = some (.func (.func g) #[] #[]) ∧ w'.cell? ⟨A, 4, none⟩ = some (.func (.func p) #[] #[])) (by kernel_rfl) (by ((try dsimp only); (go_keep))) (fun hHeld => ?_)
  refine wpAnyH_take (i := 0) (v := ?_) rfl (by kernel_rfl) (by kernel_rfl) (by kernel_rfl) (fun _ _ _ h => h) (Or.inl ⟨by rfl, ?_⟩) (by assumption) ?_
  rotate_left 1
  · (intro w hSw; (try dsimp only at hSw); go_simp; first | done | with_reducible rfl)
  try simp only [Act.put, List.getElem_toArray, List.getElem_cons_succ, List.getElem_cons_zero, List.setIfInBounds_toArray, List.set_cons_zero, List.set_cons_succ]
  refine wpAnyH_take (i := 1) (v := ?_) rfl (by kernel_rfl) (by kernel_rfl) (by kernel_rfl) (fun _ _ _ h => h) (Or.inl ⟨by rfl, ?_⟩) (by assumption) ?_
  rotate_left 1
  · (intro w hSw; (try dsimp only at hSw); go_simp; first | done | with_reducible rfl)
  try simp only [Act.put, List.getElem_toArray, List.getElem_cons_succ, List.getElem_cons_zero, List.setIfInBounds_toArray, List.set_cons_zero, List.set_cons_succ]
  refine wpAnyH_take (i := 3) (v := ?_) rfl (by kernel_rfl) (by kernel_rfl) (by kernel_rfl) (fun _ _ _ h => h) (Or.inl ⟨by rfl, ?_⟩) (by assumption) ?_
  rotate_left 1
  · (intro w hSw; (try dsimp only at hSw); go_simp; first | done | with_reducible rfl)
  try simp only [Act.put, List.getElem_toArray, List.getElem_cons_succ, List.getElem_cons_zero, List.setIfInBounds_toArray, List.set_cons_zero, List.set_cons_succ]
  refine wpAnyH_take (i := 4) (v := ?_) rfl (by kernel_rfl) (by kernel_rfl) (by kernel_rfl) (fun _ _ _ h => h) (Or.inl ⟨by rfl, ?_⟩) (by assumption) ?_
  rotate_left 1
  · (intro w hSw; (try dsimp only at hSw); go_simp; first | done | with_reducible rfl)
  try simp only [Act.put, List.getElem_toArray, List.getElem_cons_succ, List.getElem_cons_zero, List.setIfInBounds_toArray, List.set_cons_zero, List.set_cons_succ]
  refine wpAnyH_take (i := 6) (v := ?_) rfl (by kernel_rfl) (by kernel_rfl) (by kernel_rfl) (fun _ _ _ h => h) (Or.inl ⟨by rfl, ?_⟩) (by assumption) ?_
  rotate_left 1
  · (intro w hSw; (try dsimp only at hSw); go_simp; first | done | with_reducible rfl)
  try simp only [Act.put, List.getElem_toArray, List.getElem_cons_succ, List.getElem_cons_zero, List.setIfInBounds_toArray, List.set_cons_zero, List.set_cons_succ]
  refine wpAnyH_take (i := 7) (v := ?_) rfl (by kernel_rfl) (by kernel_rfl) (by kernel_rfl) (fun _ _ _ h => h) (Or.inl ⟨by rfl, ?_⟩) (by assumption) ?_
  rotate_left 1
  · (intro w hSw; (try dsimp only at hSw); go_simp; first | done | with_reducible rfl)
  try simp only [Act.put, List.getElem_toArray, List.getElem_cons_succ, List.getElem_cons_zero, List.setIfInBounds_toArray, List.set_cons_zero, List.set_cons_succ]
  refine wpAnyH_ready (rs := [2]) (by kernel_rfl) (by simp) ?_
  refine AllReadyH.cons rfl (fun K hK => ?_) AllReadyH.nil
  go_simp
  (go_at_call 22; refine (H1.out _).mono ?_; rintro e x2 ⟨rfl, hbx⟩; have hTx : Below s1.heap.size s1 x2 := (by first | exact (Below.refl _ _).drew.trans hbx | exact Below.trans (by assumption) (hbx.mono (Below.size (by assumption))) | exact (Below.refl _ _).trans hbx); obtain ⟨hcx, hfx⟩ := bcell hTx)
  try (go_wp2_with fail)
  refine hK.out _ _ (by ((try dsimp only); (go_keep))) (fun hHeld => ?_)
  clear hK K
  try simp only [Act.put, List.getElem_toArray, List.getElem_cons_succ, List.getElem_cons_zero, List.setIfInBounds_toArray, List.set_cons_zero, List.set_cons_succ]
  refine wpAnyH_ready (rs := [5]) (by kernel_rfl) (by simp) ?_
  refine AllReadyH.cons rfl (fun K hK => ?_) AllReadyH.nil
  go_simp
  (go_at_call 22; refine (H2.out _).mono ?_; rintro e x2 ⟨rfl, hbx⟩; have hTx : Below s1.heap.size s1 x2 := (by first | exact (Below.refl _ _).drew.trans hbx | exact Below.trans (by assumption) (hbx.mono (Below.size (by assumption))) | exact (Below.refl _ _).trans hbx); obtain ⟨hcx, hfx⟩ := bcell hTx)
  try (go_wp2_with fail)
  refine hK.out _ _ (by ((try dsimp only); (go_keep))) (fun hHeld => ?_)
  clear hK K
  try simp only [Act.put, List.getElem_toArray, List.getElem_cons_succ, List.getElem_cons_zero, List.setIfInBounds_toArray, List.set_cons_zero, List.set_cons_succ]
  refine wpAnyH_take (i := 8) (v := ?_) rfl (by kernel_rfl) (by kernel_rfl) (by kernel_rfl) (fun _ _ _ h => h) (Or.inl ⟨by rfl, ?_⟩) (by assumption) ?_
  rotate_left 1
  · (intro w hSw; (try dsimp only at hSw); go_simp; first | done | with_reducible rfl)
  try simp only [Act.put, List.getElem_toArray, List.getElem_cons_succ, List.getElem_cons_zero, List.setIfInBounds_toArray, List.set_cons_zero, List.set_cons_succ]
  refine wpAnyH_take (i := 9) (v := ?_) rfl (by kernel_rfl) (by kernel_rfl) (by kernel_rfl) (fun _ _ _ h => h) (Or.inl ⟨by rfl, ?_⟩) (by assumption) ?_
  rotate_left 1
  · (intro w hSw; (try dsimp only at hSw); go_simp; first | done | with_reducible rfl)
  try simp only [Act.put, List.getElem_toArray, List.getElem_cons_succ, List.getElem_cons_zero, List.setIfInBounds_toArray, List.set_cons_zero, List.set_cons_succ]
  refine wpAnyH_take (i := 10) (v := ?_) rfl (by kernel_rfl) (by kernel_rfl) (by kernel_rfl) (fun _ _ _ h => h) (Or.inl ⟨by rfl, ?_⟩) (by assumption) ?_
  rotate_left 1
  · (intro w hSw; (try dsimp only at hSw); go_simp; first | done | with_reducible rfl)
  try simp only [Act.put, List.getElem_toArray, List.getElem_cons_succ, List.getElem_cons_zero, List.setIfInBounds_toArray, List.set_cons_zero, List.set_cons_succ]
  refine wpAnyH_done (by kernel_rfl) ?_ _
  all_goals go_wp2_with fail
  all_goals first | go_ret | go_ret2
  all_goals exact ⟨rfl, HF.out _ (by assumption)⟩
def tk1 (y a n : Int) : Int := if tkP y a n = 0 then a else tkP y a n
def tk2 (z a n : Int) : Int := if tkP z a n = 0 then a - 1 else tkP z a n
set_option maxRecDepth 100000 in
set_option maxHeartbeats 4000000 in
theorem takenOut2_any (L a n : Int) (g p : Nat) (y z : Int) (w : World) (h1 : 0 ≤ z) (h2 : z ≤ 1000) (h3 : 0 ≤ n) (h4 : n ≤ 1000) (h5 : 0 ≤ y) (h6 : y ≤ 1000) (h7 : 0 ≤ a) (h8 : a ≤ 1000) :
    Calls Tryz.prog 30 #[.agg #[.int .i64 L, .int .i64 a, .int .i64 n, .func (.func g) #[] #[], .func (.func p) #[] #[]], .int .i64 y, .int .i64 z] w fun e w' => e = .returned (.tuple #[.int .i64 (tk1 y a n), .int .i64 (tk2 z a n)]) ∧ Below w.heap.size w w' := by
  have H1 := Lib.hid (fun w => takenOut_any L a n g p y w h5 h6 h3 h4 h7 h8)
  have H2 := Lib.hid (fun w => takenOut_any L a n g p z w h1 h2 h3 h4 h7 h8)
  unfold tk1 tk2
  generalize tkP y a n = u at *
  generalize tkP z a n = v at *
  clear h1 h2 h3 h4 h5 h6
  by_cases hu : u = 0 <;> by_cases hv : v = 0
  · rw [if_pos hu, if_pos hv]
    subst hu hv
    go_enter Tryz.func30, Tryz.ntmps30
    go_wp2_with fail
    obtain ⟨s3, hws⟩ : ∃ s, s = (w.alloc (.cells #[.int .i64 L, .int .i64 a, .int .i64 n, .func (.func g) #[] #[], .func (.func p) #[] #[]] 46)) := ⟨_, rfl⟩
    have hBs : Below w.heap.size w s3 := by rw [hws]; exact ((Below.refl w.heap.size w).alloc (by simp) _)
    obtain ⟨A, hdA⟩ : ∃ b, b = w.heap.size := ⟨_, rfl⟩
    have hsz : s3.heap.size = w.heap.size + 1 := by rw [hws]; simp
    have kA0 : s3.cell? ⟨A, 0, none⟩ = some (.int .i64 L) := by rw [hws]; simp [go_sem, hdA]
    have kA1 : s3.cell? ⟨A, 1, none⟩ = some (.int .i64 a) := by rw [hws]; simp [go_sem, hdA]
    have kA2 : s3.cell? ⟨A, 2, none⟩ = some (.int .i64 n) := by rw [hws]; simp [go_sem, hdA]
    have kA3 : s3.cell? ⟨A, 3, none⟩ = some (.func (.func g) #[] #[]) := by rw [hws]; simp [go_sem, hdA]
    have kA4 : s3.cell? ⟨A, 4, none⟩ = some (.func (.func p) #[] #[]) := by rw [hws]; simp [go_sem, hdA]
    have zA : A < s3.heap.size := by omega
    have lA : w.heap.size ≤ A := by have := Nat.le_refl w.heap.size; omega
    rw [← hws]
    try rw [← hdA]
    clear hws hsz hdA
    have hBo := hBs; clear hBs
    have HF : Hid (∀ W, Below s3.heap.size s3 W → Below w.heap.size w W) := fun W hW => hBo.trans (hW.mono hBo.size)
    clear hBo
    refine wp_region_held_drew (S := fun w' => w'.cell? ⟨A, 0, none⟩ = some (.int .i64 L) ∧ w'.cell? ⟨A, 1, none⟩ = some (.int .i64 a) ∧ w'.cell? ⟨A, 2, none⟩ = some (.int .i64 n) ∧ w'.cell? ⟨A, 3, none⟩ = some (.func (.func g) #[] #[]) ∧ w'.cell? ⟨A, 4, none⟩ = some (.func (.func p) #[] #[])) (by kernel_rfl) (by ((try dsimp only); (go_keep))) (fun hHeld => ?_)
    refine wpAnyH_take (i := 0) (v := ?_) rfl (by kernel_rfl) (by kernel_rfl) (by kernel_rfl) (fun _ _ _ h => h) (Or.inl ⟨by rfl, ?_⟩) (by assumption) ?_
    rotate_left 1
    · (intro w hSw; (try dsimp only at hSw); go_simp; first | done | with_reducible rfl)
    try simp only [Act.put, List.getElem_toArray, List.getElem_cons_succ, List.getElem_cons_zero, List.setIfInBounds_toArray, List.set_cons_zero, List.set_cons_succ]
    refine wpAnyH_take (i := 1) (v := ?_) rfl (by kernel_rfl) (by kernel_rfl) (by kernel_rfl) (fun _ _ _ h => h) (Or.inl ⟨by rfl, ?_⟩) (by assumption) ?_
    rotate_left 1
    · (intro w hSw; (try dsimp only at hSw); go_simp; first | done | with_reducible rfl)
    try simp only [Act.put, List.getElem_toArray, List.getElem_cons_succ, List.getElem_cons_zero, List.setIfInBounds_toArray, List.set_cons_zero, List.set_cons_succ]
    refine wpAnyH_take (i := 3) (v := ?_) rfl (by kernel_rfl) (by kernel_rfl) (by kernel_rfl) (fun _ _ _ h => h) (Or.inl ⟨by rfl, ?_⟩) (by assumption) ?_
    rotate_left 1
    · (intro w hSw; (try dsimp only at hSw); go_simp; first | done | with_reducible rfl)
    try simp only [Act.put, List.getElem_toArray, List.getElem_cons_succ, List.getElem_cons_zero, List.setIfInBounds_toArray, List.set_cons_zero, List.set_cons_succ]
    refine wpAnyH_take (i := 4) (v := ?_) rfl (by kernel_rfl) (by kernel_rfl) (by kernel_rfl) (fun _ _ _ h => h) (Or.inl ⟨by rfl, ?_⟩) (by assumption) ?_
    rotate_left 1
    · (intro w hSw; (try dsimp only at hSw); go_simp; first | done | with_reducible rfl)
    try simp only [Act.put, List.getElem_toArray, List.getElem_cons_succ, List.getElem_cons_zero, List.setIfInBounds_toArray, List.set_cons_zero, List.set_cons_succ]
    refine wpAnyH_ready (rs := [2]) (by kernel_rfl) (by simp) ?_
    refine AllReadyH.cons rfl (fun K hK => ?_) AllReadyH.nil
    go_simp
    (go_at_call 27; refine (H1.out _).mono ?_; rintro e x4 ⟨rfl, hbx⟩; have hTx : Below s3.heap.size s3 x4 := (by first | exact (Below.refl _ _).drew.trans hbx | exact Below.trans (by assumption) (hbx.mono (Below.size (by assumption))) | exact (Below.refl _ _).trans hbx); obtain ⟨hcx, hfx⟩ := bcell hTx)
    try (go_wp2_with fail)
    refine hK.out _ _ (by ((try dsimp only); (go_keep))) (fun hHeld => ?_)
    clear hK K
    try simp only [Act.put, List.getElem_toArray, List.getElem_cons_succ, List.getElem_cons_zero, List.setIfInBounds_toArray, List.set_cons_zero, List.set_cons_succ]
    refine wpAnyH_ready (rs := [5]) (by kernel_rfl) (by simp) ?_
    refine AllReadyH.cons rfl (fun K hK => ?_) AllReadyH.nil
    go_simp
    (go_at_call 27; refine (H2.out _).mono ?_; rintro e x4 ⟨rfl, hbx⟩; have hTx : Below s3.heap.size s3 x4 := (by first | exact (Below.refl _ _).drew.trans hbx | exact Below.trans (by assumption) (hbx.mono (Below.size (by assumption))) | exact (Below.refl _ _).trans hbx); obtain ⟨hcx, hfx⟩ := bcell hTx)
    try (go_wp2_with fail)
    refine hK.out _ _ (by ((try dsimp only); (go_keep))) (fun hHeld => ?_)
    clear hK K
    try simp only [Act.put, List.getElem_toArray, List.getElem_cons_succ, List.getElem_cons_zero, List.setIfInBounds_toArray, List.set_cons_zero, List.set_cons_succ]
    refine wpAnyH_take (i := 6) (v := ?_) rfl (by kernel_rfl) (by kernel_rfl) (by kernel_rfl) (fun _ _ _ h => h) (Or.inl ⟨by rfl, ?_⟩) (by assumption) ?_
    rotate_left 1
    · (intro w hSw; (try dsimp only at hSw); go_simp; first | done | with_reducible rfl)
    try simp only [Act.put, List.getElem_toArray, List.getElem_cons_succ, List.getElem_cons_zero, List.setIfInBounds_toArray, List.set_cons_zero, List.set_cons_succ]
    refine wpAnyH_take (i := 7) (v := ?_) rfl (by kernel_rfl) (by kernel_rfl) (by kernel_rfl) (fun _ _ _ h => h) (Or.inl ⟨by rfl, ?_⟩) (by assumption) ?_
    rotate_left 1
    · (intro w hSw; (try dsimp only at hSw); go_simp; first | done | with_reducible rfl)
    try simp only [Act.put, List.getElem_toArray, List.getElem_cons_succ, List.getElem_cons_zero, List.setIfInBounds_toArray, List.set_cons_zero, List.set_cons_succ]
    refine wpAnyH_done (by kernel_rfl) ?_ _
    go_wp2_with fail
    replace kA0 := (hcx A 0 zA).trans kA0
    replace kA1 := (hcx A 1 zA).trans kA1
    replace kA2 := (hcx A 2 zA).trans kA2
    replace kA3 := (hcx A 3 zA).trans kA3
    replace kA4 := (hcx A 4 zA).trans kA4
    replace zA := Nat.lt_of_lt_of_le zA hTx.size
    have hBo := HF.out _ hTx
    clear HF hcx hfx hTx
    all_goals go_wp2_with fail
    all_goals first | go_ret | go_ret2
    all_goals exact ⟨rfl, hBo⟩
  · rw [if_pos hu, if_neg hv]
    subst hu
    have hv2 : (v == 0) = false := by simpa using hv
    go_enter Tryz.func30, Tryz.ntmps30
    go_wp2_with fail
    obtain ⟨s5, hws⟩ : ∃ s, s = (w.alloc (.cells #[.int .i64 L, .int .i64 a, .int .i64 n, .func (.func g) #[] #[], .func (.func p) #[] #[]] 46)) := ⟨_, rfl⟩
    have hBs : Below w.heap.size w s5 := by rw [hws]; exact ((Below.refl w.heap.size w).alloc (by simp) _)
    obtain ⟨A, hdA⟩ : ∃ b, b = w.heap.size := ⟨_, rfl⟩
    have hsz : s5.heap.size = w.heap.size + 1 := by rw [hws]; simp
    have kA0 : s5.cell? ⟨A, 0, none⟩ = some (.int .i64 L) := by rw [hws]; simp [go_sem, hdA]
    have kA1 : s5.cell? ⟨A, 1, none⟩ = some (.int .i64 a) := by rw [hws]; simp [go_sem, hdA]
    have kA2 : s5.cell? ⟨A, 2, none⟩ = some (.int .i64 n) := by rw [hws]; simp [go_sem, hdA]
    have kA3 : s5.cell? ⟨A, 3, none⟩ = some (.func (.func g) #[] #[]) := by rw [hws]; simp [go_sem, hdA]
    have kA4 : s5.cell? ⟨A, 4, none⟩ = some (.func (.func p) #[] #[]) := by rw [hws]; simp [go_sem, hdA]
    have zA : A < s5.heap.size := by omega
    have lA : w.heap.size ≤ A := by have := Nat.le_refl w.heap.size; omega
    rw [← hws]
    try rw [← hdA]
    clear hws hsz hdA
    have hBo := hBs; clear hBs
    have HF : Hid (∀ W, Below s5.heap.size s5 W → Below w.heap.size w W) := fun W hW => hBo.trans (hW.mono hBo.size)
    clear hBo
    refine wp_region_held_drew (S := fun w' => w'.cell? ⟨A, 0, none⟩ = some (.int .i64 L) ∧ w'.cell? ⟨A, 1, none⟩ = some (.int .i64 a) ∧ w'.cell? ⟨A, 2, none⟩ = some (.int .i64 n) ∧ w'.cell? ⟨A, 3, none⟩ = some (.func (.func g) #[] #[]) ∧ w'.cell? ⟨A, 4, none⟩ = some (.func (.func p) #[] #[])) (by kernel_rfl) (by ((try dsimp only); (go_keep))) (fun hHeld => ?_)
    refine wpAnyH_take (i := 0) (v := ?_) rfl (by kernel_rfl) (by kernel_rfl) (by kernel_rfl) (fun _ _ _ h => h) (Or.inl ⟨by rfl, ?_⟩) (by assumption) ?_
    rotate_left 1
    · (intro w hSw; (try dsimp only at hSw); go_simp; first | done | with_reducible rfl)
    try simp only [Act.put, List.getElem_toArray, List.getElem_cons_succ, List.getElem_cons_zero, List.setIfInBounds_toArray, List.set_cons_zero, List.set_cons_succ]
    refine wpAnyH_take (i := 1) (v := ?_) rfl (by kernel_rfl) (by kernel_rfl) (by kernel_rfl) (fun _ _ _ h => h) (Or.inl ⟨by rfl, ?_⟩) (by assumption) ?_
    rotate_left 1
    · (intro w hSw; (try dsimp only at hSw); go_simp; first | done | with_reducible rfl)
    try simp only [Act.put, List.getElem_toArray, List.getElem_cons_succ, List.getElem_cons_zero, List.setIfInBounds_toArray, List.set_cons_zero, List.set_cons_succ]
    refine wpAnyH_take (i := 3) (v := ?_) rfl (by kernel_rfl) (by kernel_rfl) (by kernel_rfl) (fun _ _ _ h => h) (Or.inl ⟨by rfl, ?_⟩) (by assumption) ?_
    rotate_left 1
    · (intro w hSw; (try dsimp only at hSw); go_simp; first | done | with_reducible rfl)
    try simp only [Act.put, List.getElem_toArray, List.getElem_cons_succ, List.getElem_cons_zero, List.setIfInBounds_toArray, List.set_cons_zero, List.set_cons_succ]
    refine wpAnyH_take (i := 4) (v := ?_) rfl (by kernel_rfl) (by kernel_rfl) (by kernel_rfl) (fun _ _ _ h => h) (Or.inl ⟨by rfl, ?_⟩) (by assumption) ?_
    rotate_left 1
    · (intro w hSw; (try dsimp only at hSw); go_simp; first | done | with_reducible rfl)
    try simp only [Act.put, List.getElem_toArray, List.getElem_cons_succ, List.getElem_cons_zero, List.setIfInBounds_toArray, List.set_cons_zero, List.set_cons_succ]
    refine wpAnyH_ready (rs := [2]) (by kernel_rfl) (by simp) ?_
    refine AllReadyH.cons rfl (fun K hK => ?_) AllReadyH.nil
    go_simp
    (go_at_call 27; refine (H1.out _).mono ?_; rintro e x6 ⟨rfl, hbx⟩; have hTx : Below s5.heap.size s5 x6 := (by first | exact (Below.refl _ _).drew.trans hbx | exact Below.trans (by assumption) (hbx.mono (Below.size (by assumption))) | exact (Below.refl _ _).trans hbx); obtain ⟨hcx, hfx⟩ := bcell hTx)
    try (go_wp2_with fail)
    refine hK.out _ _ (by ((try dsimp only); (go_keep))) (fun hHeld => ?_)
    clear hK K
    try simp only [Act.put, List.getElem_toArray, List.getElem_cons_succ, List.getElem_cons_zero, List.setIfInBounds_toArray, List.set_cons_zero, List.set_cons_succ]
    refine wpAnyH_ready (rs := [5]) (by kernel_rfl) (by simp) ?_
    refine AllReadyH.cons rfl (fun K hK => ?_) AllReadyH.nil
    go_simp
    (go_at_call 27; refine (H2.out _).mono ?_; rintro e x6 ⟨rfl, hbx⟩; have hTx : Below s5.heap.size s5 x6 := (by first | exact (Below.refl _ _).drew.trans hbx | exact Below.trans (by assumption) (hbx.mono (Below.size (by assumption))) | exact (Below.refl _ _).trans hbx); obtain ⟨hcx, hfx⟩ := bcell hTx)
    try (go_wp2_with fail)
    refine hK.out _ _ (by ((try dsimp only); (go_keep))) (fun hHeld => ?_)
    clear hK K
    try simp only [Act.put, List.getElem_toArray, List.getElem_cons_succ, List.getElem_cons_zero, List.setIfInBounds_toArray, List.set_cons_zero, List.set_cons_succ]
    refine wpAnyH_take (i := 6) (v := ?_) rfl (by kernel_rfl) (by kernel_rfl) (by kernel_rfl) (fun _ _ _ h => h) (Or.inl ⟨by rfl, ?_⟩) (by assumption) ?_
    rotate_left 1
    · (intro w hSw; (try dsimp only at hSw); go_simp; first | done | with_reducible rfl)
    try simp only [Act.put, List.getElem_toArray, List.getElem_cons_succ, List.getElem_cons_zero, List.setIfInBounds_toArray, List.set_cons_zero, List.set_cons_succ]
    refine wpAnyH_take (i := 7) (v := ?_) rfl (by kernel_rfl) (by kernel_rfl) (by kernel_rfl) (fun _ _ _ h => h) (Or.inl ⟨by rfl, ?_⟩) (by assumption) ?_
    rotate_left 1
    · (intro w hSw; (try dsimp only at hSw); go_simp; first | done | with_reducible rfl)
    try simp only [Act.put, List.getElem_toArray, List.getElem_cons_succ, List.getElem_cons_zero, List.setIfInBounds_toArray, List.set_cons_zero, List.set_cons_succ]
    refine wpAnyH_done (by kernel_rfl) ?_ _
    go_wp2_with fail
    replace kA0 := (hcx A 0 zA).trans kA0
    replace kA1 := (hcx A 1 zA).trans kA1
    replace kA2 := (hcx A 2 zA).trans kA2
    replace kA3 := (hcx A 3 zA).trans kA3
    replace kA4 := (hcx A 4 zA).trans kA4
    replace zA := Nat.lt_of_lt_of_le zA hTx.size
    have hBo := HF.out _ hTx
    clear HF hcx hfx hTx
    all_goals go_wp2_with fail
    all_goals first | go_ret | go_ret2
    all_goals exact ⟨rfl, hBo⟩
  · rw [if_neg hu, if_pos hv]
    subst hv
    have hu2 : (u == 0) = false := by simpa using hu
    go_enter Tryz.func30, Tryz.ntmps30
    go_wp2_with fail
    obtain ⟨s7, hws⟩ : ∃ s, s = (w.alloc (.cells #[.int .i64 L, .int .i64 a, .int .i64 n, .func (.func g) #[] #[], .func (.func p) #[] #[]] 46)) := ⟨_, rfl⟩
    have hBs : Below w.heap.size w s7 := by rw [hws]; exact ((Below.refl w.heap.size w).alloc (by simp) _)
    obtain ⟨A, hdA⟩ : ∃ b, b = w.heap.size := ⟨_, rfl⟩
    have hsz : s7.heap.size = w.heap.size + 1 := by rw [hws]; simp
    have kA0 : s7.cell? ⟨A, 0, none⟩ = some (.int .i64 L) := by rw [hws]; simp [go_sem, hdA]
    have kA1 : s7.cell? ⟨A, 1, none⟩ = some (.int .i64 a) := by rw [hws]; simp [go_sem, hdA]
    have kA2 : s7.cell? ⟨A, 2, none⟩ = some (.int .i64 n) := by rw [hws]; simp [go_sem, hdA]
    have kA3 : s7.cell? ⟨A, 3, none⟩ = some (.func (.func g) #[] #[]) := by rw [hws]; simp [go_sem, hdA]
    have kA4 : s7.cell? ⟨A, 4, none⟩ = some (.func (.func p) #[] #[]) := by rw [hws]; simp [go_sem, hdA]
    have zA : A < s7.heap.size := by omega
    have lA : w.heap.size ≤ A := by have := Nat.le_refl w.heap.size; omega
    rw [← hws]
    try rw [← hdA]
    clear hws hsz hdA
    have hBo := hBs; clear hBs
    have HF : Hid (∀ W, Below s7.heap.size s7 W → Below w.heap.size w W) := fun W hW => hBo.trans (hW.mono hBo.size)
    clear hBo
    refine wp_region_held_drew (S := fun w' => w'.cell? ⟨A, 0, none⟩ = some (.int .i64 L) ∧ w'.cell? ⟨A, 1, none⟩ = some (.int .i64 a) ∧ w'.cell? ⟨A, 2, none⟩ = some (.int .i64 n) ∧ w'.cell? ⟨A, 3, none⟩ = some (.func (.func g) #[] #[]) ∧ w'.cell? ⟨A, 4, none⟩ = some (.func (.func p) #[] #[])) (by kernel_rfl) (by ((try dsimp only); (go_keep))) (fun hHeld => ?_)
    refine wpAnyH_take (i := 0) (v := ?_) rfl (by kernel_rfl) (by kernel_rfl) (by kernel_rfl) (fun _ _ _ h => h) (Or.inl ⟨by rfl, ?_⟩) (by assumption) ?_
    rotate_left 1
    · (intro w hSw; (try dsimp only at hSw); go_simp; first | done | with_reducible rfl)
    try simp only [Act.put, List.getElem_toArray, List.getElem_cons_succ, List.getElem_cons_zero, List.setIfInBounds_toArray, List.set_cons_zero, List.set_cons_succ]
    refine wpAnyH_take (i := 1) (v := ?_) rfl (by kernel_rfl) (by kernel_rfl) (by kernel_rfl) (fun _ _ _ h => h) (Or.inl ⟨by rfl, ?_⟩) (by assumption) ?_
    rotate_left 1
    · (intro w hSw; (try dsimp only at hSw); go_simp; first | done | with_reducible rfl)
    try simp only [Act.put, List.getElem_toArray, List.getElem_cons_succ, List.getElem_cons_zero, List.setIfInBounds_toArray, List.set_cons_zero, List.set_cons_succ]
    refine wpAnyH_take (i := 3) (v := ?_) rfl (by kernel_rfl) (by kernel_rfl) (by kernel_rfl) (fun _ _ _ h => h) (Or.inl ⟨by rfl, ?_⟩) (by assumption) ?_
    rotate_left 1
    · (intro w hSw; (try dsimp only at hSw); go_simp; first | done | with_reducible rfl)
    try simp only [Act.put, List.getElem_toArray, List.getElem_cons_succ, List.getElem_cons_zero, List.setIfInBounds_toArray, List.set_cons_zero, List.set_cons_succ]
    refine wpAnyH_take (i := 4) (v := ?_) rfl (by kernel_rfl) (by kernel_rfl) (by kernel_rfl) (fun _ _ _ h => h) (Or.inl ⟨by rfl, ?_⟩) (by assumption) ?_
    rotate_left 1
    · (intro w hSw; (try dsimp only at hSw); go_simp; first | done | with_reducible rfl)
    try simp only [Act.put, List.getElem_toArray, List.getElem_cons_succ, List.getElem_cons_zero, List.setIfInBounds_toArray, List.set_cons_zero, List.set_cons_succ]
    refine wpAnyH_ready (rs := [2]) (by kernel_rfl) (by simp) ?_
    refine AllReadyH.cons rfl (fun K hK => ?_) AllReadyH.nil
    go_simp
    (go_at_call 27; refine (H1.out _).mono ?_; rintro e x8 ⟨rfl, hbx⟩; have hTx : Below s7.heap.size s7 x8 := (by first | exact (Below.refl _ _).drew.trans hbx | exact Below.trans (by assumption) (hbx.mono (Below.size (by assumption))) | exact (Below.refl _ _).trans hbx); obtain ⟨hcx, hfx⟩ := bcell hTx)
    try (go_wp2_with fail)
    refine hK.out _ _ (by ((try dsimp only); (go_keep))) (fun hHeld => ?_)
    clear hK K
    try simp only [Act.put, List.getElem_toArray, List.getElem_cons_succ, List.getElem_cons_zero, List.setIfInBounds_toArray, List.set_cons_zero, List.set_cons_succ]
    refine wpAnyH_ready (rs := [5]) (by kernel_rfl) (by simp) ?_
    refine AllReadyH.cons rfl (fun K hK => ?_) AllReadyH.nil
    go_simp
    (go_at_call 27; refine (H2.out _).mono ?_; rintro e x8 ⟨rfl, hbx⟩; have hTx : Below s7.heap.size s7 x8 := (by first | exact (Below.refl _ _).drew.trans hbx | exact Below.trans (by assumption) (hbx.mono (Below.size (by assumption))) | exact (Below.refl _ _).trans hbx); obtain ⟨hcx, hfx⟩ := bcell hTx)
    try (go_wp2_with fail)
    refine hK.out _ _ (by ((try dsimp only); (go_keep))) (fun hHeld => ?_)
    clear hK K
    try simp only [Act.put, List.getElem_toArray, List.getElem_cons_succ, List.getElem_cons_zero, List.setIfInBounds_toArray, List.set_cons_zero, List.set_cons_succ]
    refine wpAnyH_take (i := 6) (v := ?_) rfl (by kernel_rfl) (by kernel_rfl) (by kernel_rfl) (fun _ _ _ h => h) (Or.inl ⟨by rfl, ?_⟩) (by assumption) ?_
    rotate_left 1
    · (intro w hSw; (try dsimp only at hSw); go_simp; first | done | with_reducible rfl)
    try simp only [Act.put, List.getElem_toArray, List.getElem_cons_succ, List.getElem_cons_zero, List.setIfInBounds_toArray, List.set_cons_zero, List.set_cons_succ]
    refine wpAnyH_take (i := 7) (v := ?_) rfl (by kernel_rfl) (by kernel_rfl) (by kernel_rfl) (fun _ _ _ h => h) (Or.inl ⟨by rfl, ?_⟩) (by assumption) ?_
    rotate_left 1
    · (intro w hSw; (try dsimp only at hSw); go_simp; first | done | with_reducible rfl)
    try simp only [Act.put, List.getElem_toArray, List.getElem_cons_succ, List.getElem_cons_zero, List.setIfInBounds_toArray, List.set_cons_zero, List.set_cons_succ]
    refine wpAnyH_done (by kernel_rfl) ?_ _
    go_wp2_with fail
    replace kA0 := (hcx A 0 zA).trans kA0
    replace kA1 := (hcx A 1 zA).trans kA1
    replace kA2 := (hcx A 2 zA).trans kA2
    replace kA3 := (hcx A 3 zA).trans kA3
    replace kA4 := (hcx A 4 zA).trans kA4
    replace zA := Nat.lt_of_lt_of_le zA hTx.size
    have hBo := HF.out _ hTx
    clear HF hcx hfx hTx
    all_goals go_wp2_with fail
    all_goals first | go_ret | go_ret2
    all_goals exact ⟨rfl, hBo⟩
  · rw [if_neg hu, if_neg hv]
    have hu2 : (u == 0) = false := by simpa using hu
    have hv2 : (v == 0) = false := by simpa using hv
    go_enter Tryz.func30, Tryz.ntmps30
    go_wp2_with fail
    obtain ⟨s9, hws⟩ : ∃ s, s = (w.alloc (.cells #[.int .i64 L, .int .i64 a, .int .i64 n, .func (.func g) #[] #[], .func (.func p) #[] #[]] 46)) := ⟨_, rfl⟩
    have hBs : Below w.heap.size w s9 := by rw [hws]; exact ((Below.refl w.heap.size w).alloc (by simp) _)
    obtain ⟨A, hdA⟩ : ∃ b, b = w.heap.size := ⟨_, rfl⟩
    have hsz : s9.heap.size = w.heap.size + 1 := by rw [hws]; simp
    have kA0 : s9.cell? ⟨A, 0, none⟩ = some (.int .i64 L) := by rw [hws]; simp [go_sem, hdA]
    have kA1 : s9.cell? ⟨A, 1, none⟩ = some (.int .i64 a) := by rw [hws]; simp [go_sem, hdA]
    have kA2 : s9.cell? ⟨A, 2, none⟩ = some (.int .i64 n) := by rw [hws]; simp [go_sem, hdA]
    have kA3 : s9.cell? ⟨A, 3, none⟩ = some (.func (.func g) #[] #[]) := by rw [hws]; simp [go_sem, hdA]
    have kA4 : s9.cell? ⟨A, 4, none⟩ = some (.func (.func p) #[] #[]) := by rw [hws]; simp [go_sem, hdA]
    have zA : A < s9.heap.size := by omega
    have lA : w.heap.size ≤ A := by have := Nat.le_refl w.heap.size; omega
    rw [← hws]
    try rw [← hdA]
    clear hws hsz hdA
    have hBo := hBs; clear hBs
    have HF : Hid (∀ W, Below s9.heap.size s9 W → Below w.heap.size w W) := fun W hW => hBo.trans (hW.mono hBo.size)
    clear hBo
    refine wp_region_held_drew (S := fun w' => w'.cell? ⟨A, 0, none⟩ = some (.int .i64 L) ∧ w'.cell? ⟨A, 1, none⟩ = some (.int .i64 a) ∧ w'.cell? ⟨A, 2, none⟩ = some (.int .i64 n) ∧ w'.cell? ⟨A, 3, none⟩ = some (.func (.func g) #[] #[]) ∧ w'.cell? ⟨A, 4, none⟩ = some (.func (.func p) #[] #[])) (by kernel_rfl) (by ((try dsimp only); (go_keep))) (fun hHeld => ?_)
    refine wpAnyH_take (i := 0) (v := ?_) rfl (by kernel_rfl) (by kernel_rfl) (by kernel_rfl) (fun _ _ _ h => h) (Or.inl ⟨by rfl, ?_⟩) (by assumption) ?_
    rotate_left 1
    · (intro w hSw; (try dsimp only at hSw); go_simp; first | done | with_reducible rfl)
    try simp only [Act.put, List.getElem_toArray, List.getElem_cons_succ, List.getElem_cons_zero, List.setIfInBounds_toArray, List.set_cons_zero, List.set_cons_succ]
    refine wpAnyH_take (i := 1) (v := ?_) rfl (by kernel_rfl) (by kernel_rfl) (by kernel_rfl) (fun _ _ _ h => h) (Or.inl ⟨by rfl, ?_⟩) (by assumption) ?_
    rotate_left 1
    · (intro w hSw; (try dsimp only at hSw); go_simp; first | done | with_reducible rfl)
    try simp only [Act.put, List.getElem_toArray, List.getElem_cons_succ, List.getElem_cons_zero, List.setIfInBounds_toArray, List.set_cons_zero, List.set_cons_succ]
    refine wpAnyH_take (i := 3) (v := ?_) rfl (by kernel_rfl) (by kernel_rfl) (by kernel_rfl) (fun _ _ _ h => h) (Or.inl ⟨by rfl, ?_⟩) (by assumption) ?_
    rotate_left 1
    · (intro w hSw; (try dsimp only at hSw); go_simp; first | done | with_reducible rfl)
    try simp only [Act.put, List.getElem_toArray, List.getElem_cons_succ, List.getElem_cons_zero, List.setIfInBounds_toArray, List.set_cons_zero, List.set_cons_succ]
    refine wpAnyH_take (i := 4) (v := ?_) rfl (by kernel_rfl) (by kernel_rfl) (by kernel_rfl) (fun _ _ _ h => h) (Or.inl ⟨by rfl, ?_⟩) (by assumption) ?_
    rotate_left 1
    · (intro w hSw; (try dsimp only at hSw); go_simp; first | done | with_reducible rfl)
    try simp only [Act.put, List.getElem_toArray, List.getElem_cons_succ, List.getElem_cons_zero, List.setIfInBounds_toArray, List.set_cons_zero, List.set_cons_succ]
    refine wpAnyH_ready (rs := [2]) (by kernel_rfl) (by simp) ?_
    refine AllReadyH.cons rfl (fun K hK => ?_) AllReadyH.nil
    go_simp
    (go_at_call 27; refine (H1.out _).mono ?_; rintro e x10 ⟨rfl, hbx⟩; have hTx : Below s9.heap.size s9 x10 := (by first | exact (Below.refl _ _).drew.trans hbx | exact Below.trans (by assumption) (hbx.mono (Below.size (by assumption))) | exact (Below.refl _ _).trans hbx); obtain ⟨hcx, hfx⟩ := bcell hTx)
    try (go_wp2_with fail)
    refine hK.out _ _ (by ((try dsimp only); (go_keep))) (fun hHeld => ?_)
    clear hK K
    try simp only [Act.put, List.getElem_toArray, List.getElem_cons_succ, List.getElem_cons_zero, List.setIfInBounds_toArray, List.set_cons_zero, List.set_cons_succ]
    refine wpAnyH_ready (rs := [5]) (by kernel_rfl) (by simp) ?_
    refine AllReadyH.cons rfl (fun K hK => ?_) AllReadyH.nil
    go_simp
    (go_at_call 27; refine (H2.out _).mono ?_; rintro e x10 ⟨rfl, hbx⟩; have hTx : Below s9.heap.size s9 x10 := (by first | exact (Below.refl _ _).drew.trans hbx | exact Below.trans (by assumption) (hbx.mono (Below.size (by assumption))) | exact (Below.refl _ _).trans hbx); obtain ⟨hcx, hfx⟩ := bcell hTx)
    try (go_wp2_with fail)
    refine hK.out _ _ (by ((try dsimp only); (go_keep))) (fun hHeld => ?_)
    clear hK K
    try simp only [Act.put, List.getElem_toArray, List.getElem_cons_succ, List.getElem_cons_zero, List.setIfInBounds_toArray, List.set_cons_zero, List.set_cons_succ]
    refine wpAnyH_take (i := 6) (v := ?_) rfl (by kernel_rfl) (by kernel_rfl) (by kernel_rfl) (fun _ _ _ h => h) (Or.inl ⟨by rfl, ?_⟩) (by assumption) ?_
    rotate_left 1
    · (intro w hSw; (try dsimp only at hSw); go_simp; first | done | with_reducible rfl)
    try simp only [Act.put, List.getElem_toArray, List.getElem_cons_succ, List.getElem_cons_zero, List.setIfInBounds_toArray, List.set_cons_zero, List.set_cons_succ]
    refine wpAnyH_take (i := 7) (v := ?_) rfl (by kernel_rfl) (by kernel_rfl) (by kernel_rfl) (fun _ _ _ h => h) (Or.inl ⟨by rfl, ?_⟩) (by assumption) ?_
    rotate_left 1
    · (intro w hSw; (try dsimp only at hSw); go_simp; first | done | with_reducible rfl)
    try simp only [Act.put, List.getElem_toArray, List.getElem_cons_succ, List.getElem_cons_zero, List.setIfInBounds_toArray, List.set_cons_zero, List.set_cons_succ]
    refine wpAnyH_done (by kernel_rfl) ?_ _
    go_wp2_with fail
    replace kA0 := (hcx A 0 zA).trans kA0
    replace kA1 := (hcx A 1 zA).trans kA1
    replace kA2 := (hcx A 2 zA).trans kA2
    replace kA3 := (hcx A 3 zA).trans kA3
    replace kA4 := (hcx A 4 zA).trans kA4
    replace zA := Nat.lt_of_lt_of_le zA hTx.size
    have hBo := HF.out _ hTx
    clear HF hcx hfx hTx
    all_goals go_wp2_with fail
    all_goals first | go_ret | go_ret2
    all_goals exact ⟨rfl, hBo⟩
end Go.Proofs.YtlpjaflolnggnaaGreatDoor
