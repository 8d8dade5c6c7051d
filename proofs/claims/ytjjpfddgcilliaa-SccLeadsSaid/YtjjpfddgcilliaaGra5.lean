/-
  LAYER 25, 27: THE ORDER OF CELLS: the program's Less, and the function that it sorts by, walked.
-/
import Derived.Test.YtjjpfddgcilliaaGra4
set_option linter.unusedSimpArgs false
set_option linter.unusedVariables false
namespace Go.Proofs.Ytjjpfddgcilliaa
open Go.RowKit Go.Shelf Go.Sort Go.Lib
set_option maxRecDepth 100000

theorem grow_drew {w W : World} (h : ∃ q os', W = grow (w.drewN q) os') : ∃ q os', W.drew = grow (w.drewN q) os' := by
  obtain ⟨q, os', rfl⟩ := h
  exact ⟨q + 1, os', rfl⟩
theorem grow_al {w W : World} (o : Obj) (h : ∃ q os', W = grow (w.drewN q) os') : ∃ q os', W.alloc o = grow (w.drewN q) os' := by
  obtain ⟨q, os', rfl⟩ := h
  exact ⟨q, _, by rw [alloc_eq_grow, grow_grow]⟩
theorem grow_tr {w W V : World} (h : ∃ q os', W = grow (w.drewN q) os') (k : ∃ q os', V = grow (W.drewN q) os') : ∃ q os', V = grow (w.drewN q) os' := by
  obtain ⟨q, os', rfl⟩ := h
  obtain ⟨p, ot, rfl⟩ := k
  exact ⟨q + p, os' ++ ot, by
    unfold grow World.drewN
    simp [Array.append_assoc, Nat.add_assoc]⟩
theorem grow_rf (w : World) : ∃ q os', w = grow (w.drewN q) os' := ⟨0, #[], by simp [World.drewN]⟩
theorem grow_below {w W : World} (h : ∃ q os', W = grow (w.drewN q) os') : Below w.heap.size w W := by
  obtain ⟨q, os', rfl⟩ := h
  refine ⟨rfl, rfl, rfl, by simp [World.drewN], fun k hk => ?_⟩
  show (w.heap ++ os')[k]? = w.heap[k]?
  rw [Array.getElem?_append_left hk]
set_option maxRecDepth 100000 in
set_option maxHeartbeats 4000000 in
theorem less_any (x y : Ce) (w : World) : Calls Try.prog 57 #[mkC x, mkC y] w fun e w' => e = .returned (.bool (cLt x y)) ∧ ∃ q os', w' = grow (w.drewN q) os' := by
  have H : Hid (∀ a b W, Calls Try.prog 80 #[.int .i64 a, .int .i64 b] W fun e w' => e = .returned (.int .i64 (Lib.compareInt a b)) ∧ w' = W) := Lib.hid fun a b W => Try.cmp_Compare_int a b W
  have HO : Hid (∀ (g cap : Nat) (x y z : Int) (w : World), (∀ j, j < 3 → w.cell? ⟨g, j, none⟩ = some (.int .i64 (nth3 x y z j))) → Calls Try.prog 79 #[.slice (some ⟨g, 0, none⟩) 3 cap] w fun e w' => e = .returned (.int .i64 (or3 x y z)) ∧ w' = w) := Lib.hid cmpOr_any
  have hl := less_or3 x y
  obtain ⟨a, b, c⟩ := x
  obtain ⟨a', b', c'⟩ := y
  unfold mkC
  dsimp only at *
  obtain ⟨p, hp⟩ : ∃ p, p = Lib.compareInt a a' := ⟨_, rfl⟩
  obtain ⟨q, hq⟩ : ∃ q, q = Lib.compareInt c c' := ⟨_, rfl⟩
  obtain ⟨r, hr⟩ : ∃ r, r = Lib.compareInt b b' := ⟨_, rfl⟩
  rw [← hp, ← hq, ← hr] at hl
  rw [← hl]
  have H1 := Lib.hid (hp ▸ H.out a a')
  have H2 := Lib.hid (hq ▸ H.out c c')
  have H3 := Lib.hid (hr ▸ H.out b b')
  have HR := Lib.hid (HO.out · · p q r)
  clear H HO hl hp hq hr
  generalize or3 p q r = R at *
  go_enter Try.func57, Try.ntmps57
  go_wp2_with fail
  obtain ⟨s, hs⟩ : ∃ s, s = (w.alloc (.cells #[.int .i64 a, .int .i64 b, .int .i64 c] 32)).alloc (.cells #[.int .i64 a', .int .i64 b', .int .i64 c'] 32) := ⟨_, rfl⟩
  have kA := bx1 (l := [.int .i64 a, .int .i64 b, .int .i64 c]) hs rfl
  have kB := bx0 (l := [.int .i64 a', .int .i64 b', .int .i64 c']) hs (b := w.heap.size + 1) (by simp)
  have hS : s.cell? ⟨w.heap.size, 0, none⟩ = some (.int .i64 a) ∧ s.cell? ⟨w.heap.size, 1, none⟩ = some (.int .i64 b) ∧ s.cell? ⟨w.heap.size, 2, none⟩ = some (.int .i64 c) ∧ s.cell? ⟨w.heap.size + 1, 0, none⟩ = some (.int .i64 a') ∧ s.cell? ⟨w.heap.size + 1, 1, none⟩ = some (.int .i64 b') ∧ s.cell? ⟨w.heap.size + 1, 2, none⟩ = some (.int .i64 c') := ⟨kA 0 _ rfl, kA 1 _ rfl, kA 2 _ rfl, kB 0 _ rfl, kB 1 _ rfl, kB 2 _ rfl⟩
  have hG := Lib.hid (show ∃ q os', s = grow (w.drewN q) os' by rw [hs]; exact grow_al _ (grow_al _ (grow_rf w)))
  have hZ : Hid (s.heap.size = w.heap.size + 1 + 1) := Lib.hid (by rw [hs]; simp)
  rw [← hs]
  clear hs kA kB
  refine wp_region_held_drew (S := fun w' => w'.cell? ⟨w.heap.size, 0, none⟩ = some (.int .i64 a) ∧ w'.cell? ⟨w.heap.size, 1, none⟩ = some (.int .i64 b) ∧ w'.cell? ⟨w.heap.size, 2, none⟩ = some (.int .i64 c) ∧ w'.cell? ⟨w.heap.size + 1, 0, none⟩ = some (.int .i64 a') ∧ w'.cell? ⟨w.heap.size + 1, 1, none⟩ = some (.int .i64 b') ∧ w'.cell? ⟨w.heap.size + 1, 2, none⟩ = some (.int .i64 c')) (by kernel_rfl) hS (fun hHeld => ?_)
  refine tk 0 ?_
  refine tk 1 ?_
  refine tk 2 ?_
  refine tk 3 ?_
  refine tk 5 ?_
  refine tk 6 ?_
  refine tk 7 ?_
  refine tk 8 ?_
  refine tk 10 ?_
  refine tk 11 ?_
  refine tk 12 ?_
  refine tk 13 ?_
  refine rd1 4 (by kernel_rfl) rfl fun K hK => ?_
  go_simp
  (go_at_call 80; refine (H1.out _).mono ?_; rintro e wx ⟨rfl, rfl⟩)
  try (go_wp2_with fail)
  refine hK.out _ _ hHeld (fun hHeld => ?_)
  clear hK K
  try simp only [pz]
  refine rd1 9 (by kernel_rfl) rfl fun K hK => ?_
  go_simp
  (go_at_call 80; refine (H2.out _).mono ?_; rintro e wx ⟨rfl, rfl⟩)
  try (go_wp2_with fail)
  refine hK.out _ _ hHeld (fun hHeld => ?_)
  clear hK K
  try simp only [pz]
  refine rd1 14 (by kernel_rfl) rfl fun K hK => ?_
  go_simp
  (go_at_call 80; refine (H3.out _).mono ?_; rintro e wx ⟨rfl, rfl⟩)
  try (go_wp2_with fail)
  refine hK.out _ _ hHeld (fun hHeld => ?_)
  clear hK K
  try simp only [pz]
  refine rd1 15 (by kernel_rfl) rfl fun K hK => ?_
  go_simp
  have hH := hHeld
  obtain ⟨h0, h1, h2, h3, h4, h5⟩ := hH
  refine hK.out _ _ ⟨alK h0, alK h1, alK h2, alK h3, alK h4, alK h5⟩ (fun hHeld => ?_)
  clear hK K h0 h1 h2 h3 h4 h5
  try simp only [pz]
  refine rd1 16 (by kernel_rfl) rfl fun K hK => ?_
  go_simp
  (go_at_call 79; refine (HR.out _ _ _ ?_).mono ?_)
  · intro j hj
    exact bx0 (l := [.int .i64 p, .int .i64 q, .int .i64 r]) rfl rfl j _ (by match j, hj with | 0, _ => rfl | 1, _ => rfl | 2, _ => rfl)
  rintro e wx ⟨rfl, rfl⟩
  try (go_wp2_with fail)
  refine hK.out _ _ hHeld (fun hHeld => ?_)
  clear hK K
  try simp only [pz]
  refine tk 17 ?_
  refine tk 18 ?_
  refine wpAnyH_done (by kernel_rfl) ?_ _
  all_goals go_wp2_with fail
  all_goals first | go_ret | go_ret2
  all_goals exact ⟨rfl, grow_al _ (grow_drew hG.out)⟩
set_option maxRecDepth 100000 in
set_option maxHeartbeats 4000000 in
theorem once1_any (x y : Ce) (w : World) : Calls Try.prog 71 #[mkC x, mkC y] w fun e w' => e = .returned (.int .i64 (cfO x y)) ∧ ∃ q os', w' = grow (w.drewN q) os' := by
  have H1 : Hid (∀ w, Calls Try.prog 57 #[mkC x, mkC y] w fun e w' => e = .returned (.bool (cLt x y)) ∧ ∃ q os', w' = grow (w.drewN q) os') := Lib.hid fun w => less_any x y w
  have H2 : Hid (∀ w, Calls Try.prog 57 #[mkC y, mkC x] w fun e w' => e = .returned (.bool (cLt y x)) ∧ ∃ q os', w' = grow (w.drewN q) os') := Lib.hid fun w => less_any y x w
  have HC : Hid (cfO x y = if cLt x y then -1 else if cLt y x then 1 else 0) := Lib.hid rfl
  obtain ⟨a, b, c⟩ := x
  obtain ⟨a', b', c'⟩ := y
  unfold mkC at *
  dsimp only at H1 H2 HC ⊢
  generalize cLt (a, b, c) (a', b', c') = p at *
  generalize cLt (a', b', c') (a, b, c) = q at *
  generalize cfO (a, b, c) (a', b', c') = R at *
  obtain ⟨s, hs⟩ : ∃ s, s = (w.alloc (.cells #[.int .i64 a, .int .i64 b, .int .i64 c] 32)).alloc (.cells #[.int .i64 a', .int .i64 b', .int .i64 c'] 32) := ⟨_, rfl⟩
  have kA := bx1 (l := [.int .i64 a, .int .i64 b, .int .i64 c]) hs rfl
  have kB := bx0 (l := [.int .i64 a', .int .i64 b', .int .i64 c']) hs (b := w.heap.size + 1) (by simp)
  have hZ : s.heap.size = w.heap.size + 1 + 1 := by rw [hs]; simp
  have hG := Lib.hid (show ∃ q os', s = grow (w.drewN q) os' by rw [hs]; exact grow_al _ (grow_al _ (grow_rf w)))
  have HK : Hid (∀ w1, (∃ q os', w1 = grow (s.drewN q) os') → (w1.cell? ⟨w.heap.size, 0, none⟩ = some (.int .i64 a) ∧ w1.cell? ⟨w.heap.size, 1, none⟩ = some (.int .i64 b) ∧ w1.cell? ⟨w.heap.size, 2, none⟩ = some (.int .i64 c)) ∧ w1.cell? ⟨w.heap.size + 1, 0, none⟩ = some (.int .i64 a') ∧ w1.cell? ⟨w.heap.size + 1, 1, none⟩ = some (.int .i64 b') ∧ w1.cell? ⟨w.heap.size + 1, 2, none⟩ = some (.int .i64 c')) := Lib.hid fun w1 h => by
    have hb := grow_below h
    exact ⟨⟨belK hb (kA 0 _ rfl) (by dsimp only; omega), belK hb (kA 1 _ rfl) (by dsimp only; omega), belK hb (kA 2 _ rfl) (by dsimp only; omega)⟩, belK hb (kB 0 _ rfl) (by dsimp only; omega), belK hb (kB 1 _ rfl) (by dsimp only; omega), belK hb (kB 2 _ rfl) (by dsimp only; omega)⟩
  have HS := Lib.hid hs
  clear hs kA kB hZ
  cases p with
  | true =>
    have HR := HC.out
    simp only [if_true] at HR
    replace HR := Lib.hid HR
    go_enter Try.func71, Try.ntmps71
    go_wp2_with (go_at_call 57; rw [← HS.out]; refine (H1.out _).mono ?_; rintro e w1 ⟨rfl, hg⟩; obtain ⟨⟨kA0, kA1, kA2⟩, kB0, kB1, kB2⟩ := HK.out _ hg; have HG := Lib.hid hg; clear hg)
    go_wp2
    go_ret
    exact ⟨ret_int HR.out.symm, grow_tr hG.out HG.out⟩
  | false =>
    cases q with
    | true =>
      have HR := HC.out
      simp only [Bool.false_eq_true, if_false, if_true] at HR
      replace HR := Lib.hid HR
      go_enter Try.func71, Try.ntmps71
      go_wp2_with (go_at_call 57; rw [← HS.out]; refine (H1.out _).mono ?_; rintro e w1 ⟨rfl, hg⟩; obtain ⟨⟨kA0, kA1, kA2⟩, kB0, kB1, kB2⟩ := HK.out _ hg; have HG := Lib.hid hg; clear hg)
      go_wp2_with (go_at_call 57; refine (H2.out _).mono ?_; rintro e w2 ⟨rfl, hg2⟩; have HG2 := Lib.hid hg2; clear hg2 kA0 kA1 kA2 kB0 kB1 kB2)
      go_wp2
      go_ret
      exact ⟨ret_int HR.out.symm, grow_tr hG.out (grow_tr HG.out HG2.out)⟩
    | false =>
      have HR := HC.out
      simp only [Bool.false_eq_true, if_false] at HR
      replace HR := Lib.hid HR
      go_enter Try.func71, Try.ntmps71
      go_wp2_with (go_at_call 57; rw [← HS.out]; refine (H1.out _).mono ?_; rintro e w1 ⟨rfl, hg⟩; obtain ⟨⟨kA0, kA1, kA2⟩, kB0, kB1, kB2⟩ := HK.out _ hg; have HG := Lib.hid hg; clear hg)
      go_wp2_with (go_at_call 57; refine (H2.out _).mono ?_; rintro e w2 ⟨rfl, hg2⟩; have HG2 := Lib.hid hg2; clear hg2 kA0 kA1 kA2 kB0 kB1 kB2)
      go_wp2
      go_ret
      exact ⟨ret_int HR.out.symm, grow_tr hG.out (grow_tr HG.out HG2.out)⟩
end Go.Proofs.Ytjjpfddgcilliaa
