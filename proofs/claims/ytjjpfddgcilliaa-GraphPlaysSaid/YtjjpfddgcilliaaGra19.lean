/-
  LAYER 28: THE FIXED CALLS, walked.
-/
import Derived.Test.YtjjpfddgcilliaaGra18
set_option linter.unusedSimpArgs false
set_option linter.unusedVariables false
namespace Go.Proofs.Ytjjpfddgcilliaa
open Go.RowKit Go.Shelf Go.Sort Go.Lib Go.Maps
set_option maxRecDepth 100000

theorem Trn.cell {T : Nat → Prop} {w w' : World} {b j : Nat} {v : Value} (h : Trn T w w') (hc : w.cell? ⟨b, j, none⟩ = some v) (hz : b < w.heap.size) (hn : ¬ T b) : w'.cell? ⟨b, j, none⟩ = some v := (World.cell?_of_block (a := ⟨b, j, none⟩) (h.block b hz hn)).trans hc
theorem cellLt {W : World} {p : Addr} {v : Value} (h : W.cell? p = some v) : p.block < W.heap.size := World.block_lt_of_cell? _ _ h
theorem one_len {w' : World} {n : Nat} {v : Value} {x : Ce} (h : CsNew w' n v [x]) : ∃ a cap, v = .slice a 1 cap := len_of h
theorem none_len {w' : World} {n : Nat} {v : Value} (h : CsNew w' n v []) : ∃ a cap, v = .slice a 0 cap := len_of h
set_option maxRecDepth 100000 in
set_option maxHeartbeats 8000000 in
theorem known28_any (w : World) : Calls Try.prog 8 #[] w fun e w' => e = .returned (.bool true) ∧ Below w.heap.size w w' := by
  go_enter Try.func8, Try.ntmps8
  go_wp2_with (go_at_call 9; refine (new_any _).mono ?_; rintro e w1 ⟨p, rfl, hg1, hb1⟩; have HG1 := Lib.hid hg1.bound; have HB1 := Lib.hid hb1; clear hg1 hb1)
  obtain ⟨A, hA⟩ : ∃ A, A = w1.heap.size := ⟨_, rfl⟩
  obtain ⟨B, hB⟩ : ∃ B, B = w1.heap.size + 1 := ⟨_, rfl⟩
  obtain ⟨C, hC⟩ : ∃ C, C = w1.heap.size + 1 + 1 := ⟨_, rfl⟩
  obtain ⟨s, hs⟩ : ∃ s, s = ((w1.alloc (.cells #[.int .i64 0, .int .i64 1, .int .i64 1] 32)).alloc (.cells #[.int .i64 0, .int .i64 2, .int .i64 1] 32)).alloc (.cells #[.int .i64 0, .int .i64 1, .int .i64 1, .int .i64 0, .int .i64 1, .int .i64 1] 32) := ⟨_, rfl⟩
  have hbs : Below w1.heap.size w1 s := by
    rw [hs]
    exact (((Below.refl _ w1).alloc (Nat.le_refl _) _).alloc (by simp) _).alloc (by simp; omega) _
  have hzs : s.heap.size = w1.heap.size + 1 + 1 + 1 := by rw [hs]; simp
  have cA := bx2 (l := [.int .i64 0, .int .i64 1, .int .i64 1]) hs rfl
  have cB := bx1 (l := [.int .i64 0, .int .i64 2, .int .i64 1]) hs rfl
  have cC := bx0 (l := [.int .i64 0, .int .i64 1, .int .i64 1, .int .i64 0, .int .i64 1, .int .i64 1]) hs (b := w1.heap.size + 1 + 1) (by simp)
  obtain ⟨T1, hT1⟩ : ∃ T1 : Nat → Prop, T1 = fun k => w.heap.size ≤ k ∧ k < w1.heap.size := ⟨_, rfl⟩
  rw [← hT1] at HG1
  have hcs : CsAt s (.slice (some ⟨C, 0, none⟩) 2 2) [kA, kA] := Or.inr ⟨C, 0, 2, rfl, by omega, fun j u hj => by
    rw [Nat.zero_add, hC]
    refine cC j u ?_
    simpa [flC, ec, kA] using hj⟩
  obtain ⟨T0, hT0⟩ : ∃ T0 : Nat → Prop, T0 = fun k => T1 k ∨ s.heap.size ≤ k := ⟨_, rfl⟩
  have hset : Calls Try.prog 13 #[.pointer (some ⟨p, 0, none⟩), .agg #[.int .i64 0, .int .i64 2, .int .i64 1], .slice (some ⟨C, 0, none⟩) 2 2] s fun e w' => e = .returned (.int .i64 0) ∧ GrAt w' T0 p 3 kG1 ∧ Trn T1 s w' := by
    have h := set_any p 0 T1 kG0 kB okB (.slice (some ⟨C, 0, none⟩) 2 2) [kA, kA] s (HG1.out.kept (Kept.of_below hbs)) (fun k hk => by rw [hT1] at hk; omega) hcs (fun b hb => by have e : C = b := (by simpa [blkOf] using hb); rw [hT1, ← e, hC]; omega) (fun y hy => by simp at hy; rw [hy]; exact okA) (by simp)
    rw [kOnc, ← hT0] at h
    exact h
  have HSET := Lib.hid hset
  have HC2 : Hid (∀ w2, Trn T1 s w2 → (w2.cell? ⟨A, 0, none⟩ = some (.int .i64 0) ∧ w2.cell? ⟨A, 1, none⟩ = some (.int .i64 1) ∧ w2.cell? ⟨A, 2, none⟩ = some (.int .i64 1)) ∧ (w2.cell? ⟨B, 0, none⟩ = some (.int .i64 0) ∧ w2.cell? ⟨B, 1, none⟩ = some (.int .i64 2) ∧ w2.cell? ⟨B, 2, none⟩ = some (.int .i64 1))) := Lib.hid fun w2 ht => by
    have nA : ¬ T1 A := by rw [hT1, hA]; omega
    have nB : ¬ T1 B := by rw [hT1, hB]; omega
    rw [← hA] at cA
    rw [← hA] at hB
    exact ⟨⟨ht.cell (cA 0 _ rfl) (by omega) nA, ht.cell (cA 1 _ rfl) (by omega) nA, ht.cell (cA 2 _ rfl) (by omega) nA⟩, ht.cell (by rw [hB, hA]; simpa using cB 0 _ rfl) (by omega) nB, ht.cell (by rw [hB, hA]; simpa using cB 1 _ rfl) (by omega) nB, ht.cell (by rw [hB, hA]; simpa using cB 2 _ rfl) (by omega) nB⟩
  have HS := Lib.hid hs
  have HA := Lib.hid hA
  have HB := Lib.hid hB
  have HCC := Lib.hid hC
  have HT1 := Lib.hid hT1
  have HT0 := Lib.hid hT0
  have HZS := Lib.hid hzs
  have HBS := Lib.hid hbs
  clear hs hA hB hC hT1 hT0 hzs hbs cA cB cC hcs hset
  rw [← HS.out, ← HCC.out, ← HB.out, ← HA.out]
  go_wp2_with (go_at_call 13; refine HSET.out.mono ?_; rintro e w2 ⟨rfl, hg2, ht2⟩; obtain ⟨⟨cA0, cA1, cA2⟩, cB0, cB1, cB2⟩ := HC2.out _ ht2; have HG2 := Lib.hid hg2.bound; have HT2 := Lib.hid ht2; clear hg2 ht2)
  obtain ⟨T, hT⟩ : ∃ T : Nat → Prop, T = fun k => T0 k ∧ k < w2.heap.size := ⟨_, rfl⟩
  rw [← hT] at HG2
  have nA : ¬ T A := by rw [hT]; rintro ⟨h, _⟩; rw [HT0.out] at h; rcases h with h | h; · rw [HT1.out, HA.out] at h; omega
                        · have h1 := HZS.out; have h2 := HA.out; omega
  have nB : ¬ T B := by rw [hT]; rintro ⟨h, _⟩; rw [HT0.out] at h; rcases h with h | h; · rw [HT1.out, HB.out] at h; omega
                        · have h1 := HZS.out; have h2 := HB.out; omega
  have nG : Hid (∀ g, w2.heap.size ≤ g → ¬ T g) := Lib.hid fun g hg => by rw [hT]; rintro ⟨_, h⟩; omega
  have HNA := Lib.hid nA
  have HNB := Lib.hid nB
  have hfor : Hid (∀ w3, GrAt w3 T p 3 kG1 → Calls Try.prog 17 #[.pointer (some ⟨p, 0, none⟩), .agg #[.int .i64 0, .int .i64 1, .int .i64 1]] w3 fun e w' => (∃ v, e = .returned v ∧ CsNew w' w3.heap.size v [kB]) ∧ Below w3.heap.size w3 w') := Lib.hid fun w3 h => (for_any p 3 T kG1 kA okA w3 h (by omega)).mono fun e w' ht => ht.is (by simp [Srt]) kE1
  have hfor0 : Hid (∀ w3, GrAt w3 T p 3 (delG (delG kG1 kA) kB) → Calls Try.prog 17 #[.pointer (some ⟨p, 0, none⟩), .agg #[.int .i64 0, .int .i64 1, .int .i64 1]] w3 fun e w' => (∃ v, e = .returned v ∧ CsNew w' w3.heap.size v []) ∧ Below w3.heap.size w3 w') := Lib.hid fun w3 h => (for_any p 3 T _ kA okA w3 h (by omega)).mono fun e w' ht => ht.is (by simp [Srt]) kE0
  have hneeds : Hid (∀ w3, GrAt w3 T p 3 kG1 → Calls Try.prog 18 #[.pointer (some ⟨p, 0, none⟩), .agg #[.int .i64 0, .int .i64 2, .int .i64 1]] w3 fun e w' => (∃ v, e = .returned v ∧ CsNew w' w3.heap.size v [kA]) ∧ Below w3.heap.size w3 w') := Lib.hid fun w3 h => by
    have h1 := needs_any p 3 T kG1 kB okB w3 h (by omega)
    rw [kLB] at h1
    exact h1
  have hhasB : Hid (∀ w3, GrAt w3 T p 3 kG1 → Calls Try.prog 40 #[.pointer (some ⟨p, 0, none⟩), .agg #[.int .i64 0, .int .i64 2, .int .i64 1]] w3 fun e w' => e = .returned (.bool true) ∧ Below w3.heap.size w3 w') := Lib.hid fun w3 h => by
    have h1 := has_any p 3 T kG1 kB okB w3 h
    rw [kHB] at h1
    exact h1
  have hhasA : Hid (∀ w3, GrAt w3 T p 3 kG1 → Calls Try.prog 40 #[.pointer (some ⟨p, 0, none⟩), .agg #[.int .i64 0, .int .i64 1, .int .i64 1]] w3 fun e w' => e = .returned (.bool false) ∧ Below w3.heap.size w3 w') := Lib.hid fun w3 h => by
    have h1 := has_any p 3 T kG1 kA okA w3 h
    rw [kHA] at h1
    exact h1
  have hdropA : Hid (∀ w3, GrAt w3 T p 3 kG1 → Calls Try.prog 10 #[.pointer (some ⟨p, 0, none⟩), .agg #[.int .i64 0, .int .i64 1, .int .i64 1]] w3 fun e w' => e = .returned (.int .i64 11) ∧ GrAt w' T p 3 (delG kG1 kA) ∧ Trn T w3 w') := Lib.hid fun w3 h => by
    have h1 := drop_any p 3 T kG1 kA okA w3 h (by omega)
    rw [kDA] at h1
    exact h1
  have hdropB : Hid (∀ w3, GrAt w3 T p 3 (delG kG1 kA) → Calls Try.prog 10 #[.pointer (some ⟨p, 0, none⟩), .agg #[.int .i64 0, .int .i64 2, .int .i64 1]] w3 fun e w' => e = .returned (.int .i64 0) ∧ GrAt w' T p 3 (delG (delG kG1 kA) kB) ∧ Trn T w3 w') := Lib.hid fun w3 h => by
    have h1 := drop_any p 3 T (delG kG1 kA) kB okB w3 h (by omega)
    rw [kDB] at h1
    exact h1
  have HBW : Hid (Below w.heap.size w w2) := Lib.hid ((HB1.out.trans (HBS.out.mono HB1.out.size)).trans ((HT2.out.below (n := w.heap.size) (Nat.le_trans HB1.out.size HBS.out.size) (fun k hk => by rw [HT1.out] at hk; exact hk.1))))
  have hTW : Hid (∀ k, T k → w.heap.size ≤ k) := Lib.hid fun k hk => by
    rw [hT] at hk
    have h := hk.1
    rw [HT0.out] at h
    rcases h with h | h
    · rw [HT1.out] at h; exact h.1
    · exact Nat.le_trans (Nat.le_trans HB1.out.size HBS.out.size) h
  clear hT nA nB HT0 HT1 HT2 HSET HC2 HZS HBS HS
  go_wp2_with (go_at_call 17; refine (hfor.out _ HG2.out).mono ?_; rintro e w3 ⟨⟨v, rfl, hv⟩, hb3⟩; obtain ⟨g, o, cap, rfl, hgn, hgz, l0, l1, l2⟩ := one_of hv; have zA : A < w2.heap.size := cellLt cA0; have zB : B < w2.heap.size := cellLt cB0; replace cA0 := belK hb3 cA0 zA; replace cA1 := belK hb3 cA1 zA; replace cA2 := belK hb3 cA2 zA; replace cB0 := belK hb3 cB0 zB; replace cB1 := belK hb3 cB1 zB; replace cB2 := belK hb3 cB2 zB; replace zA := Nat.lt_of_lt_of_le zA hb3.size; replace zB := Nat.lt_of_lt_of_le zB hb3.size; have HG3 := Lib.hid (HG2.out.kept (Kept.of_below hb3)); have HB3 := Lib.hid hb3; have nGG := Lib.hid (nG.out g hgn); clear hv hb3 hgn)
  refine wrt (T := T) (S := fun w' => Trn T w3 w' ∧ (w'.cell? ⟨A, 0, none⟩ = some (.int .i64 0) ∧ w'.cell? ⟨A, 1, none⟩ = some (.int .i64 1) ∧ w'.cell? ⟨A, 2, none⟩ = some (.int .i64 1)) ∧ (w'.cell? ⟨B, 0, none⟩ = some (.int .i64 0) ∧ w'.cell? ⟨B, 1, none⟩ = some (.int .i64 2) ∧ w'.cell? ⟨B, 2, none⟩ = some (.int .i64 1)) ∧ w'.cell? ⟨g, o, none⟩ = some (.int .i64 0) ∧ w'.cell? ⟨g, o + 1, none⟩ = some (.int .i64 2) ∧ w'.cell? ⟨g, o + 2, none⟩ = some (.int .i64 1)) (by kernel_rfl) (fun w' hx => ⟨hx, ⟨hx.cell cA0 zA HNA.out, hx.cell cA1 zA HNA.out, hx.cell cA2 zA HNA.out⟩, ⟨hx.cell cB0 zB HNB.out, hx.cell cB1 zB HNB.out, hx.cell cB2 zB HNB.out⟩, hx.cell l0 hgz nGG.out, hx.cell l1 hgz nGG.out, hx.cell l2 hgz nGG.out⟩) (fun HKP hHeld => ?_)
  clear cA0 cA1 cA2 cB0 cB1 cB2 l0 l1 l2 zA zB hgz
  refine tk 0 ?_
  refine tk 1 ?_
  refine tk 2 ?_
  refine tk 3 ?_
  refine tk 4 ?_
  refine tk 5 ?_
  refine tk 6 ?_
  refine tk 7 ?_
  refine tk 8 ?_
  refine tk 9 ?_
  refine tk 10 ?_
  refine tk 11 ?_
  refine tk 12 ?_
  refine tk 13 ?_
  refine tk 14 ?_
  refine tk 15 ?_
  refine tk 16 ?_
  refine rd1 17 (by kernel_rfl) rfl fun K hK => ?_
  go_simp
  (go_at_call 18; refine (hneeds.out _ (HG3.out.kept (Kept.of_below (Below.refl _ _).drew))).mono ?_; rintro e x17 ⟨⟨u, rfl, hu⟩, hbx⟩; obtain ⟨ua, uc, rfl⟩ := one_len hu; have HG := Lib.hid ((HG3.out.kept (Kept.of_below (Below.refl _ _).drew)).kept (Kept.of_below hbx)); clear hu)
  try (go_wp2_with fail)
  refine hK.out _ _ (HKP.out x17 (hHeld.1.after hbx)) (fun hHeld => ?_)
  clear hK K
  try simp only [pz]
  clear hbx
  refine tk 18 ?_
  refine tk 19 ?_
  refine tk 20 ?_
  refine tk 21 ?_
  refine tk 22 ?_
  refine tk 23 ?_
  refine rd1 24 (by kernel_rfl) rfl fun K hK => ?_
  go_simp
  (go_at_call 40; refine (hhasB.out _ HG.out).mono ?_; rintro e x24 ⟨rfl, hbx⟩; replace HG := Lib.hid (HG.out.kept (Kept.of_below hbx)))
  try (go_wp2_with fail)
  refine hK.out _ _ (HKP.out x24 (hHeld.1.after hbx)) (fun hHeld => ?_)
  clear hK K
  try simp only [pz]
  clear hbx
  refine tk 25 ?_
  refine tk 26 ?_
  refine tk 27 ?_
  refine tk 28 ?_
  refine rd1 29 (by kernel_rfl) rfl fun K hK => ?_
  go_simp
  (go_at_call 40; refine (hhasA.out _ HG.out).mono ?_; rintro e x29 ⟨rfl, hbx⟩; replace HG := Lib.hid (HG.out.kept (Kept.of_below hbx)))
  try (go_wp2_with fail)
  refine hK.out _ _ (HKP.out x29 (hHeld.1.after hbx)) (fun hHeld => ?_)
  clear hK K
  try simp only [pz]
  clear hbx
  refine tk 30 ?_
  refine tk 31 ?_
  refine tk 32 ?_
  refine tk 33 ?_
  refine tk 34 ?_
  refine rd1 35 (by kernel_rfl) rfl fun K hK => ?_
  go_simp
  (go_at_call 10; refine (hdropA.out _ HG.out).mono ?_; rintro e x35 ⟨rfl, hgx, htx⟩; clear HG; have HG := Lib.hid hgx; clear hgx)
  try (go_wp2_with fail)
  refine hK.out _ _ (HKP.out x35 (hHeld.1.join htx)) (fun hHeld => ?_)
  clear hK K
  try simp only [pz]
  clear htx
  refine tk 36 ?_
  refine tk 37 ?_
  refine tk 38 ?_
  refine tk 39 ?_
  refine tk 40 ?_
  refine rd1 41 (by kernel_rfl) rfl fun K hK => ?_
  go_simp
  (go_at_call 10; refine (hdropB.out _ HG.out).mono ?_; rintro e x41 ⟨rfl, hgx, htx⟩; clear HG; have HG := Lib.hid hgx; clear hgx)
  try (go_wp2_with fail)
  refine hK.out _ _ (HKP.out x41 (hHeld.1.join htx)) (fun hHeld => ?_)
  clear hK K
  try simp only [pz]
  clear htx
  refine tk 42 ?_
  refine tk 43 ?_
  refine tk 44 ?_
  refine tk 45 ?_
  refine tk 46 ?_
  refine rd1 47 (by kernel_rfl) rfl fun K hK => ?_
  go_simp
  (go_at_call 17; refine (hfor0.out _ HG.out).mono ?_; rintro e x47 ⟨⟨u, rfl, hu⟩, hbx⟩; obtain ⟨va, vc, rfl⟩ := none_len hu; clear hu)
  try (go_wp2_with fail)
  refine hK.out _ _ (HKP.out x47 (hHeld.1.after hbx)) (fun hHeld => ?_)
  clear hK K
  try simp only [pz]
  clear hbx
  refine tk 48 ?_
  refine tk 49 ?_
  refine tk 50 ?_
  refine tk 51 ?_
  refine wpAnyH_done (by kernel_rfl) ?_ _
  all_goals go_wp2_with fail
  all_goals first | go_ret | go_ret2
  exact ⟨rfl, (HBW.out.trans (HB3.out.mono HBW.out.size)).trans (hHeld.1.below (Nat.le_trans HBW.out.size HB3.out.size) hTW.out)⟩
end Go.Proofs.Ytjjpfddgcilliaa
