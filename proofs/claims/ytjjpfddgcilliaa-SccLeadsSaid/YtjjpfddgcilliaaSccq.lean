/-
  LAYER 29's STATEMENT ON WHAT LEADS WHERE (SccLeads), walked.
-/
import Derived.Test.YtjjpfddgcilliaaScco
set_option linter.unusedSimpArgs false
set_option linter.unusedVariables false
namespace Go.Proofs.Ytjjpfddgcilliaa
open Go.RowKit Go.Shelf Go.Sort Go.Lib Go.Maps
set_option maxRecDepth 100000

set_option maxHeartbeats 16000000 in
theorem sccLeads_any (v : Value) (N : List Ac) (a b : Ce) (w : World) (h : ActsAt w v N) (hbig : N.length ≤ 9223372036854775807) (oa : okC a) (ob : okC b) : Calls Try.prog 5 #[v, mkC a, mkC b] w fun e w' => e = .returned (.bool true) ∧ Below w.heap.size w w' := by
  have HE : Hid (∀ w, (binOp .eql 32 (mkC a) (mkC b)).run Try.prog w = .ok (.bool (decide (a = b))) w) := Lib.hid fun w => by
    have hE := run_eqC true a b w
    simpa only [if_true] using hE
  obtain ⟨x1, x2, x3⟩ := a
  obtain ⟨y1, y2, y3⟩ := b
  unfold mkC at *
  dsimp only at HE ⊢
  obtain ⟨wl, hwl⟩ : ∃ x, x = (w.alloc (.cells #[.int .i64 x1, .int .i64 x2, .int .i64 x3] 32)).alloc (.cells #[.int .i64 y1, .int .i64 y2, .int .i64 y3] 32) := ⟨_, rfl⟩
  have zl : wl.heap.size = w.heap.size + 1 + 1 := by rw [hwl]; simp
  have HWB : Hid (Below w.heap.size w wl) := Lib.hid (by rw [hwl]; exact ((Below.refl _ w).alloc (Nat.le_refl _) _).alloc (by simp) _)
  have cA := bx1 (l := [.int .i64 x1, .int .i64 x2, .int .i64 x3]) hwl rfl
  have cB := bx0 (l := [.int .i64 y1, .int .i64 y2, .int .i64 y3]) hwl (b := w.heap.size + 1) (by simp)
  have HAB : Hid (∀ V, Below wl.heap.size wl V → (V.cell? ⟨w.heap.size, 0, none⟩ = some (.int .i64 x1) ∧ V.cell? ⟨w.heap.size, 1, none⟩ = some (.int .i64 x2) ∧ V.cell? ⟨w.heap.size, 2, none⟩ = some (.int .i64 x3)) ∧ V.cell? ⟨w.heap.size + 1, 0, none⟩ = some (.int .i64 y1) ∧ V.cell? ⟨w.heap.size + 1, 1, none⟩ = some (.int .i64 y2) ∧ V.cell? ⟨w.heap.size + 1, 2, none⟩ = some (.int .i64 y3)) := Lib.hid fun V hV =>
    ⟨⟨belK hV (cA 0 _ rfl) (by dsimp only; omega), belK hV (cA 1 _ rfl) (by dsimp only; omega), belK hV (cA 2 _ rfl) (by dsimp only; omega)⟩, belK hV (cB 0 _ rfl) (by dsimp only; omega), belK hV (cB 1 _ rfl) (by dsimp only; omega), belK hV (cB 2 _ rfl) (by dsimp only; omega)⟩
  have HLD := Lib.hid (laid29_any v N wl (h.below' HWB.out) hbig)
  have HWL := Lib.hid hwl
  have HZL := Lib.hid zl
  have HOA := Lib.hid oa
  have HOB := Lib.hid ob
  obtain ⟨va, vc, rfl, _⟩ := h
  clear cA cB hwl zl oa ob
  obtain ⟨bo, hbo⟩ : ∃ bo, bo = okN N := ⟨_, rfl⟩
  have HBO := Lib.hid hbo
  clear hbo
  cases bo
  · go_enter Try.func5, Try.ntmps5
    go_wp2_with (go_at_call 19; rw [← HWL.out]; refine HLD.out.mono ?_; rintro e w1 ⟨p, q, n, R, Sg, Sr, rfl, htwo, hn, hrr, hb1⟩; rw [← HBO.out]; have HB1 := Lib.hid hb1; obtain ⟨⟨cA0, cA1, cA2⟩, cB0, cB1, cB2⟩ := HAB.out w1 HB1.out; clear hb1 htwo hn hrr; go_wp2_with (go_at_call 20; refine (known29_any _).mono ?_; rintro e wk ⟨rfl, hbk⟩))
    all_goals first | go_ret | go_ret2
    all_goals exact ⟨rfl, HWB.out.trans ((HB1.out.trans (hbk.mono HB1.out.size)).mono HWB.out.size)⟩
  obtain ⟨hA, hHA⟩ : ∃ x, x = (rowOf (rowsN N) (x1, x2, x3)).isSome := ⟨_, rfl⟩
  obtain ⟨hB, hHB⟩ : ∃ x, x = (rowOf (rowsN N) (y1, y2, y3)).isSome := ⟨_, rfl⟩
  cases hA
  · have HHA := Lib.hid hHA.symm
    clear hHA hHB
    go_enter Try.func5, Try.ntmps5
    go_wp2_with (go_at_call 19; rw [← HWL.out]; refine HLD.out.mono ?_; rintro e w1 ⟨p, q, n, R, Sg, Sr, rfl, htwo, hn, hrr, hb1⟩; rw [← HBO.out]; have HB1 := Lib.hid hb1; obtain ⟨⟨cA0, cA1, cA2⟩, cB0, cB1, cB2⟩ := HAB.out w1 HB1.out; obtain rfl := hrr HBO.out.symm; have HTW := Lib.hid htwo; have HN := Lib.hid hn; have hrl := Nat.le_trans htwo.rl hn; have HRL := Lib.hid hrl; clear hb1 htwo hn hrr hrl; go_wp2_with (go_at_call 32; refine (rhas_any q _ (x1, x2, x3) w1 HTW.out.r.view (by have := HRL.out; omega)).mono ?_; rintro e w2 ⟨rfl, hb2⟩; rw [HHA.out]; have HB2 := Lib.hid (HB1.out.trans (hb2.mono HB1.out.size)); have HT2 := Lib.hid (HTW.out.below hb2); clear hb2; clear cA0 cA1 cA2 cB0 cB1 cB2; obtain ⟨⟨cA0, cA1, cA2⟩, cB0, cB1, cB2⟩ := HAB.out w2 HB2.out; go_wp2_with (go_at_call 20; refine (known29_any _).mono ?_; rintro e wk ⟨rfl, hbk⟩)))
    all_goals first | go_ret | go_ret2
    all_goals exact ⟨rfl, HWB.out.trans ((HB2.out.trans (hbk.mono HB2.out.size)).mono HWB.out.size)⟩
  have HHA := Lib.hid hHA.symm
  clear hHA
  cases hB
  · have HHB := Lib.hid hHB.symm
    clear hHB
    go_enter Try.func5, Try.ntmps5
    go_wp2_with (go_at_call 19; rw [← HWL.out]; refine HLD.out.mono ?_; rintro e w1 ⟨p, q, n, R, Sg, Sr, rfl, htwo, hn, hrr, hb1⟩; rw [← HBO.out]; have HB1 := Lib.hid hb1; obtain ⟨⟨cA0, cA1, cA2⟩, cB0, cB1, cB2⟩ := HAB.out w1 HB1.out; obtain rfl := hrr HBO.out.symm; have HTW := Lib.hid htwo; have HN := Lib.hid hn; have hrl := Nat.le_trans htwo.rl hn; have HRL := Lib.hid hrl; clear hb1 htwo hn hrr hrl; go_wp2_with (go_at_call 32; refine (rhas_any q _ (x1, x2, x3) w1 HTW.out.r.view (by have := HRL.out; omega)).mono ?_; rintro e w2 ⟨rfl, hb2⟩; rw [HHA.out]; have HB2 := Lib.hid (HB1.out.trans (hb2.mono HB1.out.size)); have HT2 := Lib.hid (HTW.out.below hb2); clear hb2; clear cA0 cA1 cA2 cB0 cB1 cB2; obtain ⟨⟨cA0, cA1, cA2⟩, cB0, cB1, cB2⟩ := HAB.out w2 HB2.out; go_wp2_with (go_at_call 32; refine (rhas_any q _ (y1, y2, y3) w2 HT2.out.r.view (by have := HRL.out; omega)).mono ?_; rintro e w3 ⟨rfl, hb3⟩; rw [HHB.out]; have HB3 := Lib.hid (HB2.out.trans (hb3.mono HB2.out.size)); have HT3 := Lib.hid (HT2.out.below hb3); clear hb3; clear cA0 cA1 cA2 cB0 cB1 cB2; obtain ⟨⟨cA0, cA1, cA2⟩, cB0, cB1, cB2⟩ := HAB.out w3 HB3.out; go_wp2_with (go_at_call 20; refine (known29_any _).mono ?_; rintro e wk ⟨rfl, hbk⟩))))
    all_goals first | go_ret | go_ret2
    all_goals exact ⟨rfl, HWB.out.trans ((HB3.out.trans (hbk.mono HB3.out.size)).mono HWB.out.size)⟩
  have HHB := Lib.hid hHB.symm
  clear hHB
  have hE := HE.out
  by_cases hab : (x1, x2, x3) = (y1, y2, y3)
  · rw [decide_eq_true hab] at hE
    go_enter Try.func5, Try.ntmps5
    go_wp2_with (go_at_call 19; rw [← HWL.out]; refine HLD.out.mono ?_; rintro e w1 ⟨p, q, n, R, Sg, Sr, rfl, htwo, hn, hrr, hb1⟩; rw [← HBO.out]; have HB1 := Lib.hid hb1; obtain ⟨⟨cA0, cA1, cA2⟩, cB0, cB1, cB2⟩ := HAB.out w1 HB1.out; obtain rfl := hrr HBO.out.symm; have HTW := Lib.hid htwo; have HN := Lib.hid hn; have hrl := Nat.le_trans htwo.rl hn; have HRL := Lib.hid hrl; clear hb1 htwo hn hrr hrl; go_wp2_with (go_at_call 32; refine (rhas_any q _ (x1, x2, x3) w1 HTW.out.r.view (by have := HRL.out; omega)).mono ?_; rintro e w2 ⟨rfl, hb2⟩; rw [HHA.out]; have HB2 := Lib.hid (HB1.out.trans (hb2.mono HB1.out.size)); have HT2 := Lib.hid (HTW.out.below hb2); clear hb2; clear cA0 cA1 cA2 cB0 cB1 cB2; obtain ⟨⟨cA0, cA1, cA2⟩, cB0, cB1, cB2⟩ := HAB.out w2 HB2.out; go_wp2_with (go_at_call 32; refine (rhas_any q _ (y1, y2, y3) w2 HT2.out.r.view (by have := HRL.out; omega)).mono ?_; rintro e w3 ⟨rfl, hb3⟩; rw [HHB.out]; have HB3 := Lib.hid (HB2.out.trans (hb3.mono HB2.out.size)); have HT3 := Lib.hid (HT2.out.below hb3); clear hb3; clear cA0 cA1 cA2 cB0 cB1 cB2; obtain ⟨⟨cA0, cA1, cA2⟩, cB0, cB1, cB2⟩ := HAB.out w3 HB3.out; go_wp2_with (go_at_call 20; refine (known29_any _).mono ?_; rintro e wk ⟨rfl, hbk⟩))))
    all_goals first | go_ret | go_ret2
    all_goals exact ⟨rfl, HWB.out.trans ((HB3.out.trans (hbk.mono HB3.out.size)).mono HWB.out.size)⟩
  rw [decide_eq_false hab] at hE
  have HAN := Lib.hid hab
  obtain ⟨r1, h1⟩ := rt_dec (Rt (ldG (rowOf (rowsN N))) (x1, x2, x3) (y1, y2, y3))
  obtain ⟨r2, h2⟩ := rt_dec (Rt (ldG (rowOf (rowsN N))) (y1, y2, y3) (x1, x2, x3))
  have HR1 := Lib.hid h1
  have HR2 := Lib.hid h2
  clear h1 h2 hab
  go_enter Try.func5, Try.ntmps5
  go_wp2_with (go_at_call 19; rw [← HWL.out]; refine HLD.out.mono ?_; rintro e w1 ⟨p, q, n, R, Sg, Sr, rfl, htwo, hn, hrr, hb1⟩; rw [← HBO.out]; have HB1 := Lib.hid hb1; obtain ⟨⟨cA0, cA1, cA2⟩, cB0, cB1, cB2⟩ := HAB.out w1 HB1.out; obtain rfl := hrr HBO.out.symm; have HTW := Lib.hid htwo; have HN := Lib.hid hn; have hrl := Nat.le_trans htwo.rl hn; have HRL := Lib.hid hrl; clear hb1 htwo hn hrr hrl; go_wp2_with (go_at_call 32; refine (rhas_any q _ (x1, x2, x3) w1 HTW.out.r.view (by have := HRL.out; omega)).mono ?_; rintro e w2 ⟨rfl, hb2⟩; rw [HHA.out]; have HB2 := Lib.hid (HB1.out.trans (hb2.mono HB1.out.size)); have HT2 := Lib.hid (HTW.out.below hb2); clear hb2; clear cA0 cA1 cA2 cB0 cB1 cB2; obtain ⟨⟨cA0, cA1, cA2⟩, cB0, cB1, cB2⟩ := HAB.out w2 HB2.out; go_wp2_with (go_at_call 32; refine (rhas_any q _ (y1, y2, y3) w2 HT2.out.r.view (by have := HRL.out; omega)).mono ?_; rintro e w3 ⟨rfl, hb3⟩; rw [HHB.out]; have HB3 := Lib.hid (HB2.out.trans (hb3.mono HB2.out.size)); have HT3 := Lib.hid (HT2.out.below hb3); clear hb3; clear cA0 cA1 cA2 cB0 cB1 cB2; obtain ⟨⟨cA0, cA1, cA2⟩, cB0, cB1, cB2⟩ := HAB.out w3 HB3.out)))
  have HQ := Lib.hid (twoQ_of HT3.out HN.out HOA.out HOB.out HHA.out HHB.out HAN.out HR1.out HR2.out)
  have HKP0 : Hid (∀ w', Below w3.heap.size w3 w' → Below w3.heap.size w3 w' ∧ (w'.cell? ⟨w.heap.size, 0, none⟩ = some (.int .i64 x1) ∧ w'.cell? ⟨w.heap.size, 1, none⟩ = some (.int .i64 x2) ∧ w'.cell? ⟨w.heap.size, 2, none⟩ = some (.int .i64 x3)) ∧ w'.cell? ⟨w.heap.size + 1, 0, none⟩ = some (.int .i64 y1) ∧ w'.cell? ⟨w.heap.size + 1, 1, none⟩ = some (.int .i64 y2) ∧ w'.cell? ⟨w.heap.size + 1, 2, none⟩ = some (.int .i64 y3)) := Lib.hid fun w' hx => ⟨hx, HAB.out w' (HB3.out.trans (hx.mono HB3.out.size))⟩
  clear HR1 HR2
  cases r1
  · cases r2
    · refine wrp (S := fun w' => Below w3.heap.size w3 w' ∧ (w'.cell? ⟨w.heap.size, 0, none⟩ = some (.int .i64 x1) ∧ w'.cell? ⟨w.heap.size, 1, none⟩ = some (.int .i64 x2) ∧ w'.cell? ⟨w.heap.size, 2, none⟩ = some (.int .i64 x3)) ∧ w'.cell? ⟨w.heap.size + 1, 0, none⟩ = some (.int .i64 y1) ∧ w'.cell? ⟨w.heap.size + 1, 1, none⟩ = some (.int .i64 y2) ∧ w'.cell? ⟨w.heap.size + 1, 2, none⟩ = some (.int .i64 y3)) (by kernel_rfl) HKP0.out (fun HKP hHeld => ?_)
      have hbv0 : Below w3.heap.size w3 w3.drew := (Below.refl _ _).drew
      refine tk 0 ?_
      refine tk 1 ?_
      refine tk 3 ?_
      refine rd1 2 (by kernel_rfl) rfl fun KX hK => ?_
      go_simp
      (go_at_call 33; refine (HQ.out.l1 _ hbv0).mono ?_; rintro e v1 ⟨⟨u1, rfl, hu1⟩, htv1⟩)
      have hbv1 : Below w3.heap.size w3 v1 := hbv0.trans (htv1.mono hbv0.size)
      refine hK.out _ _ (HKP.out _ hbv1) (fun hHeld => ?_)
      clear hK KX
      try simp only [pz]
      refine rd1 4 (by kernel_rfl) rfl fun KX hK => ?_
      go_simp
      (go_at_call 16; refine (hu1 v1 (Below.refl _ _)).mono ?_; rintro e v2 ⟨rfl, htv2⟩)
      have hbv2 : Below w3.heap.size w3 v2 := hbv1.trans (htv2.mono hbv1.size)
      refine hK.out _ _ (HKP.out _ hbv2) (fun hHeld => ?_)
      clear hK KX
      try simp only [pz]
      refine tk 5 ?_
      refine tSk 6 ?_
      refine tSk 7 ?_
      refine tSk 8 ?_
      refine tSk 9 ?_
      refine tSk 10 ?_
      refine tk 11 ?_
      refine tk 12 ?_
      refine wpAnyH_done (by kernel_rfl) ?_ _
      have hS4 := hHeld
      clear HKP hHeld
      obtain ⟨hb4, ⟨cA0, cA1, cA2⟩, cB0, cB1, cB2⟩ := hS4
      go_wp2_with fail
      refine wrp (S := fun w' => Below w3.heap.size w3 w' ∧ (w'.cell? ⟨w.heap.size, 0, none⟩ = some (.int .i64 x1) ∧ w'.cell? ⟨w.heap.size, 1, none⟩ = some (.int .i64 x2) ∧ w'.cell? ⟨w.heap.size, 2, none⟩ = some (.int .i64 x3)) ∧ w'.cell? ⟨w.heap.size + 1, 0, none⟩ = some (.int .i64 y1) ∧ w'.cell? ⟨w.heap.size + 1, 1, none⟩ = some (.int .i64 y2) ∧ w'.cell? ⟨w.heap.size + 1, 2, none⟩ = some (.int .i64 y3)) (by kernel_rfl) (fun w' hx => HKP0.out w' (hb4.trans (hx.mono hb4.size))) (fun HKP9 hHeld => ?_)
      have HKP := HKP0
      have hbz0 := hHeld.1
      refine tk 0 ?_
      refine tk 1 ?_
      refine tk 3 ?_
      refine tk 5 ?_
      refine rd1 2 (by kernel_rfl) rfl fun KX hK => ?_
      go_simp
      (go_at_call 27; refine (HQ.out.p1 _ hbz0).mono ?_; rintro e z1 ⟨⟨u5, rfl, hu5⟩, htz1⟩)
      have hbz1 : Below w3.heap.size w3 z1 := hbz0.trans (htz1.mono hbz0.size)
      refine hK.out _ _ (HKP.out _ hbz1) (fun hHeld => ?_)
      clear hK KX
      try simp only [pz]
      refine rd1 4 (by kernel_rfl) rfl fun KX hK => ?_
      go_simp
      (go_at_call 16; refine (hu5 z1 (Below.refl _ _)).mono ?_; rintro e z2 ⟨rfl, htz2⟩)
      have hbz2 : Below w3.heap.size w3 z2 := hbz1.trans (htz2.mono hbz1.size)
      refine hK.out _ _ (HKP.out _ hbz2) (fun hHeld => ?_)
      clear hK KX
      try simp only [pz]
      refine tk 6 ?_
      refine tk 7 ?_
      refine tk 8 ?_
      refine tk 9 ?_
      refine tk 11 ?_
      refine tk 13 ?_
      refine rd1 10 (by kernel_rfl) rfl fun KX hK => ?_
      go_simp
      (go_at_call 27; refine (HQ.out.p2 _ hbz2).mono ?_; rintro e z3 ⟨⟨u6, rfl, hu6⟩, htz3⟩)
      have hbz3 : Below w3.heap.size w3 z3 := hbz2.trans (htz3.mono hbz2.size)
      refine hK.out _ _ (HKP.out _ hbz3) (fun hHeld => ?_)
      clear hK KX
      try simp only [pz]
      refine rd1 12 (by kernel_rfl) rfl fun KX hK => ?_
      go_simp
      (go_at_call 16; refine (hu6 z3 (Below.refl _ _)).mono ?_; rintro e z4 ⟨rfl, htz4⟩)
      have hbz4 : Below w3.heap.size w3 z4 := hbz3.trans (htz4.mono hbz3.size)
      refine hK.out _ _ (HKP.out _ hbz4) (fun hHeld => ?_)
      clear hK KX
      try simp only [pz]
      refine tk 14 ?_
      refine tk 15 ?_
      refine tk 16 ?_
      refine rd1 17 (by kernel_rfl) rfl fun KX hK => ?_
      go_simp
      (go_at_call 20; refine (known29_any z4).mono ?_; rintro e z5 ⟨rfl, htz5⟩)
      have hbz5 : Below w3.heap.size w3 z5 := hbz4.trans (htz5.mono hbz4.size)
      refine hK.out _ _ (HKP.out _ hbz5) (fun hHeld => ?_)
      clear hK KX
      try simp only [pz]
      refine tk 18 ?_
      refine tk 19 ?_
      refine wpAnyH_done (by kernel_rfl) ?_ _
      all_goals go_wp2_with fail
      all_goals first | go_ret | go_ret2
      all_goals exact ⟨rfl, HWB.out.trans ((HB3.out.trans (hbz5.mono HB3.out.size)).mono HWB.out.size)⟩
    · refine wrp (S := fun w' => Below w3.heap.size w3 w' ∧ (w'.cell? ⟨w.heap.size, 0, none⟩ = some (.int .i64 x1) ∧ w'.cell? ⟨w.heap.size, 1, none⟩ = some (.int .i64 x2) ∧ w'.cell? ⟨w.heap.size, 2, none⟩ = some (.int .i64 x3)) ∧ w'.cell? ⟨w.heap.size + 1, 0, none⟩ = some (.int .i64 y1) ∧ w'.cell? ⟨w.heap.size + 1, 1, none⟩ = some (.int .i64 y2) ∧ w'.cell? ⟨w.heap.size + 1, 2, none⟩ = some (.int .i64 y3)) (by kernel_rfl) HKP0.out (fun HKP hHeld => ?_)
      have hbv0 : Below w3.heap.size w3 w3.drew := (Below.refl _ _).drew
      refine tk 0 ?_
      refine tk 1 ?_
      refine tk 3 ?_
      refine rd1 2 (by kernel_rfl) rfl fun KX hK => ?_
      go_simp
      (go_at_call 33; refine (HQ.out.l1 _ hbv0).mono ?_; rintro e v1 ⟨⟨u1, rfl, hu1⟩, htv1⟩)
      have hbv1 : Below w3.heap.size w3 v1 := hbv0.trans (htv1.mono hbv0.size)
      refine hK.out _ _ (HKP.out _ hbv1) (fun hHeld => ?_)
      clear hK KX
      try simp only [pz]
      refine rd1 4 (by kernel_rfl) rfl fun KX hK => ?_
      go_simp
      (go_at_call 16; refine (hu1 v1 (Below.refl _ _)).mono ?_; rintro e v2 ⟨rfl, htv2⟩)
      have hbv2 : Below w3.heap.size w3 v2 := hbv1.trans (htv2.mono hbv1.size)
      refine hK.out _ _ (HKP.out _ hbv2) (fun hHeld => ?_)
      clear hK KX
      try simp only [pz]
      refine tk 5 ?_
      refine tSk 6 ?_
      refine tSk 7 ?_
      refine tSk 8 ?_
      refine tSk 9 ?_
      refine tSk 10 ?_
      refine tk 11 ?_
      refine tk 12 ?_
      refine wpAnyH_done (by kernel_rfl) ?_ _
      have hS4 := hHeld
      clear HKP hHeld
      obtain ⟨hb4, ⟨cA0, cA1, cA2⟩, cB0, cB1, cB2⟩ := hS4
      go_wp2_with fail
      refine wrp (S := fun w' => Below w3.heap.size w3 w' ∧ (w'.cell? ⟨w.heap.size, 0, none⟩ = some (.int .i64 x1) ∧ w'.cell? ⟨w.heap.size, 1, none⟩ = some (.int .i64 x2) ∧ w'.cell? ⟨w.heap.size, 2, none⟩ = some (.int .i64 x3)) ∧ w'.cell? ⟨w.heap.size + 1, 0, none⟩ = some (.int .i64 y1) ∧ w'.cell? ⟨w.heap.size + 1, 1, none⟩ = some (.int .i64 y2) ∧ w'.cell? ⟨w.heap.size + 1, 2, none⟩ = some (.int .i64 y3)) (by kernel_rfl) (fun w' hx => HKP0.out w' (hb4.trans (hx.mono hb4.size))) (fun HKP9 hHeld => ?_)
      have HKP := HKP0
      have hbz0 := hHeld.1
      refine tk 0 ?_
      refine tk 1 ?_
      refine tk 3 ?_
      refine tk 5 ?_
      refine rd1 2 (by kernel_rfl) rfl fun KX hK => ?_
      go_simp
      (go_at_call 27; refine (HQ.out.p1 _ hbz0).mono ?_; rintro e z1 ⟨⟨u5, rfl, hu5⟩, htz1⟩)
      have hbz1 : Below w3.heap.size w3 z1 := hbz0.trans (htz1.mono hbz0.size)
      refine hK.out _ _ (HKP.out _ hbz1) (fun hHeld => ?_)
      clear hK KX
      try simp only [pz]
      refine rd1 4 (by kernel_rfl) rfl fun KX hK => ?_
      go_simp
      (go_at_call 16; refine (hu5 z1 (Below.refl _ _)).mono ?_; rintro e z2 ⟨rfl, htz2⟩)
      have hbz2 : Below w3.heap.size w3 z2 := hbz1.trans (htz2.mono hbz1.size)
      refine hK.out _ _ (HKP.out _ hbz2) (fun hHeld => ?_)
      clear hK KX
      try simp only [pz]
      refine tk 6 ?_
      refine tk 7 ?_
      refine tk 8 ?_
      refine tk 9 ?_
      refine tk 11 ?_
      refine tk 13 ?_
      refine rd1 10 (by kernel_rfl) rfl fun KX hK => ?_
      go_simp
      (go_at_call 27; refine (HQ.out.p2 _ hbz2).mono ?_; rintro e z3 ⟨⟨u6, rfl, hu6⟩, htz3⟩)
      have hbz3 : Below w3.heap.size w3 z3 := hbz2.trans (htz3.mono hbz2.size)
      refine hK.out _ _ (HKP.out _ hbz3) (fun hHeld => ?_)
      clear hK KX
      try simp only [pz]
      refine rd1 12 (by kernel_rfl) rfl fun KX hK => ?_
      go_simp
      (go_at_call 16; refine (hu6 z3 (Below.refl _ _)).mono ?_; rintro e z4 ⟨rfl, htz4⟩)
      have hbz4 : Below w3.heap.size w3 z4 := hbz3.trans (htz4.mono hbz3.size)
      refine hK.out _ _ (HKP.out _ hbz4) (fun hHeld => ?_)
      clear hK KX
      try simp only [pz]
      refine tk 14 ?_
      refine tk 15 ?_
      refine tk 16 ?_
      refine rd1 17 (by kernel_rfl) rfl fun KX hK => ?_
      go_simp
      (go_at_call 20; refine (known29_any z4).mono ?_; rintro e z5 ⟨rfl, htz5⟩)
      have hbz5 : Below w3.heap.size w3 z5 := hbz4.trans (htz5.mono hbz4.size)
      refine hK.out _ _ (HKP.out _ hbz5) (fun hHeld => ?_)
      clear hK KX
      try simp only [pz]
      refine tk 18 ?_
      refine tk 19 ?_
      refine wpAnyH_done (by kernel_rfl) ?_ _
      all_goals go_wp2_with fail
      all_goals first | go_ret | go_ret2
      all_goals exact ⟨rfl, HWB.out.trans ((HB3.out.trans (hbz5.mono HB3.out.size)).mono HWB.out.size)⟩
  · cases r2
    · refine wrp (S := fun w' => Below w3.heap.size w3 w' ∧ (w'.cell? ⟨w.heap.size, 0, none⟩ = some (.int .i64 x1) ∧ w'.cell? ⟨w.heap.size, 1, none⟩ = some (.int .i64 x2) ∧ w'.cell? ⟨w.heap.size, 2, none⟩ = some (.int .i64 x3)) ∧ w'.cell? ⟨w.heap.size + 1, 0, none⟩ = some (.int .i64 y1) ∧ w'.cell? ⟨w.heap.size + 1, 1, none⟩ = some (.int .i64 y2) ∧ w'.cell? ⟨w.heap.size + 1, 2, none⟩ = some (.int .i64 y3)) (by kernel_rfl) HKP0.out (fun HKP hHeld => ?_)
      have hbv0 : Below w3.heap.size w3 w3.drew := (Below.refl _ _).drew
      refine tk 0 ?_
      refine tk 1 ?_
      refine tk 3 ?_
      refine rd1 2 (by kernel_rfl) rfl fun KX hK => ?_
      go_simp
      (go_at_call 33; refine (HQ.out.l1 _ hbv0).mono ?_; rintro e v1 ⟨⟨u1, rfl, hu1⟩, htv1⟩)
      have hbv1 : Below w3.heap.size w3 v1 := hbv0.trans (htv1.mono hbv0.size)
      refine hK.out _ _ (HKP.out _ hbv1) (fun hHeld => ?_)
      clear hK KX
      try simp only [pz]
      refine rd1 4 (by kernel_rfl) rfl fun KX hK => ?_
      go_simp
      (go_at_call 16; refine (hu1 v1 (Below.refl _ _)).mono ?_; rintro e v2 ⟨rfl, htv2⟩)
      have hbv2 : Below w3.heap.size w3 v2 := hbv1.trans (htv2.mono hbv1.size)
      refine hK.out _ _ (HKP.out _ hbv2) (fun hHeld => ?_)
      clear hK KX
      try simp only [pz]
      refine tk 5 ?_
      refine tk 6 ?_
      refine tk 7 ?_
      refine tk 9 ?_
      refine rd1 8 (by kernel_rfl) rfl fun KX hK => ?_
      go_simp
      (go_at_call 33; refine (HQ.out.l2 _ hbv2).mono ?_; rintro e v3 ⟨⟨u3, rfl, hu3⟩, htv3⟩)
      have hbv3 : Below w3.heap.size w3 v3 := hbv2.trans (htv3.mono hbv2.size)
      refine hK.out _ _ (HKP.out _ hbv3) (fun hHeld => ?_)
      clear hK KX
      try simp only [pz]
      refine rd1 10 (by kernel_rfl) rfl fun KX hK => ?_
      go_simp
      (go_at_call 16; refine (hu3 v3 (Below.refl _ _)).mono ?_; rintro e v4 ⟨rfl, htv4⟩)
      have hbv4 : Below w3.heap.size w3 v4 := hbv3.trans (htv4.mono hbv3.size)
      refine hK.out _ _ (HKP.out _ hbv4) (fun hHeld => ?_)
      clear hK KX
      try simp only [pz]
      refine tk 11 ?_
      refine tk 12 ?_
      refine wpAnyH_done (by kernel_rfl) ?_ _
      have hS4 := hHeld
      clear HKP hHeld
      obtain ⟨hb4, ⟨cA0, cA1, cA2⟩, cB0, cB1, cB2⟩ := hS4
      go_wp2_with fail
      refine wrp (S := fun w' => Below w3.heap.size w3 w' ∧ (w'.cell? ⟨w.heap.size, 0, none⟩ = some (.int .i64 x1) ∧ w'.cell? ⟨w.heap.size, 1, none⟩ = some (.int .i64 x2) ∧ w'.cell? ⟨w.heap.size, 2, none⟩ = some (.int .i64 x3)) ∧ w'.cell? ⟨w.heap.size + 1, 0, none⟩ = some (.int .i64 y1) ∧ w'.cell? ⟨w.heap.size + 1, 1, none⟩ = some (.int .i64 y2) ∧ w'.cell? ⟨w.heap.size + 1, 2, none⟩ = some (.int .i64 y3)) (by kernel_rfl) (fun w' hx => HKP0.out w' (hb4.trans (hx.mono hb4.size))) (fun HKP9 hHeld => ?_)
      have HKP := HKP0
      have hbz0 := hHeld.1
      refine tk 0 ?_
      refine tk 1 ?_
      refine tk 3 ?_
      refine tk 5 ?_
      refine rd1 2 (by kernel_rfl) rfl fun KX hK => ?_
      go_simp
      (go_at_call 27; refine (HQ.out.p1 _ hbz0).mono ?_; rintro e z1 ⟨⟨u5, rfl, hu5⟩, htz1⟩)
      have hbz1 : Below w3.heap.size w3 z1 := hbz0.trans (htz1.mono hbz0.size)
      refine hK.out _ _ (HKP.out _ hbz1) (fun hHeld => ?_)
      clear hK KX
      try simp only [pz]
      refine rd1 4 (by kernel_rfl) rfl fun KX hK => ?_
      go_simp
      (go_at_call 16; refine (hu5 z1 (Below.refl _ _)).mono ?_; rintro e z2 ⟨rfl, htz2⟩)
      have hbz2 : Below w3.heap.size w3 z2 := hbz1.trans (htz2.mono hbz1.size)
      refine hK.out _ _ (HKP.out _ hbz2) (fun hHeld => ?_)
      clear hK KX
      try simp only [pz]
      refine tk 6 ?_
      refine tk 7 ?_
      refine tk 8 ?_
      refine tk 9 ?_
      refine tk 11 ?_
      refine tk 13 ?_
      refine rd1 10 (by kernel_rfl) rfl fun KX hK => ?_
      go_simp
      (go_at_call 27; refine (HQ.out.p2 _ hbz2).mono ?_; rintro e z3 ⟨⟨u6, rfl, hu6⟩, htz3⟩)
      have hbz3 : Below w3.heap.size w3 z3 := hbz2.trans (htz3.mono hbz2.size)
      refine hK.out _ _ (HKP.out _ hbz3) (fun hHeld => ?_)
      clear hK KX
      try simp only [pz]
      refine rd1 12 (by kernel_rfl) rfl fun KX hK => ?_
      go_simp
      (go_at_call 16; refine (hu6 z3 (Below.refl _ _)).mono ?_; rintro e z4 ⟨rfl, htz4⟩)
      have hbz4 : Below w3.heap.size w3 z4 := hbz3.trans (htz4.mono hbz3.size)
      refine hK.out _ _ (HKP.out _ hbz4) (fun hHeld => ?_)
      clear hK KX
      try simp only [pz]
      refine tk 14 ?_
      refine tk 15 ?_
      refine tk 16 ?_
      refine rd1 17 (by kernel_rfl) rfl fun KX hK => ?_
      go_simp
      (go_at_call 20; refine (known29_any z4).mono ?_; rintro e z5 ⟨rfl, htz5⟩)
      have hbz5 : Below w3.heap.size w3 z5 := hbz4.trans (htz5.mono hbz4.size)
      refine hK.out _ _ (HKP.out _ hbz5) (fun hHeld => ?_)
      clear hK KX
      try simp only [pz]
      refine tk 18 ?_
      refine tk 19 ?_
      refine wpAnyH_done (by kernel_rfl) ?_ _
      all_goals go_wp2_with fail
      all_goals first | go_ret | go_ret2
      all_goals exact ⟨rfl, HWB.out.trans ((HB3.out.trans (hbz5.mono HB3.out.size)).mono HWB.out.size)⟩
    · refine wrp (S := fun w' => Below w3.heap.size w3 w' ∧ (w'.cell? ⟨w.heap.size, 0, none⟩ = some (.int .i64 x1) ∧ w'.cell? ⟨w.heap.size, 1, none⟩ = some (.int .i64 x2) ∧ w'.cell? ⟨w.heap.size, 2, none⟩ = some (.int .i64 x3)) ∧ w'.cell? ⟨w.heap.size + 1, 0, none⟩ = some (.int .i64 y1) ∧ w'.cell? ⟨w.heap.size + 1, 1, none⟩ = some (.int .i64 y2) ∧ w'.cell? ⟨w.heap.size + 1, 2, none⟩ = some (.int .i64 y3)) (by kernel_rfl) HKP0.out (fun HKP hHeld => ?_)
      have hbv0 : Below w3.heap.size w3 w3.drew := (Below.refl _ _).drew
      refine tk 0 ?_
      refine tk 1 ?_
      refine tk 3 ?_
      refine rd1 2 (by kernel_rfl) rfl fun KX hK => ?_
      go_simp
      (go_at_call 33; refine (HQ.out.l1 _ hbv0).mono ?_; rintro e v1 ⟨⟨u1, rfl, hu1⟩, htv1⟩)
      have hbv1 : Below w3.heap.size w3 v1 := hbv0.trans (htv1.mono hbv0.size)
      refine hK.out _ _ (HKP.out _ hbv1) (fun hHeld => ?_)
      clear hK KX
      try simp only [pz]
      refine rd1 4 (by kernel_rfl) rfl fun KX hK => ?_
      go_simp
      (go_at_call 16; refine (hu1 v1 (Below.refl _ _)).mono ?_; rintro e v2 ⟨rfl, htv2⟩)
      have hbv2 : Below w3.heap.size w3 v2 := hbv1.trans (htv2.mono hbv1.size)
      refine hK.out _ _ (HKP.out _ hbv2) (fun hHeld => ?_)
      clear hK KX
      try simp only [pz]
      refine tk 5 ?_
      refine tk 6 ?_
      refine tk 7 ?_
      refine tk 9 ?_
      refine rd1 8 (by kernel_rfl) rfl fun KX hK => ?_
      go_simp
      (go_at_call 33; refine (HQ.out.l2 _ hbv2).mono ?_; rintro e v3 ⟨⟨u3, rfl, hu3⟩, htv3⟩)
      have hbv3 : Below w3.heap.size w3 v3 := hbv2.trans (htv3.mono hbv2.size)
      refine hK.out _ _ (HKP.out _ hbv3) (fun hHeld => ?_)
      clear hK KX
      try simp only [pz]
      refine rd1 10 (by kernel_rfl) rfl fun KX hK => ?_
      go_simp
      (go_at_call 16; refine (hu3 v3 (Below.refl _ _)).mono ?_; rintro e v4 ⟨rfl, htv4⟩)
      have hbv4 : Below w3.heap.size w3 v4 := hbv3.trans (htv4.mono hbv3.size)
      refine hK.out _ _ (HKP.out _ hbv4) (fun hHeld => ?_)
      clear hK KX
      try simp only [pz]
      refine tk 11 ?_
      refine tk 12 ?_
      refine wpAnyH_done (by kernel_rfl) ?_ _
      have hS4 := hHeld
      clear HKP hHeld
      obtain ⟨hb4, ⟨cA0, cA1, cA2⟩, cB0, cB1, cB2⟩ := hS4
      go_wp2_with fail
      refine wrp (S := fun w' => Below w3.heap.size w3 w' ∧ (w'.cell? ⟨w.heap.size, 0, none⟩ = some (.int .i64 x1) ∧ w'.cell? ⟨w.heap.size, 1, none⟩ = some (.int .i64 x2) ∧ w'.cell? ⟨w.heap.size, 2, none⟩ = some (.int .i64 x3)) ∧ w'.cell? ⟨w.heap.size + 1, 0, none⟩ = some (.int .i64 y1) ∧ w'.cell? ⟨w.heap.size + 1, 1, none⟩ = some (.int .i64 y2) ∧ w'.cell? ⟨w.heap.size + 1, 2, none⟩ = some (.int .i64 y3)) (by kernel_rfl) (fun w' hx => HKP0.out w' (hb4.trans (hx.mono hb4.size))) (fun HKP9 hHeld => ?_)
      have HKP := HKP0
      have hbz0 := hHeld.1
      refine tk 0 ?_
      refine tk 1 ?_
      refine tk 3 ?_
      refine tk 5 ?_
      refine rd1 2 (by kernel_rfl) rfl fun KX hK => ?_
      go_simp
      (go_at_call 27; refine (HQ.out.p1 _ hbz0).mono ?_; rintro e z1 ⟨⟨u5, rfl, hu5⟩, htz1⟩)
      have hbz1 : Below w3.heap.size w3 z1 := hbz0.trans (htz1.mono hbz0.size)
      refine hK.out _ _ (HKP.out _ hbz1) (fun hHeld => ?_)
      clear hK KX
      try simp only [pz]
      refine rd1 4 (by kernel_rfl) rfl fun KX hK => ?_
      go_simp
      (go_at_call 16; refine (hu5 z1 (Below.refl _ _)).mono ?_; rintro e z2 ⟨rfl, htz2⟩)
      have hbz2 : Below w3.heap.size w3 z2 := hbz1.trans (htz2.mono hbz1.size)
      refine hK.out _ _ (HKP.out _ hbz2) (fun hHeld => ?_)
      clear hK KX
      try simp only [pz]
      refine tk 6 ?_
      refine tk 7 ?_
      refine tk 8 ?_
      refine tk 9 ?_
      refine tk 11 ?_
      refine tk 13 ?_
      refine rd1 10 (by kernel_rfl) rfl fun KX hK => ?_
      go_simp
      (go_at_call 27; refine (HQ.out.p2 _ hbz2).mono ?_; rintro e z3 ⟨⟨u6, rfl, hu6⟩, htz3⟩)
      have hbz3 : Below w3.heap.size w3 z3 := hbz2.trans (htz3.mono hbz2.size)
      refine hK.out _ _ (HKP.out _ hbz3) (fun hHeld => ?_)
      clear hK KX
      try simp only [pz]
      refine rd1 12 (by kernel_rfl) rfl fun KX hK => ?_
      go_simp
      (go_at_call 16; refine (hu6 z3 (Below.refl _ _)).mono ?_; rintro e z4 ⟨rfl, htz4⟩)
      have hbz4 : Below w3.heap.size w3 z4 := hbz3.trans (htz4.mono hbz3.size)
      refine hK.out _ _ (HKP.out _ hbz4) (fun hHeld => ?_)
      clear hK KX
      try simp only [pz]
      refine tk 14 ?_
      refine tk 15 ?_
      refine tk 16 ?_
      refine rd1 17 (by kernel_rfl) rfl fun KX hK => ?_
      go_simp
      (go_at_call 20; refine (known29_any z4).mono ?_; rintro e z5 ⟨rfl, htz5⟩)
      have hbz5 : Below w3.heap.size w3 z5 := hbz4.trans (htz5.mono hbz4.size)
      refine hK.out _ _ (HKP.out _ hbz5) (fun hHeld => ?_)
      clear hK KX
      try simp only [pz]
      refine tk 18 ?_
      refine tk 19 ?_
      refine wpAnyH_done (by kernel_rfl) ?_ _
      all_goals go_wp2_with fail
      all_goals first | go_ret | go_ret2
      all_goals exact ⟨rfl, HWB.out.trans ((HB3.out.trans (hbz5.mono HB3.out.size)).mono HWB.out.size)⟩
end Go.Proofs.Ytjjpfddgcilliaa
