/-
  LAYER 28's STATEMENT ON THE ORDER IN WHICH CELLS ARE SET, walked.
-/
import Derived.Test.YtbfifgnookpfdaaGra23
set_option linter.unusedSimpArgs false
set_option linter.unusedVariables false
namespace Go.Proofs.Ytbfifgnookpfdaa
open Go.RowKit Go.Shelf Go.Sort Go.Lib Go.Maps

set_option maxRecDepth 100000 in
set_option maxHeartbeats 16000000 in
theorem graphOrder_any (v : Value) (N : List Ac) (w : World) (h : ActsAt w v N) (hbig : N.length ≤ 9223372036854775807) : Calls Try.prog 4 #[v] w fun e w' => e = .returned (.bool true) ∧ Below w.heap.size w w' := by
  obtain ⟨a, cap, rfl, hact⟩ := h
  have HACT := Lib.hid hact
  clear hact
  obtain ⟨L, hL⟩ : ∃ L, L = N.length := ⟨_, rfl⟩
  rw [← hL] at hbig ⊢
  have HLL := Lib.hid hL
  clear hL
  by_cases h20 : L ≤ 20
  case neg =>
    go_enter Try.func4, Try.ntmps4
    go_wp2_with (go_at_call 6; refine (known28_any _).mono ?_; rintro e yk ⟨rfl, hbk⟩)
    all_goals first | go_ret | go_ret2
    exact ⟨rfl, hbk⟩
  obtain ⟨i0, hi, hz0, hz1, hz2⟩ := info_parts Try.infoCe
  have HNEW : Hid (∀ W, Calls Try.prog 7 #[] W fun e w' => ∃ p, e = .returned (.pointer (some ⟨p, 0, none⟩)) ∧ GrAt w' (fun k => W.heap.size ≤ k) p 0 (fun _ => none) ∧ Below W.heap.size W w') := Lib.hid new_any
  go_enter Try.func4, Try.ntmps4
  go_wp2_with (first | (go_at_call 7; refine (HNEW.out _).mono ?_; rintro e w1 ⟨p, rfl, hg1, hb1⟩; have HG1 := Lib.hid hg1; have HB1 := Lib.hid hb1; clear hg1 hb1; go_wp2_with (go_at_call 7; refine (HNEW.out _).mono ?_; rintro e w2 ⟨q, rfl, hg2, hb2⟩; have HG2 := Lib.hid hg2; have HB2 := Lib.hid hb2; clear hg2 hb2)))
  have hB2 : Below w.heap.size w w2 := HB1.out.trans (HB2.out.mono HB1.out.size)
  obtain ⟨Sg, Sh, hgg, hgh, hsg, hsh, hsd⟩ : ∃ Sg Sh : Nat → Prop, GrAt w2 Sg p 0 (fun _ => none) ∧ GrAt w2 Sh q 0 (fun _ => none) ∧ (∀ k, Sg k → w.heap.size ≤ k ∧ k < w2.heap.size) ∧ (∀ k, Sh k → w.heap.size ≤ k ∧ k < w2.heap.size) ∧ ∀ k, Sg k → ¬ Sh k :=
    ⟨_, _, HG1.out.bound.kept (Kept.of_below HB2.out), HG2.out.bound, fun k hk => ⟨hk.1, Nat.lt_of_lt_of_le hk.2 HB2.out.size⟩, fun k hk => ⟨Nat.le_trans HB1.out.size hk.1, hk.2⟩, fun k hk hk' => by have := hk.2; have := hk'.1; omega⟩
  have HGG := Lib.hid hgg
  have HGH := Lib.hid hgh
  have HSG := Lib.hid hsg
  have HSH := Lib.hid hsh
  have HSD := Lib.hid hsd
  have HBW := Lib.hid hB2
  clear hB2 hgg hgh hsg hsh hsd HG1 HG2 HB1 HB2 HNEW
  go_loopw [5, 6] (fun va i wr => ∃ k : Nat, k ≤ L ∧ i = .int .i64 k ∧ wr.ownsRow w2.heap.size 32 3 va k (flC (kys N k)) ∧ (kys N k).Nodup ∧ (∀ j (hj : j < N.length), j < k → N[j].2.2.length ≤ 40) ∧ Below w2.heap.size w2 wr) (fun _ i _ => L - (intOf i).toNat)
  case atStart => exact ⟨0, by omega, rfl, World.ownsRow_nil _ _ _ _, List.Pairwise.nil, fun j _ hj => absurd hj (by omega), Below.refl _ _⟩
  case round =>
    obtain ⟨k, hk, rfl, hrow, hnd, h40, hR⟩ := hrel
    have hBR : Below w.heap.size w wr := HBW.out.trans (hR.mono HBW.out.size)
    have HROW := Lib.hid hrow
    have HND := Lib.hid hnd
    have H40 := Lib.hid h40
    have HR := Lib.hid hR
    have HBR := Lib.hid hBR
    clear hrow hnd h40 hR hBR
    have HCS : Hid (CsAt wr u5 (kys N k) ∧ ∀ b, blkOf u5 = some b → w2.heap.size ≤ b) := Lib.hid (CsAt.of_owns (by rw [kys_len (by rw [← HLL.out]; exact hk)]; exact HROW.out))
    by_cases hlt : k < L
    · have hkl : k < N.length := by rw [← HLL.out]; exact hlt
      have HKS := Lib.hid (kys_succ N k hkl)
      have HKN := Lib.hid (kys_nodup N k hkl HND.out)
      have HKL := Lib.hid hkl
      obtain ⟨g, o, u, rfl, hg, c0, c1, c2, c3, c4, hlu, hox, hoy⟩ := HACT.out k hkl
      generalize hz : N[k] = z at *
      have HZ := Lib.hid hz
      clear hz
      obtain ⟨kd, ⟨x1, x2, x3⟩, y⟩ := z
      dsimp only at c0 c1 c2 c3 c4 hlu hox hoy
      obtain ⟨a2, cap2, rfl⟩ := hlu.shape
      have d1 := belK HBR.out c1 hg
      have d2 := belK HBR.out c2 hg
      have d3 := belK HBR.out c3 hg
      have d4 := belK HBR.out c4 hg
      clear c0 c1 c2 c3 c4
      clear hkl
      obtain ⟨r, hr⟩ : ∃ r, decide ((x1, x2, x3) ∈ kys N k) = r := ⟨_, rfl⟩
      have HHAS : Hid (∀ W, Below wr.heap.size wr W → Calls Try.prog 14 #[u5, .agg #[.int .i64 x1, .int .i64 x2, .int .i64 x3]] W fun e w' => e = .returned (.bool r) ∧ Below W.heap.size W w') := Lib.hid fun W hW => by
        have := refHas_any u5 (kys N k) (x1, x2, x3) W (HCS.out.1.below hW) (by rw [kys_len (by rw [← HLL.out]; exact hk)]; omega)
        rwa [hr] at this
      have HR2 := Lib.hid hr
      have HG := Lib.hid (Nat.lt_of_lt_of_le hg HBR.out.size)
      clear hr hg
      obtain ⟨m, hm⟩ : ∃ m, m = y.length := ⟨_, rfl⟩
      rw [← hm] at d4
      have HM := Lib.hid hm
      clear hm hlu hox hoy
      cases r with
      | true =>
        go_wp2_with (first | (go_at_call 14; refine (HHAS.out _ (Below.refl _ _)).mono ?_; rintro e y1 ⟨rfl, hbh⟩; clear d1 d2 d3 d4) | (go_at_call 6; refine (known28_any _).mono ?_; rintro e yk ⟨rfl, hbk⟩))
        all_goals first | go_ret | go_ret2
        exact ⟨rfl, HBR.out.trans ((hbh.trans (hbk.mono hbh.size)).mono HBR.out.size)⟩
      | false =>
        by_cases h40 : m ≤ 40
        · have hk1 : k + 1 ≤ maxLen := by unfold maxLen; omega
          have hk3 : (k + 1) * 24 ≤ 140737488355328 := by omega
          go_wp2_with (first | (go_at_call 14; refine (HHAS.out _ (Below.refl _ _)).mono ?_; rintro e y1 ⟨rfl, hbh⟩; have e1 := belK hbh d1 HG.out; have e2 := belK hbh d2 HG.out; have e3 := belK hbh d3 HG.out; have e4 := belK hbh d4 HG.out; have hO := row_below HROW.out hbh; have HW1 := Lib.hid (fun o : Obj => show w2.heap.size ≤ (y1.alloc o).heap.size by have := HR.out.size; have := hbh.size; simp; omega); clear d1 d2 d3 d4) | (at_builtin; refine wpList_append_own _ rfl _ _ 30 rfl w2.heap.size 32 i0 (.agg #[.int .i64 0, .int .i64 0, .int .i64 0]) 3 24 Try.underlying30 hi hz0 hz1 hz2 rfl (by decide) _ _ _ rfl (hO.alloc _) ⟨y1.heap.size, 0, none⟩ 1 1 [.int .i64 x1, .int .i64 x2, .int .i64 x3] rfl rfl (cell_three _ _ _ _ _) (three_one _ _ _) hk1 hk3 (HW1.out _) ?_; intro v1 w3 hown1 hgrow1 _))
          go_roundw
          case rel =>
            refine ⟨k + 1, by omega, by go_num, ?_, HKN.out ?_, fun j hj hjk => ?_, ?_⟩
            · rw [HKS.out, flC_snoc]; exact hown1
            · exact of_decide_eq_false HR2.out
            · by_cases ej : j = k
              · subst ej; exact Nat.le_trans (Nat.le_of_eq (congrArg (fun z : Ac => z.2.2.length) HZ.out)) (by rw [HM.out] at h40; exact h40)
              · exact H40.out j hj (by omega)
            · exact ((HR.out.trans (hbh.mono HR.out.size)).alloc (Nat.le_trans HR.out.size hbh.size) _).grown hgrow1 (HW1.out _) (fun q hq => (hO.lt q hq).1)
          case measure => simp [intOf]; omega
        · go_wp2_with (first | (go_at_call 14; refine (HHAS.out _ (Below.refl _ _)).mono ?_; rintro e y1 ⟨rfl, hbh⟩; have e1 := belK hbh d1 HG.out; have e2 := belK hbh d2 HG.out; have e3 := belK hbh d3 HG.out; have e4 := belK hbh d4 HG.out; clear d1 d2 d3 d4) | (go_at_call 6; refine (known28_any _).mono ?_; rintro e yk ⟨rfl, hbk⟩))
          all_goals first | go_ret | go_ret2
          exact ⟨rfl, HBR.out.trans ((hbh.trans (hbk.mono hbh.size)).mono HBR.out.size)⟩
    · obtain rfl : k = L := by omega
      clear hlt
      have HV := HCS.out
      obtain ⟨hva, hvb⟩ := HV
      have hnall : (N.map fun a => a.2.1).Nodup := by have := HND.out; rw [HLL.out, kys_all] at this; exact this
      rw [show kys N k = N.map (fun a => a.2.1) by rw [← kys_all, ← HLL.out]] at hva
      have HVA := Lib.hid hva
      have HVB := Lib.hid hvb
      have HREV := Lib.hid (putAll_rev N (fun _ => none) hnall)
      have H40' : Hid (∀ j (hj : j < N.length), N[j].2.2.length ≤ 40) := Lib.hid fun j hj => H40.out j hj (by rw [HLL.out]; exact hj)
      have HGG3 := Lib.hid (HGG.out.kept (Kept.of_below HR.out))
      have HGH3 := Lib.hid (HGH.out.kept (Kept.of_below HR.out))
      have HSZ := Lib.hid HR.out.size
      clear hva hvb hnall HCS HND H40 HROW hi hz0 hz1 hz2
      generalize wr = w3 at *
      go_wp2_with fail
      go_loopw [7] (fun i wr => ∃ k' : Nat, k' ≤ k ∧ i = .int .i64 k' ∧ ∃ Tg Th : Nat → Prop, GrAt wr Tg p (41 * k') (putAll (N.take k') fun _ => none) ∧ GrAt wr Th q (41 * k') (putAll (N.reverse.take k') fun _ => none) ∧ (∀ j, Tg j → (Sg j ∨ w3.heap.size ≤ j) ∧ j < wr.heap.size) ∧ (∀ j, Th j → (Sh j ∨ w3.heap.size ≤ j) ∧ j < wr.heap.size) ∧ (∀ j, Tg j → ¬ Th j) ∧ Trn (fun j => Sg j ∨ Sh j) w3 wr) (fun i _ => k - (intOf i).toNat)
      case atStart => exact ⟨0, by omega, rfl, Sg, Sh, HGG3.out, HGH3.out, fun j hj => ⟨Or.inl hj, Nat.lt_of_lt_of_le (HSG.out j hj).2 HSZ.out⟩, fun j hj => ⟨Or.inl hj, Nat.lt_of_lt_of_le (HSH.out j hj).2 HSZ.out⟩, HSD.out, Trn.refl _ _⟩
      case round =>
        obtain ⟨k1, hk1, rfl, Tg, Th, hgT, hhT, hTg, hTh, hTd, hTr⟩ := hrel
        have HGT := Lib.hid hgT
        have HHT := Lib.hid hhT
        have HTG := Lib.hid hTg
        have HTH := Lib.hid hTh
        have HTD := Lib.hid hTd
        have HTR := Lib.hid hTr
        have hBw : Below w.heap.size w wr := HBR.out.trans (hTr.below HBR.out.size fun j hj => by
          rcases hj with hj | hj
          · exact (HSG.out j hj).1
          · exact (HSH.out j hj).1)
        have HB := Lib.hid hBw
        clear hgT hhT hTg hTh hTd hTr hBw
        by_cases hlt : k1 < k
        · have hkl : k1 < N.length := by rw [← HLL.out]; exact hlt
          have HPA := Lib.hid (show putAll (N.take (k1 + 1)) (fun _ => none) = _ by rw [take_snoc N k1 hkl, putAll_snoc])
          have hy40 := H40'.out k1 hkl
          have hnT : ∀ j, j < w.heap.size → ¬ Tg j := fun j hj ht => by
            rcases (HTG.out j ht).1 with h | h
            · have := (HSG.out j h).1; omega
            · have := HBR.out.size; omega
          obtain ⟨g, o, u, rfl, hg, c0, c1, c2, c3, c4, hlu, hox, hoy⟩ := HACT.out k1 hkl
          generalize hz : N[k1] = z at *
          have HZ := Lib.hid hz
          clear hz
          obtain ⟨kd, ⟨x1, x2, x3⟩, y⟩ := z
          dsimp only at c0 c1 c2 c3 c4 hlu hox hoy
          obtain ⟨a2, cap2, rfl⟩ := hlu.shape
          have d1 := belK HB.out c1 hg
          have d2 := belK HB.out c2 hg
          have d3 := belK HB.out c3 hg
          have d4 := belK HB.out c4 hg
          clear c0 c1 c2 c3 c4
          dsimp only at HPA hy40
          have hgw := Nat.lt_of_lt_of_le hg HB.out.size
          have HSET : Hid (Calls Try.prog 11 #[.pointer (some ⟨p, 0, none⟩), .agg #[.int .i64 x1, .int .i64 x2, .int .i64 x3], .slice a2 y.length cap2] wr.drew fun e w' => e = .returned (.int .i64 0) ∧ GrAt w' (fun j => Tg j ∨ wr.heap.size ≤ j) p (41 * (k1 + 1)) (putAll (N.take (k1 + 1)) fun _ => none) ∧ Trn Tg wr w') := Lib.hid (by
            refine (set_lst p (41 * k1) Tg _ (x1, x2, x3) hox _ y w wr.drew (HGT.out.kept (Kept.of_below (Below.refl _ _).drew)) (fun j hj => (HTG.out j hj).2) hlu HB.out.drew (fun j hj => Nat.le_of_not_lt fun hl => hnT j hl hj) hoy (by omega)).mono ?_
            rintro e w' ⟨rfl, h1, h2⟩
            rw [HPA.out]
            exact ⟨rfl, h1.mono (fun _ _ h => h) (by omega), ⟨h2.os, h2.tape, h2.output, h2.size, h2.block⟩⟩)
          have HNT := Lib.hid (hnT g hg)
          have HGW := Lib.hid hgw
          clear hy40 hnT hlu hox hoy hg hgw HPA
          generalize y.length = m at *
          go_wp2_with fail
          refine wrt (T := Tg) (S := fun w' => Trn Tg wr w' ∧ (w'.cell? ⟨g, o + k1 * 5 + 1, none⟩ = some (.int .i64 x1) ∧ w'.cell? ⟨g, o + k1 * 5 + 2, none⟩ = some (.int .i64 x2) ∧ w'.cell? ⟨g, o + k1 * 5 + 3, none⟩ = some (.int .i64 x3)) ∧ w'.cell? ⟨g, o + k1 * 5 + 4, none⟩ = some (.slice a2 m cap2)) (by kernel_rfl) (fun w' hx => ⟨hx, ⟨hx.cell d1 HGW.out HNT.out, hx.cell d2 HGW.out HNT.out, hx.cell d3 HGW.out HNT.out⟩, hx.cell d4 HGW.out HNT.out⟩) (fun HKP hHeld => ?_)
          clear d1 d2 d3 d4
          refine tk 0 ?_
          refine tk 1 ?_
          refine tk 2 ?_
          refine tk 3 ?_
          refine tk 4 ?_
          refine tk 5 ?_
          refine tk 6 ?_
          refine tk 7 ?_
          refine tk 8 ?_
          refine tk 9 ?_
          refine tk 10 ?_
          refine rd1 11 (by kernel_rfl) rfl fun K hK => ?_
          go_simp
          (go_at_call 11; refine HSET.out.mono ?_; rintro e y4 ⟨rfl, hG4, hT4⟩)
          try (go_wp2_with fail)
          refine hK.out _ _ (HKP.out y4 hT4) (fun hHeld => ?_)
          clear hK K
          try simp only [pz]
          refine wpAnyH_done (by kernel_rfl) ?_ _
          have HG4 := Lib.hid hG4.bound
          have HH4 := Lib.hid (HHT.out.kept (Kept.of_trn hT4 fun j h1 h2 => HTD.out j h2 h1))
          have HT4 := Lib.hid hT4
          have HB4 : Hid (Below w.heap.size w y4) := Lib.hid (HB.out.trans (hT4.below HB.out.size fun j hj => by
            rcases (HTG.out j hj).1 with h | h
            · exact (HSG.out j h).1
            · have := HBR.out.size; omega))
          clear hHeld HKP hG4 hT4 HZ HSET HNT HGW
          obtain ⟨k2, hk2⟩ : ∃ k2, k2 + 1 + k1 = k := ⟨k - 1 - k1, by omega⟩
          have hkl2 : k2 < N.length := by rw [← HLL.out]; omega
          go_wp2_with fail
          rw [show (k : Int) - 1 - (k1 : Int) = ((k2 : Nat) : Int) by omega]
          have hkr : k1 < N.reverse.length := by rw [List.length_reverse, ← HLL.out]; exact hlt
          have hrk : N.reverse[k1] = N[k2] := by
            rw [List.getElem_reverse]
            have e : N.length - 1 - k1 = k2 := by rw [← HLL.out]; omega
            simp only [e]
          have HPA := Lib.hid (show putAll (N.reverse.take (k1 + 1)) (fun _ => none) = putG (putAll (N.reverse.take k1) fun _ => none) N[k2].2.1 (onc N[k2].2.2) by rw [take_snoc N.reverse k1 hkr, putAll_snoc, hrk])
          clear hrk hkr
          have hy40 := H40'.out k2 hkl2
          have hnT : ∀ j, j < w.heap.size → ¬ Th j := fun j hj ht => by
            rcases (HTH.out j ht).1 with h | h
            · have := (HSH.out j h).1; omega
            · have := HBR.out.size; omega
          obtain ⟨g', o', u, he, hg, c0, c1, c2, c3, c4, hlu, hox, hoy⟩ := HACT.out k2 hkl2
          have heg : g' = g := by cases he; rfl
          have heo : o' = o := by cases he; rfl
          rw [heg] at hg
          rw [heg, heo] at c1 c2 c3 c4
          clear heg heo he c0 g' o'
          generalize hz : N[k2] = z at *
          clear hz
          obtain ⟨kd', ⟨z1, z2, z3⟩, y'⟩ := z
          dsimp only at c1 c2 c3 c4 hlu hox hoy HPA hy40
          obtain ⟨a3, cap3, rfl⟩ := hlu.shape
          have d1 := belK HB4.out c1 hg
          have d2 := belK HB4.out c2 hg
          have d3 := belK HB4.out c3 hg
          have d4 := belK HB4.out c4 hg
          clear c1 c2 c3 c4
          have hgw := Nat.lt_of_lt_of_le hg HB4.out.size
          have HSET : Hid (Calls Try.prog 11 #[.pointer (some ⟨q, 0, none⟩), .agg #[.int .i64 z1, .int .i64 z2, .int .i64 z3], .slice a3 y'.length cap3] y4.drew fun e w' => e = .returned (.int .i64 0) ∧ GrAt w' (fun j => Th j ∨ y4.heap.size ≤ j) q (41 * (k1 + 1)) (putAll (N.reverse.take (k1 + 1)) fun _ => none) ∧ Trn Th y4 w') := Lib.hid (by
            refine (set_lst q (41 * k1) Th _ (z1, z2, z3) hox _ y' w y4.drew (HH4.out.kept (Kept.of_below (Below.refl _ _).drew)) (fun j hj => Nat.lt_of_lt_of_le (HTH.out j hj).2 HT4.out.size) hlu HB4.out.drew (fun j hj => Nat.le_of_not_lt fun hl => hnT j hl hj) hoy (by omega)).mono ?_
            rintro e w' ⟨rfl, h1, h2⟩
            rw [HPA.out]
            exact ⟨rfl, h1.mono (fun _ _ h => h) (by omega), ⟨h2.os, h2.tape, h2.output, h2.size, h2.block⟩⟩)
          have HNT := Lib.hid (hnT g hg)
          have HGW := Lib.hid hgw
          clear hy40 hnT hlu hox hoy hg hgw HPA
          generalize y'.length = m' at *
          refine wrt (T := Th) (S := fun w' => Trn Th y4 w' ∧ (w'.cell? ⟨g, o + k2 * 5 + 1, none⟩ = some (.int .i64 z1) ∧ w'.cell? ⟨g, o + k2 * 5 + 2, none⟩ = some (.int .i64 z2) ∧ w'.cell? ⟨g, o + k2 * 5 + 3, none⟩ = some (.int .i64 z3)) ∧ w'.cell? ⟨g, o + k2 * 5 + 4, none⟩ = some (.slice a3 m' cap3)) (by kernel_rfl) (fun w' hx => ⟨hx, ⟨hx.cell d1 HGW.out HNT.out, hx.cell d2 HGW.out HNT.out, hx.cell d3 HGW.out HNT.out⟩, hx.cell d4 HGW.out HNT.out⟩) (fun HKP hHeld => ?_)
          clear d1 d2 d3 d4
          have hk2k : k2 < k := by omega
          refine tk 0 ?_
          refine tk 1 ?_
          refine tk 2 ?_
          refine tk 3 ?_
          refine tk 4 ?_
          refine tk 5 ?_
          refine tk 6 ?_
          refine tk 7 ?_
          refine tk 8 ?_
          refine tk 9 ?_
          refine tk 10 ?_
          refine rd1 11 (by kernel_rfl) rfl fun K hK => ?_
          go_simp
          (go_at_call 11; refine HSET.out.mono ?_; rintro e y5 ⟨rfl, hG5, hT5⟩)
          try (go_wp2_with fail)
          refine hK.out _ _ (HKP.out y5 hT5) (fun hHeld => ?_)
          clear hK K
          try simp only [pz]
          refine wpAnyH_done (by kernel_rfl) ?_ _
          have HH5 := Lib.hid hG5.bound
          have HD5 : Hid (∀ j, (Tg j ∨ wr.heap.size ≤ j) ∧ j < y4.heap.size → ¬ Th j) := Lib.hid fun j h1 h2 => by
            rcases h1.1 with h | h
            · exact HTD.out j h h2
            · have := (HTH.out j h2).2; omega
          have HG5 := Lib.hid (HG4.out.kept (Kept.of_trn hT5 HD5.out))
          have HT5 := Lib.hid hT5
          clear hHeld HKP hG5 hT5 HSET HNT HGW
          go_wp2_with fail
          go_roundw
          case rel =>
            refine ⟨k1 + 1, by omega, by go_num, _, _, HG5.out, HH5.out, fun j hj => ?_, fun j hj => ?_, fun j h1 h2 => ?_, ?_⟩
            · refine ⟨?_, Nat.lt_of_lt_of_le hj.2 HT5.out.size⟩
              rcases hj.1 with h | h
              · exact (HTG.out j h).1
              · exact Or.inr (Nat.le_trans HTR.out.size h)
            · refine ⟨?_, hj.2⟩
              rcases hj.1 with h | h
              · exact (HTH.out j h).1
              · exact Or.inr (Nat.le_trans (Nat.le_trans HTR.out.size HT4.out.size) h)
            · rcases h2.1 with h | h
              · exact HD5.out j h1 h
              · have := h1.2; omega
            · have t1 : Trn (fun j => Sg j ∨ Sh j) w3 y4 := HTR.out.trans (HT4.out.mono fun j _ hj => by
                rcases (HTG.out j hj).1 with h | h
                · exact Or.inl (Or.inl h)
                · exact Or.inr h)
              exact t1.trans (HT5.out.mono fun j _ hj => by
                rcases (HTH.out j hj).1 with h | h
                · exact Or.inl (Or.inr h)
                · exact Or.inr h)
          case measure => simp [intOf]; omega
        · obtain rfl : k1 = k := by omega
          clear hlt
          have hG4 : GrAt wr Tg p (41 * k1) (putAll N fun _ => none) := by have := HGT.out; rw [HLL.out, List.take_length] at this; rwa [HLL.out]
          have hH4 : GrAt wr Th q (41 * k1) (putAll N fun _ => none) := by have := HHT.out; rw [HLL.out, List.take_of_length_le (by rw [List.length_reverse]; exact Nat.le_refl _), HREV.out] at this; rwa [HLL.out]
          have hva : CsAt wr u5 (N.map fun a => a.2.1) := HVA.out.kept HTR.out.size fun b cs t f hb hh => HTR.out.block b (Array.getElem?_eq_some_iff.1 hh).1 fun hs => by
            have := HVB.out b hb
            rcases hs with h | h
            · have := (HSG.out b h).2; omega
            · have := (HSH.out b h).2; omega
          have hksok : ∀ x ∈ N.map (fun a => a.2.1), okC x := fun x hx => by
            obtain ⟨a, ha, rfl⟩ := List.mem_map.1 hx
            obtain ⟨j, hj, rfl⟩ := List.getElem_of_mem ha
            obtain ⟨_, _, _, _, _, _, _, _, _, _, _, h, _⟩ := HACT.out j hj
            exact h
          have hedg : ∀ x z, edge (putAll N fun _ => none) x z = true → z ∈ N.map fun a => a.2.1 := fun x z h => edge_keys h
          have hsom : ∀ z, (putAll N (fun _ => none) z).isSome = true → z ∈ N.map fun a => a.2.1 := fun z h => some_keys h
          have hkl : (N.map fun a => a.2.1).length = k1 := by rw [List.length_map]; exact HLL.out.symm
          generalize N.map (fun a => a.2.1) = ks at hva hksok hedg hsom hkl
          generalize putAll N (fun _ => none) = Gf at hG4 hH4 hedg hsom
          obtain ⟨a5, cap5, rfl, _⟩ := hva.shape
          rw [hkl] at hva ⊢
          have hbn : 41 * k1 * 24 ≤ 140737488355328 := by omega
          have HN1 : Hid (∀ W x, okC x → Below wr.heap.size wr W → Calls Try.prog 16 #[.pointer (some ⟨p, 0, none⟩), mkC x] W fun e w' => (∃ v, e = .returned v ∧ CsAt w' v (lOf Gf x)) ∧ Below W.heap.size W w') := Lib.hid fun W x hx hW => (needs_any p _ Tg Gf x hx W (hG4.kept (Kept.of_below hW)) hbn).mono (by rintro e w' ⟨⟨v, rfl, hv⟩, hb⟩; exact ⟨⟨v, rfl, hv.1⟩, hb⟩)
          have HN2 : Hid (∀ W x, okC x → Below wr.heap.size wr W → Calls Try.prog 16 #[.pointer (some ⟨q, 0, none⟩), mkC x] W fun e w' => (∃ v, e = .returned v ∧ CsAt w' v (lOf Gf x)) ∧ Below W.heap.size W w') := Lib.hid fun W x hx hW => (needs_any q _ Th Gf x hx W (hH4.kept (Kept.of_below hW)) hbn).mono (by rintro e w' ⟨⟨v, rfl, hv⟩, hb⟩; exact ⟨⟨v, rfl, hv.1⟩, hb⟩)
          have HF1 : Hid (∀ W x, okC x → Below wr.heap.size wr W → Calls Try.prog 15 #[.pointer (some ⟨p, 0, none⟩), mkC x] W fun e w' => (∃ v, e = .returned v ∧ CsAt w' v (oncOf ks (edge Gf x))) ∧ Below W.heap.size W w') := Lib.hid fun W x hx hW => (for_any p _ Tg Gf x hx W (hG4.kept (Kept.of_below hW)) hbn).mono (fun e w' h => told_of h ks fun z hz => hedg x z hz)
          have HF2 : Hid (∀ W x, okC x → Below wr.heap.size wr W → Calls Try.prog 15 #[.pointer (some ⟨q, 0, none⟩), mkC x] W fun e w' => (∃ v, e = .returned v ∧ CsAt w' v (oncOf ks (edge Gf x))) ∧ Below W.heap.size W w') := Lib.hid fun W x hx hW => (for_any q _ Th Gf x hx W (hH4.kept (Kept.of_below hW)) hbn).mono (fun e w' h => told_of h ks fun z hz => hedg x z hz)
          have HC1 : Hid (∀ W, Below wr.heap.size wr W → Calls Try.prog 18 #[.pointer (some ⟨p, 0, none⟩)] W fun e w' => (∃ v, e = .returned v ∧ CsAt w' v (oncOf ks fun z => (Gf z).isSome)) ∧ Below W.heap.size W w') := Lib.hid fun W hW => (cells_any p _ Tg Gf W (hG4.kept (Kept.of_below hW)) hbn).mono (fun e w' h => told_of h ks fun z hz => hsom z hz)
          have HC2 : Hid (∀ W, Below wr.heap.size wr W → Calls Try.prog 18 #[.pointer (some ⟨q, 0, none⟩)] W fun e w' => (∃ v, e = .returned v ∧ CsAt w' v (oncOf ks fun z => (Gf z).isSome)) ∧ Below W.heap.size W w') := Lib.hid fun W hW => (cells_any q _ Th Gf W (hH4.kept (Kept.of_below hW)) hbn).mono (fun e w' h => told_of h ks fun z hz => hsom z hz)
          have HLN : Hid (∀ x, (lOf Gf x).length ≤ 5864062014805) := Lib.hid fun x => by
            obtain ⟨_, _, _, _, _, _, hN, _⟩ := hG4
            obtain ⟨_, _, _, h⟩ := hN.look x
            omega
          have HLO : Hid (∀ f, (oncOf ks f).length ≤ 5864062014805) := Lib.hid fun f => by have := oncOf_len ks f; omega
          have HVA4 := Lib.hid hva
          have HOK := Lib.hid hksok
          have HKL := Lib.hid hkl
          clear hva hksok hedg hsom hkl hG4 hH4 hbn HVA HVB HREV H40' HGG3 HGH3 HTG HTH HTD HTR HGT HHT HGG HGH HSG HSH HSD HBW HBR HR HACT HSZ HLL
          generalize wr = w4 at *
          unfold mkC at HN1 HN2 HF1 HF2
          go_wp2_with fail
          go_loopw [9] (fun i wr => ∃ k2 : Nat, k2 ≤ k1 ∧ i = .int .i64 k2 ∧ Below w4.heap.size w4 wr) (fun i _ => k1 - (intOf i).toNat)
          case atStart => exact ⟨0, by omega, rfl, Below.refl _ _⟩
          case round =>
            obtain ⟨k2, hk2, rfl, hR⟩ := hrel
            have HR := Lib.hid hR
            clear hR
            by_cases hlt : k2 < k1
            · have hkl : k2 < ks.length := by rw [HKL.out]; exact hlt
              have hc := HVA4.out.below HR.out
              rw [← HKL.out] at hc
              obtain ⟨g, o, rfl, hg, c0, c1, c2⟩ := hc.at k2 hkl
              have hox := HOK.out ks[k2] (List.getElem_mem hkl)
              clear hc
              generalize hz : ks[k2] = z at *
              clear hz
              obtain ⟨x1, x2, x3⟩ := z
              have HOX := Lib.hid hox
              dsimp only at c0 c1 c2
              clear hox hkl
              go_wp2_with fail
              refine wrp (S := fun w' => Below wr.heap.size wr w' ∧ w'.cell? ⟨g, o + k2 * 3, none⟩ = some (.int .i64 x1) ∧ w'.cell? ⟨g, o + k2 * 3 + 1, none⟩ = some (.int .i64 x2) ∧ w'.cell? ⟨g, o + k2 * 3 + 2, none⟩ = some (.int .i64 x3)) (by kernel_rfl) (fun w' hx => ⟨hx, belK hx c0 hg, belK hx c1 hg, belK hx c2 hg⟩) (fun HKP hHeld => ?_)
              clear c0 c1 c2 hg
              refine tk 0 ?_
              refine tk 1 ?_
              refine tk 2 ?_
              refine tk 3 ?_
              refine tk 4 ?_
              refine tk 6 ?_
              refine tk 7 ?_
              refine tk 8 ?_
              refine tk 9 ?_
              refine tk 10 ?_
              refine rd1 5 (by kernel_rfl) rfl fun K hK => ?_
              go_simp
              (go_at_call 16; refine (HN1.out _ _ HOX.out (HR.out.trans (hHeld.1.mono HR.out.size))).mono ?_; rintro e ya ⟨⟨v1, rfl, hv1⟩, hba⟩)
              try (go_wp2_with fail)
              refine hK.out _ _ (HKP.out ya (hHeld.1.trans (hba.mono hHeld.1.size))) (fun hHeld => ?_)
              clear hK K
              try simp only [pz]
              refine rd1 11 (by kernel_rfl) rfl fun K hK => ?_
              go_simp
              (go_at_call 16; refine (HN2.out _ _ HOX.out (HR.out.trans (hHeld.1.mono HR.out.size))).mono ?_; rintro e yb ⟨⟨v2, rfl, hv2⟩, hbb⟩)
              try (go_wp2_with fail)
              refine hK.out _ _ (HKP.out yb (hHeld.1.trans (hbb.mono hHeld.1.size))) (fun hHeld => ?_)
              clear hK K
              try simp only [pz]
              have hv1' := hv1.below hbb
              have hv2' := hv2
              clear hv1 hv2 hba hbb
              refine rd1 12 (by kernel_rfl) rfl fun K hK => ?_
              go_simp
              (go_at_call 17; refine (refCells_same _ _ _ _ hv1' hv2' (HLN.out _)).mono ?_; rintro e yc ⟨rfl, hbc⟩)
              try (go_wp2_with fail)
              refine hK.out _ _ (HKP.out yc (hHeld.1.trans (hbc.mono hHeld.1.size))) (fun hHeld => ?_)
              clear hK K
              try simp only [pz]
              clear hv1' hv2' hbc
              refine tk 13 ?_
              refine tk 14 ?_
              refine tk 15 ?_
              refine tk 16 ?_
              refine tk 17 ?_
              refine tk 18 ?_
              refine tk 19 ?_
              refine tk 21 ?_
              refine tk 22 ?_
              refine tk 23 ?_
              refine tk 24 ?_
              refine tk 25 ?_
              refine rd1 20 (by kernel_rfl) rfl fun K hK => ?_
              go_simp
              (go_at_call 15; refine (HF1.out _ _ HOX.out (HR.out.trans (hHeld.1.mono HR.out.size))).mono ?_; rintro e ya ⟨⟨v1, rfl, hv1⟩, hba⟩)
              try (go_wp2_with fail)
              refine hK.out _ _ (HKP.out ya (hHeld.1.trans (hba.mono hHeld.1.size))) (fun hHeld => ?_)
              clear hK K
              try simp only [pz]
              refine rd1 26 (by kernel_rfl) rfl fun K hK => ?_
              go_simp
              (go_at_call 15; refine (HF2.out _ _ HOX.out (HR.out.trans (hHeld.1.mono HR.out.size))).mono ?_; rintro e yb ⟨⟨v2, rfl, hv2⟩, hbb⟩)
              try (go_wp2_with fail)
              refine hK.out _ _ (HKP.out yb (hHeld.1.trans (hbb.mono hHeld.1.size))) (fun hHeld => ?_)
              clear hK K
              try simp only [pz]
              have hv1' := hv1.below hbb
              have hv2' := hv2
              clear hv1 hv2 hba hbb
              refine rd1 27 (by kernel_rfl) rfl fun K hK => ?_
              go_simp
              (go_at_call 17; refine (refCells_same _ _ _ _ hv1' hv2' (HLO.out _)).mono ?_; rintro e yc ⟨rfl, hbc⟩)
              try (go_wp2_with fail)
              refine hK.out _ _ (HKP.out yc (hHeld.1.trans (hbc.mono hHeld.1.size))) (fun hHeld => ?_)
              clear hK K
              try simp only [pz]
              clear hv1' hv2' hbc
              refine tk 28 ?_
              refine tk 29 ?_
              refine wpAnyH_done (by kernel_rfl) ?_ _
              clear HKP
              go_wp2_with fail
              go_roundw
              case rel => exact ⟨k2 + 1, by omega, by go_num, HR.out.trans (hHeld.1.mono HR.out.size)⟩
              case measure => simp [intOf]; omega
            · obtain rfl : k2 = k1 := by omega
              clear hlt
              go_wp2_with (go_at_call 18; refine (HC1.out _ HR.out).mono ?_; rintro e ya ⟨⟨v1, rfl, hv1⟩, hba⟩; have hra := HR.out.trans (hba.mono HR.out.size); have HRA := Lib.hid hra; have HV1 := Lib.hid hv1; clear hra hv1 hba; go_wp2_with (go_at_call 18; refine (HC2.out _ HRA.out).mono ?_; rintro e yb ⟨⟨v2, rfl, hv2⟩, hbb⟩; have hrb := HRA.out.trans (hbb.mono HRA.out.size); have HRB := Lib.hid hrb; have HV1b := Lib.hid (HV1.out.below hbb); have HV2 := Lib.hid hv2; clear hrb hv2 hbb; go_wp2_with (first | (go_at_call 17; refine (refCells_same _ _ _ _ HV1b.out HV2.out (HLO.out _)).mono ?_; rintro e yc ⟨rfl, hbc⟩; have HRC := Lib.hid (HRB.out.trans (hbc.mono HRB.out.size)); clear hbc) | (go_at_call 6; refine (known28_any _).mono ?_; rintro e yk ⟨rfl, hbk⟩))))
              all_goals first | go_ret | go_ret2
              exact ⟨rfl, HB.out.trans ((HRC.out.trans (hbk.mono HRC.out.size)).mono HB.out.size)⟩
end Go.Proofs.Ytbfifgnookpfdaa
