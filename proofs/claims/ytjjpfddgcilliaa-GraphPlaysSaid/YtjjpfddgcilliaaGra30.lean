/-
  GRAPHS, the document's side: For and Cells.
-/
import Derived.Test.YtjjpfddgcilliaaGra29
set_option linter.unusedSimpArgs false
set_option linter.unusedVariables false
namespace Go.Proofs.Ytjjpfddgcilliaa
open Go.RowKit Go.Shelf Go.Sort Go.Lib Go.Maps
set_option maxRecDepth 100000

/-- the cells of the first k rows. -/
def rks (R : List Rw) (k : Nat) : List Ce := (R.take k).map fun r => r.1
theorem rks_succ (R : List Rw) (k : Nat) (h : k < R.length) : rks R (k + 1) = rks R k ++ [R[k].1] := by unfold rks; rw [take_snoc R k h, List.map_append]; rfl
theorem rks_all (R : List Rw) : rks R R.length = R.map fun r => r.1 := by unfold rks; rw [List.take_length]
theorem rks_len (R : List Rw) (k : Nat) : (rks R k).length ≤ R.length := by unfold rks; rw [List.length_map, List.length_take]; omega
/-- .. of those that need x. -/
def rfs (R : List Rw) (x : Ce) (k : Nat) : List Ce := ((R.take k).filter fun r => decide (x ∈ r.2)).map fun r => r.1
theorem rfs_yes (R : List Rw) (x : Ce) (k : Nat) (h : k < R.length) (hx : decide (x ∈ R[k].2) = true) : rfs R x (k + 1) = rfs R x k ++ [R[k].1] := by
  unfold rfs; rw [take_snoc R k h, List.filter_append, List.map_append]
  simp [List.filter, hx]
theorem rfs_no (R : List Rw) (x : Ce) (k : Nat) (h : k < R.length) (hx : decide (x ∈ R[k].2) = false) : rfs R x (k + 1) = rfs R x k := by
  unfold rfs; rw [take_snoc R k h, List.filter_append, List.map_append]
  simp [List.filter, hx]
theorem rfs_len (R : List Rw) (x : Ce) (k : Nat) : (rfs R x k).length ≤ R.length := by
  unfold rfs; rw [List.length_map]
  exact Nat.le_trans (List.length_filter_le ..) (by rw [List.length_take]; omega)
theorem rfs_all (R : List Rw) (x : Ce) : rfs R x R.length = (R.filter fun r => decide (x ∈ r.2)).map fun r => r.1 := by unfold rfs; rw [List.take_length]
set_option maxRecDepth 100000 in
set_option maxHeartbeats 8000000 in
theorem rcells_any (p : Nat) (R : List Rw) (w : World) (h : RgV w p R) (hn : R.length ≤ 100000) : Calls Try.prog 45 #[.pointer (some ⟨p, 0, none⟩)] w (OncePost w (R.map fun r => r.1)) := by
  obtain ⟨Po, hPo⟩ : ∃ Po, Po = OncePost w (R.map fun r => r.1) := ⟨_, rfl⟩
  rw [← hPo]
  have HPO := Lib.hid hPo
  clear hPo
  obtain ⟨hp, a, cap, hv, hc⟩ := h
  have HC := Lib.hid hc
  have HV := Lib.hid hv
  have HP := Lib.hid hp
  obtain ⟨L, hL⟩ : ∃ L, L = R.length := ⟨_, rfl⟩
  rw [← hL] at hn HV
  have HLL := Lib.hid hL
  clear hp hv hc hL
  go_enter Try.func45, Try.ntmps45
  go_wp2_with fail
  go_loopw [3, 4] (fun vo i wr => ∃ k : Nat, k ≤ L ∧ i = .int .i64 k ∧ wr.ownsRow w.heap.size 32 3 vo (rks R k).length (flC (rks R k)) ∧ Below w.heap.size w wr) (fun _ i _ => L - (intOf i).toNat)
  case atStart => exact ⟨0, by omega, rfl, World.ownsRow_nil _ _ _ _, Below.refl _ _⟩
  case round =>
    obtain ⟨k, hk, rfl, hrow, hR⟩ := hrel
    have HROW := Lib.hid hrow
    have HR := Lib.hid hR
    clear hrow hR
    have v0 := belK HR.out HV.out HP.out
    have hpr := Nat.lt_of_lt_of_le HP.out HR.out.size
    have hln : (rks R k).length ≤ L := by rw [HLL.out]; exact rks_len R k
    by_cases hlt : k < L
    · have hkl : k < R.length := by rw [← HLL.out]; exact hlt
      have HK := Lib.hid (rks_succ R k hkl)
      obtain ⟨g, o, u, rfl, hg, c0, c1, c2, _, _⟩ := HC.out k hkl
      generalize R[k] = z at *
      obtain ⟨⟨z1, z2, z3⟩, zl⟩ := z
      dsimp only at c0 c1 c2
      have d0 := belK HR.out c0 hg
      have d1 := belK HR.out c1 hg
      have d2 := belK HR.out c2 hg
      have hgr := Nat.lt_of_lt_of_le hg HR.out.size
      clear c0 c1 c2 hkl
      go_wp2_with (at_builtin; refine wpList_append_lst rfl _ _ rfl w.heap.size u3 _ (rks R k) [(z1, z2, z3)] rfl (HROW.out.alloc _) rfl (Or.inl (one_new wr z1 z2 z3 _)) (by simp; omega) (by have := HR.out.size; simp; omega) ?_; intro v1 W1 h1 g1)
      have hb1 := (HR.out.alloc HR.out.size _).grown g1 (by have := HR.out.size; simp; omega) (fun q hq => (HROW.out.lt q hq).1)
      go_roundw
      case rel => exact ⟨k + 1, by omega, by go_num, by rw [HK.out]; exact h1, hb1⟩
      case measure => simp [intOf]; omega
    · obtain rfl : k = L := by omega
      clear hlt
      have HSO := Lib.hid (refSorted_any u3 (rks R k) wr (Or.inl (CsAt.of_owns HROW.out).1) (by omega))
      go_wp2_with (go_at_call 14; refine HSO.out.mono ?_; rintro e y1 ⟨⟨v, rfl, hv⟩, hb⟩)
      show Po (.returned v) _
      rw [HPO.out]
      rw [show rks R k = R.map (fun r => r.1) by rw [HLL.out]; exact rks_all R] at hv
      exact ⟨⟨v, rfl, hv.base HR.out.size⟩, HR.out.trans (hb.mono HR.out.size)⟩
set_option maxRecDepth 100000 in
set_option maxHeartbeats 8000000 in
theorem rfor_any (p : Nat) (R : List Rw) (x : Ce) (w : World) (h : RgV w p R) (hn : R.length ≤ 100000) (hm : ∀ r ∈ R, r.2.length ≤ 100000) : Calls Try.prog 47 #[.pointer (some ⟨p, 0, none⟩), mkC x] w (OncePost w ((R.filter fun r => decide (x ∈ r.2)).map fun r => r.1)) := by
  obtain ⟨Po, hPo⟩ : ∃ Po, Po = OncePost w ((R.filter fun r => decide (x ∈ r.2)).map fun r => r.1) := ⟨_, rfl⟩
  rw [← hPo]
  have HPO := Lib.hid hPo
  clear hPo
  obtain ⟨A, hA⟩ : ∃ A, A = w.heap.size := ⟨_, rfl⟩
  obtain ⟨s, hs⟩ : ∃ s, s = w.alloc (.cells #[.int .i64 x.1, .int .i64 x.2.1, .int .i64 x.2.2] 32) := ⟨_, rfl⟩
  have hb : Below w.heap.size w s := by rw [hs]; exact (Below.refl _ w).alloc (Nat.le_refl _) _
  have hbx := box_at hs
  have zA : A < s.heap.size := by rw [hs, hA]; simp
  rw [← hA] at hbx
  obtain ⟨hp, a, cap, hv, hc⟩ := h.below hb
  have HC := Lib.hid hc
  have HV := Lib.hid hv
  have HP := Lib.hid hp
  have HBX := Lib.hid hbx
  have HZA := Lib.hid zA
  have HB := Lib.hid hb
  have HS := Lib.hid hs
  have HA := Lib.hid hA
  have HM := Lib.hid hm
  obtain ⟨L, hL⟩ : ∃ L, L = R.length := ⟨_, rfl⟩
  rw [← hL] at hn HV
  have HLL := Lib.hid hL
  clear h hs hA hb hbx zA hp hv hc hL hm
  obtain ⟨x1, x2, x3⟩ := x
  unfold mkC
  go_enter Try.func47, Try.ntmps47
  go_wp2_with fail
  rw [← HS.out, ← HA.out]
  go_loopw [5, 6] (fun vo i wr => ∃ k : Nat, k ≤ L ∧ i = .int .i64 k ∧ wr.ownsRow s.heap.size 32 3 vo (rfs R (x1, x2, x3) k).length (flC (rfs R (x1, x2, x3) k)) ∧ Below s.heap.size s wr) (fun _ i _ => L - (intOf i).toNat)
  case atStart => exact ⟨0, by omega, rfl, World.ownsRow_nil _ _ _ _, Below.refl _ _⟩
  case round =>
    obtain ⟨k, hk, rfl, hrow, hR⟩ := hrel
    have HROW := Lib.hid hrow
    have HR := Lib.hid hR
    clear hrow hR
    have v0 := belK HR.out HV.out HP.out
    have zp := Nat.lt_of_lt_of_le HP.out HR.out.size
    have hln : (rfs R (x1, x2, x3) k).length ≤ L := by rw [HLL.out]; exact rfs_len R _ k
    have HLN := Lib.hid hln
    clear hln
    by_cases hlt : k < L
    · have hkl : k < R.length := by rw [← HLL.out]; exact hlt
      have HY := Lib.hid (rfs_yes R (x1, x2, x3) k hkl)
      have HN := Lib.hid (rfs_no R (x1, x2, x3) k hkl)
      have hml := HM.out R[k] (List.getElem_mem hkl)
      obtain ⟨g, o, u, rfl, hg, c0, c1, c2, c3, hu⟩ := HC.out k hkl
      generalize R[k] = z at *
      obtain ⟨⟨z1, z2, z3⟩, zl⟩ := z
      dsimp only at c0 c1 c2 hml hu
      have d0 := belK HR.out c0 hg
      have d1 := belK HR.out c1 hg
      have d2 := belK HR.out c2 hg
      have d3 := belK HR.out c3 hg
      have e0 := belK HR.out HBX.out.1 HZA.out
      have e1 := belK HR.out HBX.out.2.1 HZA.out
      have e2 := belK HR.out HBX.out.2.2 HZA.out
      have hgr := Nat.lt_of_lt_of_le hg HR.out.size
      have zA := Nat.lt_of_lt_of_le HZA.out HR.out.size
      obtain ⟨r, hr⟩ : ∃ r, decide ((x1, x2, x3) ∈ zl) = r := ⟨_, rfl⟩
      have HHAS : Hid (∀ W, Below wr.heap.size wr W → Calls Try.prog 16 #[u, .agg #[.int .i64 x1, .int .i64 x2, .int .i64 x3]] W fun e w' => e = .returned (.bool r) ∧ Below W.heap.size W w') := Lib.hid fun W hW => by
        have := refHas_any u zl (x1, x2, x3) W ((hu.below HR.out).below hW) (by omega)
        rwa [hr] at this
      have HRR := Lib.hid hr
      have HD := Lib.hid (show wr.cell? ⟨g, o + k * 4, none⟩ = some (.int .i64 z1) ∧ wr.cell? ⟨g, o + k * 4 + 1, none⟩ = some (.int .i64 z2) ∧ wr.cell? ⟨g, o + k * 4 + 2, none⟩ = some (.int .i64 z3) from ⟨d0, d1, d2⟩)
      have HV0 := Lib.hid v0
      clear c0 c1 c2 c3 hkl hr hml hu d0 d1 d2
      go_wp2_with fail
      refine wrp (S := fun w' => Below wr.heap.size wr w' ∧ w'.cell? ⟨p, 0, none⟩ = some (.slice (some ⟨g, o, none⟩) L cap) ∧ (w'.cell? ⟨A, 0, none⟩ = some (.int .i64 x1) ∧ w'.cell? ⟨A, 1, none⟩ = some (.int .i64 x2) ∧ w'.cell? ⟨A, 2, none⟩ = some (.int .i64 x3)) ∧ w'.cell? ⟨g, o + k * 4 + 3, none⟩ = some u) (by kernel_rfl) (fun w' hx => ⟨hx, belK hx v0 zp, ⟨belK hx e0 zA, belK hx e1 zA, belK hx e2 zA⟩, belK hx d3 hgr⟩) (fun HKP hHeld => ?_)
      clear d3 e0 e1 e2 v0
      refine tk 0 ?_
      refine tk 1 ?_
      refine tk 2 ?_
      refine tk 3 ?_
      refine tk 4 ?_
      refine tk 5 ?_
      refine tk 6 ?_
      refine tk 7 ?_
      refine tk 8 ?_
      refine rd1 9 (by kernel_rfl) rfl fun K hK => ?_
      go_simp
      (go_at_call 16; refine (HHAS.out _ hHeld.1).mono ?_; rintro e y1 ⟨rfl, hby⟩)
      try (go_wp2_with fail)
      refine hK.out _ _ (HKP.out y1 (hHeld.1.trans (hby.mono hHeld.1.size))) (fun hHeld => ?_)
      clear hK K hby
      try simp only [pz]
      refine wpAnyH_done (by kernel_rfl) ?_ _
      have HB1 := Lib.hid hHeld.1
      clear HKP hHeld
      cases r with
      | true =>
        have d0 := belK HB1.out HD.out.1 hgr
        have d1 := belK HB1.out HD.out.2.1 hgr
        have d2 := belK HB1.out HD.out.2.2 hgr
        have v0 := belK HB1.out HV0.out zp
        have zp1 := Nat.lt_of_lt_of_le zp HB1.out.size
        have zg1 := Nat.lt_of_lt_of_le hgr HB1.out.size
        have HROW1 := Lib.hid (row_below HROW.out HB1.out)
        have HR1 := Lib.hid (HR.out.trans (HB1.out.mono HR.out.size))
        go_wp2_with (at_builtin; refine wpList_append_lst rfl _ _ rfl s.heap.size u5 _ (rfs R (x1, x2, x3) k) [(z1, z2, z3)] rfl (HROW1.out.alloc _) rfl (Or.inl (one_new y1 z1 z2 z3 _)) (by have := HLN.out; simp; omega) (by have := HR1.out.size; simp; omega) ?_; intro v1 W1 h1 g1)
        have hb1 := (HR1.out.alloc HR1.out.size _).grown g1 (by have := HR1.out.size; simp; omega) (fun q hq => (HROW1.out.lt q hq).1)
        go_roundw
        case rel => exact ⟨k + 1, by omega, by go_num, by rw [HY.out HRR.out]; exact h1, hb1⟩
        case measure => simp [intOf]; omega
      | false =>
        go_wp2_with fail
        go_roundw
        case rel => exact ⟨k + 1, by omega, by go_num, by rw [HN.out HRR.out]; exact row_below HROW.out HB1.out, HR.out.trans (HB1.out.mono HR.out.size)⟩
        case measure => simp [intOf]; omega
    · obtain rfl : k = L := by omega
      clear hlt
      have HSO := Lib.hid (refSorted_any u5 (rfs R (x1, x2, x3) k) wr (Or.inl (CsAt.of_owns HROW.out).1) (by have := HLN.out; omega))
      go_wp2_with (go_at_call 14; refine HSO.out.mono ?_; rintro e y1 ⟨⟨v, rfl, hv⟩, hb⟩)
      show Po (.returned v) _
      rw [HPO.out]
      rw [show rfs R (x1, x2, x3) k = (R.filter fun r => decide ((x1, x2, x3) ∈ r.2)).map (fun r => r.1) by rw [HLL.out]; exact rfs_all R _] at hv
      exact ⟨⟨v, rfl, hv.base (Nat.le_trans HB.out.size HR.out.size)⟩, (HB.out.trans (HR.out.mono HB.out.size)).trans (hb.mono (Nat.le_trans HB.out.size HR.out.size))⟩
end Go.Proofs.Ytjjpfddgcilliaa
