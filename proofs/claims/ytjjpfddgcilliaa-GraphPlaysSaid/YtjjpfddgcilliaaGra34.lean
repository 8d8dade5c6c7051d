/-
  GRAPHS, the document's side: Drop.
-/
import Derived.Test.YtjjpfddgcilliaaGra33
set_option linter.unusedSimpArgs false
set_option linter.unusedVariables false
namespace Go.Proofs.Ytjjpfddgcilliaa
open Go.RowKit Go.Shelf Go.Sort Go.Lib Go.Maps
set_option maxRecDepth 100000

theorem flR_one {Z : List (Ce × Value)} (h : ∀ z ∈ Z, z.2.oneCell' = true) : ∀ u ∈ flR Z, u.oneCell' = true := by
  intro u hu
  unfold flR at hu
  obtain ⟨z, hz, h2⟩ := List.mem_flatMap.1 hu
  simp [rowL] at h2
  rcases h2 with rfl | rfl | rfl | rfl
  · rfl
  · rfl
  · rfl
  · exact h z hz
theorem drpR_none {R : List Rw} {x : Ce} (hd : (R.map fun r => r.1).Nodup) (h : rowOf R x = none) : drpR R x = R := by
  unfold drpR
  rw [List.filter_eq_self]
  intro r hr
  have : r.1 ≠ x := fun e => by
    have := rowOf_mem hd r hr
    rw [e, h] at this; cases this
  rw [decide_eq_false this]; rfl
theorem own_slice {W : World} {base : Nat} {e : TypeId} {size : Nat} {v : Value} {n : Nat} {xs : List Value} (h : W.ownsRow base e size v n xs) : ∃ a c, v = .slice a n c := by
  rcases h.2 with ⟨rfl, rfl⟩ | ⟨g, cap, _, rfl, _⟩
  · exact ⟨none, 0, rfl⟩
  · exact ⟨_, _, rfl⟩
/-- the box says another list. -/
theorem box_set {w V : World} {T : Nat → Prop} {p : Nat} {v v2 : Value} {Y' : List Yw} (hp : w.heap[p]? = some (.cells #[v] 29 (0, 0))) (hT : T p) (hB : Below w.heap.size w V) (hrow : V.ownsRow w.heap.size 69 4 v2 Y'.length (flR (Y'.map zOf))) (hy : ∀ y ∈ Y', CsAt w y.2.1 y.2.2 ∧ ∀ b, blkOf y.2.1 = some b → T b ∧ b ≠ p) :
    RgAt (V.setCell ⟨p, 0, none⟩ v2) (fun k => T k ∨ w.heap.size ≤ k) p (Y'.map rOf) ∧ Trn (fun k => k = p) w (V.setCell ⟨p, 0, none⟩ v2) := by
  have hpw := (Array.getElem?_eq_some_iff.1 hp).1
  have hpV := (hB.block p hpw).trans hp
  have hg : V.grownBy (V.setCell ⟨p, 0, none⟩ v2) (some p) := ⟨rfl, rfl, rfl, by simp, fun k _ hk => heap_setCell_other V ⟨p, 0, none⟩ k v2 (fun e => hk (by simp [e]))⟩
  have hne : ∀ b, v2.ownBlock = some b → w.heap.size ≤ b ∧ b ≠ p := fun b hb => by have := (hrow.lt b hb).1; exact ⟨this, by omega⟩
  have ht : Trn (fun k => k = p) w (V.setCell ⟨p, 0, none⟩ v2) := (Trn.of_below hB).wrote hg (Or.inl rfl)
  refine ⟨RgAt.other (Y := Y') (v := v) (by rw [heap_setCell_same V p 0 _ _ v2 hpV]; rfl) hT ((hrow.kept hg ?_).mono (Nat.zero_le _)) hne ht.size (fun b hb hbp => ht.block b hb hbp) hy, ht⟩
  cases ho : v2.ownBlock with
  | none => exact Or.inl rfl
  | some b => exact Or.inr (fun e => (hne b ho).2 (Option.some.inj e))
set_option maxRecDepth 100000 in
set_option maxHeartbeats 8000000 in
theorem rdrop_any (p : Nat) (T : Nat → Prop) (R : List Rw) (x : Ce) (w : World) (h : RgAt w T p R) (hd : (R.map fun r => r.1).Nodup) (hn : R.length ≤ 100000) : Calls Try.prog 11 #[.pointer (some ⟨p, 0, none⟩), mkC x] w fun e w' => e = .returned (.int .i64 (dropE (rowOf R) x)) ∧ RgAt w' (fun k => T k ∨ w.heap.size ≤ k) p (drpR R x) ∧ Trn (fun k => k = p) w w' := by
  obtain ⟨Po, hPo⟩ : ∃ Po : Ending → World → Prop, Po = fun e w' => e = .returned (.int .i64 (dropE (rowOf R) x)) ∧ RgAt w' (fun k => T k ∨ w.heap.size ≤ k) p (drpR R x) ∧ Trn (fun k => k = p) w w' := ⟨_, rfl⟩
  rw [← hPo]
  have HPO := Lib.hid hPo
  clear hPo
  obtain ⟨A, hA⟩ : ∃ A, A = w.heap.size := ⟨_, rfl⟩
  obtain ⟨s, hs⟩ : ∃ s, s = w.alloc (.cells #[.int .i64 x.1, .int .i64 x.2.1, .int .i64 x.2.2] 32) := ⟨_, rfl⟩
  have hb : Below w.heap.size w s := by rw [hs]; exact (Below.refl _ w).alloc (Nat.le_refl _) _
  have hbx := box_at hs
  rw [← hA] at hbx
  have hgs : RgAt s T p R := h.kept (Kept.of_below hb)
  have HPL := Lib.hid (place_any p R x s hgs.view hn)
  have HB := Lib.hid hb
  have HS := Lib.hid hs
  have HA := Lib.hid hA
  have HG := Lib.hid h
  clear hs hA hb
  rcases PlR.pick R x with ⟨hz, hr⟩ | ⟨k, hk, hz, hr, hx⟩
  · have HP1 : Hid (Calls Try.prog 42 #[.pointer (some ⟨p, 0, none⟩), mkC x] s fun e w' => e = .returned (.int .i64 (-1)) ∧ Below s.heap.size s w') := Lib.hid (HPL.out.mono (by rintro e w' ⟨⟨z, rfl, h⟩, hb⟩; rw [hz z h]; exact ⟨rfl, hb⟩))
    have HE : Hid (dropE (rowOf R) x = 11 ∧ drpR R x = R) := Lib.hid ⟨by unfold dropE; rw [hr]; rfl, drpR_none hd hr⟩
    rw [HE.out.1, HE.out.2] at HPO
    clear hz hr HPL hgs hd h
    obtain ⟨x1, x2, x3⟩ := x
    obtain ⟨k0, k1, k2⟩ := hbx
    unfold mkC at *
    dsimp only at k0 k1 k2 HP1
    go_enter Try.func11, Try.ntmps11
    go_wp2_with (go_at_call 42; rw [← HS.out]; refine HP1.out.mono ?_; rintro e y1 ⟨rfl, hby⟩)
    show Po (.returned (.int .i64 11)) _
    rw [HPO.out]
    have hB : Below w.heap.size w y1 := HB.out.trans (hby.mono HB.out.size)
    exact ⟨rfl, (HG.out.kept (Kept.of_below hB)).mono (fun _ _ h => Or.inl h), Trn.of_below hB⟩
  · have HP1 : Hid (Calls Try.prog 42 #[.pointer (some ⟨p, 0, none⟩), mkC x] s fun e w' => e = .returned (.int .i64 (k : Int)) ∧ Below s.heap.size s w') := Lib.hid (HPL.out.mono (by rintro e w' ⟨⟨z, rfl, h⟩, hb⟩; rw [hz z h]; exact ⟨rfl, hb⟩))
    obtain ⟨v, Y, hp, hTp, hrow, hvb, rfl, hy⟩ := h
    have hkY : k < Y.length := by rw [List.length_map] at hk; exact hk
    have HE : Hid (dropE (rowOf (Y.map rOf)) x = 0 ∧ drpR (Y.map rOf) x = (Y.take k ++ Y.drop (k + 1)).map rOf) := Lib.hid ⟨by unfold dropE; rw [hr]; rfl, by rw [drpR_at _ x k hk hx hd, List.map_append, List.map_take, List.map_drop]⟩
    rw [HE.out.1, HE.out.2] at HPO
    rcases hrow.2 with ⟨_, h0⟩ | ⟨g, cap, cur, rfl, _, hgg, hc1, hc2, _, _⟩
    · omega
    have hcell : ∀ j u, (flR (Y.map zOf))[j]? = some u → w.cell? ⟨g, j, none⟩ = some u := fun j u hj => by have := hrow.cells (g := g) rfl j u hj; rwa [Addr.add_lit, Nat.zero_add] at this
    have hpc : w.cell? ⟨p, 0, none⟩ = some (.slice (some ⟨g, 0, none⟩) Y.length cap) := by simp [World.cell?, hp]
    have hgw : g < w.heap.size := (Array.getElem?_eq_some_iff.1 hgg).1
    have hpw : p < w.heap.size := (Array.getElem?_eq_some_iff.1 hp).1
    have h1c : ∀ z ∈ Y.map zOf, z.2.oneCell' = true := fun z hz => by
      obtain ⟨y, hy', rfl⟩ := List.mem_map.1 hz
      exact lst_one (hy y hy').1
    obtain ⟨n, hnY⟩ : ∃ n, n = Y.length := ⟨_, rfl⟩
    rw [← hnY] at hpc hc1 hkY
    have hn' : n ≤ 100000 := by rw [hnY]; rw [List.length_map] at hn; exact hn
    have HN := Lib.hid hnY
    have HY := Lib.hid hy
    have HC := Lib.hid hcell
    have HPC := Lib.hid hpc
    have HH := Lib.hid hp
    have HGW := Lib.hid hgw
    have HPW := Lib.hid hpw
    have H1C := Lib.hid h1c
    have HT := Lib.hid hTp
    have HVB := Lib.hid (hvb g rfl)
    have hkc : k ≤ cap := by omega
    have hkc1 : k + 1 ≤ cap := by omega
    clear hz hr HPL hgs hd hp hTp hrow hvb hk hx hy hgg hcell hpc hgw hpw h1c hnY hn HG
    obtain ⟨x1, x2, x3⟩ := x
    obtain ⟨k0, k1, k2⟩ := hbx
    unfold mkC at *
    dsimp only at k0 k1 k2 HP1
    go_enter Try.func11, Try.ntmps11
    go_wp2_with (go_at_call 42; rw [← HS.out]; refine HP1.out.mono ?_; rintro e y1 ⟨rfl, hby⟩; have HB1 := Lib.hid (HB.out.trans (hby.mono HB.out.size)); have v0 := belK HB1.out HPC.out HPW.out; have zp := Nat.lt_of_lt_of_le HPW.out HB1.out.size; clear hby k0 k1 k2; go_wp2_with (at_builtin; refine wpList_append_rows rfl _ _ rfl w.heap.size (.slice none 0 0) _ [] ((Y.map zOf).take k) rfl (World.ownsRow_nil _ _ _ _) rfl (RsAt.take (fun j u hj => belK HB1.out (HC.out j u hj) HGW.out) (by rw [List.length_map, ← HN.out]; omega)) (flR_one fun z hz => H1C.out z (List.mem_of_mem_take hz)) (by have := HN.out; simp; omega) HB1.out.size ?_; intro v1 V1 h1 g1; have HB2 := Lib.hid (HB1.out.grown g1 HB1.out.size (fun q hq => by cases hq)); have H1 := Lib.hid h1; have v1p := belK HB2.out HPC.out HPW.out; have zp1 := Nat.lt_of_lt_of_le HPW.out HB2.out.size; clear v0 zp h1 g1; go_wp2_with (at_builtin; refine wpList_append_rows rfl _ _ rfl w.heap.size v1 _ ([] ++ (Y.map zOf).take k) ((Y.map zOf).drop (k + 1)) rfl H1.out rfl (RsAt.drop (fun j u hj => belK HB2.out (HC.out j u hj) HGW.out) (by rw [List.length_map, ← HN.out]; omega) (by rw [List.length_map]; exact HN.out) hc1) (flR_one fun z hz => H1C.out z (List.mem_of_mem_drop hz)) (by have := HN.out; simp; omega) HB2.out.size ?_; intro v2 V2 h2 g2; obtain ⟨a2, c2, rfl⟩ := own_slice h2; have HB3 := Lib.hid (HB2.out.grown g2 HB2.out.size (fun q hq => (H1.out.lt q hq).1)); have H2 := Lib.hid h2; have hp2 : V2.heap[p]? = some (.cells #[.slice (some ⟨g, 0, none⟩) Y.length cap] 29 (0, 0)) := (HB3.out.block p HPW.out).trans HH.out; have HP2 := Lib.hid hp2; have fz : V2.frozen? ⟨p, 0, none⟩ = false := (by simp [World.frozen?, hp2]); have v2p := belK HB3.out HPC.out HPW.out; have zp2 := Nat.lt_of_lt_of_le HPW.out HB3.out.size; clear v1p zp1 h2 g2 hp2)))
    all_goals
      refine (show Po (.returned (.int .i64 0)) _ from ?_)
      rw [HPO.out]
      have hown := H2.out
      have el : ([] ++ (Y.map zOf).take k ++ (Y.map zOf).drop (k + 1)).length = (Y.take k ++ Y.drop (k + 1)).length := by simp
      have ez : ([] ++ (Y.map zOf).take k ++ (Y.map zOf).drop (k + 1)) = (Y.take k ++ Y.drop (k + 1)).map zOf := by rw [List.nil_append, List.map_append, List.map_take, List.map_drop]
      rw [ez, List.length_map] at hown
      have hm : min k Y.length + (Y.length - (k + 1)) = (Y.take k ++ Y.drop (k + 1)).length := by simp
      try rw [hm]
      have hfin := box_set HH.out HT.out HB3.out hown (fun y h => by
        have hyY : y ∈ Y := by
          rcases List.mem_append.1 h with h | h
          · exact List.mem_of_mem_take h
          · exact List.mem_of_mem_drop h
        exact ⟨(HY.out y hyY).1, fun b hb => ⟨((HY.out y hyY).2 b hb).1, ((HY.out y hyY).2 b hb).2.1⟩⟩)
      exact ⟨rfl, hfin⟩
end Go.Proofs.Ytjjpfddgcilliaa
