/-
  LAYER 10, AREAS: the program's Cells.
-/
import Derived.Test.YtkgkgdgbkkhblaaDoorAddr11
import Derived.RangeFuncBox
import Derived.RangeFuncLeaves
import Derived.Maps.AppendAt
namespace Go.Proofs.YtkgkgdgbkkhblaaDoor
open Go.RowKit Go.Shelf
set_option linter.unusedSimpArgs false
set_option linter.unusedVariables false
attribute [local go_sem] Oper.semAt_some

/-- what the places told so far come to in memory. -/
def flatP (sheet a b : Int) (nc : Nat) {N : Nat} (pre : List (Fin N)) : List Value := pre.flatMap fun k => [.int .i64 sheet, .int .i64 (a + (k.1 % nc : Nat)), .int .i64 (b + (k.1 / nc : Nat))]
theorem flatP_snoc (sheet a b : Int) (nc : Nat) {N : Nat} (pre : List (Fin N)) (x : Fin N) : flatP sheet a b nc (pre ++ [x]) = flatP sheet a b nc pre ++ [.int .i64 sheet, .int .i64 (a + (x.1 % nc : Nat)), .int .i64 (b + (x.1 / nc : Nat))] := by
  unfold flatP; rw [List.flatMap_append]; simp
theorem flatP_take (sheet a b : Int) (nc N : Nat) : ∀ k : Nat, k ≤ N → flatP sheet a b nc ((List.finRange N).take k) = cellsF sheet a b nc k := by
  intro k
  induction k with
  | zero => intro _; rfl
  | succ k ih =>
    intro h
    rw [take_fin' (show k < N by omega), flatP_snoc, ih (by omega), cellsF]
theorem flatP_all (sheet a b : Int) (nc N : Nat) : flatP sheet a b nc (List.finRange N) = cellsF sheet a b nc N := by
  have h := flatP_take sheet a b nc N N (Nat.le_refl _)
  rwa [take_fin_all'] at h
theorem blk_row {W : World} {B : Nat} {t e : TypeId} {cs : Array Value} (h : Blk W B t cs) (hte : t ≠ e) {base size k : Nat} {v : Value} {xs : List Value} (hr : W.ownsRow base e size v k xs) : some B ≠ v.ownBlock := by
  rcases hr.2 with ⟨rfl, _⟩ | ⟨g, cap, cur, rfl, _, hgb, _⟩
  · simp [Value.ownBlock]
  · intro e'
    obtain rfl : B = g := by simpa [Value.ownBlock] using e'
    have := (show W.heap[B]? = _ from h).symm.trans hgb
    simp at this
    exact hte this.2
theorem keepsArea_blk {Bs : Nat} {W W' : World} {t : TypeId} {cs : Array Value} (h : Blk W Bs t cs) (h' : Blk W' Bs t cs) : KeepsArea Bs W W' := fun j v hv => by
  rw [h'.cell j, ← h.cell j]; exact hv
/-- what the loop keeps. -/
def GatherI (w : World) (Bl Bp Bs : Nat) (tl te ts ta : TypeId) (sheet a b c d : Int) (nc : Nat) {N : Nat} (pre : List (Fin N)) (W : World) : Prop :=
  ((∃ v, Boxed W Bl tl v ∧ W.ownsRow w.heap.size te 3 v pre.length (flatP sheet a b nc pre) ∧ True) ∧ Blk W Bp ts #[.int .i64 sheet] ∧ Blk W Bs ta #[.int .i64 a, .int .i64 b, .int .i64 c, .int .i64 d]) ∧ Below w.heap.size w W
set_option maxRecDepth 100000 in
set_option maxHeartbeats 4000000 in
theorem areaCells_any (a b c d sheet : Int) (w : World) :
    Calls Tryd.prog 18 #[areaV a b c d, .int .i64 sheet] w (CellsPost w (cntN a b c d) sheet a b (c - a + 1).toNat) := by
  obtain ⟨i0, hi, hz0, hz1, hz2⟩ := info_parts Tryd.infoCell
  have hN : cntN a b c d ≤ 200 := by
    cases h : nrmB a b c d with
    | false => rw [cntN_no h]; omega
    | true =>
      have := cntN_cnt h
      obtain ⟨_, _, _, _, _, _, _, _, _, _, h3⟩ := nrm_facts h
      omega
  have HS := Lib.hid (fun n hn Bs w => places_stops n hn Bs a b c d w)
  generalize cntN a b c d = N at *
  generalize (c - a + 1).toNat = nc at *
  obtain ⟨Po, hPo⟩ : ∃ Po, Po = CellsPost w N sheet a b nc := ⟨_, rfl⟩
  rw [← hPo]
  have HPO := Lib.hid hPo
  clear hPo
  refine (callsIn_wide (n := 3)).1 ?_
  refine callsIn_of_wp_marks Tryd.func18 rfl trivial ?_ rfl
  simp only [Tryd.ntmps18, List.size_toArray, List.length_cons, List.length_nil, Nat.reduceAdd, Nat.reduceSub, Array.replicate_succ, Array.replicate_zero, List.push_toArray, List.append_toArray, List.nil_append, List.cons_append]
  gi_wp2_with (refine ⟨trivial, ?_⟩; gi_at_call 33; refine (places_in _ a b c d _).mono ?_; rintro e w' ⟨rfl, rfl⟩)
  obtain ⟨wa, hwa⟩ : ∃ x, x = w.alloc (.cells #[.int .i64 a, .int .i64 b, .int .i64 c, .int .i64 d] 34) := ⟨_, rfl⟩
  obtain ⟨wb, hwb⟩ : ∃ x, x = wa.alloc (.cells #[.int .i64 sheet] 3) := ⟨_, rfl⟩
  obtain ⟨wc, hwc⟩ : ∃ x, x = wb.alloc (.cells #[.slice none 0 0] 39) := ⟨_, rfl⟩
  obtain ⟨wd, hwd⟩ : ∃ x, x = wc.alloc (.cells #[.int .i64 a, .int .i64 b, .int .i64 c, .int .i64 d] 34) := ⟨_, rfl⟩
  have za : wa.heap.size = w.heap.size + 1 := by rw [hwa, World.size_alloc]
  have zb' : wb.heap.size = w.heap.size + 1 + 1 := by rw [hwb, World.size_alloc, za]
  have zc : wc.heap.size = w.heap.size + 1 + 1 + 1 := by rw [hwc, World.size_alloc, zb']
  have zd : wd.heap.size = w.heap.size + 1 + 1 + 1 + 1 := by rw [hwd, World.size_alloc, zc]
  have kB := Blk.new wa 3 #[.int .i64 sheet]
  rw [← hwb, za] at kB
  have kC := Boxed.new wb 39 (.slice none 0 0)
  rw [← hwc, zb'] at kC
  have kD := Blk.new wc 34 #[.int .i64 a, .int .i64 b, .int .i64 c, .int .i64 d]
  rw [← hwd, zc] at kD
  have kB2 : Blk wd (w.heap.size + 1) 3 #[.int .i64 sheet] := by rw [hwd, hwc]; exact (kB.alloc _).alloc _
  have kC2 : Boxed wd (w.heap.size + 1 + 1) 39 (.slice none 0 0) := by rw [hwd]; exact kC.alloc _
  have b1 : Below w.heap.size w wa := by rw [hwa]; exact (Below.refl _ w).alloc (Nat.le_refl _) _
  have b2 : Below w.heap.size w wb := by rw [hwb]; exact b1.alloc b1.size _
  have b3 : Below w.heap.size w wc := by rw [hwc]; exact b2.alloc b2.size _
  have b4 : Below w.heap.size w wd := by rw [hwd]; exact b3.alloc b3.size _
  rw [← hwa, ← hwb, ← hwc, ← hwd]
  refine wpIn_rangeFunc_ownF rfl (by omega) (gf := 46) (lb := #[.pointer (some ⟨w.heap.size + 1 + 1 + 1, 0, none⟩)]) rfl trivial (enters_of Tryd.func46 (by kernel_rfl) rfl)
    (HS.out _ (by omega) (w.heap.size + 1 + 1 + 1) wd (by omega) (kD.cell 0) (kD.cell 1) (kD.cell 2) (kD.cell 3)) KeepsArea.trans keepsArea_b (Below.refl _ _) (fun _ => rfl)
    (GatherI w (w.heap.size + 1 + 1) (w.heap.size + 1) (w.heap.size + 1 + 1 + 1) 39 44 3 34 sheet a b c d nc)
    (fun _ _ _ => False)
    (OwnFrom.and (OwnFrom.and (Own.from (holdsRow_own w.heap.size (w.heap.size + 1 + 1) 39 44 3 (fun pre : List (Fin N) => pre.length) (fun pre => flatP sheet a b nc pre) (fun _ _ => True)) _) (OwnFrom.and (Own.from (fun _ _ _ _ hs hg hr => hs.turned hg hr) _) (Own.from (fun _ _ _ _ hs hg hr => hs.turned hg hr) _))) (ownFrom_below (Nat.le_refl _) (by omega)))
    (fun _ _ _ _ _ hs _ _ => hs)
    ⟨⟨⟨_, kC2, World.ownsRow_nil _ _ _ _, trivial⟩, kB2, kD⟩, b4⟩
    (fun x => { tmps := #[areaV a b c d, .int .i64 sheet, .pointer (some ⟨w.heap.size, 0, none⟩), .pointer (some ⟨w.heap.size + 1, 0, none⟩), .slice none 0 0, .pointer (some ⟨w.heap.size + 1 + 1, 0, none⟩), .int .i64 (a + (x.1 % nc : Nat)), .int .i64 (b + (x.1 / nc : Nat)), areaV a b c d, .func (.func 46) #[] #[.pointer (some ⟨w.heap.size + 1 + 1 + 1, 0, none⟩)], .int .i64 (a + (x.1 % nc : Nat)), .int .i64 (b + (x.1 / nc : Nat)), undef, undef, undef, undef, undef, undef, undef, undef], defers := [] }) ?assign ?body ?done ?stop
  case assign =>
    clear kB kC kD kB2 kC2 b1 b2 b3 b4 za zb' zc zd hwa hwb hwc hwd
    intro l x W K hK
    unfold plc
    dsimp only
    gi_wp2
    exact hK
  case body =>
    clear kB kC kD kB2 kC2 b1 b2 b3 b4 za zb' zc zd hwa hwb hwc hwd HS
    rintro l pre x W ⟨⟨⟨v, hv, hrow, _⟩, hP, hA⟩, hB⟩ hlt
    obtain ⟨p, hp⟩ : ∃ p : Int, p = a + (x.1 % nc : Nat) := ⟨_, rfl⟩
    obtain ⟨q, hq⟩ : ∃ q : Int, q = b + (x.1 / nc : Nat) := ⟨_, rfl⟩
    rw [← hp, ← hq]
    have hsn := flatP_snoc sheet a b nc pre x
    rw [← hp, ← hq] at hsn
    have HSN := Lib.hid hsn
    have hc := hv.cell
    have hs := hP.cell 0
    simp only [List.getElem?_toArray, List.getElem?_cons_zero] at hs
    have hk1 : pre.length + 1 ≤ maxLen := by unfold maxLen; omega
    have hk2 : (pre.length + 1) * 24 ≤ 140737488355328 := by omega
    clear hsn hp hq
    gi_wp2_with (gi_at_builtin; refine wpListIn_append_own _ rfl _ _ 39 rfl w.heap.size 44 i0 (.agg #[.int .i64 0, .int .i64 0, .int .i64 0]) 3 24 Tryd.underlying39 hi hz0 hz1 hz2 rfl (by decide) _ _ _ rfl (hrow.alloc _) ⟨W.heap.size, 0, none⟩ 1 1 [.int .i64 sheet, .int .i64 p, .int .i64 q] rfl rfl (cell_three_new _ _ _ _ _) (three_cells _ _ _) hk1 hk2 (by have := hB.size; simp; omega) ?_; intro v' w1 hown' hgrow _; obtain ⟨g', cap', rfl⟩ := ownsRow_succ hown'; obtain ⟨hv1, hv2, hr2, hk2, hb2⟩ := hv.appended (by decide) hrow hB.size (by omega) hown' hgrow; have hc1 := hv1.cell; have hf1 := hv1.frozen)
    have hgr : (W.alloc (.cells #[.int .i64 sheet, .int .i64 p, .int .i64 q] 44)).grownBy w1 v.ownBlock := hgrow
    have hP2 := ((hP.alloc _).grown hgr (blk_row hP (by decide) hrow)).far (p := ⟨w.heap.size + 1 + 1, 0, none⟩) (by simp) (.slice (some ⟨g', 0, none⟩) (pre.length + 1) cap')
    have hA2 := ((hA.alloc _).grown hgr (blk_row hA (by decide) hrow)).far (p := ⟨w.heap.size + 1 + 1, 0, none⟩) (by simp) (.slice (some ⟨g', 0, none⟩) (pre.length + 1) cap')
    refine ⟨hk2, keepsArea_blk hA hA2, ⟨⟨⟨_, hv2, ?_, trivial⟩, hP2, hA2⟩, hB.trans hb2⟩⟩
    rw [HSN.out, List.length_append]
    exact hr2
  case done =>
    rintro D ys W hD rfl ⟨⟨⟨v, hv, hrow, _⟩, _, _⟩, hB⟩ hK
    have hc := hv.cell
    have hD2 : w.heap.size ≤ D := by omega
    have hrow2 := ownsRow_putObj hrow (.deferred none) hK rfl
    rw [flatP_all, List.length_finRange] at hrow2
    have hB2 := hB.trans (belowK_b (w := w) (Nat.le_refl _) W D _ (.deferred none) hD2 hK rfl rfl)
    clear kB kC kD kB2 kC2 b1 b2 b3 b4 za zb' zc zd hwa hwb hwc hwd HS hD hD2
    gi_wp2
    refine ⟨by simp, .inl ⟨_, _, rfl, run_takeDeferred hK, ?_⟩⟩
    refine ⟨v, results_tmp (t := 4) rfl _ _ _, ?_⟩
    rw [HPO.out]
    exact ⟨⟨v, rfl, CellsAt.of_owns hrow2 hN⟩, hB2⟩
  case stop =>
    rintro D c pre W _ _ h _
    exact h.elim
end Go.Proofs.YtkgkgdgbkkhblaaDoor
