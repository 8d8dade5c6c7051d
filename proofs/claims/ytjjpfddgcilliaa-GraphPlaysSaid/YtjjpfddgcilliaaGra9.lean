/-
  LAYER 28: A MAP's KEYS, as a list of one's own (slices.Collect over maps.Keys).
-/
import Derived.Test.YtjjpfddgcilliaaGra7
import Derived.Test.YtjjpfddgcilliaaGra8
import Derived.RangeFuncNested
import Derived.Maps.AppendAt
set_option linter.unusedSimpArgs false
set_option linter.unusedVariables false
namespace Go.Proofs.Ytjjpfddgcilliaa
open Go.RowKit Go.Shelf Go.Sort Go.Lib Go.Maps
set_option maxRecDepth 100000
attribute [local go_sem] Oper.semAt_some

theorem cell_three (w : World) (x y z : Value) (t : TypeId) : ∀ (j : Nat) u, [x, y, z][j]? = some u → (w.alloc (.cells #[x, y, z] t)).cell? ((⟨w.heap.size, 0, none⟩ : Addr).add j) = some u := by
  intro j u hj
  match j, hj with
  | 0, hj => simp at hj; subst hj; simp [Addr.add, go_sem]
  | 1, hj => simp at hj; subst hj; simp [Addr.add, go_sem]
  | 2, hj => simp at hj; subst hj; simp [Addr.add, go_sem]
theorem three_one (x y z : Int) : ∀ u ∈ [Value.int .i64 x, Value.int .i64 y, Value.int .i64 z], u.oneCell' = true := by simp [Value.oneCell']
theorem flC_snoc (l : List Ce) (x1 x2 x3 : Int) : flC (l ++ [(x1, x2, x3)]) = flC l ++ [.int .i64 x1, .int .i64 x2, .int .i64 x3] := by rw [flC_append]; rfl
/-- what has come lies in the list. -/
def GathS (w : World) (Bl : Nat) (pre : List Ce) (W : World) : Prop := (∃ v, Boxed W Bl 30 v ∧ W.ownsRow w.heap.size 32 3 v pre.length (flC pre) ∧ True) ∧ Below w.heap.size w W
/-- the round's own cell. -/
def RoundC (F : Ce → Nat → Array Value) (x : Ce) (a' : Act) (W : World) : Prop := ∃ B, a' = { tmps := F x B, defers := [] } ∧ W.heap[B]? = some (.cells #[.int .i64 x.1, .int .i64 x.2.1, .int .i64 x.2.2] 32 (0, 0))
def SeqPost (w : World) (S : List Ce → Prop) (e : Ending) (w' : World) : Prop := (∃ v ys, e = .returned v ∧ S ys ∧ CsNew w' w.heap.size v ys) ∧ Below w.heap.size w w'
set_option maxRecDepth 100000 in
set_option maxHeartbeats 4000000 in
theorem appendSeq_in (gf : Nat) (lb : Array Value) (S Sp : List Ce → Prop) (N : Nat) (w : World) (hN : N * 24 ≤ 140737488355328) (eg : ∀ args w, (callFunc gf args).run Try.prog w = .ok (.enter gf args) w)
    (hseq : SeqStopsK Fence.wide 2 Try.prog gf lb (fun x : Ce => #[mkC x]) KeepsWalks S Sp N w) :
    CallsIn Fence.wide 3 Try.prog 73 #[.slice none 0 0, .func (.func gf) #[] lb] w (SeqPost w S) := by
  obtain ⟨i0, hi, hz0, hz1, hz2⟩ := info_parts Try.infoCe
  obtain ⟨Po, hPo⟩ : ∃ Po, Po = SeqPost w S := ⟨_, rfl⟩
  rw [← hPo]
  have HPO := Lib.hid hPo
  have HS := Lib.hid hseq
  clear hPo hseq
  refine callsIn_of_wp_marks Try.func73 rfl trivial ?_ rfl
  simp only [Try.ntmps73, List.size_toArray, List.length_cons, List.length_nil, Nat.reduceAdd, Nat.reduceSub, Array.replicate_succ, Array.replicate_zero, List.push_toArray, List.append_toArray, List.nil_append, List.cons_append]
  gi_wp2
  obtain ⟨wa, hwa⟩ : ∃ x, x = w.alloc (.cells #[.slice none 0 0] 30) := ⟨_, rfl⟩
  have za : wa.heap.size = w.heap.size + 1 := by rw [hwa, World.size_alloc]
  have kC := Boxed.new w 30 (.slice none 0 0)
  rw [← hwa] at kC
  have b1 : Below w.heap.size w wa := by rw [hwa]; exact (Below.refl _ w).alloc (Nat.le_refl _) _
  rw [← hwa]
  refine wpIn_rangeFunc_ownH rfl (by omega) (gf := gf) (lb := lb) rfl trivial eg HS.out KeepsWalks.trans (fun W l o o' _ h _ hw => KeepsWalks.putObj o' h hw) b1 (fun _ => rfl)
    (GathS w w.heap.size) (fun _ _ _ => False)
    (OwnFrom.and (Own.from (holdsRow_own w.heap.size w.heap.size 30 32 3 (fun pre : List Ce => pre.length) flC (fun _ _ => True)) _) (ownFrom_below (Nat.le_refl _) (by omega)))
    (fun _ _ _ _ _ hs _ _ => hs) ⟨⟨_, kC, World.ownsRow_nil _ _ _ _, trivial⟩, b1⟩
    (RoundC fun x B => #[.slice none 0 0, .func (.func gf) #[] lb, .pointer (some ⟨w.heap.size, 0, none⟩), undef, .slice none 0 0, .pointer (some ⟨B, 0, none⟩), .func (.func gf) #[] lb, mkC x, undef, undef, undef, undef, undef])
    (fun x a' s X Y row ⟨B, h1, h2⟩ hg hr => ⟨B, h1, (hg.block B (Array.getElem?_eq_some_iff.1 h2).1 (fun e => by obtain ⟨_, o, ho, hc⟩ := hr B e.symm; rw [h2] at ho; cases ho; cases hc)).trans h2⟩) ?assign ?body ?done ?stop
  case assign =>
    clear kC b1 za hwa HS
    rintro l pre ⟨x1, x2, x3⟩ W K hi hK
    unfold mkC
    dsimp only
    gi_wp2
    refine hK _ _ (KeepsFrom.of_grownBy (World.grownBy_alloc W _ none) (fun j e => by cases e)) (KeepsWalks.alloc _ _) ?_ ⟨W.heap.size, rfl, World.alloc_heap_new W _⟩
    obtain ⟨⟨v, hv, hr, ht⟩, hb⟩ := hi
    exact ⟨⟨v, hv.alloc _, hr.alloc _, ht⟩, hb.alloc hb.size _⟩
  case body =>
    clear kC b1 za hwa HS
    rintro l pre ⟨x1, x2, x3⟩ a' W _ _ ⟨⟨v, hv, hrow, _⟩, hB⟩ ⟨B, rfl, hnb⟩ hlt
    have HSN := Lib.hid (flC_snoc pre x1 x2 x3)
    have hc := hv.cell
    have kB0 : W.cell? ⟨B, 0, none⟩ = some (.int .i64 x1) := by simp [World.cell?, hnb]
    have kB1 : W.cell? ⟨B, 1, none⟩ = some (.int .i64 x2) := by simp [World.cell?, hnb]
    have kB2 : W.cell? ⟨B, 2, none⟩ = some (.int .i64 x3) := by simp [World.cell?, hnb]
    have zB : B < W.heap.size := (Array.getElem?_eq_some_iff.1 hnb).1
    have hk1 : pre.length + 1 ≤ maxLen := by unfold maxLen; omega
    have hk2 : (pre.length + 1) * 24 ≤ 140737488355328 := by omega
    clear hnb
    unfold mkC
    dsimp only
    gi_wp2_with (gi_at_builtin; refine wpListIn_append_own _ rfl _ _ 30 rfl w.heap.size 32 i0 (.agg #[.int .i64 0, .int .i64 0, .int .i64 0]) 3 24 Try.underlying30 hi hz0 hz1 hz2 rfl (by decide) _ _ _ rfl (hrow.alloc _) ⟨W.heap.size, 0, none⟩ 1 1 [.int .i64 x1, .int .i64 x2, .int .i64 x3] rfl rfl (cell_three _ _ _ _ _) (three_one _ _ _) hk1 hk2 (by have := hB.size; simp; omega) ?_; intro v' w1 hown' hgrow _; obtain ⟨g', cap', rfl⟩ := ownsRow_succ hown'; obtain ⟨hv1, hv2, hr2, hk2, hb2⟩ := hv.appended (by decide) hrow hB.size (Nat.le_refl _) hown' hgrow; have hc1 := hv1.cell; have hf1 := hv1.frozen)
    refine ⟨hk2.from _, hk2.walks, ⟨⟨_, hv2, ?_, trivial⟩, hB.trans hb2⟩⟩
    rw [HSN.out, List.length_append]
    exact hr2
  case done =>
    rintro D ys W hD hys ⟨⟨v, hv, hrow, _⟩, hB⟩ hK
    have hc := hv.cell
    have hD2 : w.heap.size ≤ D := by omega
    have hrow2 := ownsRow_putObj hrow (.deferred none) hK rfl
    have hB2 := hB.grown (grownBy_putObj' W D (.deferred none)) hB.size (fun k e => by cases e; exact hD2)
    clear kC b1 za hwa HS hD hD2
    gi_wp2
    refine ⟨by simp, .inl ⟨_, _, rfl, run_takeDeferred hK, ?_⟩⟩
    refine ⟨v, results_tmp (t := 4) rfl _ _ _, ?_⟩
    rw [HPO.out]
    exact ⟨⟨v, ys, rfl, hys, CsNew.of_owns hrow2⟩, hB2⟩
  case stop =>
    rintro D c pre W _ _ h _
    exact h.elim
end Go.Proofs.Ytjjpfddgcilliaa
