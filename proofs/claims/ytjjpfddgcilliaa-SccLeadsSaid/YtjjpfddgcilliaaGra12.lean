/-
  LAYER 28: A GRAPH'S CALLS THAT CHANGE NOTHING: Has, Needs, For, Cells; New.
-/
import Derived.Test.YtjjpfddgcilliaaGra11
set_option linter.unusedSimpArgs false
set_option linter.unusedVariables false
namespace Go.Proofs.Ytjjpfddgcilliaa
open Go.RowKit Go.Shelf Go.Sort Go.Lib Go.Maps
set_option maxRecDepth 100000

section
variable {ops : Array Oper} {S : World → Prop} {oi : Oper} {a : Act}
/-- what a look-up yields, in every world that meets S. -/
theorem look1_y {m x : Operand} {t e : TypeId} (hop : oi.op = Op.lookup t m x false) (hg : oi.guard = none) (ht : Try.prog.underlying t = some (.map 32 e)) {z v : Value} (hz : ∀ w, (zeroValue e).run Try.prog w = .ok z w) {b n : Nat} {f : Ce → Option Value} {y : Ce}
    (hm : a.eval m = .map (some b)) (hx : a.eval x = mkC y) (hy : okC y) (hM : ∀ w, S w → MapAt w b n f) (hv : (f y).getD z = v) : YieldsIf Try.prog ops S oi v a := by
  refine Or.inl ⟨by simp [Region.wanted, hg], fun w hw => ?_⟩
  simp [execOp, hop, hm, hx, (hM w hw).look false ht (hz w) hy, Result.andThen, hv]
theorem look2_y {m x : Operand} {t e : TypeId} (hop : oi.op = Op.lookup t m x true) (hg : oi.guard = none) (ht : Try.prog.underlying t = some (.map 32 e)) {z v : Value} (hz : ∀ w, (zeroValue e).run Try.prog w = .ok z w) {b n : Nat} {f : Ce → Option Value} {y : Ce}
    (hm : a.eval m = .map (some b)) (hx : a.eval x = mkC y) (hy : okC y) (hM : ∀ w, S w → MapAt w b n f) (hv : .tuple #[(f y).getD z, .bool (f y).isSome] = v) : YieldsIf Try.prog ops S oi v a := by
  refine Or.inl ⟨by simp [Region.wanted, hg], fun w hw => ?_⟩
  simp [execOp, hop, hm, hx, (hM w hw).look true ht (hz w) hy, Result.andThen, ← hv]
end
theorem box_at {w s : World} {a b c : Int} (hs : s = w.alloc (.cells #[.int .i64 a, .int .i64 b, .int .i64 c] 32)) : s.cell? ⟨w.heap.size, 0, none⟩ = some (.int .i64 a) ∧ s.cell? ⟨w.heap.size, 1, none⟩ = some (.int .i64 b) ∧ s.cell? ⟨w.heap.size, 2, none⟩ = some (.int .i64 c) :=
  ⟨bx0 (l := [.int .i64 a, .int .i64 b, .int .i64 c]) hs rfl 0 _ rfl, bx0 (l := [.int .i64 a, .int .i64 b, .int .i64 c]) hs rfl 1 _ rfl, bx0 (l := [.int .i64 a, .int .i64 b, .int .i64 c]) hs rfl 2 _ rfl⟩
theorem two_cells {W : World} {p : Nat} {u v : Value} {t : TypeId} (h : W.heap[p]? = some (.cells #[u, v] t (0, 0))) : W.cell? ⟨p, 0, none⟩ = some u ∧ W.cell? ⟨p, 1, none⟩ = some v := by simp [World.cell?, h]
set_option maxRecDepth 100000 in
set_option maxHeartbeats 4000000 in
theorem has_any (p n : Nat) (S : Nat → Prop) (G : Ce → Option (List Ce)) (x : Ce) (hx : okC x) (w : World) (h : GrAt w S p n G) : Calls Try.prog 40 #[.pointer (some ⟨p, 0, none⟩), mkC x] w fun e w' => e = .returned (.bool (G x).isSome) ∧ Below w.heap.size w w' := by
  obtain ⟨bn, bu, fn, fu, h0, hp, hN, hU⟩ := h
  have hr : (fn x).isSome = (G x).isSome := by
    cases hg : G x with
    | none => rw [hN.no x hg]; rfl
    | some l => obtain ⟨v, h1, _⟩ := hN.yes x l hg; rw [h1]; rfl
  rw [← hr]
  have HM := Lib.hid hN.m
  have HX := Lib.hid hx
  clear hr hN hU hx hp
  obtain ⟨u, hu⟩ : ∃ u, u = (fn x).getD (.slice none 0 0) := ⟨_, rfl⟩
  obtain ⟨r, hr⟩ : ∃ r, r = (fn x).isSome := ⟨_, rfl⟩
  have HV := Lib.hid (show Value.tuple #[(fn x).getD (.slice none 0 0), .bool (fn x).isSome] = .tuple #[u, .bool r] by rw [hu, hr])
  rw [← hr]
  clear hu hr
  obtain ⟨a, b, c⟩ := x
  unfold mkC
  dsimp only
  go_enter Try.func40, Try.ntmps40
  go_wp2_with fail
  obtain ⟨s, hs⟩ : ∃ s, s = w.alloc (.cells #[.int .i64 a, .int .i64 b, .int .i64 c] 32) := ⟨_, rfl⟩
  have hb : Below w.heap.size w s := by rw [hs]; exact (Below.refl _ w).alloc (Nat.le_refl _) _
  have hbx := box_at hs
  have hpc := two_cells ((hb.block p (Array.getElem?_eq_some_iff.1 h0).1).trans h0)
  have HB := Lib.hid hb
  have zA : w.heap.size < s.heap.size := by rw [hs]; simp
  have zp : p < s.heap.size := Nat.lt_of_lt_of_le (Array.getElem?_eq_some_iff.1 h0).1 hb.size
  rw [← hs]
  clear hs hb h0
  refine wrp (S := fun w' => Below s.heap.size s w' ∧ w'.cell? ⟨p, 0, none⟩ = some (.map (some bn)) ∧ w'.cell? ⟨w.heap.size, 0, none⟩ = some (.int .i64 a) ∧ w'.cell? ⟨w.heap.size, 1, none⟩ = some (.int .i64 b) ∧ w'.cell? ⟨w.heap.size, 2, none⟩ = some (.int .i64 c)) (by kernel_rfl) (fun w' hx => ⟨hx, belK hx hpc.1 zp, belK hx hbx.1 zA, belK hx hbx.2.1 zA, belK hx hbx.2.2 zA⟩) (fun HKP hHeld => ?_)
  refine tk 0 ?_
  refine tk 1 ?_
  refine tk 2 ?_
  refine tk 3 ?_
  refine tk 4 ?_
  refine tk 5 ?_ (hy := look2_y rfl rfl Try.underlying62 Try.zeroValue30 rfl rfl HX.out (fun w' hw => (HM.out.below HB.out).below hw.1) HV.out)
  refine tk 6 ?_
  refine tk 7 ?_
  refine tk 8 ?_
  refine tk 9 ?_
  refine tk 10 ?_
  refine wpAnyH_done (by kernel_rfl) ?_ _
  all_goals go_wp2_with fail
  all_goals first | go_ret | go_ret2
  all_goals exact ⟨rfl, HB.out.drew⟩
/-- a list's own copy. -/
theorem cloneCs_any (v : Value) (l : List Ce) (w : World) (h : CsAt w v l) (hn : l.length * 24 ≤ 140737488355328) :
    Calls Try.prog 50 #[v] w fun e w' => (∃ v', e = .returned v' ∧ CsNew w' w.heap.size v' l) ∧ Below w.heap.size w w' := by
  rcases h with ⟨rfl, rfl⟩ | ⟨g, o, cap, rfl, hg, hc⟩
  · refine (cloneC_nil w).mono ?_
    rintro e w' ⟨rfl, rfl⟩
    exact ⟨⟨_, rfl, Or.inl ⟨rfl, rfl⟩, fun b hb => by cases hb⟩, Below.refl _ _⟩
  · obtain ⟨i0, hi, hz0, hz1, hz2⟩ := info_parts Try.infoCe
    have h := AnyE.slices_Clone Try.cloneC i0 _ 3 24 hi hz0 hz1 hz2 rfl (by decide) Try.sizeOf32 g o l.length cap (flC l) w (flC_length l) (by unfold maxLen; omega) hn hc (flC_one l)
    change Calls Try.prog 50 _ _ _ at h
    refine h.mono ?_
    rintro e w' ⟨v', rfl, hown, hne, hb⟩
    exact ⟨⟨v', rfl, CsNew.of_owns hown⟩, hb⟩
def lOf (G : Ce → Option (List Ce)) (x : Ce) : List Ce := (G x).getD []
theorem NdsAt.look {W : World} {S : Nat → Prop} {bn n : Nat} {fn : Ce → Option Value} {G : Ce → Option (List Ce)} (h : NdsAt W S bn n fn G) (x : Ce) : ∃ v, (fn x).getD (.slice none 0 0) = v ∧ CsAt W v (lOf G x) ∧ (lOf G x).length ≤ n := by
  unfold lOf
  cases hg : G x with
  | none => exact ⟨_, by rw [h.no x hg]; rfl, Or.inl ⟨rfl, rfl⟩, by simp⟩
  | some l => obtain ⟨v, h1, h2, _⟩ := h.yes x l hg; exact ⟨v, by rw [h1]; rfl, h2, (h.ok x l hg).2.2.1⟩
set_option maxRecDepth 100000 in
set_option maxHeartbeats 4000000 in
theorem needs_any (p n : Nat) (S : Nat → Prop) (G : Ce → Option (List Ce)) (x : Ce) (hx : okC x) (w : World) (h : GrAt w S p n G) (hn : n * 24 ≤ 140737488355328) : Calls Try.prog 18 #[.pointer (some ⟨p, 0, none⟩), mkC x] w fun e w' => (∃ v, e = .returned v ∧ CsNew w' w.heap.size v (lOf G x)) ∧ Below w.heap.size w w' := by
  obtain ⟨bn, bu, fn, fu, h0, hp, hN, hU⟩ := h
  obtain ⟨u, hu, hc, hl⟩ := hN.look x
  have HM := Lib.hid hN.m
  have HX := Lib.hid hx
  have HU := Lib.hid hu
  have HL := Lib.hid (show (lOf G x).length * 24 ≤ 140737488355328 by omega)
  obtain ⟨L, hLe⟩ : ∃ L, L = lOf G x := ⟨_, rfl⟩
  rw [← hLe] at hc HL ⊢
  have HC := Lib.hid hc
  clear hN hU hx hp hu hl hc hLe hn
  obtain ⟨a, b, c⟩ := x
  unfold mkC
  go_enter Try.func18, Try.ntmps18
  go_wp2_with fail
  obtain ⟨s, hs⟩ : ∃ s, s = w.alloc (.cells #[.int .i64 a, .int .i64 b, .int .i64 c] 32) := ⟨_, rfl⟩
  have hb : Below w.heap.size w s := by rw [hs]; exact (Below.refl _ w).alloc (Nat.le_refl _) _
  have hbx := box_at hs
  have hpc := two_cells ((hb.block p (Array.getElem?_eq_some_iff.1 h0).1).trans h0)
  have HB := Lib.hid hb
  have zA : w.heap.size < s.heap.size := by rw [hs]; simp
  have zp : p < s.heap.size := Nat.lt_of_lt_of_le (Array.getElem?_eq_some_iff.1 h0).1 hb.size
  rw [← hs]
  clear hs hb h0
  refine wrp (S := fun w' => Below s.heap.size s w' ∧ w'.cell? ⟨p, 0, none⟩ = some (.map (some bn)) ∧ w'.cell? ⟨w.heap.size, 0, none⟩ = some (.int .i64 a) ∧ w'.cell? ⟨w.heap.size, 1, none⟩ = some (.int .i64 b) ∧ w'.cell? ⟨w.heap.size, 2, none⟩ = some (.int .i64 c)) (by kernel_rfl) (fun w' hx => ⟨hx, belK hx hpc.1 zp, belK hx hbx.1 zA, belK hx hbx.2.1 zA, belK hx hbx.2.2 zA⟩) (fun HKP hHeld => ?_)
  refine tk 0 ?_
  refine tk 1 ?_
  refine tk 2 ?_
  refine tk 3 ?_
  refine tk 4 ?_
  refine tk 5 ?_ (hy := look1_y rfl rfl Try.underlying62 Try.zeroValue30 rfl rfl HX.out (fun w' hw => (HM.out.below HB.out).below hw.1) HU.out)
  refine rd1 6 (by kernel_rfl) rfl fun K hK => ?_
  go_simp
  (go_at_call 50; refine (cloneCs_any _ _ _ ((HC.out.below HB.out).below (Below.refl _ _).drew) HL.out).mono ?_; rintro e wx ⟨⟨v, rfl, hv⟩, hbx2⟩)
  try (go_wp2_with fail)
  refine hK.out _ _ (HKP.out wx (hHeld.1.trans hbx2)) (fun hHeld => ?_)
  clear hK K
  try simp only [pz]
  refine tk 7 ?_
  refine wpAnyH_done (by kernel_rfl) ?_ _
  all_goals go_wp2_with fail
  all_goals first | go_ret | go_ret2
  all_goals exact ⟨⟨v, rfl, hv.base HB.out.size⟩, HB.out.trans (hHeld.1.mono HB.out.size)⟩
end Go.Proofs.Ytjjpfddgcilliaa
