/-
  CIRCLES: the cells whose needs are gone through, as they lie in memory (scc.open).
-/
import Derived.Test.YtjjpfddgcilliaaScc7
set_option linter.unusedSimpArgs false
set_option linter.unusedVariables false
namespace Go.Proofs.Ytjjpfddgcilliaa
open Go.RowKit Go.Shelf Go.Sort Go.Lib Go.Maps
set_option maxRecDepth 100000

/-- a slice is no longer than its room. -/
def CapOk (v : Value) : Prop := ∀ a n cap, v = .slice a n cap → n ≤ cap
/-- a list's own copy. -/
theorem cloneO_any (v : Value) (l : List Ce) (w : World) (h : CsAt w v l) (hn : l.length * 24 ≤ 140737488355328) :
    Calls Try.prog 50 #[v] w fun e w' => (∃ v', e = .returned v' ∧ CsNew w' w.heap.size v' l ∧ CapOk v') ∧ Below w.heap.size w w' := by
  rcases h with ⟨rfl, rfl⟩ | ⟨g, o, cap, rfl, hg, hc⟩
  · refine (cloneC_nil w).mono ?_
    rintro e w' ⟨rfl, rfl⟩
    exact ⟨⟨_, rfl, ⟨Or.inl ⟨rfl, rfl⟩, fun b hb => by cases hb⟩, fun a n cap h => by cases h; exact Nat.le_refl _⟩, Below.refl _ _⟩
  · obtain ⟨i0, hi, hz0, hz1, hz2⟩ := info_parts Try.infoCe
    have h := AnyE.slices_Clone Try.cloneC i0 _ 3 24 hi hz0 hz1 hz2 rfl (by decide) Try.sizeOf32 g o l.length cap (flC l) w (flC_length l) (by unfold maxLen; omega) hn hc (flC_one l)
    change Calls Try.prog 50 _ _ _ at h
    refine h.mono ?_
    rintro e w' ⟨v', rfl, hown, hne, hb⟩
    exact ⟨⟨v', rfl, CsNew.of_owns hown, fun a n cap h => by
      subst h
      rcases hown.2 with ⟨h1, h2⟩ | ⟨g', cap', cur, h1, _, _, h3, _⟩
      · cases h1; exact Nat.le_refl _
      · cases h1; exact h3⟩, hb⟩
set_option maxRecDepth 100000 in
set_option maxHeartbeats 4000000 in
theorem needsO_any (p n : Nat) (S : Nat → Prop) (G : Ce → Option (List Ce)) (x : Ce) (hx : okC x) (w : World) (h : GrAt w S p n G) (hn : n * 24 ≤ 140737488355328) : Calls Try.prog 18 #[.pointer (some ⟨p, 0, none⟩), mkC x] w fun e w' => (∃ v, e = .returned v ∧ CsNew w' w.heap.size v (lOf G x) ∧ CapOk v) ∧ Below w.heap.size w w' := by
  obtain ⟨bn, bu, fn, fu, h0, hp, hN, hU⟩ := h
  obtain ⟨u, hu, hc, hl⟩ := hN.look x
  have HM := Lib.hid hN.m
  have HX := Lib.hid hx
  have HU := Lib.hid hu
  have HL := Lib.hid (show (lOf G x).length * 24 ≤ 140737488355328 by omega)
  obtain ⟨L, hLe⟩ : ∃ L, L = lOf G x := ⟨_, rfl⟩
  rw [← hLe] at hc HL ⊢
  have HC := Lib.hid hc
  clear hN hU hx hp hu hl hc hLe hn
  obtain ⟨a, b, c⟩ := x
  unfold mkC
  go_enter Try.func18, Try.ntmps18
  go_wp2_with fail
  obtain ⟨s, hs⟩ : ∃ s, s = w.alloc (.cells #[.int .i64 a, .int .i64 b, .int .i64 c] 32) := ⟨_, rfl⟩
  have hb : Below w.heap.size w s := by rw [hs]; exact (Below.refl _ w).alloc (Nat.le_refl _) _
  have hbx := box_at hs
  have hpc := two_cells ((hb.block p (Array.getElem?_eq_some_iff.1 h0).1).trans h0)
  have HB := Lib.hid hb
  have zA : w.heap.size < s.heap.size := by rw [hs]; simp
  have zp : p < s.heap.size := Nat.lt_of_lt_of_le (Array.getElem?_eq_some_iff.1 h0).1 hb.size
  rw [← hs]
  clear hs hb h0
  refine wrp (S := fun w' => Below s.heap.size s w' ∧ w'.cell? ⟨p, 0, none⟩ = some (.map (some bn)) ∧ w'.cell? ⟨w.heap.size, 0, none⟩ = some (.int .i64 a) ∧ w'.cell? ⟨w.heap.size, 1, none⟩ = some (.int .i64 b) ∧ w'.cell? ⟨w.heap.size, 2, none⟩ = some (.int .i64 c)) (by kernel_rfl) (fun w' hx => ⟨hx, belK hx hpc.1 zp, belK hx hbx.1 zA, belK hx hbx.2.1 zA, belK hx hbx.2.2 zA⟩) (fun HKP hHeld => ?_)
  refine tk 0 ?_
  refine tk 1 ?_
  refine tk 2 ?_
  refine tk 3 ?_
  refine tk 4 ?_
  refine tk 5 ?_ (hy := look1_y rfl rfl Try.underlying62 Try.zeroValue30 rfl rfl HX.out (fun w' hw => (HM.out.below HB.out).below hw.1) HU.out)
  refine rd1 6 (by kernel_rfl) rfl fun K hK => ?_
  go_simp
  (go_at_call 50; refine (cloneO_any _ _ _ ((HC.out.below HB.out).below (Below.refl _ _).drew) HL.out).mono ?_; rintro e wx ⟨⟨v, rfl, hv, hcv⟩, hbx2⟩)
  try (go_wp2_with fail)
  refine hK.out _ _ (HKP.out wx (hHeld.1.trans hbx2)) (fun hHeld => ?_)
  clear hK K
  try simp only [pz]
  refine tk 7 ?_
  refine wpAnyH_done (by kernel_rfl) ?_ _
  all_goals go_wp2_with fail
  all_goals first | go_ret | go_ret2
  all_goals exact ⟨⟨v, rfl, hv.base HB.out.size, hcv⟩, HB.out.trans (hHeld.1.mono HB.out.size)⟩
/-- what is left of a list. -/
def LvAt (W : World) (v : Value) (r : List Ce) : Prop := ∃ (a : Option Addr) (cap : Nat), v = .slice a r.length cap ∧ r.length ≤ cap ∧ ∀ k (hk : k < r.length), ∃ g o, a = some ⟨g, o, none⟩ ∧ g < W.heap.size ∧ W.cell? ⟨g, o + k * 3, none⟩ = some (.int .i64 r[k].1) ∧ W.cell? ⟨g, o + k * 3 + 1, none⟩ = some (.int .i64 r[k].2.1) ∧ W.cell? ⟨g, o + k * 3 + 2, none⟩ = some (.int .i64 r[k].2.2)
theorem LvAt.kept {W V : World} {v : Value} {r : List Ce} (h : LvAt W v r) (hs : W.heap.size ≤ V.heap.size) (hk : ∀ b, blkOf v = some b → b < W.heap.size → V.heap[b]? = W.heap[b]?) : LvAt V v r := by
  obtain ⟨a, cap, rfl, hc, h⟩ := h
  refine ⟨a, cap, rfl, hc, fun k hk' => ?_⟩
  obtain ⟨g, o, e, hg, c0, c1, c2⟩ := h k hk'
  subst e
  have hb := hk g rfl hg
  exact ⟨g, o, rfl, Nat.lt_of_lt_of_le hg hs, (World.cell?_of_block (a := ⟨g, _, none⟩) hb).trans c0, (World.cell?_of_block (a := ⟨g, _, none⟩) hb).trans c1, (World.cell?_of_block (a := ⟨g, _, none⟩) hb).trans c2⟩
theorem LvAt.below {W V : World} {v : Value} {r : List Ce} (h : LvAt W v r) (hb : Below W.heap.size W V) : LvAt V v r := h.kept hb.size fun b _ hlt => hb.block b hlt
theorem LvAt.of_cs {W : World} {v : Value} {r : List Ce} (h : CsAt W v r) (hc : CapOk v) : LvAt W v r := by
  obtain ⟨a, cap, rfl, hk⟩ := h.shape
  exact ⟨a, cap, rfl, hc _ _ _ rfl, hk⟩
/-- a list without its first. -/
def tlV (g o n cap : Nat) : Value := .slice (if cap = 1 then some ⟨g, o, none⟩ else some ⟨g, o + 3, none⟩) n (cap - 1)
theorem tlV_run (g o n cap : Nat) (h : n + 1 ≤ cap) (W : World) : Sem.run Try.prog (Instr.slice 30 (.slice (some ⟨g, o, none⟩) (n + 1) cap) (some (.int .i64 1)) none none) W = .ok (tlV g o n cap) W := by
  have h1 : (1 : Int) ≤ ((n + 1 : Nat) : Int) := by omega
  have h2 : ((n + 1 : Nat) : Int) ≤ (cap : Int) := by omega
  have h3 : (1 : Int) ≤ (cap : Int) := by omega
  unfold tlV
  simp [go_sem, h1, h2, h3]
  intro h4
  omega
theorem tlV_at {W : World} {g o n cap : Nat} {x : Ce} {r : List Ce} (h : LvAt W (.slice (some ⟨g, o, none⟩) (n + 1) cap) (x :: r)) (hn : n = r.length) : LvAt W (tlV g o n cap) r := by
  obtain ⟨a, c, hv, hc, hk⟩ := h
  simp at hv
  obtain ⟨rfl, _, rfl⟩ := hv
  subst hn
  by_cases h1 : cap = 1
  · have h0 : r = [] := List.length_eq_zero_iff.1 (by simp at hc; omega)
    subst h0
    exact ⟨_, _, rfl, Nat.zero_le _, fun k hk => absurd hk (by simp)⟩
  · refine ⟨some ⟨g, o + 3, none⟩, cap - 1, by unfold tlV; rw [if_neg h1], by simp at hc; omega, fun k hk' => ?_⟩
    obtain ⟨g', o', e, hg, c0, c1, c2⟩ := hk (k + 1) (by simp; omega)
    cases e
    refine ⟨g, o + 3, rfl, hg, ?_, ?_, ?_⟩
    · rw [show o + 3 + k * 3 = o + (k + 1) * 3 by omega]; exact c0
    · rw [show o + 3 + k * 3 = o + (k + 1) * 3 by omega]; exact c1
    · rw [show o + 3 + k * 3 = o + (k + 1) * 3 by omega]; exact c2
theorem tlV_blk (g o n cap : Nat) : blkOf (tlV g o n cap) = some g := by
  unfold tlV
  split <;> rfl
theorem Try.infoOp : (Try.prog.info? 126).map (fun i => (i.zero, i.size, i.bytes)) = some (some (.agg #[.int .i64 0, .int .i64 0, .int .i64 0, .slice none 0 0]), 4, 48) := by kernel_rfl
/-- one more goes on the pile, at a step of a drawn region. -/
theorem step_append_open {ops : Array Oper} {o : Oper} {a : Act} {W : World} {KK : Act → World → Prop} {Q : Exit → Act → World → Prop} {E : Prop} (hgd : o.guard = none) (s x : Operand)
    (ho : o.op = .call { callee := .builtin .append, args := #[s, x], argTypes := #[127, 127] }) (v : Value) (Z : List (Ce × Value)) (z : Ce × Value) (hs : a.eval s = v) (hown : W.ownsRow 0 126 4 v Z.length (flR Z)) {ad : Addr} {c : Nat} (hx : a.eval x = .slice (some ad) 1 c) (hc : ∀ j u, (flR [z])[j]? = some u → W.cell? (ad.add j) = some u) (h1 : z.2.oneCell' = true)
    (hb : (Z.length + 1) * 48 ≤ 140737488355328)
    (h : ∀ v' w', w'.ownsRow 0 126 4 v' (Z ++ [z]).length (flR (Z ++ [z])) → W.grownBy w' v.ownBlock → (v'.ownBlock = v.ownBlock ∨ v'.ownBlock = some W.heap.size) → KK (a.put o.dst v') w') : if Region.wanted o (yielded ops a.tmps) = true then Oper.wp Try.prog o a W KK Q else E := by
  have hw : Region.wanted o (yielded ops a.tmps) = true := by simp [Region.wanted, hgd]
  rw [if_pos hw]
  obtain ⟨i0, hi, hz0, hz1, hz2⟩ := info_parts Try.infoOp
  have hlen : Z.length + 1 = (Z ++ [z]).length := by simp
  have hfl : flR Z ++ flR [z] = flR (Z ++ [z]) := (flR_append Z [z]).symm
  have h1' : ∀ u ∈ flR [z], u.oneCell' = true := flR_one fun y hy => by rw [List.mem_singleton.1 hy]; exact h1
  have hml : Z.length + 1 ≤ maxLen := by unfold maxLen; omega
  obtain ⟨v', w', hr, h2, h3, _, h4⟩ := run_append_own_at (P := Try.prog) W 0 _ o.type _ i0 _ 4 48 Try.underlying127 hi hz0 hz1 hz2 rfl (by decide) v _ _ hown ad 1 c (flR [z]) (flR_length [z]) hc h1' hml hb (Nat.zero_le _)
  rw [hlen, hfl] at h2
  unfold Oper.wp execOp
  simp only [ho, resolve, invoke, builtin, Sem.run_bind, Sem.run_pure, Result.andThen_ok, List.map_toArray, List.map_cons, List.map_nil, hs, hx]
  rw [hr]
  exact h v' w' h2 h3 h4
/-- the pile, the list, the set in memory. -/
structure FnM (w : World) (b : Nat) (vl0 vp vl : Value) (Y : List Yw) (l : List Ce) (s : Ce → Bool) (W : World) : Prop where
  m : MapAt W b (l.length + Y.length) (setF s)
  p : W.ownsRow 0 126 4 vp Y.length (flR (Y.map zOf))
  l : W.ownsRow 0 32 3 vl l.length (flC l)
  y : ∀ y ∈ Y, LvAt W y.2.1 y.2.2 ∧ y.2.1.oneCell' = true ∧ ∀ j, blkOf y.2.1 = some j → vl.ownBlock ≠ some j ∧ vp.ownBlock ≠ some j ∧ j ≠ b ∧ j < W.heap.size
  pb : ∀ j, vp.ownBlock = some j → w.heap.size ≤ j ∧ vl.ownBlock ≠ some j
  lb : ∀ j, vl.ownBlock = some j → (vl0.ownBlock = some j ∨ w.heap.size ≤ j) ∧ j ≠ b
  tr : Trn (fun k => k = b ∨ vl0.ownBlock = some k) w W
theorem LvAt.rowed {W V : World} {v : Value} {r : List Ce} {row : Option Nat} (h : LvAt W v r) (hg : W.grownBy V row) (hn : ∀ j, blkOf v = some j → row ≠ some j) : LvAt V v r :=
  h.kept hg.size fun b h1 hlt => hg.block b hlt fun e => hn b h1 e.symm
section
variable {w W W1 W2 W3 V : World} {b g cap : Nat} {vl0 vp vl vp' vl' u : Value} {Y : List Yw} {l r : List Ce} {s : Ce → Bool} {x y : Ce} {y0 : Yw}
theorem FnM.below (h : FnM w b vl0 vp vl Y l s W) (hb : Below W.heap.size W V) : FnM w b vl0 vp vl Y l s V :=
  ⟨h.m.below hb, row_below h.p hb, row_below h.l hb, fun y hy => ⟨(h.y y hy).1.below hb, (h.y y hy).2.1, fun j hj => by obtain ⟨a, c, d, e⟩ := (h.y y hy).2.2 j hj; exact ⟨a, c, d, Nat.lt_of_lt_of_le e hb.size⟩⟩, h.pb, h.lb, h.tr.after hb⟩
/-- the one on top is told. -/
theorem FnM.told (h : FnM w b vl0 vp vl (Y ++ [y0]) l s W) (hp : W.ownsRow 0 126 4 vp' Y.length (flR (Y.map zOf))) (hpb : vp'.ownBlock = vp.ownBlock) (hB : Below W.heap.size W W2) (hg : W2.grownBy V vl.ownBlock) (h1 : V.ownsRow 0 32 3 vl' (l ++ [x]).length (flC (l ++ [x])))
    (hb1 : vl'.ownBlock = vl.ownBlock ∨ vl'.ownBlock = some W2.heap.size) (hbw : b < w.heap.size) : FnM w b vl0 vp' vl' Y (l ++ [x]) s V := by
  have hpl : ∀ j, vp'.ownBlock = some j → j < W.heap.size := fun j hj => (hp.lt j hj).2
  refine ⟨?_, row_far (row_below hp hB) hg fun j hj => (h.pb j (hpb ▸ hj)).2, h1, fun y hy => ?_, fun j hj => ⟨(h.pb j (hpb ▸ hj)).1, fun e => ?_⟩, fun j hj => ?_, (h.tr.after hB).row hg fun x hx => ?_⟩
  · have hm := (h.m.below hB).kept hg (fun e => (h.lb b e.symm).2 rfl)
    have e : (l ++ [x]).length + Y.length = l.length + (Y ++ [y0]).length := by simp; omega
    rw [e]; exact hm
  · obtain ⟨k1, k2, k3⟩ := h.y y (List.mem_append_left _ hy)
    refine ⟨(k1.below hB).rowed hg fun j hj => (k3 j hj).1, k2, fun j hj => ?_⟩
    obtain ⟨a, c, d, e⟩ := k3 j hj
    refine ⟨fun e2 => ?_, fun e2 => c (hpb ▸ e2), d, by have := hB.size; have := hg.size; omega⟩
    rcases hb1 with h2 | h2
    · exact a (h2.symm.trans e2)
    · have := Option.some.inj (h2.symm.trans e2)
      have := hB.size
      omega
  · rcases hb1 with h2 | h2
    · exact (h.pb j (hpb ▸ hj)).2 (h2.symm.trans e)
    · have e2 : W2.heap.size = j := Option.some.inj (h2.symm.trans e)
      have := hpl j hj
      have := hB.size
      omega
  · rcases hb1 with h2 | h2
    · exact h.lb j (h2 ▸ hj)
    · have e2 : W2.heap.size = j := Option.some.inj (h2.symm.trans hj)
      have := hB.size
      have := h.tr.size
      exact ⟨Or.inr (by omega), by omega⟩
  · rcases (h.lb x hx).1 with h2 | h2
    · exact Or.inl (Or.inr h2)
    · exact Or.inr h2
/-- of the one on top, what is left, without its first. -/
theorem FnM.next (h : FnM w b vl0 vp vl (Y ++ [(x, u, y :: r)]) l s W) (hg : W.grownBy V vp.ownBlock) (hp : V.ownsRow 0 126 4 vp (Y ++ [(x, vl', r)]).length (flR ((Y ++ [(x, vl', r)]).map zOf))) (hu : LvAt W vl' r) (h1 : vl'.oneCell' = true) (hub : blkOf vl' = blkOf u) (hbw : b < w.heap.size) : FnM w b vl0 vp vl (Y ++ [(x, vl', r)]) l s V := by
  refine ⟨?_, hp, row_far h.l hg fun j hj e => (h.pb j e).2 hj, fun y' hy => ?_, h.pb, h.lb, h.tr.row hg fun x hx => Or.inr (h.pb x hx).1⟩
  · have e : l.length + (Y ++ [(x, vl', r)]).length = l.length + (Y ++ [(x, u, y :: r)]).length := by simp
    rw [e]
    exact h.m.kept hg (fun e => by have := (h.pb b e.symm).1; omega)
  · rcases List.mem_append.1 hy with hy | hy
    · obtain ⟨k1, k2, k3⟩ := h.y y' (List.mem_append_left _ hy)
      exact ⟨k1.rowed hg fun j hj => (k3 j hj).2.1, k2, fun j hj => by obtain ⟨a, c, d, e⟩ := k3 j hj; exact ⟨a, c, d, Nat.lt_of_lt_of_le e hg.size⟩⟩
    · rw [List.mem_singleton] at hy
      subst hy
      obtain ⟨k1, k2, k3⟩ := h.y (x, u, y :: r) (by simp)
      refine ⟨hu.rowed hg fun j hj => (k3 j (hub ▸ hj)).2.1, h1, fun j hj => ?_⟩
      obtain ⟨a, c, d, e⟩ := k3 j (hub ▸ hj)
      exact ⟨a, c, d, Nat.lt_of_lt_of_le e hg.size⟩
/-- one more goes on top. -/
theorem FnM.pushed (h : FnM w b vl0 vp vl Y l s W) (hB1 : Below W.heap.size W W1) (hg1 : W1.grownBy W2 (some b)) (hm : MapAt W2 b (l.length + Y.length + 1) (setF (setB s x))) (hB2 : Below W2.heap.size W2 W3) (hg : W3.grownBy V vp.ownBlock)
    (h1 : V.ownsRow 0 126 4 vp' (Y ++ [(x, u, r)]).length (flR ((Y ++ [(x, u, r)]).map zOf))) (hb1 : vp'.ownBlock = vp.ownBlock ∨ vp'.ownBlock = some W3.heap.size) (hu : LvAt W3 u r) (hu1 : u.oneCell' = true) (hub : ∀ j, blkOf u = some j → W2.heap.size ≤ j ∧ j < W3.heap.size) (hbw : b < w.heap.size) : FnM w b vl0 vp' vl (Y ++ [(x, u, r)]) l (setB s x) V := by
  have hs1 := hB1.size
  have hs2 := hg1.size
  have hs3 := hB2.size
  have hs4 := hg.size
  have hs0 := h.tr.size
  have hll : ∀ j, vl.ownBlock = some j → j < W.heap.size := fun j hj => (h.l.lt j hj).2
  have hpl : ∀ j, vp.ownBlock = some j → j < W.heap.size := fun j hj => (h.p.lt j hj).2
  have hl2 : W2.ownsRow 0 32 3 vl l.length (flC l) := row_far (row_below h.l hB1) hg1 fun j hj e => by have := (h.lb j hj).2; cases e; exact this rfl
  refine ⟨?_, h1, row_far (row_below hl2 hB2) hg fun j hj e => (h.pb j e).2 hj, fun y' hy => ?_, fun j hj => ⟨?_, fun e => ?_⟩, h.lb, (((h.tr.after hB1).wrote hg1 (Or.inl (Or.inl rfl))).after hB2).row hg fun x hx => Or.inr (h.pb x hx).1⟩
  · have hm2 := (hm.below hB2).kept hg (fun e => by have := (h.pb b e.symm).1; omega)
    have e : l.length + (Y ++ [(x, u, r)]).length = l.length + Y.length + 1 := by simp; omega
    rw [e]; exact hm2
  · have hnew : ∀ j, j < W3.heap.size → vp.ownBlock ≠ some j → vp'.ownBlock ≠ some j := fun j hj hn e => by
      rcases hb1 with h2 | h2
      · exact hn (h2.symm.trans e)
      · have := Option.some.inj (h2.symm.trans e); omega
    rcases List.mem_append.1 hy with hy | hy
    · obtain ⟨k1, k2, k3⟩ := h.y y' hy
      refine ⟨(((k1.below hB1).rowed hg1 fun j hj e => (k3 j hj).2.2.1 (Option.some.inj e).symm).below hB2).rowed hg fun j hj => (k3 j hj).2.1, k2, fun j hj => ?_⟩
      obtain ⟨a, c, d, e⟩ := k3 j hj
      exact ⟨a, hnew j (by omega) c, d, by omega⟩
    · rw [List.mem_singleton] at hy
      subst hy
      refine ⟨hu.rowed hg fun j hj e => ?_, hu1, fun j hj => ?_⟩
      · have := hub j hj; have := hpl j e; omega
      · obtain ⟨a, c⟩ := hub j hj
        exact ⟨fun e => by have := hll j e; omega, hnew j c (fun e => by have := hpl j e; omega), by omega, by omega⟩
  · rcases hb1 with h2 | h2
    · exact (h.pb j (h2 ▸ hj)).1
    · have e2 : W3.heap.size = j := Option.some.inj (h2.symm.trans hj)
      omega
  · rcases hb1 with h2 | h2
    · exact (h.pb j (h2 ▸ hj)).2 e
    · have e2 : W3.heap.size = j := Option.some.inj (h2.symm.trans hj)
      have := hll j e
      omega
end
end Go.Proofs.Ytjjpfddgcilliaa
