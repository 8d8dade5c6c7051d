/-
  GRAPHS, the document's side: what Set makes of the rows.
-/
import Derived.Test.YtjjpfddgcilliaaGra34
set_option linter.unusedSimpArgs false
set_option linter.unusedVariables false
namespace Go.Proofs.Ytjjpfddgcilliaa
open Go.RowKit Go.Shelf Go.Sort Go.Lib Go.Maps
set_option maxRecDepth 100000

theorem setR_new : ∀ (R : List Rw) (x : Ce) (l : List Ce), rowOf R x = none → setR R x l = R ++ [(x, l)]
  | [], _, _, _ => rfl
  | r :: R, x, l, h => by
    rw [rowOf_cons] at h
    unfold setR
    by_cases e : r.1 = x
    · rw [if_pos e] at h; cases h
    · rw [if_neg e] at h ⊢
      rw [setR_new R x l h]; rfl
theorem setR_at : ∀ (R : List Rw) (x : Ce) (l : List Ce) (k : Nat) (hk : k < R.length), R[k].1 = x → (R.map fun r => r.1).Nodup → setR R x l = R.set k (x, l)
  | [], _, _, _, hk, _, _ => absurd hk (by simp)
  | r :: R, x, l, 0, _, h, _ => by
    have h : r.1 = x := h
    unfold setR; rw [if_pos h]; rfl
  | r :: R, x, l, k + 1, hk, h, hd => by
    rw [List.map_cons, List.nodup_cons] at hd
    have hk' : k < R.length := by simpa using hk
    have h' : R[k].1 = x := h
    have hne : r.1 ≠ x := fun e => hd.1 (by rw [e, ← h']; exact List.mem_map.2 ⟨R[k], List.getElem_mem hk', rfl⟩)
    unfold setR
    rw [if_neg hne, setR_at R x l k hk' h' hd.2]; rfl
/-- one row more: in its row's own block, or in a new one. -/
theorem run_append_row1 {W : World} (ty : TypeId) (v : Value) (Z : List (Ce × Value)) (z : Ce × Value) (hown : W.ownsRow 0 69 4 v Z.length (flR Z)) {ad : Addr} {c : Nat} (hc : ∀ j u, (flR [z])[j]? = some u → W.cell? (ad.add j) = some u) (h1 : z.2.oneCell' = true)
    (hb : (Z.length + 1) * 48 ≤ 140737488355328) :
    ∃ v' w', (Builtin.append_ #[27, 27] ty #[v, .slice (some ad) 1 c]).run Try.prog W = .ok v' w' ∧ w'.ownsRow 0 69 4 v' (Z ++ [z]).length (flR (Z ++ [z])) ∧ W.grownBy w' v.ownBlock ∧ (v'.ownBlock = v.ownBlock ∨ ∀ b, v'.ownBlock = some b → W.heap.size ≤ b) := by
  obtain ⟨i0, hi, hz0, hz1, hz2⟩ := info_parts Try.infoRw
  have hlen : Z.length + 1 = (Z ++ [z]).length := by simp
  have hfl : flR Z ++ flR [z] = flR (Z ++ [z]) := (flR_append Z [z]).symm
  have h1' : ∀ u ∈ flR [z], u.oneCell' = true := flR_one fun y hy => by rw [List.mem_singleton.1 hy]; exact h1
  have hml : Z.length + 1 ≤ maxLen := by unfold maxLen; omega
  obtain ⟨v', w', hr, h2, h3, _⟩ := run_append_own (P := Try.prog) W 0 _ ty _ i0 _ 4 48 Try.underlying27 hi hz0 hz1 hz2 rfl (by decide) v _ _ hown ad 1 c (flR [z]) (flR_length [z]) hc h1' hml hb (Nat.zero_le _)
  rw [hlen, hfl] at h2
  refine ⟨v', w', hr, h2, h3, ?_⟩
  rcases hown.2 with ⟨rfl, h0⟩ | ⟨g, cap, cur, rfl, hbg, hg, hnc, hcm, hcs, htake⟩
  · obtain ⟨v2, w2, hr2, h22, _, _⟩ := run_append_own (P := Try.prog) W W.heap.size _ ty _ i0 _ 4 48 Try.underlying27 hi hz0 hz1 hz2 rfl (by decide) (.slice none 0 0) 0 [] (World.ownsRow_nil _ _ _ _) ad 1 c (flR [z]) (flR_length [z]) hc h1' (by unfold maxLen; omega) (by omega) (Nat.le_refl _)
    rw [hr] at hr2
    obtain rfl : v' = v2 := by injection hr2
    exact Or.inr fun b hb => (h22.lt b hb).1
  · by_cases hroom : Z.length + 1 ≤ cap
    · have hr2 := run_append_room (P := Try.prog) W _ ty _ i0 Try.underlying27 hi g Z.length cap cur hg ad 1 c (flR [z]) (by rw [hz1]; exact flR_length [z]) hc h1' hroom (by rw [hz1, flR_length, hcs]; simp; omega)
      rw [hr] at hr2
      obtain rfl : v' = _ := by injection hr2
      exact Or.inl rfl
    · have hr2 := run_append_grow (P := Try.prog) W _ ty _ i0 _ Try.underlying27 hi hz0 ⟨g, 0, none⟩ Z.length cap (flR Z) (by rw [hz1]; exact flR_length Z) (hown.cells (g := g) rfl) ad 1 c (flR [z]) (by rw [hz1]; exact flR_length [z]) hc (by omega) (by unfold maxLen at hml; omega) (growslice_fits (by omega) (by rw [hz2]; exact hb))
      rw [hr] at hr2
      obtain rfl : v' = _ := by injection hr2
      exact Or.inr fun b hb => by cases hb; exact Nat.le_refl _
/-- the box says a longer list. -/
theorem rg_append {w V V2 : World} {T : Nat → Prop} {p : Nat} {v v2 : Value} {Y : List Yw} {y0 : Yw} (hp : w.heap[p]? = some (.cells #[v] 29 (0, 0))) (hT : T p) (hvb : ∀ b, v.ownBlock = some b → T b ∧ b ≠ p) (hvt : ∀ b, v.ownBlock = some b → b < w.heap.size)
    (hy : ∀ y ∈ Y, CsAt w y.2.1 y.2.2 ∧ ∀ b, blkOf y.2.1 = some b → T b ∧ b ≠ p ∧ v.ownBlock ≠ some b) (hB : Below w.heap.size w V) (hg : V.grownBy V2 v.ownBlock) (hbk : v2.ownBlock = v.ownBlock ∨ ∀ b, v2.ownBlock = some b → V.heap.size ≤ b)
    (hown : V2.ownsRow 0 69 4 v2 (Y ++ [y0]).length (flR ((Y ++ [y0]).map zOf))) (h0 : CsAt V y0.2.1 y0.2.2) (h0b : ∀ b, blkOf y0.2.1 = some b → w.heap.size ≤ b) :
    RgAt (V2.setCell ⟨p, 0, none⟩ v2) (fun k => T k ∨ w.heap.size ≤ k) p ((Y ++ [y0]).map rOf) ∧ Trn T w (V2.setCell ⟨p, 0, none⟩ v2) := by
  have hpw := (Array.getElem?_eq_some_iff.1 hp).1
  have hnp : some p ≠ v.ownBlock := fun e => (hvb p e.symm).2 rfl
  have hpV : V2.heap[p]? = some (.cells #[v] 29 (0, 0)) := (hg.block p (Nat.lt_of_lt_of_le hpw hB.size) hnp).trans ((hB.block p hpw).trans hp)
  have hg2 : V2.grownBy (V2.setCell ⟨p, 0, none⟩ v2) (some p) := ⟨rfl, rfl, rfl, by simp, fun k _ hk => heap_setCell_other V2 ⟨p, 0, none⟩ k v2 (fun e => hk (by simp [e]))⟩
  have ht : Trn T w (V2.setCell ⟨p, 0, none⟩ v2) := by
    refine ⟨hg2.os.trans (hg.os.trans hB.os), hg2.tape.trans (hg.tape.trans hB.tape), hg2.output.trans (hg.output.trans hB.output), Nat.le_trans hB.size (Nat.le_trans hg.size hg2.size), fun k hk hn => ?_⟩
    have h1 : some k ≠ some p := fun e => hn (by cases e; exact hT)
    have h2 : some k ≠ v.ownBlock := fun e => hn (hvb k e.symm).1
    have hkV := Nat.lt_of_lt_of_le hk hB.size
    exact (hg2.block k (Nat.lt_of_lt_of_le hkV hg.size) h1).trans ((hg.block k hkV h2).trans (hB.block k hk))
  have hne : ∀ b, v2.ownBlock = some b → (T b ∨ w.heap.size ≤ b) ∧ b ≠ p := fun b hb => by
    rcases hbk with e | e
    · rw [e] at hb; exact ⟨Or.inl (hvb b hb).1, (hvb b hb).2⟩
    · have := e b hb; have := hB.size; exact ⟨Or.inr (by omega), by omega⟩
  refine ⟨⟨v2, Y ++ [y0], by rw [heap_setCell_same V2 p 0 _ _ v2 hpV]; rfl, Or.inl hT, hown.kept hg2 ?_, hne, rfl, fun y hyy => ?_⟩, ht⟩
  · cases ho : v2.ownBlock with
    | none => exact Or.inl rfl
    | some b => exact Or.inr (fun e => (hne b ho).2 (Option.some.inj e))
  · rcases List.mem_append.1 hyy with hyY | hy0
    · obtain ⟨hc, hb⟩ := hy y hyY
      refine ⟨hc.kept ht.size (fun b cs t f h1 h2 => ?_), fun b h1 => ⟨Or.inl (hb b h1).1, (hb b h1).2.1, fun e => ?_⟩⟩
      · have hbw := (Array.getElem?_eq_some_iff.1 h2).1
        have hbV := Nat.lt_of_lt_of_le hbw hB.size
        exact (hg2.block b (Nat.lt_of_lt_of_le hbV hg.size) (fun e => (hb b h1).2.1 (Option.some.inj e))).trans ((hg.block b hbV (fun e => (hb b h1).2.2 e.symm)).trans (hB.block b hbw))
      · have hbw := hc.lt h1
        rcases hbk with e2 | e2
        · exact (hb b h1).2.2 (e2.symm.trans e)
        · have := e2 b e; have := hB.size; omega
    · rw [List.mem_singleton] at hy0
      subst hy0
      refine ⟨h0.kept (Nat.le_trans hg.size hg2.size) (fun b cs t f h1 h2 => ?_), fun b h1 => ⟨Or.inr (h0b b h1), fun e => by have := h0b b h1; omega, fun e => ?_⟩⟩
      · have hbV := (Array.getElem?_eq_some_iff.1 h2).1
        have := h0b b h1
        exact (hg2.block b (Nat.lt_of_lt_of_le hbV hg.size) (fun e => by have := Option.some.inj e; omega)).trans (hg.block b hbV (fun e => by have := hvt b e.symm; omega))
      · have h2 := h0b b h1
        have h3 := h0.lt h1
        rcases hbk with e2 | e2
        · have := hvt b (e2.symm.trans e); omega
        · have := e2 b e; omega
theorem wp_storeR {P : Program} {o : Oper} {a : Act} {w : World} {K : Act → World → Prop} {Q : Exit → Act → World → Prop} (ty : TypeId) (x y : Operand) (ho : o.op = .store ty x y)
    (g b : Nat) (cells : Array Value) (hx : a.eval x = .pointer (some ⟨g, b, none⟩)) (hy : a.eval y = .agg cells) (t : TypeId) (old : Array Value) (hg : w.heap[g]? = some (.cells old t (0, 0))) (hi : (P.info? ty).map (·.size) = some cells.size)
    (hold : b + cells.size ≤ old.size) (h1 : cells.toList.all (·.oneCell') = true)
    (h : K (a.put o.dst undef) (w.setRow g ⟨old.toList.take b ++ cells.toList ++ old.toList.drop (b + cells.size)⟩)) : o.wp P a w K Q := by
  have hr : (storeVar ty ⟨g, b, none⟩ (.agg cells)).run P w = .ok () (w.setRow g ⟨old.toList.take b ++ cells.toList ++ old.toList.drop (b + cells.size)⟩) := by
    have := run_storeCells_at P g b t cells.toList 0 old w hg (by simpa using hold) (fun v hv => List.all_eq_true.1 h1 v hv)
    cases hq : P.info? ty with
    | none => simp [hq] at hi
    | some i =>
      have hs : cells.size = i.size := by simp [hq] at hi; omega
      simp [storeVar, sizeOf, typeInfo, hq, Value.cells, hs] at this ⊢
      exact this
  unfold Oper.wp execOp
  simp only [ho, hx, hy, Instr.storeAt, Instr.sureAddr, Sem.run_bind, Sem.run_pure, Result.andThen_ok, hr]
  exact h
theorem flR_set : ∀ (Z : List (Ce × Value)) (k : Nat) (z : Ce × Value), k < Z.length → flR (Z.set k z) = (flR Z).take (k * 4) ++ rowL z ++ (flR Z).drop (k * 4 + 4)
  | [], _, _, h => absurd h (by simp)
  | a :: Z, 0, z, _ => by
    have e : flR (a :: Z) = rowL a ++ flR Z := by unfold flR; rw [List.flatMap_cons]
    have e2 : flR (z :: Z) = rowL z ++ flR Z := by unfold flR; rw [List.flatMap_cons]
    rw [List.set_cons_zero, e, e2]
    simp [rowL]
  | a :: Z, k + 1, z, h => by
    have ih := flR_set Z k z (by simpa using h)
    have e : ∀ Z', flR (a :: Z') = rowL a ++ flR Z' := fun Z' => by unfold flR; rw [List.flatMap_cons]
    have hl : (rowL a).length = 4 := rfl
    rw [List.set_cons_succ, e, e, ih, show (k + 1) * 4 = (rowL a).length + k * 4 by rw [hl]; omega, show (rowL a).length + k * 4 + 4 = (rowL a).length + (k * 4 + 4) by omega, List.take_length_add_append, List.drop_length_add_append]
    simp only [List.append_assoc]
/-- a row stored at its place, at a step of a drawn region. -/
theorem step_store_row {ops : Array Oper} {o : Oper} {a : Act} {w : World} {KK : Act → World → Prop} {Q : Exit → Act → World → Prop} {E : Prop} (hgd : o.guard = none) (x y : Operand) (ho : o.op = .store 69 x y) (hd : o.dst = none)
    {k g n cap : Nat} {Z : List (Ce × Value)} (z : Ce × Value) (h1 : z.2.oneCell' = true) (hown : w.ownsRow 0 69 4 (.slice (some ⟨g, 0, none⟩) n cap) n (flR Z)) (hk : k < Z.length) (hx : a.eval x = .pointer (some ⟨g, k * 4, none⟩)) (hy : a.eval y = .agg (rowL z).toArray)
    (h : ∀ w', w'.ownsRow 0 69 4 (.slice (some ⟨g, 0, none⟩) n cap) n (flR (Z.set k z)) → w.grownBy w' (some g) → KK a w') : if Region.wanted o (yielded ops a.tmps) = true then Oper.wp Try.prog o a w KK Q else E := by
  have hw : Region.wanted o (yielded ops a.tmps) = true := by simp [Region.wanted, hgd]
  rw [if_pos hw]
  have hl := hown.1
  rw [flR_length] at hl
  have hn : n = Z.length := by omega
  rcases hown.2 with ⟨hv, _⟩ | ⟨g', cap', cur, hv, hb, hgg, hc, hm, hs, ht⟩
  · cases hv
  · obtain ⟨rfl, rfl⟩ : g = g' ∧ cap = cap' := by simpa using hv
    have h4 : k * 4 + 4 ≤ n * 4 := by omega
    have hcs : n * 4 ≤ cur.size := by rw [hs]; exact Nat.mul_le_mul_right _ hc
    refine wp_storeR (P := Try.prog) 69 x y ho g (k * 4) (rowL z).toArray hx hy 69 cur hgg (by kernel_rfl) (by show k * 4 + 4 ≤ cur.size; omega) (by simp [rowL, h1]; exact ⟨rfl, rfl, rfl⟩) ?_
    rw [hd]
    refine h _ ⟨by rw [flR_length, List.length_set]; omega, Or.inr ⟨g, cap, _, rfl, hb, setRow_heap w g cur _ _ _ hgg, hc, hm, ?_, ?_⟩⟩ ⟨by unfold World.setRow; rfl, by unfold World.setRow; rfl, by unfold World.setRow; rfl, by simp [World.setRow], fun j _ hj => setRow_other w g j _ (fun e => hj (by rw [e]))⟩
    · show (cur.toList.take (k * 4) ++ rowL z ++ cur.toList.drop (k * 4 + 4)).length = cap * 4
      rw [List.length_append, List.length_append, List.length_take, List.length_drop, Array.length_toList, ← hs]
      show min (k * 4) cur.size + 4 + (cur.size - (k * 4 + 4)) = cur.size
      omega
    · show (cur.toList.take (k * 4) ++ rowL z ++ cur.toList.drop (k * 4 + 4)).take (n * 4) = flR (Z.set k z)
      have hzl : (rowL z).length = 4 := rfl
      rw [flR_set Z k z hk, ← ht, List.take_take, Nat.min_eq_left (by omega), List.drop_take]
      rw [List.append_assoc, List.append_assoc, List.take_append, List.take_append, List.length_take, Array.length_toList, Nat.min_eq_left (by omega), hzl, List.take_take, Nat.min_eq_right (by omega)]
      congr 1
      rw [List.take_of_length_le (by rw [hzl]; omega)]
      rw [Nat.sub_sub]
/-- .. and what that makes of the graph. -/
theorem rg_store {w V V4 : World} {T : Nat → Prop} {p g n cap k : Nat} {Y : List Yw} {x : Ce} {u : Value} {l : List Ce} (hp : w.heap[p]? = some (.cells #[.slice (some ⟨g, 0, none⟩) n cap] 29 (0, 0))) (hT : T p) (hTg : T g ∧ g ≠ p)
    (hgw : g < w.heap.size) (hn : n = Y.length) (hy : ∀ y ∈ Y, CsAt w y.2.1 y.2.2 ∧ ∀ b, blkOf y.2.1 = some b → T b ∧ b ≠ p ∧ b ≠ g) (hB : Below w.heap.size w V) (hgg : V.grownBy V4 (some g)) (r4 : V4.ownsRow 0 69 4 (.slice (some ⟨g, 0, none⟩) n cap) n (flR ((Y.map zOf).set k (x, u)))) (h0 : CsAt V u l) (h0b : ∀ b, blkOf u = some b → w.heap.size ≤ b) :
    RgAt V4 (fun k => T k ∨ w.heap.size ≤ k) p ((Y.set k (x, u, l)).map rOf) ∧ Trn T w V4 := by
  subst hn
  have hpw := (Array.getElem?_eq_some_iff.1 hp).1
  have ez : (Y.map zOf).set k (x, u) = (Y.set k (x, u, l)).map zOf := by rw [List.map_set]; rfl
  rw [ez] at r4
  have hpV : V4.heap[p]? = some (.cells #[.slice (some ⟨g, 0, none⟩) Y.length cap] 29 (0, 0)) := (hgg.block p (Nat.lt_of_lt_of_le hpw hB.size) (fun e => hTg.2 (Option.some.inj e).symm)).trans ((hB.block p hpw).trans hp)
  refine ⟨⟨_, Y.set k (x, u, l), hpV, Or.inl hT, by rw [List.length_set]; exact r4, fun b hb => by cases hb; exact ⟨Or.inl hTg.1, hTg.2⟩, rfl, fun y hyy => ?_⟩, (Trn.of_below hB).wrote hgg (Or.inl hTg.1)⟩
  rcases List.mem_or_eq_of_mem_set hyy with hyY | rfl
  · obtain ⟨hc, hb⟩ := hy y hyY
    refine ⟨hc.kept (Nat.le_trans hB.size hgg.size) (fun b cs t f h1 h2 => ?_), fun b h1 => ⟨Or.inl (hb b h1).1, (hb b h1).2.1, fun e => by cases e; exact (hb _ h1).2.2 rfl⟩⟩
    have hbw := (Array.getElem?_eq_some_iff.1 h2).1
    exact (hgg.block b (Nat.lt_of_lt_of_le hbw hB.size) (fun e => (hb b h1).2.2 (Option.some.inj e))).trans (hB.block b hbw)
  · refine ⟨h0.kept hgg.size (fun b cs t f h1 h2 => ?_), fun b h1 => ⟨Or.inr (h0b b h1), fun e => by have := h0b b h1; omega, fun e => ?_⟩⟩
    · have := h0b b h1
      exact hgg.block b (Array.getElem?_eq_some_iff.1 h2).1 (fun e => by have := Option.some.inj e; omega)
    · have := h0b b h1
      have e2 : g = b := Option.some.inj e
      omega
/-- one row more, at a step of a drawn region. -/
theorem step_append_row1 {ops : Array Oper} {o : Oper} {a : Act} {W : World} {KK : Act → World → Prop} {Q : Exit → Act → World → Prop} {E : Prop} (hgd : o.guard = none) (s x : Operand)
    (ho : o.op = .call { callee := .builtin .append, args := #[s, x], argTypes := #[27, 27] }) (v : Value) (Z : List (Ce × Value)) (z : Ce × Value) (hs : a.eval s = v) (hown : W.ownsRow 0 69 4 v Z.length (flR Z)) {ad : Addr} {c : Nat} (hx : a.eval x = .slice (some ad) 1 c) (hc : ∀ j u, (flR [z])[j]? = some u → W.cell? (ad.add j) = some u) (h1 : z.2.oneCell' = true)
    (hb : (Z.length + 1) * 48 ≤ 140737488355328)
    (h : ∀ v' w', w'.ownsRow 0 69 4 v' (Z ++ [z]).length (flR (Z ++ [z])) → W.grownBy w' v.ownBlock → (v'.ownBlock = v.ownBlock ∨ ∀ b, v'.ownBlock = some b → W.heap.size ≤ b) → KK (a.put o.dst v') w') : if Region.wanted o (yielded ops a.tmps) = true then Oper.wp Try.prog o a W KK Q else E := by
  have hw : Region.wanted o (yielded ops a.tmps) = true := by simp [Region.wanted, hgd]
  rw [if_pos hw]
  obtain ⟨v', w', hr, h2, h3, h4⟩ := run_append_row1 o.type v Z z hown hc h1 hb
  unfold Oper.wp execOp
  simp only [ho, resolve, invoke, builtin, Sem.run_bind, Sem.run_pure, Result.andThen_ok, List.map_toArray, List.map_cons, List.map_nil, hs, hx]
  rw [hr]
  exact h v' w' h2 h3 h4
end Go.Proofs.Ytjjpfddgcilliaa
