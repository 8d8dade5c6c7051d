/-
  GRAPHS, the document's side: its rows as they are written.
  GRAPHS, the document's side: rows behind rows; Drop.
-/
import Derived.Test.YtjjpfddgcilliaaGra31
set_option linter.unusedSimpArgs false
set_option linter.unusedVariables false
namespace Go.Proofs.Ytjjpfddgcilliaa
open Go.RowKit Go.Shelf Go.Sort Go.Lib Go.Maps
set_option maxRecDepth 100000

/-- a row's cells: a cell, and the value of its list. -/
def rowL (z : Ce × Value) : List Value := [.int .i64 z.1.1, .int .i64 z.1.2.1, .int .i64 z.1.2.2, z.2]
def flR (Z : List (Ce × Value)) : List Value := Z.flatMap rowL
theorem flR_length : ∀ Z : List (Ce × Value), (flR Z).length = Z.length * 4
  | [] => rfl
  | z :: Z => by
    have := flR_length Z
    unfold flR at this ⊢
    rw [List.flatMap_cons, List.length_append, this, List.length_cons, Nat.add_mul]
    simp [rowL]; omega
theorem flR_append (Y Z : List (Ce × Value)) : flR (Y ++ Z) = flR Y ++ flR Z := by unfold flR; rw [List.flatMap_append]
theorem flR_get : ∀ (Z : List (Ce × Value)) (k : Nat) (h : k < Z.length), (flR Z)[k * 4]? = some (.int .i64 Z[k].1.1) ∧ (flR Z)[k * 4 + 1]? = some (.int .i64 Z[k].1.2.1) ∧ (flR Z)[k * 4 + 2]? = some (.int .i64 Z[k].1.2.2) ∧ (flR Z)[k * 4 + 3]? = some Z[k].2
  | [], _, h => absurd h (by simp)
  | z :: Z, 0, _ => by unfold flR; rw [List.flatMap_cons]; exact ⟨rfl, rfl, rfl, rfl⟩
  | z :: Z, k + 1, h => by
    have ih := flR_get Z k (by simpa using h)
    have e : ∀ j, (flR (z :: Z))[4 + j]? = (flR Z)[j]? := fun j => by
      unfold flR; rw [List.flatMap_cons, List.getElem?_append_right (by simp [rowL])]
      simp [rowL]
    have e0 : (k + 1) * 4 = 4 + k * 4 := by omega
    rw [e0, Nat.add_assoc, Nat.add_assoc, Nat.add_assoc, e, e, e, e]
    exact ih
/-- a row as it lies and as it reads: its cell, its list's value, its list. -/
abbrev Yw := Ce × Value × List Ce
def zOf (y : Yw) : Ce × Value := (y.1, y.2.1)
def rOf (y : Yw) : Rw := (y.1, y.2.2)
/-- the document's graph in memory, as it is written: all of it lies in the blocks T. -/
def RgAt (W : World) (T : Nat → Prop) (p : Nat) (R : List Rw) : Prop :=
  ∃ (v : Value) (Y : List Yw), W.heap[p]? = some (.cells #[v] 29 (0, 0)) ∧ T p ∧ W.ownsRow 0 69 4 v Y.length (flR (Y.map zOf)) ∧ (∀ b, v.ownBlock = some b → T b ∧ b ≠ p) ∧ R = Y.map rOf ∧
    ∀ y ∈ Y, CsAt W y.2.1 y.2.2 ∧ ∀ b, blkOf y.2.1 = some b → T b ∧ b ≠ p ∧ v.ownBlock ≠ some b
/-- .. is as it is read. -/
theorem RgAt.view {W : World} {T : Nat → Prop} {p : Nat} {R : List Rw} (h : RgAt W T p R) : RgV W p R := by
  obtain ⟨v, Y, hp, _, hrow, _, rfl, hz⟩ := h
  have hpc : W.cell? ⟨p, 0, none⟩ = some v := by simp [World.cell?, hp]
  have hlen : (Y.map rOf).length = Y.length := List.length_map ..
  refine ⟨(Array.getElem?_eq_some_iff.1 hp).1, ?_⟩
  rcases hrow.2 with ⟨rfl, h0⟩ | ⟨g, cap, cur, rfl, _, hgg, _, _, _, _⟩
  · exact ⟨none, 0, by rw [hpc, hlen, h0], fun i hi => absurd hi (by omega)⟩
  · refine ⟨some ⟨g, 0, none⟩, cap, by rw [hpc, hlen], fun i hi => ?_⟩
    have hi' : i < Y.length := by omega
    have hiz : i < (Y.map zOf).length := by rw [List.length_map]; exact hi'
    obtain ⟨hc, _⟩ := hz Y[i] (List.getElem_mem hi')
    obtain ⟨a0, a1, a2, a3⟩ := flR_get (Y.map zOf) i hiz
    have ez : (Y.map zOf)[i] = zOf Y[i] := List.getElem_map ..
    have er : (Y.map rOf)[i] = rOf Y[i] := List.getElem_map ..
    rw [ez] at a0 a1 a2 a3
    rw [er]
    have hcell := hrow.cells (g := g) rfl
    have b0 := hcell _ _ a0
    have b1 := hcell _ _ a1
    have b2 := hcell _ _ a2
    have b3 := hcell _ _ a3
    rw [Addr.add_lit] at b0 b1 b2 b3
    exact ⟨g, 0, Y[i].2.1, rfl, (Array.getElem?_eq_some_iff.1 hgg).1, b0, by rw [Nat.add_assoc]; exact b1, by rw [Nat.add_assoc]; exact b2, by rw [Nat.add_assoc]; exact b3, hc⟩
theorem RgAt.kept {W W' : World} {T : Nat → Prop} {p : Nat} {R : List Rw} (h : RgAt W T p R) (hk : Kept T W W') : RgAt W' T p R := by
  obtain ⟨v, Y, hp, hT, hrow, hv, hR, hz⟩ := h
  refine ⟨v, Y, (hk.2 p (Array.getElem?_eq_some_iff.1 hp).1 hT).trans hp, hT, ⟨hrow.1, ?_⟩, hv, hR, fun y hy => ?_⟩
  · rcases hrow.2 with h0 | ⟨g, cap, cur, rfl, hb, hgg, h1, h2, h3, h4⟩
    · exact Or.inl h0
    · exact Or.inr ⟨g, cap, cur, rfl, hb, (hk.2 g (Array.getElem?_eq_some_iff.1 hgg).1 (hv g rfl).1).trans hgg, h1, h2, h3, h4⟩
  · obtain ⟨hc, hb⟩ := hz y hy
    exact ⟨hc.kept hk.1 (fun b _ _ _ h1 h2 => hk.2 b (Array.getElem?_eq_some_iff.1 h2).1 (hb b h1).1), hb⟩
theorem RgAt.mono {W : World} {T U : Nat → Prop} {p : Nat} {R : List Rw} (h : RgAt W T p R) (hs : ∀ k, k < W.heap.size → T k → U k) : RgAt W U p R := by
  obtain ⟨v, Y, hp, hT, hrow, hv, hR, hz⟩ := h
  refine ⟨v, Y, hp, hs p (Array.getElem?_eq_some_iff.1 hp).1 hT, hrow, fun b hb => ⟨hs b (hrow.lt b hb).2 (hv b hb).1, (hv b hb).2⟩, hR, fun y hy => ?_⟩
  obtain ⟨hc, hb⟩ := hz y hy
  exact ⟨hc, fun b h => ⟨hs b (hc.lt h) (hb b h).1, (hb b h).2⟩⟩
theorem RgAt.bound {W : World} {T : Nat → Prop} {p : Nat} {R : List Rw} (h : RgAt W T p R) : RgAt W (fun k => T k ∧ k < W.heap.size) p R := h.mono fun _ hk ht => ⟨ht, hk⟩
/-- another list of rows, in a row of its own: the box says so. -/
theorem RgAt.other {W V : World} {T : Nat → Prop} {p : Nat} {v v' : Value} {Y Y' : List Yw} (hp : V.heap[p]? = some (.cells #[v'] 29 (0, 0))) (hT : T p) (hrow : V.ownsRow 0 69 4 v' Y'.length (flR (Y'.map zOf))) (hv : ∀ b, v'.ownBlock = some b → W.heap.size ≤ b ∧ b ≠ p)
    (hs : W.heap.size ≤ V.heap.size) (hk : ∀ b, b < W.heap.size → b ≠ p → V.heap[b]? = W.heap[b]?) (hy : ∀ y ∈ Y', CsAt W y.2.1 y.2.2 ∧ ∀ b, blkOf y.2.1 = some b → T b ∧ b ≠ p) : RgAt V (fun k => T k ∨ W.heap.size ≤ k) p (Y'.map rOf) := by
  refine ⟨v', Y', hp, Or.inl hT, hrow, fun b hb => ⟨Or.inr (hv b hb).1, (hv b hb).2⟩, rfl, fun y h => ?_⟩
  obtain ⟨hc, hb⟩ := hy y h
  refine ⟨hc.kept hs (fun b _ _ _ h1 h2 => hk b (Array.getElem?_eq_some_iff.1 h2).1 (hb b h1).2), fun b h1 => ⟨Or.inl (hb b h1).1, (hb b h1).2, fun e => ?_⟩⟩
  have h2 := (hv b e).1
  have h3 := hc.lt h1
  omega
/-! ### what Set and Drop make of the rows -/
def setR (R : List Rw) (x : Ce) (l : List Ce) : List Rw := match R with
  | [] => [(x, l)]
  | r :: R => if r.1 = x then (x, l) :: R else r :: setR R x l
def drpR (R : List Rw) (x : Ce) : List Rw := R.filter fun r => !decide (r.1 = x)
theorem rowOf_cons (r : Rw) (R : List Rw) (z : Ce) : rowOf (r :: R) z = if r.1 = z then some r.2 else rowOf R z := by
  unfold rowOf; rw [List.find?_cons]
  by_cases e : r.1 = z
  · rw [decide_eq_true e, if_pos e]; rfl
  · rw [decide_eq_false e, if_neg e]
theorem rowOf_set : ∀ (R : List Rw) (x : Ce) (l : List Ce), rowOf (setR R x l) = putG (rowOf R) x l
  | [], x, l => funext fun z => by
    unfold setR putG; rw [rowOf_cons]
    by_cases e : z = x
    · rw [if_pos e.symm, if_pos e]
    · rw [if_neg (fun h => e h.symm), if_neg e]
  | r :: R, x, l => funext fun z => by
    have ih := congrFun (rowOf_set R x l) z
    unfold setR
    by_cases h : r.1 = x
    · rw [if_pos h]; unfold putG; rw [rowOf_cons, rowOf_cons]
      by_cases e : z = x
      · rw [if_pos e.symm, if_pos e]
      · rw [if_neg (fun h => e h.symm), if_neg e, if_neg (fun h2 => e (h2.symm.trans h))]
    · rw [if_neg h, rowOf_cons, ih]; unfold putG; rw [rowOf_cons]
      by_cases e : z = x
      · rw [if_pos e, if_pos e, if_neg (fun h2 => h (h2.trans e))]
      · rw [if_neg e, if_neg e]
theorem rowOf_drp : ∀ (R : List Rw) (x : Ce), rowOf (drpR R x) = delG (rowOf R) x
  | [], x => funext fun z => by
    unfold delG; split <;> rfl
  | r :: R, x => funext fun z => by
    have ih := congrFun (rowOf_drp R x) z
    unfold drpR at ih ⊢
    rw [List.filter_cons]
    by_cases h : r.1 = x
    · rw [decide_eq_true h]; simp only [Bool.not_true, Bool.false_eq_true, if_false]
      rw [ih]; unfold delG; rw [rowOf_cons]
      by_cases e : z = x
      · rw [if_pos e, if_pos e]
      · rw [if_neg e, if_neg e, if_neg (fun h2 => e (h2.symm.trans h))]
    · rw [decide_eq_false h]; simp only [Bool.not_false, if_true]
      rw [rowOf_cons, ih]; unfold delG; rw [rowOf_cons]
      by_cases e : z = x
      · rw [if_pos e, if_pos e, if_neg (fun h2 => h (h2.trans e))]
      · rw [if_neg e, if_neg e]
theorem setR_keys : ∀ (R : List Rw) (x : Ce) (l : List Ce) (z : Ce), z ∈ (setR R x l).map (fun r => r.1) ↔ z = x ∨ z ∈ R.map fun r => r.1
  | [], x, l, z => by simp [setR]
  | r :: R, x, l, z => by
    have ih := setR_keys R x l z
    unfold setR
    by_cases h : r.1 = x
    · rw [if_pos h, List.map_cons, List.map_cons, List.mem_cons, List.mem_cons, h]
      constructor
      · rintro (h | h)
        · exact Or.inl h
        · exact Or.inr (Or.inr h)
      · rintro (h | h | h)
        · exact Or.inl h
        · exact Or.inl h
        · exact Or.inr h
    · rw [if_neg h, List.map_cons, List.map_cons, List.mem_cons, List.mem_cons, ih]
      constructor
      · rintro (h | h | h)
        · exact Or.inr (Or.inl h)
        · exact Or.inl h
        · exact Or.inr (Or.inr h)
      · rintro (h | h | h)
        · exact Or.inr (Or.inl h)
        · exact Or.inl h
        · exact Or.inr (Or.inr h)
theorem setR_nodup : ∀ (R : List Rw) (x : Ce) (l : List Ce), (R.map fun r => r.1).Nodup → ((setR R x l).map fun r => r.1).Nodup
  | [], _, _, _ => by simp [setR]
  | r :: R, x, l, hd => by
    rw [List.map_cons, List.nodup_cons] at hd
    unfold setR
    by_cases h : r.1 = x
    · rw [if_pos h, List.map_cons, List.nodup_cons]; exact ⟨h ▸ hd.1, hd.2⟩
    · rw [if_neg h, List.map_cons, List.nodup_cons]
      refine ⟨fun hm => ?_, setR_nodup R x l hd.2⟩
      rcases (setR_keys R x l r.1).1 hm with e | e
      · exact h e
      · exact hd.1 e
theorem drpR_nodup (R : List Rw) (x : Ce) (hd : (R.map fun r => r.1).Nodup) : ((drpR R x).map fun r => r.1).Nodup := hd.sublist (List.filter_sublist.map _)
end Go.Proofs.Ytjjpfddgcilliaa
namespace Go.Proofs.Ytjjpfddgcilliaa
open Go.RowKit Go.Shelf Go.Sort Go.Lib Go.Maps
set_option maxRecDepth 100000

theorem Try.infoRw : (Try.prog.info? 69).map (fun i => (i.zero, i.size, i.bytes)) = some (some (.agg #[.int .i64 0, .int .i64 0, .int .i64 0, .slice none 0 0]), 4, 48) := by kernel_rfl
/-- rows in memory. -/
def RsAt (W : World) (v : Value) (Z : List (Ce × Value)) : Prop := (v = .slice none 0 0 ∧ Z = []) ∨ ∃ (ad : Addr) (cap : Nat), v = .slice (some ad) Z.length cap ∧ ∀ j u, (flR Z)[j]? = some u → W.cell? (ad.add j) = some u
theorem flR_take (Z : List (Ce × Value)) (k : Nat) : ∀ (i : Nat) (u : Value), (flR (Z.take k))[i]? = some u → (flR Z)[i]? = some u := fun i u h => by
  have e : flR Z = flR (Z.take k) ++ flR (Z.drop k) := by rw [← flR_append, List.take_append_drop]
  rw [e, List.getElem?_append_left (List.getElem?_eq_some_iff.1 h).1]; exact h
theorem flR_drop (Z : List (Ce × Value)) (k : Nat) (hk : k ≤ Z.length) : ∀ (i : Nat) (u : Value), (flR (Z.drop k))[i]? = some u → (flR Z)[k * 4 + i]? = some u := fun i u h => by
  have e : flR Z = flR (Z.take k) ++ flR (Z.drop k) := by rw [← flR_append, List.take_append_drop]
  have hl : (flR (Z.take k)).length = k * 4 := by rw [flR_length, List.length_take, Nat.min_eq_left hk]
  rw [e, List.getElem?_append_right (by omega), hl, Nat.add_sub_cancel_left]; exact h
theorem RsAt.take {W : World} {g cap' : Nat} {Z : List (Ce × Value)} (hc : ∀ j u, (flR Z)[j]? = some u → W.cell? ⟨g, j, none⟩ = some u) {k : Nat} (hk : k ≤ Z.length) : RsAt W (.slice (some ⟨g, 0, none⟩) k cap') (Z.take k) :=
  Or.inr ⟨⟨g, 0, none⟩, cap', by rw [List.length_take, Nat.min_eq_left hk], fun j u hj => by rw [Addr.add_lit, Nat.zero_add]; exact hc j u (flR_take Z k j u hj)⟩
theorem RsAt.drop {W : World} {g cap n : Nat} {Z : List (Ce × Value)} (hc : ∀ j u, (flR Z)[j]? = some u → W.cell? ⟨g, j, none⟩ = some u) {k : Nat} (hk : k ≤ Z.length) (hn : n = Z.length) (hcap : n ≤ cap) : RsAt W (.slice (if cap = k then some ⟨g, 0, none⟩ else some ⟨g, k * 4, none⟩) (n - k) (cap - k)) (Z.drop k) := by
  by_cases e : cap = k
  · have h0 : Z.drop k = [] := List.drop_eq_nil_of_le (by omega)
    rw [if_pos e, h0]
    exact Or.inr ⟨⟨g, 0, none⟩, cap - k, by rw [show n - k = 0 by omega]; rfl, fun j u hj => by simp [flR] at hj⟩
  · rw [if_neg e]
    exact Or.inr ⟨⟨g, k * 4, none⟩, cap - k, by rw [List.length_drop, hn], fun j u hj => by rw [Addr.add_lit]; exact hc _ u (flR_drop Z k hk j u hj)⟩
end Go.Proofs.Ytjjpfddgcilliaa
