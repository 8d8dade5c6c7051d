/-
  GRAPHS, the document's side: rows behind rows; Drop.
-/
import Derived.Test.YtjjpfddgcilliaaGra32
set_option linter.unusedSimpArgs false
set_option linter.unusedVariables false
namespace Go.Proofs.Ytjjpfddgcilliaa
open Go.RowKit Go.Shelf Go.Sort Go.Lib Go.Maps
set_option maxRecDepth 100000

theorem Try.infoRw : (Try.prog.info? 69).map (fun i => (i.zero, i.size, i.bytes)) = some (some (.agg #[.int .i64 0, .int .i64 0, .int .i64 0, .slice none 0 0]), 4, 48) := by kernel_rfl
/-- rows in memory. -/
def RsAt (W : World) (v : Value) (Z : List (Ce × Value)) : Prop := (v = .slice none 0 0 ∧ Z = []) ∨ ∃ (ad : Addr) (cap : Nat), v = .slice (some ad) Z.length cap ∧ ∀ j u, (flR Z)[j]? = some u → W.cell? (ad.add j) = some u
theorem wpList_append_rows {ops : Array Oper} {rest : List Oper} {o : Oper} {a : Act} {Q : Exit → Act → World → Prop} {W : World} (hgd : o.guard = none) (s x : Operand)
    (ho : o.op = .call { callee := .builtin .append, args := #[s, x], argTypes := #[27, 27] }) (base : Nat) (v xv : Value) (l m : List (Ce × Value)) (hs : a.eval s = v) (hown : W.ownsRow base 69 4 v l.length (flR l)) (hx : a.eval x = xv) (hm : RsAt W xv m) (h1 : ∀ u ∈ flR m, u.oneCell' = true)
    (hb : (l.length + m.length) * 48 ≤ 140737488355328) (hbase : base ≤ W.heap.size)
    (h : ∀ v' w', w'.ownsRow base 69 4 v' (l ++ m).length (flR (l ++ m)) → W.grownBy w' v.ownBlock → wpList Try.prog ops Q rest (a.put o.dst v') w') : wpList Try.prog ops Q (o :: rest) a W := by
  obtain ⟨i0, hi, hz0, hz1, hz2⟩ := info_parts Try.infoRw
  have hlen : l.length + m.length = (l ++ m).length := (List.length_append ..).symm
  have hfl : flR l ++ flR m = flR (l ++ m) := (flR_append l m).symm
  rcases hm with ⟨rfl, rfl⟩ | ⟨ad, cap, rfl, hc⟩
  · refine wpList_append_own_none hgd s x _ ho base _ i0 4 Try.underlying27 hi v _ _ hs hown hx (h v W ?_ ⟨rfl, rfl, rfl, Nat.le_refl _, fun _ _ _ => rfl⟩)
    rw [List.append_nil]; exact hown
  · refine wpList_append_own W hgd s x _ ho base _ i0 _ 4 48 Try.underlying27 hi hz0 hz1 hz2 rfl (by decide) v _ _ hs hown ad m.length cap (flR m) hx (flR_length m) hc h1 (by unfold maxLen; omega) hb hbase (fun v' w' h1 h2 _ => h v' w' ?_ h2)
    rw [hlen, hfl] at h1; exact h1
theorem flR_take (Z : List (Ce × Value)) (k : Nat) : ∀ (i : Nat) (u : Value), (flR (Z.take k))[i]? = some u → (flR Z)[i]? = some u := fun i u h => by
  have e : flR Z = flR (Z.take k) ++ flR (Z.drop k) := by rw [← flR_append, List.take_append_drop]
  rw [e, List.getElem?_append_left (List.getElem?_eq_some_iff.1 h).1]; exact h
theorem flR_drop (Z : List (Ce × Value)) (k : Nat) (hk : k ≤ Z.length) : ∀ (i : Nat) (u : Value), (flR (Z.drop k))[i]? = some u → (flR Z)[k * 4 + i]? = some u := fun i u h => by
  have e : flR Z = flR (Z.take k) ++ flR (Z.drop k) := by rw [← flR_append, List.take_append_drop]
  have hl : (flR (Z.take k)).length = k * 4 := by rw [flR_length, List.length_take, Nat.min_eq_left hk]
  rw [e, List.getElem?_append_right (by omega), hl, Nat.add_sub_cancel_left]; exact h
theorem RsAt.take {W : World} {g cap' : Nat} {Z : List (Ce × Value)} (hc : ∀ j u, (flR Z)[j]? = some u → W.cell? ⟨g, j, none⟩ = some u) {k : Nat} (hk : k ≤ Z.length) : RsAt W (.slice (some ⟨g, 0, none⟩) k cap') (Z.take k) :=
  Or.inr ⟨⟨g, 0, none⟩, cap', by rw [List.length_take, Nat.min_eq_left hk], fun j u hj => by rw [Addr.add_lit, Nat.zero_add]; exact hc j u (flR_take Z k j u hj)⟩
theorem RsAt.drop {W : World} {g cap n : Nat} {Z : List (Ce × Value)} (hc : ∀ j u, (flR Z)[j]? = some u → W.cell? ⟨g, j, none⟩ = some u) {k : Nat} (hk : k ≤ Z.length) (hn : n = Z.length) (hcap : n ≤ cap) : RsAt W (.slice (if cap = k then some ⟨g, 0, none⟩ else some ⟨g, k * 4, none⟩) (n - k) (cap - k)) (Z.drop k) := by
  by_cases e : cap = k
  · have h0 : Z.drop k = [] := List.drop_eq_nil_of_le (by omega)
    rw [if_pos e, h0]
    exact Or.inr ⟨⟨g, 0, none⟩, cap - k, by rw [show n - k = 0 by omega]; rfl, fun j u hj => by simp [flR] at hj⟩
  · rw [if_neg e]
    exact Or.inr ⟨⟨g, k * 4, none⟩, cap - k, by rw [List.length_drop, hn], fun j u hj => by rw [Addr.add_lit]; exact hc _ u (flR_drop Z k hk j u hj)⟩
/-- a row taken out, by its place. -/
theorem drpR_at : ∀ (R : List Rw) (x : Ce) (k : Nat) (hk : k < R.length), R[k].1 = x → (R.map fun r => r.1).Nodup → drpR R x = R.take k ++ R.drop (k + 1)
  | [], _, _, hk, _, _ => absurd hk (by simp)
  | r :: R, x, 0, _, h, hd => by
    have h : r.1 = x := h
    rw [List.map_cons, List.nodup_cons] at hd
    unfold drpR
    rw [List.filter_cons, decide_eq_true h]
    simp only [Bool.not_true, Bool.false_eq_true, if_false]
    show R.filter _ = R
    rw [List.filter_eq_self]
    intro s hs
    have : s.1 ≠ x := fun e => hd.1 (by rw [h, ← e]; exact List.mem_map.2 ⟨s, hs, rfl⟩)
    rw [decide_eq_false this]; rfl
  | r :: R, x, k + 1, hk, h, hd => by
    rw [List.map_cons, List.nodup_cons] at hd
    have hk' : k < R.length := by simpa using hk
    have h' : R[k].1 = x := h
    have hne : r.1 ≠ x := fun e => hd.1 (by rw [e, ← h']; exact List.mem_map.2 ⟨R[k], List.getElem_mem hk', rfl⟩)
    have ih := drpR_at R x k hk' h' hd.2
    unfold drpR at ih ⊢
    rw [List.filter_cons, decide_eq_false hne]
    simp only [Bool.not_false, if_true]
    rw [ih]; rfl
end Go.Proofs.Ytjjpfddgcilliaa
