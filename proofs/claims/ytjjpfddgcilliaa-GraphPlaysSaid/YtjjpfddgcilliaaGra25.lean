/-
  GRAPHS, the document's side: which cell is before which; lists appended to a list of one's own.
-/
import Derived.Test.YtjjpfddgcilliaaGra24
import Derived.Laws.AppendOwnNone
set_option linter.unusedSimpArgs false
set_option linter.unusedVariables false
namespace Go.Proofs.Ytjjpfddgcilliaa
open Go.RowKit Go.Shelf Go.Sort Go.Lib Go.Maps
set_option maxRecDepth 100000

set_option maxRecDepth 100000 in
set_option maxHeartbeats 4000000 in
theorem refLess_any (x y : Ce) (w : World) : Calls Try.prog 44 #[mkC x, mkC y] w fun e w' => e = .returned (.bool (cLt x y)) ∧ Below w.heap.size w w' := by
  obtain ⟨a, b, c⟩ := x
  obtain ⟨d, e, f⟩ := y
  have cl : ∀ r : Bool, (r = true ↔ (a < d ∨ a = d ∧ (c < f ∨ c = f ∧ b < e))) → r = cLt (a, b, c) (d, e, f) := fun r hr => by
    rw [Bool.eq_iff_iff, hr]; exact (cLt_iff (x := (a, b, c)) (y := (d, e, f))).symm
  have hb : Below w.heap.size w ((w.alloc (.cells #[.int .i64 a, .int .i64 b, .int .i64 c] 32)).alloc (.cells #[.int .i64 d, .int .i64 e, .int .i64 f] 32)) := ((Below.refl _ w).alloc (Nat.le_refl _) _).alloc (by simp) _
  have HCL := Lib.hid cl
  have HB := Lib.hid hb
  clear cl hb
  by_cases e1 : a = d
  · subst e1
    have g1 : (a != a) = false := by simp
    by_cases e2 : c = f
    · subst e2
      have g2 : (c != c) = false := by simp
      unfold mkC
      go_enter Try.func44, Try.ntmps44
      go_wp2_with fail
      all_goals first | go_ret | go_ret2
      exact ⟨congrArg (fun b => Ending.returned (Value.bool b)) (HCL.out _ (by rw [decide_eq_true_iff]; simp)), HB.out⟩
    · have g2 : (c != f) = true := by simpa using e2
      have HE := Lib.hid e2
      clear e2
      unfold mkC
      go_enter Try.func44, Try.ntmps44
      go_wp2_with fail
      all_goals first | go_ret | go_ret2
      exact ⟨congrArg (fun b => Ending.returned (Value.bool b)) (HCL.out _ (by rw [decide_eq_true_iff]; have := HE.out; simp [this])), HB.out⟩
  · have g1 : (a != d) = true := by simpa using e1
    have HE := Lib.hid e1
    clear e1
    unfold mkC
    go_enter Try.func44, Try.ntmps44
    go_wp2_with fail
    all_goals first | go_ret | go_ret2
    exact ⟨congrArg (fun b => Ending.returned (Value.bool b)) (HCL.out _ (by rw [decide_eq_true_iff]; have := HE.out; simp [this])), HB.out⟩
/-- a list's cells, behind those of a list of one's own. -/
theorem wpList_append_lst {ops : Array Oper} {rest : List Oper} {o : Oper} {a : Act} {Q : Exit → Act → World → Prop} {W : World} (hgd : o.guard = none) (s x : Operand)
    (ho : o.op = .call { callee := .builtin .append, args := #[s, x], argTypes := #[30, 30] }) (base : Nat) (v xv : Value) (l m : List Ce) (hs : a.eval s = v) (hown : W.ownsRow base 32 3 v l.length (flC l)) (hx : a.eval x = xv) (hm : LstAt W xv m)
    (hb : (l.length + m.length) * 24 ≤ 140737488355328) (hbase : base ≤ W.heap.size)
    (h : ∀ v' w', w'.ownsRow base 32 3 v' (l ++ m).length (flC (l ++ m)) → W.grownBy w' v.ownBlock → wpList Try.prog ops Q rest (a.put o.dst v') w') : wpList Try.prog ops Q (o :: rest) a W := by
  obtain ⟨i0, hi, hz0, hz1, hz2⟩ := info_parts Try.infoCe
  have hlen : l.length + m.length = (l ++ m).length := (List.length_append ..).symm
  have hfl : flC l ++ flC m = flC (l ++ m) := (flC_append l m).symm
  rcases hm with (⟨rfl, rfl⟩ | ⟨g, off, cap, rfl, hg, hc⟩) | ⟨ad, rfl, rfl⟩
  · refine wpList_append_own_none hgd s x _ ho base _ i0 3 Try.underlying30 hi v _ _ hs hown hx (h v W ?_ ⟨rfl, rfl, rfl, Nat.le_refl _, fun _ _ _ => rfl⟩)
    rw [List.append_nil]; exact hown
  · refine wpList_append_own W hgd s x _ ho base _ i0 _ 3 24 Try.underlying30 hi hz0 hz1 hz2 rfl (by decide) v _ _ hs hown ⟨g, off, none⟩ m.length cap (flC m) hx (flC_length m) (fun j u hj => by rw [Addr.add_lit]; exact hc j u hj) (flC_one m) (by unfold maxLen; omega) hb hbase (fun v' w' h1 h2 _ => h v' w' ?_ h2)
    rw [hlen, hfl] at h1; exact h1
  · refine wpList_append_own W hgd s x _ ho base _ i0 _ 3 24 Try.underlying30 hi hz0 hz1 hz2 rfl (by decide) v _ _ hs hown ad 0 0 [] hx rfl (fun j u hj => by simp at hj) (fun u hu => by cases hu) (by unfold maxLen; omega) (by simpa using hb) hbase (fun v' w' h1 h2 _ => h v' w' ?_ h2)
    rw [List.append_nil]; simpa using h1
end Go.Proofs.Ytjjpfddgcilliaa
