/-
  GRAPHS, the document's side: which cell is before which; lists appended to a list of one's own.
  GRAPHS, the document's side: a cell put in at its place; parts of a list in memory.
  GRAPHS, the document's side: Sorted is the list in order, each cell once.
-/
import Derived.Test.YtjjpfddgcilliaaGra24
import Derived.Laws.AppendOwnNone
import Derived.Deep.Onto
set_option linter.unusedSimpArgs false
set_option linter.unusedVariables false
namespace Go.Proofs.Ytjjpfddgcilliaa
open Go.RowKit Go.Shelf Go.Sort Go.Lib Go.Maps
set_option maxRecDepth 100000

set_option maxRecDepth 100000 in
set_option maxHeartbeats 4000000 in
theorem refLess_any (x y : Ce) (w : World) : Calls Try.prog 44 #[mkC x, mkC y] w fun e w' => e = .returned (.bool (cLt x y)) ∧ Below w.heap.size w w' := by
  obtain ⟨a, b, c⟩ := x
  obtain ⟨d, e, f⟩ := y
  have cl : ∀ r : Bool, (r = true ↔ (a < d ∨ a = d ∧ (c < f ∨ c = f ∧ b < e))) → r = cLt (a, b, c) (d, e, f) := fun r hr => by
    rw [Bool.eq_iff_iff, hr]; exact (cLt_iff (x := (a, b, c)) (y := (d, e, f))).symm
  have hb : Below w.heap.size w ((w.alloc (.cells #[.int .i64 a, .int .i64 b, .int .i64 c] 32)).alloc (.cells #[.int .i64 d, .int .i64 e, .int .i64 f] 32)) := ((Below.refl _ w).alloc (Nat.le_refl _) _).alloc (by simp) _
  have HCL := Lib.hid cl
  have HB := Lib.hid hb
  clear cl hb
  by_cases e1 : a = d
  · subst e1
    have g1 : (a != a) = false := by simp
    by_cases e2 : c = f
    · subst e2
      have g2 : (c != c) = false := by simp
      unfold mkC
      go_enter Try.func44, Try.ntmps44
      go_wp2_with fail
      all_goals first | go_ret | go_ret2
      exact ⟨congrArg (fun b => Ending.returned (Value.bool b)) (HCL.out _ (by rw [decide_eq_true_iff]; simp)), HB.out⟩
    · have g2 : (c != f) = true := by simpa using e2
      have HE := Lib.hid e2
      clear e2
      unfold mkC
      go_enter Try.func44, Try.ntmps44
      go_wp2_with fail
      all_goals first | go_ret | go_ret2
      exact ⟨congrArg (fun b => Ending.returned (Value.bool b)) (HCL.out _ (by rw [decide_eq_true_iff]; have := HE.out; simp [this])), HB.out⟩
  · have g1 : (a != d) = true := by simpa using e1
    have HE := Lib.hid e1
    clear e1
    unfold mkC
    go_enter Try.func44, Try.ntmps44
    go_wp2_with fail
    all_goals first | go_ret | go_ret2
    exact ⟨congrArg (fun b => Ending.returned (Value.bool b)) (HCL.out _ (by rw [decide_eq_true_iff]; have := HE.out; simp [this])), HB.out⟩
/-- a list's cells, behind those of a list of one's own. -/
theorem wpList_append_lst {ops : Array Oper} {rest : List Oper} {o : Oper} {a : Act} {Q : Exit → Act → World → Prop} {W : World} (hgd : o.guard = none) (s x : Operand)
    (ho : o.op = .call { callee := .builtin .append, args := #[s, x], argTypes := #[30, 30] }) (base : Nat) (v xv : Value) (l m : List Ce) (hs : a.eval s = v) (hown : W.ownsRow base 32 3 v l.length (flC l)) (hx : a.eval x = xv) (hm : LstAt W xv m)
    (hb : (l.length + m.length) * 24 ≤ 140737488355328) (hbase : base ≤ W.heap.size)
    (h : ∀ v' w', w'.ownsRow base 32 3 v' (l ++ m).length (flC (l ++ m)) → W.grownBy w' v.ownBlock → wpList Try.prog ops Q rest (a.put o.dst v') w') : wpList Try.prog ops Q (o :: rest) a W := by
  obtain ⟨i0, hi, hz0, hz1, hz2⟩ := info_parts Try.infoCe
  have hlen : l.length + m.length = (l ++ m).length := (List.length_append ..).symm
  have hfl : flC l ++ flC m = flC (l ++ m) := (flC_append l m).symm
  rcases hm with (⟨rfl, rfl⟩ | ⟨g, off, cap, rfl, hg, hc⟩) | ⟨ad, rfl, rfl⟩
  · refine wpList_append_own_none hgd s x _ ho base _ i0 3 Try.underlying30 hi v _ _ hs hown hx (h v W ?_ ⟨rfl, rfl, rfl, Nat.le_refl _, fun _ _ _ => rfl⟩)
    rw [List.append_nil]; exact hown
  · refine wpList_append_own W hgd s x _ ho base _ i0 _ 3 24 Try.underlying30 hi hz0 hz1 hz2 rfl (by decide) v _ _ hs hown ⟨g, off, none⟩ m.length cap (flC m) hx (flC_length m) (fun j u hj => by rw [Addr.add_lit]; exact hc j u hj) (flC_one m) (by unfold maxLen; omega) hb hbase (fun v' w' h1 h2 _ => h v' w' ?_ h2)
    rw [hlen, hfl] at h1; exact h1
  · refine wpList_append_own W hgd s x _ ho base _ i0 _ 3 24 Try.underlying30 hi hz0 hz1 hz2 rfl (by decide) v _ _ hs hown ad 0 0 [] hx rfl (fun j u hj => by simp at hj) (fun u hu => by cases hu) (by unfold maxLen; omega) (by simpa using hb) hbase (fun v' w' h1 h2 _ => h v' w' ?_ h2)
    rw [List.append_nil]; simpa using h1
end Go.Proofs.Ytjjpfddgcilliaa
namespace Go.Proofs.Ytjjpfddgcilliaa
open Go.RowKit Go.Shelf Go.Sort Go.Lib Go.Maps
set_option maxRecDepth 100000

theorem cLt_asymm' {x y : Ce} (h : cLt x y = true) : cLt y x = false := by
  cases h2 : cLt y x with
  | false => rfl
  | true => have := cLt_trans h h2; rw [cLt_irrefl] at this; cases this
/-- where it stands already, or goes in. -/
theorem insC_here (x : Ce) : ∀ (l : List Ce) (j : Nat), j ≤ l.length → (∀ i (h : i < l.length), i < j → cLt l[i] x = true) → (∀ h : j < l.length, l[j] = x) → j < l.length → insC x l = l
  | [], j, _, _, _, h => absurd h (by simp)
  | y :: r, 0, _, _, he, h => by
    have e : y = x := he h
    subst e
    unfold insC
    rw [cLt_irrefl]
    simp
  | y :: r, j + 1, hj, hp, he, h => by
    have h0 : cLt y x = true := hp 0 (by simp) (by omega)
    unfold insC
    rw [cLt_asymm' h0, h0]
    simp only [Bool.false_eq_true, if_false, if_true]
    rw [insC_here x r j (by simpa using hj) (fun i hi hij => hp (i + 1) (by simpa using hi) (by omega)) (fun hh => he (by simpa using hh)) (by simpa using h)]
theorem insC_at (x : Ce) : ∀ (l : List Ce) (j : Nat), j ≤ l.length → (∀ i (h : i < l.length), i < j → cLt l[i] x = true) → (∀ h : j < l.length, cLt l[j] x = false ∧ l[j] ≠ x) → insC x l = l.take j ++ ([x] ++ l.drop j)
  | [], j, hj, _, _ => by
    obtain rfl : j = 0 := by simpa using hj
    rfl
  | y :: r, 0, _, _, he => by
    obtain ⟨h1, h2⟩ := he (by simp)
    have h1 : cLt y x = false := h1
    have h2 : y ≠ x := h2
    unfold insC
    have h3 : cLt x y = true := by
      cases h3 : cLt x y with
      | true => rfl
      | false => exact absurd (cLt_total h1 h3) h2
    rw [h3]; rfl
  | y :: r, j + 1, hj, hp, he => by
    have h0 : cLt y x = true := hp 0 (by simp) (by omega)
    unfold insC
    rw [cLt_asymm' h0, h0]
    simp only [Bool.false_eq_true, if_false, if_true]
    rw [insC_at x r j (by simpa using hj) (fun i hi hij => hp (i + 1) (by simpa using hi) (by omega)) (fun hh => he (by simpa using hh))]
    rfl
theorem flC_take (l : List Ce) (j : Nat) : ∀ (i : Nat) (u : Value), (flC (l.take j))[i]? = some u → (flC l)[i]? = some u := fun i u h => by
  have e : flC l = flC (l.take j) ++ flC (l.drop j) := by rw [← flC_append, List.take_append_drop]
  rw [e, List.getElem?_append_left (List.getElem?_eq_some_iff.1 h).1]; exact h
theorem flC_drop (l : List Ce) (j : Nat) (hj : j ≤ l.length) : ∀ (i : Nat) (u : Value), (flC (l.drop j))[i]? = some u → (flC l)[j * 3 + i]? = some u := fun i u h => by
  have e : flC l = flC (l.take j) ++ flC (l.drop j) := by rw [← flC_append, List.take_append_drop]
  have hl : (flC (l.take j)).length = j * 3 := by rw [flC_length, List.length_take, Nat.min_eq_left hj]
  rw [e, List.getElem?_append_right (by omega), hl, Nat.add_sub_cancel_left]; exact h
theorem CsAt.take {W : World} {g o n cap cap' : Nat} {l : List Ce} (h : CsAt W (.slice (some ⟨g, o, none⟩) n cap) l) {j : Nat} (hj : j ≤ l.length) : CsAt W (.slice (some ⟨g, o, none⟩) j cap') (l.take j) := by
  rcases h with ⟨h, _⟩ | ⟨g', o', c', hv, hg, hc⟩
  · cases h
  · cases hv
    exact Or.inr ⟨g, o, cap', by rw [List.length_take, Nat.min_eq_left hj], hg, fun i u hi => hc i u (flC_take l j i u hi)⟩
theorem CsAt.drop {W : World} {g o n cap cap' m : Nat} {l : List Ce} (h : CsAt W (.slice (some ⟨g, o, none⟩) n cap) l) {j : Nat} (hj : j ≤ l.length) (hm : m = l.length - j) : CsAt W (.slice (some ⟨g, o + j * 3, none⟩) m cap') (l.drop j) := by
  rcases h with ⟨h, _⟩ | ⟨g', o', c', hv, hg, hc⟩
  · cases h
  · cases hv
    exact Or.inr ⟨g, o + j * 3, cap', by rw [List.length_drop, hm], hg, fun i u hi => by rw [Nat.add_assoc]; exact hc _ u (flC_drop l j hj i u hi)⟩
/-- the cells of a list that came in. -/
theorem LstAt.cells {W : World} {v : Value} {l : List Ce} (h : LstAt W v l) : ∃ (a : Option Addr) (cap : Nat), v = .slice a l.length cap ∧ ∀ k (hk : k < l.length), ∃ g o, a = some ⟨g, o, none⟩ ∧ g < W.heap.size ∧ W.cell? ⟨g, o + k * 3, none⟩ = some (.int .i64 l[k].1) ∧ W.cell? ⟨g, o + k * 3 + 1, none⟩ = some (.int .i64 l[k].2.1) ∧ W.cell? ⟨g, o + k * 3 + 2, none⟩ = some (.int .i64 l[k].2.2) := by
  rcases h with h | ⟨a, rfl, rfl⟩
  · exact h.shape
  · exact ⟨some a, 0, rfl, fun k hk => absurd hk (by simp)⟩
theorem onc_take_succ (l : List Ce) (k : Nat) (h : k < l.length) : onc (l.take (k + 1)) = insC l[k] (onc (l.take k)) := by rw [take_snoc l k h, onc_snoc]
end Go.Proofs.Ytjjpfddgcilliaa
namespace Go.Proofs.Ytjjpfddgcilliaa
open Go.RowKit Go.Shelf Go.Sort Go.Lib Go.Maps
set_option maxRecDepth 100000

section
variable {ops : Array Oper} {S : World → Prop} {oi : Oper} {a : Act}
theorem eq_w {m n : Operand} {t u : TypeId} (hop : oi.op = Op.binOp .eql t m n u) (ht : t = 32) (hg : Region.wanted oi (yielded ops a.tmps) = true) {x y : Ce} (hm : a.eval m = mkC x) (hn : a.eval n = mkC y) {r : Bool} (hr : decide (x = y) = r) : YieldsIf Try.prog ops S oi (.bool r) a := by
  refine Or.inl ⟨hg, fun w hw => ?_⟩
  subst ht
  simp [execOp, hop, hm, hn, eqG_is, eqC_is, hr, Result.andThen]
end
theorem CsAt.drop0 {W : World} {g n cap cap' m : Nat} {l : List Ce} (h : CsAt W (.slice (some ⟨g, 0, none⟩) n cap) l) {j : Nat} (hj : j ≤ l.length) (hm : m = l.length - j) : CsAt W (.slice (some ⟨g, j * 3, none⟩) m cap') (l.drop j) := by
  have := h.drop (cap' := cap') hj hm; rwa [Nat.zero_add] at this
/-- what is behind a list's end. -/
theorem lst_end (W : World) (g j c : Nat) (l : List Ce) (hg : g < W.heap.size) (hl : l = []) : LstAt W (.slice (if c = j then some ⟨g, 0, none⟩ else some ⟨g, j * 3, none⟩) 0 (c - j)) l := by
  subst hl
  by_cases e : c = j
  · subst e
    rw [if_pos rfl, Nat.sub_self]
    exact Or.inr ⟨_, rfl, rfl⟩
  · rw [if_neg e]
    exact Or.inl (Or.inr ⟨g, j * 3, c - j, rfl, hg, fun i u h => by simp [flC] at h⟩)
theorem one_new (W : World) (a b c : Int) (t : TypeId) : CsAt (W.alloc (.cells #[.int .i64 a, .int .i64 b, .int .i64 c] t)) (.slice (some ⟨W.heap.size, 0, none⟩) 1 1) [(a, b, c)] :=
  Or.inr ⟨W.heap.size, 0, 1, rfl, by simp, fun j u hj => by have := cell_three W (.int .i64 a) (.int .i64 b) (.int .i64 c) t j u hj; rwa [Addr.add_lit] at this⟩

set_option maxRecDepth 100000 in
set_option maxHeartbeats 16000000 in
theorem refSorted_any (v : Value) (l : List Ce) (w : World) (h : LstAt w v l) (hn : l.length ≤ 100000) : Calls Try.prog 14 #[v] w (OncePost w l) := by
  obtain ⟨Po, hPo⟩ : ∃ Po, Po = OncePost w l := ⟨_, rfl⟩
  rw [← hPo]
  have HPO := Lib.hid hPo
  clear hPo
  obtain ⟨a, cap, rfl, hcell⟩ := h.cells
  have HC := Lib.hid hcell
  obtain ⟨L, hL⟩ : ∃ L, L = l.length := ⟨_, rfl⟩
  rw [← hL] at hn ⊢
  have HLL := Lib.hid hL
  clear hL hcell h
  go_enter Try.func14, Try.ntmps14
  go_wp2_with fail
  go_loopw [3, 4] (fun vo i wr => ∃ k : Nat, k ≤ L ∧ i = .int .i64 k ∧ ∃ out, out = onc (l.take k) ∧ wr.ownsRow w.heap.size 32 3 vo out.length (flC out) ∧ Below w.heap.size w wr) (fun _ i _ => L - (intOf i).toNat)
  case atStart => exact ⟨0, by omega, rfl, [], by rw [List.take_zero]; rfl, World.ownsRow_nil _ _ _ _, Below.refl _ _⟩
  case round =>
    obtain ⟨k, hk, rfl, out, hout, hrow, hR⟩ := hrel
    have HO := Lib.hid hout
    have HROW := Lib.hid hrow
    have HR := Lib.hid hR
    have hol : out.length ≤ 100000 := by
      have := onc_length (l.take k)
      rw [← hout, List.length_take] at this
      omega
    have HCS := Lib.hid (CsAt.of_owns hrow).1
    clear hout hrow hR
    by_cases hlt : k < L
    · have hkl : k < l.length := by rw [← HLL.out]; exact hlt
      have HON := Lib.hid (onc_take_succ l k hkl)
      obtain ⟨g, o, rfl, hg, c0, c1, c2⟩ := HC.out k hkl
      generalize l[k] = x at *
      obtain ⟨x1, x2, x3⟩ := x
      dsimp only at c0 c1 c2
      have d0 := belK HR.out c0 hg
      have d1 := belK HR.out c1 hg
      have d2 := belK HR.out c2 hg
      have hgw := Nat.lt_of_lt_of_le hg HR.out.size
      have HD := Lib.hid (show wr.cell? ⟨g, o + k * 3, none⟩ = some (.int .i64 x1) ∧ wr.cell? ⟨g, o + k * 3 + 1, none⟩ = some (.int .i64 x2) ∧ wr.cell? ⟨g, o + k * 3 + 2, none⟩ = some (.int .i64 x3) from ⟨d0, d1, d2⟩)
      have HGW := Lib.hid hgw
      clear hkl c0 c1 c2 hg d0 d1 d2 hgw HC
      obtain ⟨n, hno⟩ : ∃ n, n = out.length := ⟨_, rfl⟩
      obtain ⟨va, hva⟩ : ∃ va, va = u3 := ⟨_, rfl⟩
      have hsh : ∃ ao capo, u3 = .slice ao n capo ∧ (∀ i (hi : i < out.length), ∃ g o, ao = some ⟨g, o, none⟩ ∧ g < wr.heap.size ∧ wr.cell? ⟨g, o + i * 3, none⟩ = some (.int .i64 out[i].1) ∧ wr.cell? ⟨g, o + i * 3 + 1, none⟩ = some (.int .i64 out[i].2.1) ∧ wr.cell? ⟨g, o + i * 3 + 2, none⟩ = some (.int .i64 out[i].2.2)) ∧ (ao = none ∧ capo = 0 ∧ n = 0 ∨ ∃ g, ao = some ⟨g, 0, none⟩ ∧ n ≤ capo ∧ capo ≤ maxLen) := by
        obtain ⟨ao, capo, e, hs⟩ := HCS.out.shape
        rw [← hno] at e
        refine ⟨ao, capo, e, hs, ?_⟩
        rcases HROW.out.2 with ⟨hv, _⟩ | ⟨g', cap', cur, hv, hbase, hgg, h1, h2, h3, h4⟩
        · rw [e] at hv; cases hv; exact Or.inl ⟨rfl, rfl, rfl⟩
        · rw [e] at hv; cases hv; exact Or.inr ⟨g', rfl, by omega, by omega⟩
      have HNO := Lib.hid hno
      obtain ⟨ao, capo, rfl, hcs, hform⟩ := hsh
      have HFL : Hid (CsAt wr (.slice ao n capo) out) := HCS
      clear hva va hno
      generalize wr = w2 at *
      have HINS : Hid (∀ j, j ≤ out.length → (∀ i (h : i < out.length), i < j → cLt out[i] (x1, x2, x3) = true) → (∀ h : j < out.length, cLt out[j] (x1, x2, x3) = false ∧ out[j] ≠ (x1, x2, x3)) → onc (l.take (k + 1)) = out.take j ++ ([(x1, x2, x3)] ++ out.drop j)) := Lib.hid fun j h1 h2 h3 => by rw [HON.out, ← HO.out]; exact insC_at _ out j h1 h2 h3
      have HSAME : Hid (∀ j, j ≤ out.length → (∀ i (h : i < out.length), i < j → cLt out[i] (x1, x2, x3) = true) → (∀ h : j < out.length, out[j] = (x1, x2, x3)) → j < out.length → onc (l.take (k + 1)) = out) := Lib.hid fun j h1 h2 h3 h4 => by rw [HON.out, ← HO.out]; exact insC_here _ out j h1 h2 h3 h4
      have hn1 : n ≤ 100000 := by rw [HNO.out]; exact hol
      have HHOL := Lib.hid hol
      clear hol HCS
      rcases hform with ⟨rfl, rfl, rfl⟩ | ⟨g2, rfl, hcap, hcapm⟩
      · -- nothing is there yet
        obtain rfl : out = [] := List.length_eq_zero_iff.1 HNO.out.symm
        clear hcs
        have e0 := HD.out.1
        have e1 := HD.out.2.1
        have e2 := HD.out.2.2
        go_wp2_with fail
        go_loopw [5] (fun kk wr => kk = .int .i64 0 ∧ Below w2.heap.size w2 wr) (fun _ _ => 0)
        case atStart => exact ⟨rfl, Below.refl _ _⟩
        case round =>
          obtain ⟨rfl, hRI⟩ := hrel
          have HRI := Lib.hid hRI
          clear hRI
          go_wp2_with fail
          refine wrp (S := fun w' => Below wr.heap.size wr w') (by kernel_rfl) (fun w' hx => hx) (fun HKP hHeld => ?_)
          refine tk 0 ?_
          refine tk 1 ?_
          refine tk 2 ?_
          refine tk 3 ?_
          refine tk 4 ?_
          refine tSk 5 ?_
          refine tSk 6 ?_
          refine tSk 7 ?_
          refine tSk 8 ?_
          refine tSk 9 ?_
          refine tSk 10 ?_
          refine tSk 11 ?_
          refine tSk 12 ?_
          refine tSk 13 ?_
          refine tk 14 ?_
          refine wpAnyH_done (by kernel_rfl) ?_ _
          clear HKP hHeld
          go_wp2_with fail
          refine wrp (S := fun w' => Below wr.drew.heap.size wr.drew w') (by kernel_rfl) (fun w' hx => hx) (fun HKP hHeld => ?_)
          refine tk 0 ?_
          refine tk 1 ?_
          refine tk 2 ?_
          refine tk 3 ?_
          refine tk 4 ?_
          refine tSk 5 ?_
          refine tSk 6 ?_
          refine tSk 7 ?_
          refine tSk 8 ?_
          refine tSk 9 ?_
          refine tSk 10 ?_
          refine tSk 11 ?_
          refine tSk 12 ?_
          refine tSk 13 ?_
          refine tk 14 ?_
          refine wpAnyH_done (by kernel_rfl) ?_ _
          clear HKP hHeld
          have hB0 := HRI.out.drew.drew
          have e0 := belK hB0 HD.out.1 HGW.out
          have e1 := belK hB0 HD.out.2.1 HGW.out
          have e2 := belK hB0 HD.out.2.2 HGW.out
          have HB0 := Lib.hid hB0
          clear hB0
          go_wp2_with (at_builtin; refine wpList_append_lst rfl _ _ rfl w2.heap.size (.slice none 0 0) _ [] (([] : List Ce).take 0) rfl (World.ownsRow_nil _ _ _ _) rfl (Or.inl (Or.inl ⟨rfl, rfl⟩)) (by have := HHOL.out; simp <;> omega) HB0.out.size ?_; intro v1 W1 h1 g1; have hb1 := HB0.out.grown g1 HB0.out.size (fun q hq => by cases hq); have HB1 := Lib.hid hb1; have f0 := belK hb1 HD.out.1 HGW.out; have f1 := belK hb1 HD.out.2.1 HGW.out; have f2 := belK hb1 HD.out.2.2 HGW.out; have H1 := Lib.hid h1; clear e0 e1 e2 hb1 h1 g1; go_wp2_with (at_builtin; refine wpList_append_lst rfl _ _ rfl w2.heap.size v1 _ ([] ++ ([] : List Ce).take 0) [(x1, x2, x3)] rfl (H1.out.alloc _) rfl (Or.inl (one_new W1 x1 x2 x3 _)) (by have := HHOL.out; simp <;> omega) (by have := HB1.out.size; simp; omega) ?_; intro v2 W2 h2 g2'; have hb2 := (HB1.out.alloc HB1.out.size _).grown g2' (by have := HB1.out.size; simp; omega) (fun q hq => (H1.out.lt q hq).1); have HB2 := Lib.hid hb2; have H2 := Lib.hid h2; clear f0 f1 f2 hb2 h2 g2'; go_wp2_with (at_builtin; refine wpList_append_lst rfl _ _ rfl w2.heap.size v2 _ ([] ++ ([] : List Ce).take 0 ++ [(x1, x2, x3)]) (([] : List Ce).drop 0) rfl H2.out rfl (Or.inl (Or.inl ⟨rfl, rfl⟩)) (by have := HHOL.out; simp <;> omega) HB2.out.size ?_; intro v3 W3 h3 g3)))
          have hb3 := HB2.out.grown g3 HB2.out.size (fun q hq => (H2.out.lt q hq).1)
          go_roundw
          case rel =>
            refine ⟨k + 1, by omega, by go_num, _, rfl, ?_, HR.out.trans (hb3.mono HR.out.size)⟩
            rw [HINS.out 0 (by simp) (fun i h hi => absurd hi (by omega)) (fun h => absurd h (by simp)), ← List.append_assoc]
            exact h3.mono HR.out.size
          case measure => simp [intOf]; omega
      · have hcc : ∀ i (hi : i < out.length), g2 < w2.heap.size ∧ w2.cell? ⟨g2, i * 3, none⟩ = some (.int .i64 out[i].1) ∧ w2.cell? ⟨g2, i * 3 + 1, none⟩ = some (.int .i64 out[i].2.1) ∧ w2.cell? ⟨g2, i * 3 + 2, none⟩ = some (.int .i64 out[i].2.2) := fun i hi => by
          obtain ⟨g', o', he, h1, h2, h3, h4⟩ := hcs i hi
          cases he
          simp only [Nat.zero_add] at h2 h3 h4
          exact ⟨h1, h2, h3, h4⟩
        have HCC := Lib.hid hcc
        clear hcc hcs
        go_wp2_with fail
        go_loopw [5] (fun kk wr => ∃ j : Nat, j ≤ n ∧ kk = .int .i64 j ∧ (∀ i (hi : i < out.length), i < j → cLt out[i] (x1, x2, x3) = true) ∧ Below w2.heap.size w2 wr) (fun kk _ => n - (intOf kk).toNat)
        case atStart => exact ⟨0, by omega, rfl, fun i _ hi => absurd hi (by omega), Below.refl _ _⟩
        case round =>
          obtain ⟨j, hj, rfl, hpre, hRI⟩ := hrel
          have HRI := Lib.hid hRI
          have HPRE := Lib.hid hpre
          clear hRI hpre
          have hjc : j ≤ capo := by omega
          by_cases hjn : j < n
          · have hjl : j < out.length := by rw [← HNO.out]; exact hjn
            obtain ⟨hg2, c0, c1, c2⟩ := HCC.out j hjl
            have HJL := Lib.hid hjl
            generalize hz : out[j] = z at *
            have HZ := Lib.hid hz
            clear hz hjl
            obtain ⟨z1, z2, z3⟩ := z
            dsimp only at c0 c1 c2
            have hd : decide ((j : Int) < (n : Int)) = true := by simp; omega
            have k0 := belK HRI.out c0 hg2
            have k1 := belK HRI.out c1 hg2
            have k2 := belK HRI.out c2 hg2
            have d0 := belK HRI.out HD.out.1 HGW.out
            have d1 := belK HRI.out HD.out.2.1 HGW.out
            have d2 := belK HRI.out HD.out.2.2 HGW.out
            have hg2r := Nat.lt_of_lt_of_le hg2 HRI.out.size
            have hgr := Nat.lt_of_lt_of_le HGW.out HRI.out.size
            obtain ⟨r, hr⟩ : ∃ r, cLt (z1, z2, z3) (x1, x2, x3) = r := ⟨_, rfl⟩
            have HLESS : Hid (∀ W, Calls Try.prog 44 #[.agg #[.int .i64 z1, .int .i64 z2, .int .i64 z3], .agg #[.int .i64 x1, .int .i64 x2, .int .i64 x3]] W fun e w' => e = .returned (.bool r) ∧ Below W.heap.size W w') := Lib.hid fun W => by have := refLess_any (z1, z2, z3) (x1, x2, x3) W; rwa [hr] at this
            have HRR := Lib.hid hr
            have HRC := Lib.hid (show g2 < w2.heap.size ∧ w2.cell? ⟨g2, j * 3, none⟩ = some (.int .i64 z1) ∧ w2.cell? ⟨g2, j * 3 + 1, none⟩ = some (.int .i64 z2) ∧ w2.cell? ⟨g2, j * 3 + 2, none⟩ = some (.int .i64 z3) from ⟨hg2, c0, c1, c2⟩)
            clear hr c0 c1 c2 hg2
            go_wp2_with fail
            refine wrp (S := fun w' => Below wr.heap.size wr w' ∧ (w'.cell? ⟨g2, j * 3, none⟩ = some (.int .i64 z1) ∧ w'.cell? ⟨g2, j * 3 + 1, none⟩ = some (.int .i64 z2) ∧ w'.cell? ⟨g2, j * 3 + 2, none⟩ = some (.int .i64 z3)) ∧ w'.cell? ⟨g, o + k * 3, none⟩ = some (.int .i64 x1) ∧ w'.cell? ⟨g, o + k * 3 + 1, none⟩ = some (.int .i64 x2) ∧ w'.cell? ⟨g, o + k * 3 + 2, none⟩ = some (.int .i64 x3)) (by kernel_rfl) (fun w' hx => ⟨hx, ⟨belK hx k0 hg2r, belK hx k1 hg2r, belK hx k2 hg2r⟩, belK hx d0 hgr, belK hx d1 hgr, belK hx d2 hgr⟩) (fun HKP hHeld => ?_)
            clear k0 k1 k2 d0 d1 d2 hg2r hgr
            refine tk 0 ?_
            refine tk 1 ?_
            refine tk 2 ?_
            refine tk 3 ?_
            try rw [hd]
            refine tk 4 ?_
            refine tk 5 ?_
            refine tk 6 ?_
            refine tk 7 ?_
            refine tk 8 ?_
            refine tk 9 ?_
            refine tk 10 ?_
            refine tk 11 ?_
            refine tk 12 ?_
            refine rd1 13 (by kernel_rfl) rfl fun K hK => ?_
            go_simp
            (go_at_call 44; refine (HLESS.out _).mono ?_; rintro e y1 ⟨rfl, hby⟩)
            try (go_wp2_with fail)
            refine hK.out _ _ (HKP.out y1 (hHeld.1.trans (hby.mono hHeld.1.size))) (fun hHeld => ?_)
            clear hK K hby
            try simp only [pz]
            refine tk 14 ?_
            refine wpAnyH_done (by kernel_rfl) ?_ _
            have HB1 : Hid (Below w2.heap.size w2 y1) := Lib.hid (HRI.out.trans (hHeld.1.mono HRI.out.size))
            clear HKP hHeld
            cases r with
            | true =>
              go_wp2_with fail
              go_roundw
              case rel =>
                refine ⟨j + 1, by omega, by go_num, fun i hi hij => ?_, HB1.out⟩
                by_cases ei : i = j
                · subst ei; exact (congrArg (fun q => cLt q (x1, x2, x3)) HZ.out).trans HRR.out
                · exact HPRE.out i hi (by omega)
              case measure => simp [intOf]; omega
            | false =>
              have k0 := belK HB1.out HRC.out.2.1 HRC.out.1
              have k1 := belK HB1.out HRC.out.2.2.1 HRC.out.1
              have k2 := belK HB1.out HRC.out.2.2.2 HRC.out.1
              have d0 := belK HB1.out HD.out.1 HGW.out
              have d1 := belK HB1.out HD.out.2.1 HGW.out
              have d2 := belK HB1.out HD.out.2.2 HGW.out
              have hg2r := Nat.lt_of_lt_of_le HRC.out.1 HB1.out.size
              have hgr := Nat.lt_of_lt_of_le HGW.out HB1.out.size
              go_wp2_with fail
              refine wrp (S := fun w' => Below y1.heap.size y1 w' ∧ (w'.cell? ⟨g2, j * 3, none⟩ = some (.int .i64 z1) ∧ w'.cell? ⟨g2, j * 3 + 1, none⟩ = some (.int .i64 z2) ∧ w'.cell? ⟨g2, j * 3 + 2, none⟩ = some (.int .i64 z3)) ∧ w'.cell? ⟨g, o + k * 3, none⟩ = some (.int .i64 x1) ∧ w'.cell? ⟨g, o + k * 3 + 1, none⟩ = some (.int .i64 x2) ∧ w'.cell? ⟨g, o + k * 3 + 2, none⟩ = some (.int .i64 x3)) (by kernel_rfl) (fun w' hx => ⟨hx, ⟨belK hx k0 hg2r, belK hx k1 hg2r, belK hx k2 hg2r⟩, belK hx d0 hgr, belK hx d1 hgr, belK hx d2 hgr⟩) (fun HKP hHeld => ?_)
              clear k0 k1 k2 d0 d1 d2 hg2r hgr
              refine tk 0 ?_
              refine tk 1 ?_
              refine tk 2 ?_
              refine tk 3 ?_
              try rw [hd]
              refine tk 4 ?_
              refine tk 5 ?_
              refine tk 6 ?_
              refine tk 7 ?_
              refine tk 8 ?_
              refine tk 9 ?_
              refine tk 10 ?_
              refine tk 11 ?_
              refine tk 12 ?_
              obtain ⟨r2, hr2⟩ : ∃ r2, decide ((z1, z2, z3) = (x1, x2, x3)) = r2 := ⟨_, rfl⟩
              refine tk 13 ?_ (hy := eq_w rfl rfl rfl rfl rfl hr2)
              refine tk 14 ?_
              refine wpAnyH_done (by kernel_rfl) ?_ _
              clear HKP hHeld
              have HR2 := Lib.hid hr2
              clear hr2
              cases r2 with
              | true =>
                go_wp2_with fail
                go_roundw
                case rel =>
                  refine ⟨k + 1, by omega, by go_num, _, rfl, ?_, HR.out.trans (HB1.out.drew.mono HR.out.size)⟩
                  rw [HSAME.out j (Nat.le_of_lt HJL.out) HPRE.out (fun _ => HZ.out.trans (of_decide_eq_true HR2.out)) HJL.out]
                  exact row_below HROW.out HB1.out.drew
                case measure => simp [intOf]; omega
              | false =>
                have hB0 := HB1.out.drew
                have e0 := belK hB0 HD.out.1 HGW.out
                have e1 := belK hB0 HD.out.2.1 HGW.out
                have e2 := belK hB0 HD.out.2.2 HGW.out
                have HB0 := Lib.hid hB0
                clear hB0
                go_wp2_with (at_builtin; refine wpList_append_lst rfl _ _ rfl w2.heap.size (.slice none 0 0) _ [] (out.take j) rfl (World.ownsRow_nil _ _ _ _) rfl (Or.inl ((HFL.out.below HB0.out).take (by rw [← HNO.out]; omega))) (by have := HHOL.out; simp <;> omega) HB0.out.size ?_; intro v1 W1 h1 g1; have hb1 := HB0.out.grown g1 HB0.out.size (fun q hq => by cases hq); have HB1 := Lib.hid hb1; have f0 := belK hb1 HD.out.1 HGW.out; have f1 := belK hb1 HD.out.2.1 HGW.out; have f2 := belK hb1 HD.out.2.2 HGW.out; have H1 := Lib.hid h1; clear e0 e1 e2 hb1 h1 g1; go_wp2_with (at_builtin; refine wpList_append_lst rfl _ _ rfl w2.heap.size v1 _ ([] ++ out.take j) [(x1, x2, x3)] rfl (H1.out.alloc _) rfl (Or.inl (one_new W1 x1 x2 x3 _)) (by have := HHOL.out; simp <;> omega) (by have := HB1.out.size; simp; omega) ?_; intro v2 W2 h2 g2'; have hb2 := (HB1.out.alloc HB1.out.size _).grown g2' (by have := HB1.out.size; simp; omega) (fun q hq => (H1.out.lt q hq).1); have HB2 := Lib.hid hb2; have H2 := Lib.hid h2; clear f0 f1 f2 hb2 h2 g2'; go_wp2_with (at_builtin; refine wpList_append_lst rfl _ _ rfl w2.heap.size v2 _ ([] ++ out.take j ++ [(x1, x2, x3)]) (out.drop j) rfl H2.out rfl (Or.inl ((HFL.out.below HB2.out).drop0 (by rw [← HNO.out]; omega) (by have := HNO.out; omega))) (by have := HHOL.out; simp <;> omega) HB2.out.size ?_; intro v3 W3 h3 g3)))
                have hb3 := HB2.out.grown g3 HB2.out.size (fun q hq => (H2.out.lt q hq).1)
                go_roundw
                case rel =>
                  refine ⟨k + 1, by omega, by go_num, _, rfl, ?_, HR.out.trans (hb3.mono HR.out.size)⟩
                  rw [HINS.out j (by rw [← HNO.out]; omega) HPRE.out (fun _ => ⟨(congrArg (fun q => cLt q (x1, x2, x3)) HZ.out).trans HRR.out, fun h => of_decide_eq_false HR2.out (HZ.out.symm.trans h)⟩), ← List.append_assoc]
                  exact h3.mono HR.out.size
                case measure => simp [intOf]; omega
          · obtain rfl : j = n := by omega
            have hd : decide ((j : Int) < (j : Int)) = false := by simp
            go_wp2_with fail
            refine wrp (S := fun w' => Below wr.heap.size wr w') (by kernel_rfl) (fun w' hx => hx) (fun HKP hHeld => ?_)
            refine tk 0 ?_
            refine tk 1 ?_
            refine tk 2 ?_
            refine tk 3 ?_
            try rw [hd]
            refine tk 4 ?_
            refine tSk 5 ?_
            refine tSk 6 ?_
            refine tSk 7 ?_
            refine tSk 8 ?_
            refine tSk 9 ?_
            refine tSk 10 ?_
            refine tSk 11 ?_
            refine tSk 12 ?_
            refine tSk 13 ?_
            refine tk 14 ?_
            refine wpAnyH_done (by kernel_rfl) ?_ _
            clear HKP hHeld
            go_wp2_with fail
            refine wrp (S := fun w' => Below wr.drew.heap.size wr.drew w') (by kernel_rfl) (fun w' hx => hx) (fun HKP hHeld => ?_)
            refine tk 0 ?_
            refine tk 1 ?_
            refine tk 2 ?_
            refine tk 3 ?_
            try rw [hd]
            refine tk 4 ?_
            refine tSk 5 ?_
            refine tSk 6 ?_
            refine tSk 7 ?_
            refine tSk 8 ?_
            refine tSk 9 ?_
            refine tSk 10 ?_
            refine tSk 11 ?_
            refine tSk 12 ?_
            refine tSk 13 ?_
            refine tk 14 ?_
            refine wpAnyH_done (by kernel_rfl) ?_ _
            clear HKP hHeld
            have hB0 := HRI.out.drew.drew
            have e0 := belK hB0 HD.out.1 HGW.out
            have e1 := belK hB0 HD.out.2.1 HGW.out
            have e2 := belK hB0 HD.out.2.2 HGW.out
            have HB0 := Lib.hid hB0
            clear hB0
            go_wp2_with (at_builtin; refine wpList_append_lst rfl _ _ rfl w2.heap.size (.slice none 0 0) _ [] (out.take j) rfl (World.ownsRow_nil _ _ _ _) rfl (Or.inl ((HFL.out.below HB0.out).take (by rw [← HNO.out]; omega))) (by have := HHOL.out; simp <;> omega) HB0.out.size ?_; intro v1 W1 h1 g1; have hb1 := HB0.out.grown g1 HB0.out.size (fun q hq => by cases hq); have HB1 := Lib.hid hb1; have f0 := belK hb1 HD.out.1 HGW.out; have f1 := belK hb1 HD.out.2.1 HGW.out; have f2 := belK hb1 HD.out.2.2 HGW.out; have H1 := Lib.hid h1; clear e0 e1 e2 hb1 h1 g1; go_wp2_with (at_builtin; refine wpList_append_lst rfl _ _ rfl w2.heap.size v1 _ ([] ++ out.take j) [(x1, x2, x3)] rfl (H1.out.alloc _) rfl (Or.inl (one_new W1 x1 x2 x3 _)) (by have := HHOL.out; simp <;> omega) (by have := HB1.out.size; simp; omega) ?_; intro v2 W2 h2 g2'; have hb2 := (HB1.out.alloc HB1.out.size _).grown g2' (by have := HB1.out.size; simp; omega) (fun q hq => (H1.out.lt q hq).1); have HB2 := Lib.hid hb2; have H2 := Lib.hid h2; clear f0 f1 f2 hb2 h2 g2'; go_wp2_with (at_builtin; refine wpList_append_lst rfl _ _ rfl w2.heap.size v2 _ ([] ++ out.take j ++ [(x1, x2, x3)]) (out.drop j) rfl H2.out rfl (lst_end W2 g2 j capo _ (Nat.lt_of_lt_of_le (HROW.out.lt g2 rfl).2 HB2.out.size) (List.drop_eq_nil_of_le (by rw [← HNO.out]; exact Nat.le_refl _))) (by have := HHOL.out; simp <;> omega) HB2.out.size ?_; intro v3 W3 h3 g3)))
            have hb3 := HB2.out.grown g3 HB2.out.size (fun q hq => (H2.out.lt q hq).1)
            go_roundw
            case rel =>
              refine ⟨k + 1, by omega, by go_num, _, rfl, ?_, HR.out.trans (hb3.mono HR.out.size)⟩
              rw [HINS.out j (by rw [← HNO.out]; omega) HPRE.out (fun h => absurd h (by rw [← HNO.out]; omega)), ← List.append_assoc]
              exact h3.mono HR.out.size
            case measure => simp [intOf]; omega
    · obtain rfl : k = L := by omega
      clear hlt
      go_wp2_with fail
      show Po (.returned u3) wr
      rw [HPO.out]
      have hall : out = onc l := by rw [HO.out, HLL.out, List.take_length]
      rw [hall] at HROW
      exact ⟨⟨u3, rfl, CsNew.of_owns HROW.out⟩, HR.out⟩
end Go.Proofs.Ytjjpfddgcilliaa
