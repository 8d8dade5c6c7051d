/-
  LAYER 28: A MAP's KEYS, told one by one in whatever order.
  LAYER 28: A MAP's KEYS, as a list of one's own (slices.Collect over maps.Keys).
-/
import Derived.Test.YtjjpfddgcilliaaGra1
import Derived.RangeFuncStops
import Derived.RangeFuncKeeps
import Derived.Laws.IdiomRangeMap
import Derived.Test.YtjjpfddgcilliaaGra7
import Derived.RangeFuncNested
import Derived.Maps.AppendAt
set_option linter.unusedSimpArgs false
set_option linter.unusedVariables false
namespace Go.Proofs.Ytjjpfddgcilliaa
open Go.RowKit Go.Shelf Go.Sort Go.Lib Go.Maps
set_option maxRecDepth 100000
attribute [local go_sem] Oper.semAt_some

/-- the keys that have come, each once; left: those that are still to come. -/
def ColC (D : DataW Value) (left : Lit → Bool) (ss : List Ce) : Prop := ss.Nodup ∧ (∀ x ∈ ss, okC x) ∧ ∀ x, okC x → (x ∈ ss ↔ (has D (klC x) = true ∧ left (klC x) = false))
theorem ColC.start (D : DataW Value) : ColC D (has D) [] := ⟨List.nodup_nil, fun x hx => by simp at hx, fun x _ => by cases has D (klC x) <;> simp⟩
set_option maxRecDepth 100000 in
theorem ColC.step {D : DataW Value} {left : Lit → Bool} {ss : List Ce} {x : Ce} {y : DataW Value} (h : ColC D left ss) (hx : okC x) (hl : left (klC x) = true) (hat : ∀ z, D.atKey (klC x) z = y) : ColC D (fun z => left z && !z.sameKey (klC x)) (ss ++ [x]) := by
  obtain ⟨h1, h2, h3⟩ := h
  have hself := WideAt.sameKey_self (klC_key hx)
  refine ⟨?_, fun z hz => ?_, fun z hz => ?_⟩
  · rw [List.nodup_append]
    refine ⟨h1, by simp, fun a ha b hb => ?_⟩
    simp at hb
    subst hb
    rintro rfl
    have := ((h3 a hx).1 ha).2
    rw [hl] at this; cases this
  · rcases List.mem_append.1 hz with h | h
    · exact h2 z h
    · simp at h; rw [h]; exact hx
  · by_cases e : z = x
    · subst e
      simp [hself, has_true_of_atKey hat]
    · have hne : (klC z).sameKey (klC x) = false := sameKey_ne (klC_ne hx hz fun h => e h.symm)
      rw [List.mem_append, List.mem_singleton]
      simp only [hne, Bool.not_false, Bool.and_true]
      constructor
      · rintro (h | h)
        · exact (h3 z hz).1 h
        · exact absurd h e
      · exact fun h => Or.inl ((h3 z hz).2 h)
/-- the map holds what f says. -/
def HoldsF (D : DataW Value) (f : Ce → Option Value) : Prop := (∀ x, okC x → ∀ z, D.atKey (klC x) z = (match f x with | some v => .held v | none => z)) ∧ ∀ x v, f x = some v → okC x
set_option maxRecDepth 100000 in
theorem HoldsF.has {D : DataW Value} {f : Ce → Option Value} (h : HoldsF D f) {x : Ce} (hx : okC x) : Maps.has D (klC x) = (f x).isSome := by
  have := h.1 x hx
  cases hf : f x with
  | some v => rw [hf] at this; exact has_true_of_atKey this
  | none => rw [hf] at this; exact has_false_of_atKey this
/-- all keys, each once. -/
def KeysOfF (f : Ce → Option Value) (ys : List Ce) : Prop := ys.Nodup ∧ ∀ x, x ∈ ys ↔ (f x).isSome = true
theorem ColC.done {D : DataW Value} {f : Ce → Option Value} {left : Lit → Bool} {ss : List Ce} (h : ColC D left ss) (hf : HoldsF D f) (hl : ∀ kl, left kl = false) : KeysOfF f ss := by
  refine ⟨h.1, fun x => ⟨fun hx => ?_, fun hx => ?_⟩⟩
  · rw [← hf.has (h.2.1 x hx)]; exact ((h.2.2 x (h.2.1 x hx)).1 hx).1
  · obtain ⟨v, hv⟩ := Option.isSome_iff_exists.1 hx
    have ho := hf.2 x v hv
    exact (h.2.2 x ho).2 ⟨by rw [hf.has ho]; exact hx, hl _⟩

theorem keysL_in (n : Nat) (mb : Option Nat) (w : World) :
    CallsIn Fence.wide n Try.prog 63 #[.map mb] w fun e w' => e = .returned (.func (.func 83) #[] #[.pointer (some ⟨w.heap.size, 0, none⟩)]) ∧ w' = w.alloc (.cells #[.map mb] 62) := by
  refine callsIn_of_wp Try.func63 rfl trivial ?_ rfl
  simp only [Try.ntmps63, List.size_toArray, List.length_cons, List.length_nil, Nat.reduceAdd, Nat.reduceSub, Array.replicate_succ, Array.replicate_zero, List.push_toArray, List.append_toArray, List.nil_append, List.cons_append]
  gi_wp2
  go_ret
  exact ⟨rfl, rfl⟩
set_option maxRecDepth 100000 in
set_option maxHeartbeats 4000000 in
theorem keysL1_in (n : Nat) (hn : 1 ≤ n) (l Bm b nn : Nat) (D0 : DataW Value) (f : Ce → Option Value) (hf : HoldsF D0 f) (J Jx : List Ce → World → Prop)
    (hY : ∀ pre x W, J pre W → pre.length < nn → YieldAt Fence.wide (n - 1) Try.prog l #[mkC x] W fun e W' =>
      (e = .returned (.bool true) ∧ J (pre ++ [x]) W' ∧ KeepsWalks W W') ∨ (e = .returned (.bool false) ∧ Jx (pre ++ [x]) W'))
    (W : World) (hJ : AbidesFrom W.heap.size J) (hm : W.cell? ⟨Bm, 0, none⟩ = some (.map (some b))) (hown : W.ownsMap Try.prog 32 rawR b nn D0) (h0 : J [] W) :
    CallsIn Fence.wide n Try.prog 83 #[.func (.yield l) #[] #[], .pointer (some ⟨Bm, 0, none⟩)] W fun e W' => (∃ v, e = .returned v) ∧
      ((∃ ss : List Ce, (KeysOfF f ss ∧ ss.length ≤ nn) ∧ J ss W') ∨ (∃ pre : List Ce, True ∧ Jx pre W')) := by
  have HY := Lib.hid hY
  have HF := Lib.hid hf
  have hsz := Lib.hid hown.size_le
  clear hY hf
  refine callsIn_of_wp Try.func83 rfl trivial ?_ rfl
  simp only [Try.ntmps83, List.size_toArray, List.length_cons, List.length_nil, Nat.reduceAdd, Nat.reduceSub, Array.replicate_succ, Array.replicate_zero, List.push_toArray, List.append_toArray, List.nil_append, List.cons_append]
  gi_wp2_with (first
    | (gi_at_range; refine wpListIn_range_own _ rfl _ 62 rfl 32 30 Try.keyd Try.underlying62 _ b nn _ rfl hown ?_; intro w0 hrg0 hg0 hs0)
    | gi_in)
  go_frame
  gi_loopw [3] (fun _ wr => ∃ (left : Lit → Bool) (cnt : Nat) (ss : List Ce), wr.ranges Try.prog 32 rawR b W.heap.size nn D0 left cnt ∧ ss.length + cnt ≤ Maps.size D0 ∧ ColC D0 left ss ∧ J ss wr)
    (fun _ wr => wr.rangeLeft b W.heap.size)
  case atStart =>
    exact ⟨_, _, [], hrg0, by simp, ColC.start D0, hJ [] W w0 none h0 hg0 (fun r e => by cases e)⟩
  case round =>
    obtain ⟨left, cnt, ss, hrg, hcs, hC, hJs⟩ := hrel
    gi_wp2_with (first
      | (gi_at_next; refine wpListIn_next_ranges _ rfl _ rfl 32 Try.keyd rawR mkC id (fun key kl hk => by obtain ⟨x, hx, _⟩ := keyOf_inv hk; exact ⟨x, hx⟩) (fun v _ _ => ⟨v, rfl⟩) b W.heap.size nn _ _ _ rfl hrg ?_ ?_)
      | gi_in)
    · intro hc0 hl0
      gi_wp2
      go_end0
      exact ⟨⟨_, rfl⟩, .inl ⟨ss, ⟨hC.done HF.out hl0, by have := hsz.out; omega⟩, hJs⟩⟩
    · intro x1 x2 x3 c kl yd yp w2 cnt2 hkey hlk hv hat hrg2 hlt hg2 hs2 hen
      obtain ⟨x', ex, ho, rfl⟩ := keyOf_inv hkey
      obtain rfl : (x1, x2, x3) = x' := mkC_inj ex
      have hJ2 : J ss w2 := hJ ss wr w2 (some W.heap.size) hJs hg2 (fun r e => by cases e; exact ⟨Nat.le_refl _, hrg.iter_walk⟩)
      have hJ3 : J ss (w2.alloc (.cells #[.int .i64 x1, .int .i64 x2, .int .i64 x3] 32)) := hJ ss w2 _ none hJ2 (World.grownBy_alloc w2 _ none) (fun r e => by cases e)
      obtain ⟨fn, tmps, assign, body, hy, hR⟩ := HY.out ss (x1, x2, x3) _ hJ3 (by have := hsz.out; omega)
      have hrg2' := hrg2.alloc (.cells #[.int .i64 x1, .int .i64 x2, .int .i64 x3] 32)
      have hC2 := hC.step ho hlk hat
      unfold mkC at hen hy
      clear hs2 hkey ex hv
      gi_wp2
      refine hR.mono ?_
      rintro e W3 (⟨rfl, hJ3, hk3⟩ | ⟨rfl, hJx3⟩)
      · gi_wp2
        have hrg3 := hrg2'.of_walks hk3
        go_roundw
        case rel => exact ⟨_, cnt2, ss ++ [(x1, x2, x3)], hrg3, by simp; omega, hC2, hJ3⟩
        case measure => rw [hrg3.left_eq, hrg.left_eq]; exact hlt
      · gi_wp2
        refine bodyPost_ret (results_none rfl _ _ _) rfl ?_
        exact ⟨⟨_, rfl⟩, .inr ⟨ss ++ [(x1, x2, x3)], trivial, hJx3⟩⟩
/-- what maps.Keys hands back tells all keys, each once. -/
theorem keysL_stops (n : Nat) (hn : 1 ≤ n) (Bm b nn : Nat) (f : Ce → Option Value) (w : World) (hBm : Bm < w.heap.size) (hm : w.cell? ⟨Bm, 0, none⟩ = some (.map (some b))) (h : MapAt w b nn f) :
    SeqStopsK Fence.wide n Try.prog 83 #[.pointer (some ⟨Bm, 0, none⟩)] (fun x : Ce => #[mkC x]) KeepsWalks (fun ss => KeysOfF f ss ∧ ss.length ≤ nn) (fun _ => True) nn w := fun l J Jx W hW hJ _ hY h0 => by
  obtain ⟨⟨D, h1, h2⟩, h3⟩ := h.below hW
  exact keysL1_in n hn l Bm b nn D f ⟨h2, h3⟩ J Jx hY W hJ ((hW.cell (p := ⟨Bm, 0, none⟩) hBm).trans hm) h1 h0
theorem keysS_in (n : Nat) (mb : Option Nat) (w : World) :
    CallsIn Fence.wide n Try.prog 49 #[.map mb] w fun e w' => e = .returned (.func (.func 74) #[] #[.pointer (some ⟨w.heap.size, 0, none⟩)]) ∧ w' = w.alloc (.cells #[.map mb] 70) := by
  refine callsIn_of_wp Try.func49 rfl trivial ?_ rfl
  simp only [Try.ntmps49, List.size_toArray, List.length_cons, List.length_nil, Nat.reduceAdd, Nat.reduceSub, Array.replicate_succ, Array.replicate_zero, List.push_toArray, List.append_toArray, List.nil_append, List.cons_append]
  gi_wp2
  go_ret
  exact ⟨rfl, rfl⟩
set_option maxRecDepth 100000 in
set_option maxHeartbeats 4000000 in
theorem keysS1_in (n : Nat) (hn : 1 ≤ n) (l Bm b nn : Nat) (D0 : DataW Value) (f : Ce → Option Value) (hf : HoldsF D0 f) (J Jx : List Ce → World → Prop)
    (hY : ∀ pre x W, J pre W → pre.length < nn → YieldAt Fence.wide (n - 1) Try.prog l #[mkC x] W fun e W' =>
      (e = .returned (.bool true) ∧ J (pre ++ [x]) W' ∧ KeepsWalks W W') ∨ (e = .returned (.bool false) ∧ Jx (pre ++ [x]) W'))
    (W : World) (hJ : AbidesFrom W.heap.size J) (hm : W.cell? ⟨Bm, 0, none⟩ = some (.map (some b))) (hown : W.ownsMap Try.prog 32 rawR b nn D0) (h0 : J [] W) :
    CallsIn Fence.wide n Try.prog 74 #[.func (.yield l) #[] #[], .pointer (some ⟨Bm, 0, none⟩)] W fun e W' => (∃ v, e = .returned v) ∧
      ((∃ ss : List Ce, (KeysOfF f ss ∧ ss.length ≤ nn) ∧ J ss W') ∨ (∃ pre : List Ce, True ∧ Jx pre W')) := by
  have HY := Lib.hid hY
  have HF := Lib.hid hf
  have hsz := Lib.hid hown.size_le
  clear hY hf
  refine callsIn_of_wp Try.func74 rfl trivial ?_ rfl
  simp only [Try.ntmps74, List.size_toArray, List.length_cons, List.length_nil, Nat.reduceAdd, Nat.reduceSub, Array.replicate_succ, Array.replicate_zero, List.push_toArray, List.append_toArray, List.nil_append, List.cons_append]
  gi_wp2_with (first
    | (gi_at_range; refine wpListIn_range_own _ rfl _ 70 rfl 32 71 Try.keyd Try.underlying70 _ b nn _ rfl hown ?_; intro w0 hrg0 hg0 hs0)
    | gi_in)
  go_frame
  gi_loopw [3] (fun _ wr => ∃ (left : Lit → Bool) (cnt : Nat) (ss : List Ce), wr.ranges Try.prog 32 rawR b W.heap.size nn D0 left cnt ∧ ss.length + cnt ≤ Maps.size D0 ∧ ColC D0 left ss ∧ J ss wr)
    (fun _ wr => wr.rangeLeft b W.heap.size)
  case atStart =>
    exact ⟨_, _, [], hrg0, by simp, ColC.start D0, hJ [] W w0 none h0 hg0 (fun r e => by cases e)⟩
  case round =>
    obtain ⟨left, cnt, ss, hrg, hcs, hC, hJs⟩ := hrel
    gi_wp2_with (first
      | (gi_at_next; refine wpListIn_next_ranges _ rfl _ rfl 32 Try.keyd rawR mkC id (fun key kl hk => by obtain ⟨x, hx, _⟩ := keyOf_inv hk; exact ⟨x, hx⟩) (fun v _ _ => ⟨v, rfl⟩) b W.heap.size nn _ _ _ rfl hrg ?_ ?_)
      | gi_in)
    · intro hc0 hl0
      gi_wp2
      go_end0
      exact ⟨⟨_, rfl⟩, .inl ⟨ss, ⟨hC.done HF.out hl0, by have := hsz.out; omega⟩, hJs⟩⟩
    · intro x1 x2 x3 c kl yd yp w2 cnt2 hkey hlk hv hat hrg2 hlt hg2 hs2 hen
      obtain ⟨x', ex, ho, rfl⟩ := keyOf_inv hkey
      obtain rfl : (x1, x2, x3) = x' := mkC_inj ex
      have hJ2 : J ss w2 := hJ ss wr w2 (some W.heap.size) hJs hg2 (fun r e => by cases e; exact ⟨Nat.le_refl _, hrg.iter_walk⟩)
      have hJ3 : J ss (w2.alloc (.cells #[.int .i64 x1, .int .i64 x2, .int .i64 x3] 32)) := hJ ss w2 _ none hJ2 (World.grownBy_alloc w2 _ none) (fun r e => by cases e)
      obtain ⟨fn, tmps, assign, body, hy, hR⟩ := HY.out ss (x1, x2, x3) _ hJ3 (by have := hsz.out; omega)
      have hrg2' := hrg2.alloc (.cells #[.int .i64 x1, .int .i64 x2, .int .i64 x3] 32)
      have hC2 := hC.step ho hlk hat
      unfold mkC at hen hy
      clear hs2 hkey ex hv
      gi_wp2
      refine hR.mono ?_
      rintro e W3 (⟨rfl, hJ3, hk3⟩ | ⟨rfl, hJx3⟩)
      · gi_wp2
        have hrg3 := hrg2'.of_walks hk3
        go_roundw
        case rel => exact ⟨_, cnt2, ss ++ [(x1, x2, x3)], hrg3, by simp; omega, hC2, hJ3⟩
        case measure => rw [hrg3.left_eq, hrg.left_eq]; exact hlt
      · gi_wp2
        refine bodyPost_ret (results_none rfl _ _ _) rfl ?_
        exact ⟨⟨_, rfl⟩, .inr ⟨ss ++ [(x1, x2, x3)], trivial, hJx3⟩⟩
/-- what maps.Keys hands back tells all keys, each once. -/
theorem keysS_stops (n : Nat) (hn : 1 ≤ n) (Bm b nn : Nat) (f : Ce → Option Value) (w : World) (hBm : Bm < w.heap.size) (hm : w.cell? ⟨Bm, 0, none⟩ = some (.map (some b))) (h : MapAt w b nn f) :
    SeqStopsK Fence.wide n Try.prog 74 #[.pointer (some ⟨Bm, 0, none⟩)] (fun x : Ce => #[mkC x]) KeepsWalks (fun ss => KeysOfF f ss ∧ ss.length ≤ nn) (fun _ => True) nn w := fun l J Jx W hW hJ _ hY h0 => by
  obtain ⟨⟨D, h1, h2⟩, h3⟩ := h.below hW
  exact keysS1_in n hn l Bm b nn D f ⟨h2, h3⟩ J Jx hY W hJ ((hW.cell (p := ⟨Bm, 0, none⟩) hBm).trans hm) h1 h0
set_option maxRecDepth 100000 in
set_option maxHeartbeats 1000000 in
theorem keysS_none (n : Nat) (Bm : Nat) (w : World) (hBm : Bm < w.heap.size) (hm : w.cell? ⟨Bm, 0, none⟩ = some (.map none)) :
    SeqStopsK Fence.wide n Try.prog 74 #[.pointer (some ⟨Bm, 0, none⟩)] (fun x : Ce => #[mkC x]) KeepsWalks (fun ys : List Ce => ys = []) (fun _ => True) 0 w := fun l J Jx W hW hJ _ hY h0 => by
  have hm' : W.cell? ⟨Bm, 0, none⟩ = some (.map none) := (hW.cell (p := ⟨Bm, 0, none⟩) hBm).trans hm
  clear hm hY hBm hW
  refine callsIn_of_wp Try.func74 rfl trivial ?_ rfl
  simp only [Try.ntmps74, List.size_toArray, List.length_cons, List.length_nil, Nat.reduceAdd, Nat.reduceSub, Array.replicate_succ, Array.replicate_zero, List.push_toArray, List.append_toArray, List.nil_append, List.cons_append]
  have hrg := run_range_nilMap (P := Try.prog) W 70 32 71 Try.underlying70
  have hnx : ∀ ty, (Instr.next (.pointer (some ⟨W.heap.size, 0, none⟩)) false ty).run Try.prog (W.alloc (.mapIter none 0 #[] 0)) = _ := fun ty => run_next_nilMap _ ty 0 0 #[]
  gi_wp2
  refine wpIn_loop_rounds 1 ?_
  rw [roundsIn_succ]
  gi_wp2
  go_end0
  exact ⟨⟨_, rfl⟩, .inl ⟨[], rfl, hJ [] W _ none h0 (World.grownBy_alloc W _ none) (fun r e => by cases e)⟩⟩
end Go.Proofs.Ytjjpfddgcilliaa
namespace Go.Proofs.Ytjjpfddgcilliaa
open Go.RowKit Go.Shelf Go.Sort Go.Lib Go.Maps
set_option maxRecDepth 100000
attribute [local go_sem] Oper.semAt_some

theorem cell_three (w : World) (x y z : Value) (t : TypeId) : ∀ (j : Nat) u, [x, y, z][j]? = some u → (w.alloc (.cells #[x, y, z] t)).cell? ((⟨w.heap.size, 0, none⟩ : Addr).add j) = some u := by
  intro j u hj
  match j, hj with
  | 0, hj => simp at hj; subst hj; simp [Addr.add, go_sem]
  | 1, hj => simp at hj; subst hj; simp [Addr.add, go_sem]
  | 2, hj => simp at hj; subst hj; simp [Addr.add, go_sem]
theorem three_one (x y z : Int) : ∀ u ∈ [Value.int .i64 x, Value.int .i64 y, Value.int .i64 z], u.oneCell' = true := by simp [Value.oneCell']
theorem flC_snoc (l : List Ce) (x1 x2 x3 : Int) : flC (l ++ [(x1, x2, x3)]) = flC l ++ [.int .i64 x1, .int .i64 x2, .int .i64 x3] := by rw [flC_append]; rfl
/-- what has come lies in the list. -/
def GathS (w : World) (Bl : Nat) (pre : List Ce) (W : World) : Prop := (∃ v, Boxed W Bl 30 v ∧ W.ownsRow w.heap.size 32 3 v pre.length (flC pre) ∧ True) ∧ Below w.heap.size w W
/-- the round's own cell. -/
def RoundC (F : Ce → Nat → Array Value) (x : Ce) (a' : Act) (W : World) : Prop := ∃ B, a' = { tmps := F x B, defers := [] } ∧ W.heap[B]? = some (.cells #[.int .i64 x.1, .int .i64 x.2.1, .int .i64 x.2.2] 32 (0, 0))
def SeqPost (w : World) (S : List Ce → Prop) (e : Ending) (w' : World) : Prop := (∃ v ys, e = .returned v ∧ S ys ∧ CsNew w' w.heap.size v ys) ∧ Below w.heap.size w w'
set_option maxRecDepth 100000 in
set_option maxHeartbeats 4000000 in
theorem appendSeq_in (gf : Nat) (lb : Array Value) (S Sp : List Ce → Prop) (N : Nat) (w : World) (hN : N * 24 ≤ 140737488355328) (eg : ∀ args w, (callFunc gf args).run Try.prog w = .ok (.enter gf args) w)
    (hseq : SeqStopsK Fence.wide 2 Try.prog gf lb (fun x : Ce => #[mkC x]) KeepsWalks S Sp N w) :
    CallsIn Fence.wide 3 Try.prog 73 #[.slice none 0 0, .func (.func gf) #[] lb] w (SeqPost w S) := by
  obtain ⟨i0, hi, hz0, hz1, hz2⟩ := info_parts Try.infoCe
  obtain ⟨Po, hPo⟩ : ∃ Po, Po = SeqPost w S := ⟨_, rfl⟩
  rw [← hPo]
  have HPO := Lib.hid hPo
  have HS := Lib.hid hseq
  clear hPo hseq
  refine callsIn_of_wp_marks Try.func73 rfl trivial ?_ rfl
  simp only [Try.ntmps73, List.size_toArray, List.length_cons, List.length_nil, Nat.reduceAdd, Nat.reduceSub, Array.replicate_succ, Array.replicate_zero, List.push_toArray, List.append_toArray, List.nil_append, List.cons_append]
  gi_wp2
  obtain ⟨wa, hwa⟩ : ∃ x, x = w.alloc (.cells #[.slice none 0 0] 30) := ⟨_, rfl⟩
  have za : wa.heap.size = w.heap.size + 1 := by rw [hwa, World.size_alloc]
  have kC := Boxed.new w 30 (.slice none 0 0)
  rw [← hwa] at kC
  have b1 : Below w.heap.size w wa := by rw [hwa]; exact (Below.refl _ w).alloc (Nat.le_refl _) _
  rw [← hwa]
  refine wpIn_rangeFunc_ownH rfl (by omega) (gf := gf) (lb := lb) rfl trivial eg HS.out KeepsWalks.trans (fun W l o o' _ h _ hw => KeepsWalks.putObj o' h hw) b1 (fun _ => rfl)
    (GathS w w.heap.size) (fun _ _ _ => False)
    (OwnFrom.and (Own.from (holdsRow_own w.heap.size w.heap.size 30 32 3 (fun pre : List Ce => pre.length) flC (fun _ _ => True)) _) (ownFrom_below (Nat.le_refl _) (by omega)))
    (fun _ _ _ _ _ hs _ _ => hs) ⟨⟨_, kC, World.ownsRow_nil _ _ _ _, trivial⟩, b1⟩
    (RoundC fun x B => #[.slice none 0 0, .func (.func gf) #[] lb, .pointer (some ⟨w.heap.size, 0, none⟩), undef, .slice none 0 0, .pointer (some ⟨B, 0, none⟩), .func (.func gf) #[] lb, mkC x, undef, undef, undef, undef, undef])
    (fun x a' s X Y row ⟨B, h1, h2⟩ hg hr => ⟨B, h1, (hg.block B (Array.getElem?_eq_some_iff.1 h2).1 (fun e => by obtain ⟨_, o, ho, hc⟩ := hr B e.symm; rw [h2] at ho; cases ho; cases hc)).trans h2⟩) ?assign ?body ?done ?stop
  case assign =>
    clear kC b1 za hwa HS
    rintro l pre ⟨x1, x2, x3⟩ W K hi hK
    unfold mkC
    dsimp only
    gi_wp2
    refine hK _ _ (KeepsFrom.of_grownBy (World.grownBy_alloc W _ none) (fun j e => by cases e)) (KeepsWalks.alloc _ _) ?_ ⟨W.heap.size, rfl, World.alloc_heap_new W _⟩
    obtain ⟨⟨v, hv, hr, ht⟩, hb⟩ := hi
    exact ⟨⟨v, hv.alloc _, hr.alloc _, ht⟩, hb.alloc hb.size _⟩
  case body =>
    clear kC b1 za hwa HS
    rintro l pre ⟨x1, x2, x3⟩ a' W _ _ ⟨⟨v, hv, hrow, _⟩, hB⟩ ⟨B, rfl, hnb⟩ hlt
    have HSN := Lib.hid (flC_snoc pre x1 x2 x3)
    have hc := hv.cell
    have kB0 : W.cell? ⟨B, 0, none⟩ = some (.int .i64 x1) := by simp [World.cell?, hnb]
    have kB1 : W.cell? ⟨B, 1, none⟩ = some (.int .i64 x2) := by simp [World.cell?, hnb]
    have kB2 : W.cell? ⟨B, 2, none⟩ = some (.int .i64 x3) := by simp [World.cell?, hnb]
    have zB : B < W.heap.size := (Array.getElem?_eq_some_iff.1 hnb).1
    have hk1 : pre.length + 1 ≤ maxLen := by unfold maxLen; omega
    have hk2 : (pre.length + 1) * 24 ≤ 140737488355328 := by omega
    clear hnb
    unfold mkC
    dsimp only
    gi_wp2_with (gi_at_builtin; refine wpListIn_append_own _ rfl _ _ 30 rfl w.heap.size 32 i0 (.agg #[.int .i64 0, .int .i64 0, .int .i64 0]) 3 24 Try.underlying30 hi hz0 hz1 hz2 rfl (by decide) _ _ _ rfl (hrow.alloc _) ⟨W.heap.size, 0, none⟩ 1 1 [.int .i64 x1, .int .i64 x2, .int .i64 x3] rfl rfl (cell_three _ _ _ _ _) (three_one _ _ _) hk1 hk2 (by have := hB.size; simp; omega) ?_; intro v' w1 hown' hgrow _; obtain ⟨g', cap', rfl⟩ := ownsRow_succ hown'; obtain ⟨hv1, hv2, hr2, hk2, hb2⟩ := hv.appended (by decide) hrow hB.size (Nat.le_refl _) hown' hgrow; have hc1 := hv1.cell; have hf1 := hv1.frozen)
    refine ⟨hk2.from _, hk2.walks, ⟨⟨_, hv2, ?_, trivial⟩, hB.trans hb2⟩⟩
    rw [HSN.out, List.length_append]
    exact hr2
  case done =>
    rintro D ys W hD hys ⟨⟨v, hv, hrow, _⟩, hB⟩ hK
    have hc := hv.cell
    have hD2 : w.heap.size ≤ D := by omega
    have hrow2 := ownsRow_putObj hrow (.deferred none) hK rfl
    have hB2 := hB.grown (grownBy_putObj' W D (.deferred none)) hB.size (fun k e => by cases e; exact hD2)
    clear kC b1 za hwa HS hD hD2
    gi_wp2
    refine ⟨by simp, .inl ⟨_, _, rfl, run_takeDeferred hK, ?_⟩⟩
    refine ⟨v, results_tmp (t := 4) rfl _ _ _, ?_⟩
    rw [HPO.out]
    exact ⟨⟨v, ys, rfl, hys, CsNew.of_owns hrow2⟩, hB2⟩
  case stop =>
    rintro D c pre W _ _ h _
    exact h.elim
end Go.Proofs.Ytjjpfddgcilliaa
