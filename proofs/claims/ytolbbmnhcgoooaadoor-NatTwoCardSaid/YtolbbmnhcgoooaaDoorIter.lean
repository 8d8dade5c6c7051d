/-
  THE ITERATOR OVER A TEXT'S DIGITS FROM BEHIND: its contract, for every loop body.
-/
import Derived.RangeFuncNested
import Derived.RangeFuncBound
import Derived.RangeFuncCalls
import Derived.RangeFuncLeaves
import Derived.RangeFuncBox
import Derived.Shelf.Abstract
import Derived.Shelf.RegionOpen
import Derived.OwnWalkIn
import Derived.TacticsInMore
import Derived.LoopNIn
import Derived.LoopIn
import Derived.Test.YtolbbmnhcgoooaaDoorTrim
namespace Go.Proofs.YtolbbmnhcgoooaaDoor
open Go.RowKit Go.Shelf
attribute [local go_sem] Oper.semAt_some

/-- what is handed to a round: the place, and the digit there, from behind. -/
def dgs (s : ByteArray) (i : Fin s.size) : Array Value := #[.int .i64 (i.1 : Int), .int .u8 ((s[s.size - 1 - i.1]'(by omega)).toNat : Int)]
theorem take_fin {N k : Nat} (h : k < N) : (List.finRange N).take (k + 1) = (List.finRange N).take k ++ [⟨k, h⟩] := by
  rw [List.take_succ_eq_append_getElem (by simpa using h)]; simp
theorem take_fin_all (N : Nat) : (List.finRange N).take N = List.finRange N := List.take_of_length_le (by simp)
theorem foldl_take {σ : Type} (N : Nat) (f : σ → Fin N → σ) (st : Nat → σ) (h : ∀ i : Fin N, st (i.1 + 1) = f (st i.1) i) (k : Nat) (hk : k ≤ N) :
    ((List.finRange N).take k).foldl f (st 0) = st k := by
  induction k with
  | zero => rfl
  | succ k ih => rw [take_fin (by omega), List.foldl_append, ih (by omega)]; exact (h ⟨k, by omega⟩).symm
theorem foldl_fin {σ : Type} (N : Nat) (f : σ → Fin N → σ) (st : Nat → σ) (h : ∀ i : Fin N, st (i.1 + 1) = f (st i.1) i) :
    (List.finRange N).foldl f (st 0) = st N := by
  have := foldl_take N f st h N (Nat.le_refl _)
  rwa [take_fin_all] at this

set_option maxHeartbeats 1000000 in
theorem fromBehind_in (F : Fence) (n : Nat) (hf : F.fn 40) (hro : F.round = none) (s : ByteArray) (w : World) :
    CallsIn F n Tryd.prog 40 #[.string s] w fun e w' => e = .returned (.func (.func 60) #[] #[.pointer (some ⟨w.heap.size, 0, none⟩)]) ∧ w' = w.alloc (.cells #[.string s] 9) := by
  refine callsIn_of_wp Tryd.func40 rfl hf ?_ hro
  simp only [Tryd.ntmps40, List.size_toArray, List.length_cons, List.length_nil, Nat.reduceAdd, Nat.reduceSub, Array.replicate_succ, Array.replicate_zero, List.push_toArray, List.append_toArray, List.nil_append, List.cons_append]
  gi_wp2
  go_ret
  exact ⟨rfl, rfl⟩

/-- what a round keeps: the box that holds the text. -/
def KeepsBox (Bs : Nat) (A B : World) : Prop := ∀ v, A.cell? ⟨Bs, 0, none⟩ = some v → B.cell? ⟨Bs, 0, none⟩ = some v
theorem KeepsBox.refl (Bs : Nat) (A : World) : KeepsBox Bs A A := fun _ h => h
theorem KeepsBox.trans {Bs : Nat} {A B C : World} (h : KeepsBox Bs A B) (k : KeepsBox Bs B C) : KeepsBox Bs A C := fun v hv => k v (h v hv)
theorem KeepsBox.drew {Bs : Nat} {A B : World} (h : KeepsBox Bs A B) : KeepsBox Bs A B.drew := h
theorem KeepsBox.setCell {Bs : Nat} {A B : World} (h : KeepsBox Bs A B) {p : Addr} (hp : p.block ≠ Bs) (u : Value) : KeepsBox Bs A (B.setCell p u) :=
  fun v hv => (World.cell?_setCell_other B p ⟨Bs, 0, none⟩ u (fun e => hp (by rw [e]))).trans (h v hv)
theorem keepsBox_b {Bs : Nat} {w : World} (W : World) (l : Nat) (o o' : Obj) (_ : w.heap.size ≤ l) (h : W.heap[l]? = some o) (ho : o.isCells = false) (_ : o.isWalk = false) : KeepsBox Bs W (W.putObj l o') :=
  fun v hv => cell_kept hv (grownBy_putObj' W l o') (fun r e => by cases e; exact ⟨o, h, ho⟩)

set_option maxRecDepth 100000 in
set_option maxHeartbeats 2000000 in
theorem behind1_in (F : Fence) (n : Nat) (hf : F.fn 60) (hro : F.round = none) (hn : 1 ≤ n) (l Bs : Nat) (s : ByteArray) (hreach : s.size ≤ maxLen) (J Jx : List (Fin s.size) → World → Prop)
    (hY : ∀ pre x W, J pre W → pre.length < s.size → YieldAt F (n - 1) Tryd.prog l (dgs s x) W fun e W' =>
      (e = .returned (.bool true) ∧ J (pre ++ [x]) W' ∧ KeepsBox Bs W W') ∨ (e = .returned (.bool false) ∧ Jx (pre ++ [x]) W'))
    (W : World) (hBs : W.cell? ⟨Bs, 0, none⟩ = some (.string s)) (h0 : J [] W) :
    CallsIn F n Tryd.prog 60 #[.func (.yield l) #[] #[], .pointer (some ⟨Bs, 0, none⟩)] W fun e W' => (∃ v, e = .returned v) ∧
      ((∃ ys, ys = List.finRange s.size ∧ J ys W') ∨ (∃ pre, (∃ k, k ≤ s.size ∧ pre = (List.finRange s.size).take k) ∧ Jx pre W')) := by
  unfold maxLen at hreach
  refine callsIn_of_wp Tryd.func60 rfl hf ?_ hro
  simp only [Tryd.ntmps60, List.size_toArray, List.length_cons, List.length_nil, Nat.reduceAdd, Nat.reduceSub, Array.replicate_succ, Array.replicate_zero, List.push_toArray, List.append_toArray, List.nil_append, List.cons_append]
  gi_wp2
  gi_loopw [6] (fun i wr => ∃ k : Nat, k ≤ s.size ∧ i = .int .i64 k ∧ J ((List.finRange s.size).take k) wr ∧ KeepsBox Bs W wr)
    (fun i _ => s.size - (intOf i).toNat)
  case atStart => exact ⟨0, Nat.zero_le _, rfl, h0, KeepsBox.refl _ _⟩
  case round =>
    obtain ⟨k, hk, rfl, hJs, hnx⟩ := hrel
    have hcx : wr.cell? ⟨Bs, 0, none⟩ = some (.string s) := hnx _ hBs
    by_cases hlt : k < s.size
    · obtain ⟨fn, tmps, assign, body, hy, hR⟩ := hY _ ⟨k, hlt⟩ wr hJs (by simp; omega)
      unfold dgs at hy
      dsimp only at hy
      have hix : ((s.size : Int) - 1 - (k : Int)).toNat = s.size - 1 - k := by omega
      gi_wp2
      refine hR.mono ?_
      rintro e W3 (⟨rfl, hJ3, hk3⟩ | ⟨rfl, hJx3⟩)
      · gi_wp2
        go_roundw
        case rel => exact ⟨k + 1, by omega, by simp, by rw [take_fin hlt]; exact hJ3, hnx.trans hk3⟩
        case measure => simp [intOf]; omega
      · gi_wp2
        refine bodyPost_ret (results_none rfl _ _ _) rfl ?_
        exact ⟨⟨_, rfl⟩, .inr ⟨_, ⟨k + 1, by omega, (take_fin hlt).symm⟩, hJx3⟩⟩
    · obtain rfl : k = s.size := by omega
      gi_wp2
      go_end0
      exact ⟨⟨_, rfl⟩, .inl ⟨_, rfl, by rw [take_fin_all] at hJs; exact hJs⟩⟩

theorem behind_stops (F : Fence) (n : Nat) (hf : F.fn 60) (hro : F.round = none) (hn : 1 ≤ n) (Bs : Nat) (s : ByteArray) (hreach : s.size ≤ maxLen) (w : World) (hBs : Bs < w.heap.size)
    (hc : w.cell? ⟨Bs, 0, none⟩ = some (.string s)) :
    SeqStopsK F n Tryd.prog 60 #[.pointer (some ⟨Bs, 0, none⟩)] (dgs s) (KeepsBox Bs) (fun ys => ys = List.finRange s.size)
      (fun pre => ∃ k, k ≤ s.size ∧ pre = (List.finRange s.size).take k) s.size w := fun l J Jx W hW _ _ hY h0 => by
  have hc' := (hW.cell (p := ⟨Bs, 0, none⟩) hBs).trans hc
  exact behind1_in F n hf hro hn l Bs s hreach J Jx hY W hc' h0
end Go.Proofs.YtolbbmnhcgoooaaDoor
