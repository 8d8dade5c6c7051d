/-
  THE WALKS OF TRIMMING: bytes 0 ahead are taken off, in the program and in the document's answer.
  A REGION THAT DRAWS ITS ORDER, IN A ROUND OF A RANGE OVER A FUNCTION: reads and quiet calls ahead of a tail that is in order.
  THE ITERATOR OVER A TEXT'S DIGITS FROM BEHIND: its contract, for every loop body.
  MEMORY THAT A CALL MAKES: blocks that are known whole, of numbers of one kind; a text made of bytes.
  SMALL NUMBERS: a text below 2^64 as a number, and back.
-/
import Derived.Test.YtjbpipbmcicjiaaGreatDoorMath
import Derived.Test.YtjbpipbmcicjiaaGreatDoorRows
import Derived.WalkKit
import Derived.WalkSpells
import Derived.WalkLawsBesides
import Derived.BigQuiet
import Derived.Deep.QuietTactic
import Derived.Lib.Hide
import Derived.RangeFuncNested
import Derived.StillTailTactics
import Derived.Shelf.Abstract
import Derived.OwnWalkIn
import Derived.TacticsInMore
import Derived.RangeFuncBound
import Derived.RangeFuncCalls
import Derived.RangeFuncLeaves
import Derived.RangeFuncBox
import Derived.Shelf.RegionOpen
import Derived.LoopNIn
import Derived.LoopIn
import Derived.Below
import Derived.Laws.OwnMore
import Derived.Deep.Draws
import Derived.Deep.OwnRows
import Derived.Laws.Rows
import Derived.Laws.BytesArg
import Derived.Maps.AppendAt
import Derived.Deep.AppendLies
import Derived.IntWalk
namespace Go.Proofs.YtjbpipbmcicjiaaGreatDoor
open Go.RowKit

theorem ret_str {a b : ByteArray} (h : a = b) : Ending.returned (.string a) = .returned (.string b) := by rw [h]
theorem ret_int {k : IntKind} {a b : Int} (h : a = b) : Ending.returned (.int k a) = .returned (.int k b) := by rw [h]
theorem ret_bool {a b : Bool} (h : a = b) : Ending.returned (.bool a) = .returned (.bool b) := by rw [h]

set_option maxHeartbeats 400000 in
theorem refTrim_any (s : ByteArray) (w : World) :
    Calls Tryz.prog 58 #[.string s] w fun e w' => e = .returned (.string (Nt.E (Nt.V s))) ∧ w = w' := by
  go_enter Tryz.func58, Tryz.ntmps58
  go_wp2
  go_loop [0] (fun v => ∃ t : ByteArray, v = .string t ∧ t.size ≤ s.size ∧ Nt.V t = Nt.V s) (fun v => match v with | .string t => t.size | _ => 0)
  case atStart => exact ⟨s, rfl, Nat.le_refl _, rfl⟩
  case round =>
    obtain ⟨t, rfl, ht, hv⟩ := hrel
    have hV := Lib.hid hv
    clear hv
    by_cases h : 0 < t.size
    · by_cases h0 : (t[0]'h).toNat = 0
      · have hb : (((t[0]'h).toNat : Int) == 0) = true := by simp [h0]
        have hx := Lib.hid (Nt.V_tail t h h0)
        clear h0
        go_wp2
        refine ⟨⟨_, rfl, ?_, ?_⟩, ?_⟩
        · simp; omega
        · rw [hx.out, hV.out]
        · simp; omega
      · have hb : (((t[0]'h).toNat : Int) == 0) = false := by simp [h0]
        have hx := Lib.hid (Nt.E_V_head t h h0)
        clear h0
        go_wp2
        go_ret
        exact ⟨ret_str (by rw [← hV.out, hx.out]), rfl⟩
    · have hx := Lib.hid (Nt.E_V_nil t h)
      go_wp2
      go_ret
      exact ⟨ret_str (by rw [← hV.out, hx.out]), rfl⟩

set_option maxHeartbeats 400000 in
theorem trimLeftByte_any (s : ByteArray) (w : World) :
    Calls Tryz.prog 131 #[.string s, .int .u8 0] w fun e w' => e = .returned (.string (Nt.E (Nt.V s))) ∧ w = w' := by
  go_enter Tryz.func131, Tryz.ntmps131
  go_wp2
  go_loop [0] (fun v => ∃ t : ByteArray, v = .string t ∧ t.size ≤ s.size ∧ Nt.V t = Nt.V s) (fun v => match v with | .string t => t.size | _ => 0)
  case atStart => exact ⟨s, rfl, Nat.le_refl _, rfl⟩
  case round =>
    obtain ⟨t, rfl, ht, hv⟩ := hrel
    have hV := Lib.hid hv
    clear hv
    by_cases h : 0 < t.size
    · by_cases h0 : (t[0]'h).toNat = 0
      · have hb : (((t[0]'h).toNat : Int) == 0) = true := by simp [h0]
        have hx := Lib.hid (Nt.V_tail t h h0)
        clear h0
        go_wp2
        refine ⟨⟨_, rfl, ?_, ?_⟩, ?_⟩
        · simp; omega
        · rw [hx.out, hV.out]
        · simp; omega
      · have hb : (((t[0]'h).toNat : Int) == 0) = false := by simp [h0]
        have hx := Lib.hid (Nt.E_V_head t h h0)
        clear h0
        go_wp2
        go_ret
        exact ⟨ret_str (by rw [← hV.out, hx.out]), rfl⟩
    · have hx := Lib.hid (Nt.E_V_nil t h)
      go_wp2
      go_ret
      exact ⟨ret_str (by rw [← hV.out, hx.out]), rfl⟩

theorem E_V_of_toList {s : ByteArray} (h : s.toList = []) : s = Nt.E (Nt.V s) := by
  rw [ByteArray.toList_eq] at h
  exact (Nt.E_V_nil s (by show ¬ 0 < s.data.size; rw [← Array.length_toList, h]; simp)).symm
set_option maxRecDepth 100000 in
set_option maxHeartbeats 400000 in
theorem trimLeft_any (s : ByteArray) (w : World) :
    Calls Tryz.prog 96 #[.string s, .string ⟨#[0]⟩] w fun e w' => e = .returned (.string (Nt.E (Nt.V s))) ∧ w = w' := by
  go_enter Tryz.func96, Tryz.ntmps96
  go_wp2_with (go_at_call 131; refine (trimLeftByte_any _ _).mono ?_; rintro e w' ⟨rfl, rfl⟩)
  · have hn : s.toList = [] := by assumption
    go_ret
    exact ⟨ret_str (E_V_of_toList hn), rfl⟩
  · have h1 : ¬ s.toList = [] := by assumption
    have h2 : s.toList.isEmpty = true := by assumption
    exact absurd (by simpa using h2) h1
  · go_ret
    exact ⟨rfl, rfl⟩
set_option maxHeartbeats 400000 in
theorem natTrim_any (s : ByteArray) (w : World) :
    Calls Tryz.prog 57 #[.string s] w fun e w' => e = .returned (.string (Nt.E (Nt.V s))) ∧ w = w' := by
  go_enter Tryz.func57, Tryz.ntmps57
  go_wp2_with (go_at_call 96; refine (trimLeft_any _ _).mono ?_; rintro e w' ⟨rfl, rfl⟩)
  go_ret
  exact ⟨rfl, rfl⟩
end Go.Proofs.YtjbpipbmcicjiaaGreatDoor
namespace Go.Proofs.YtjbpipbmcicjiaaGreatDoor
open Go.RowKit

section
variable {P : Program} {md : Region.Mode} {ops : Array Oper} {Q : Exit → Act → World → Prop} {lr m : Nat}

def noDefer (l : List Oper) : Bool := l.all fun o => match o.op with | .defer _ => false | _ => true
theorem noDefer_spec {l : List Oper} (h : noDefer l = true) {o : Oper} (ho : o ∈ l) : ∀ c, o.op ≠ .defer c := fun c e => by
  have := List.all_eq_true.1 h o ho
  rw [e] at this
  cases this
theorem rows_round {row : String} {args : Array Value} {w : World} {R : Value → World → Prop} (h : Rows P row args w R) : RowsIn (Fence.wide.inRound lr) m P row args w R :=
  fun c cs _ => let ⟨v, w', r, s⟩ := h c cs; ⟨v, w', r, stepsIn_wide.2 s⟩
theorem oper_round {o : Oper} {a : Act} {w : World} {K : Act → World → Prop} (hnd : ∀ c, o.op ≠ .defer c) (h : o.wp P a w K Q) : o.wpIn (Fence.wide.inRound lr) m P a w K Q := by
  unfold Oper.wpIn
  refine ⟨fun _ _ => trivial, ?_⟩
  rw [Oper.semAt_eq _ _ _ hnd]
  unfold Oper.wp at h
  generalize (execOp a.eval o).run P w = r at *
  cases r with
  | ok x w' =>
    cases x <;> simp only [Oper.uponIn, Oper.upon] at h ⊢
    case value => exact h
    case skip => exact h
    case defer => exact h
    case enter f args => exact ⟨fun hd => (absurd (show (false : Bool) = true from hd) (by simp)), CallsIn.inRound lr (callsIn_wide.2 h)⟩
    case row row args => exact ⟨fun hd => (absurd (show (false : Bool) = true from hd) (by simp)), rows_round h⟩
  | halt x w' => cases x <;> simp only [Oper.uponIn, Oper.upon] at h ⊢; exact h
theorem wpOp_round {i : Nat} {K K' : Act → World → Prop} {a : Act} {w : World} (hnd : noDefer ops.toList = true) (hno : ¬ LetsOut Q) (hk : ∀ a w, K a w → K' a w) (h : wpOp P ops Q i K a w) :
    wpOpIn (Fence.wide.inRound lr) m P ops Q i K' a w := by
  unfold wpOp at h
  unfold wpOpIn
  split
  · exact hk _ _ (by simpa [*] using h)
  · rename_i o ho
    simp only [ho] at h
    split
    · rename_i hw
      simp only [hw, if_true] at h
      rcases h with h | h
      · exact Oper.wpIn_mono hk (oper_round (noDefer_spec hnd (Array.mem_toList_iff.2 (Array.mem_of_getElem? ho))) h)
      · exact absurd h.2 hno
    · rename_i hw
      simp only [hw] at h
      exact ⟨fun _ _ => trivial, hk _ _ h⟩
theorem wpAny_round (hnd : noDefer ops.toList = true) (hno : ¬ LetsOut Q) : ∀ (fuel : Nat) (listed : Array Bool) (a : Act) (w : World), wpAny P md ops Q fuel listed a w → wpAnyIn (Fence.wide.inRound lr) m P md ops Q fuel listed a w
  | 0, _, _, _, h => h
  | fuel + 1, _, _, _, h => ⟨h.1, fun i hi => wpOp_round hnd hno (wpAny_round hnd hno fuel _) (h.2 i hi)⟩

/-- the first n operations only read, or call what only reads; the others stand in order behind them. -/
theorem wpIn_round_tail {id : Nat} {a : Act} {w : World} {l : List Oper} (n : Nat) (hm : P.follows .mixedOrders = true) (hB : Region.lexTailB .any l.toArray n = true) (hnd : noDefer l = true) (hno : ¬ LetsOut Q)
    (h : wpStill P l.toArray w.drew (fun a' => wpList P l.toArray Q (l.drop n) a' w.drew) (l.take n) a) : (Code.region id l.toArray true).wpIn (Fence.wide.inRound lr) m P Q a w := by
  simp only [Region.lexTailB, Bool.and_eq_true, decide_eq_true_eq] at hB
  obtain ⟨⟨⟨⟨hsel, hn⟩, hs⟩, hc⟩, hlex⟩ := hB
  have hn' : n < l.length := by simpa using hn
  have htl : (l.take n).length = n := by simp; omega
  have hdl : (l.drop n).length = l.toArray.size - n := by simp
  have inv0 : HeadInv .any l.toArray n (Array.replicate l.toArray.size false) :=
    ⟨by simp, fun j oj _ hl => (by rw [getD_replicate_false] at hl; cases hl), fun t _ ht => getD_in (by simpa using ht) (getD_replicate_false _ _)⟩
  have H := wpAnyL_lex (md := .any) (g := l.toArray.size - n) hsel hs hc hn (l.take n) 0 _ a (fun j hj => by
    have hj' : j < n := by rw [htl] at hj; exact hj
    simp [hj']) (by simpa using htl) inv0 (by rw [htl]; exact hlex) h
  have H2 := wpAny_of_head (Q' := Q) (g := l.toArray.size - n) (fun listed a' hL => by
    have := wpAny_of_seq (md := .any) (Q' := Q) (l.drop n) n listed a' w.drew (fun j => by simp [List.getElem?_drop]) (by rw [hdl]; exact hL.1) hL.2
    rwa [hdl] at this) _ _ _ H
  rw [htl, show n + (l.toArray.size - n) = l.toArray.size by omega] at H2
  exact wpIn_region_any hm (wpAny_round (by simpa using hnd) hno _ _ _ _ H2)
end
end Go.Proofs.YtjbpipbmcicjiaaGreatDoor
namespace Go.Proofs.YtjbpipbmcicjiaaGreatDoor
open Go.RowKit Go.Shelf
attribute [local go_sem] Oper.semAt_some

/-- what is handed to a round: the place, and the digit there, from behind. -/
def dgs (s : ByteArray) (i : Fin s.size) : Array Value := #[.int .i64 (i.1 : Int), .int .u8 ((s[s.size - 1 - i.1]'(by omega)).toNat : Int)]
theorem take_fin {N k : Nat} (h : k < N) : (List.finRange N).take (k + 1) = (List.finRange N).take k ++ [⟨k, h⟩] := by
  rw [List.take_succ_eq_append_getElem (by simpa using h)]; simp
theorem take_fin_all (N : Nat) : (List.finRange N).take N = List.finRange N := List.take_of_length_le (by simp)
theorem foldl_take {σ : Type} (N : Nat) (f : σ → Fin N → σ) (st : Nat → σ) (h : ∀ i : Fin N, st (i.1 + 1) = f (st i.1) i) (k : Nat) (hk : k ≤ N) :
    ((List.finRange N).take k).foldl f (st 0) = st k := by
  induction k with
  | zero => rfl
  | succ k ih => rw [take_fin (by omega), List.foldl_append, ih (by omega)]; exact (h ⟨k, by omega⟩).symm
theorem foldl_fin {σ : Type} (N : Nat) (f : σ → Fin N → σ) (st : Nat → σ) (h : ∀ i : Fin N, st (i.1 + 1) = f (st i.1) i) :
    (List.finRange N).foldl f (st 0) = st N := by
  have := foldl_take N f st h N (Nat.le_refl _)
  rwa [take_fin_all] at this

set_option maxHeartbeats 1000000 in
theorem fromBehind_in (F : Fence) (n : Nat) (hf : F.fn 94) (hro : F.round = none) (s : ByteArray) (w : World) :
    CallsIn F n Tryz.prog 94 #[.string s] w fun e w' => e = .returned (.func (.func 130) #[] #[.pointer (some ⟨w.heap.size, 0, none⟩)]) ∧ w' = w.alloc (.cells #[.string s] 9) := by
  refine callsIn_of_wp Tryz.func94 rfl hf ?_ hro
  simp only [Tryz.ntmps94, List.size_toArray, List.length_cons, List.length_nil, Nat.reduceAdd, Nat.reduceSub, Array.replicate_succ, Array.replicate_zero, List.push_toArray, List.append_toArray, List.nil_append, List.cons_append]
  gi_wp2
  go_ret
  exact ⟨rfl, rfl⟩

/-- what a round keeps: the box that holds the text. -/
def KeepsBox (Bs : Nat) (A B : World) : Prop := ∀ v, A.cell? ⟨Bs, 0, none⟩ = some v → B.cell? ⟨Bs, 0, none⟩ = some v
theorem KeepsBox.refl (Bs : Nat) (A : World) : KeepsBox Bs A A := fun _ h => h
theorem KeepsBox.trans {Bs : Nat} {A B C : World} (h : KeepsBox Bs A B) (k : KeepsBox Bs B C) : KeepsBox Bs A C := fun v hv => k v (h v hv)
theorem KeepsBox.drew {Bs : Nat} {A B : World} (h : KeepsBox Bs A B) : KeepsBox Bs A B.drew := h
theorem KeepsBox.setCell {Bs : Nat} {A B : World} (h : KeepsBox Bs A B) {p : Addr} (hp : p.block ≠ Bs) (u : Value) : KeepsBox Bs A (B.setCell p u) :=
  fun v hv => (World.cell?_setCell_other B p ⟨Bs, 0, none⟩ u (fun e => hp (by rw [e]))).trans (h v hv)
theorem keepsBox_b {Bs : Nat} {w : World} (W : World) (l : Nat) (o o' : Obj) (_ : w.heap.size ≤ l) (h : W.heap[l]? = some o) (ho : o.isCells = false) (_ : o.isWalk = false) : KeepsBox Bs W (W.putObj l o') :=
  fun v hv => cell_kept hv (grownBy_putObj' W l o') (fun r e => by cases e; exact ⟨o, h, ho⟩)

set_option maxRecDepth 100000 in
set_option maxHeartbeats 2000000 in
theorem behind1_in (F : Fence) (n : Nat) (hf : F.fn 130) (hro : F.round = none) (hn : 1 ≤ n) (l Bs : Nat) (s : ByteArray) (hreach : s.size ≤ maxLen) (J Jx : List (Fin s.size) → World → Prop)
    (hY : ∀ pre x W, J pre W → pre.length < s.size → YieldAt F (n - 1) Tryz.prog l (dgs s x) W fun e W' =>
      (e = .returned (.bool true) ∧ J (pre ++ [x]) W' ∧ KeepsBox Bs W W') ∨ (e = .returned (.bool false) ∧ Jx (pre ++ [x]) W'))
    (W : World) (hBs : W.cell? ⟨Bs, 0, none⟩ = some (.string s)) (h0 : J [] W) :
    CallsIn F n Tryz.prog 130 #[.func (.yield l) #[] #[], .pointer (some ⟨Bs, 0, none⟩)] W fun e W' => (∃ v, e = .returned v) ∧
      ((∃ ys, ys = List.finRange s.size ∧ J ys W') ∨ (∃ pre, (∃ k, k ≤ s.size ∧ pre = (List.finRange s.size).take k) ∧ Jx pre W')) := by
  unfold maxLen at hreach
  refine callsIn_of_wp Tryz.func130 rfl hf ?_ hro
  simp only [Tryz.ntmps130, List.size_toArray, List.length_cons, List.length_nil, Nat.reduceAdd, Nat.reduceSub, Array.replicate_succ, Array.replicate_zero, List.push_toArray, List.append_toArray, List.nil_append, List.cons_append]
  gi_wp2
  gi_loopw [6] (fun i wr => ∃ k : Nat, k ≤ s.size ∧ i = .int .i64 k ∧ J ((List.finRange s.size).take k) wr ∧ KeepsBox Bs W wr)
    (fun i _ => s.size - (intOf i).toNat)
  case atStart => exact ⟨0, Nat.zero_le _, rfl, h0, KeepsBox.refl _ _⟩
  case round =>
    obtain ⟨k, hk, rfl, hJs, hnx⟩ := hrel
    have hcx : wr.cell? ⟨Bs, 0, none⟩ = some (.string s) := hnx _ hBs
    by_cases hlt : k < s.size
    · obtain ⟨fn, tmps, assign, body, hy, hR⟩ := hY _ ⟨k, hlt⟩ wr hJs (by simp; omega)
      unfold dgs at hy
      dsimp only at hy
      have hix : ((s.size : Int) - 1 - (k : Int)).toNat = s.size - 1 - k := by omega
      gi_wp2
      refine hR.mono ?_
      rintro e W3 (⟨rfl, hJ3, hk3⟩ | ⟨rfl, hJx3⟩)
      · gi_wp2
        go_roundw
        case rel => exact ⟨k + 1, by omega, by simp, by rw [take_fin hlt]; exact hJ3, hnx.trans hk3⟩
        case measure => simp [intOf]; omega
      · gi_wp2
        refine bodyPost_ret (results_none rfl _ _ _) rfl ?_
        exact ⟨⟨_, rfl⟩, .inr ⟨_, ⟨k + 1, by omega, (take_fin hlt).symm⟩, hJx3⟩⟩
    · obtain rfl : k = s.size := by omega
      gi_wp2
      go_end0
      exact ⟨⟨_, rfl⟩, .inl ⟨_, rfl, by rw [take_fin_all] at hJs; exact hJs⟩⟩

theorem behind_stops (F : Fence) (n : Nat) (hf : F.fn 130) (hro : F.round = none) (hn : 1 ≤ n) (Bs : Nat) (s : ByteArray) (hreach : s.size ≤ maxLen) (w : World) (hBs : Bs < w.heap.size)
    (hc : w.cell? ⟨Bs, 0, none⟩ = some (.string s)) :
    SeqStopsK F n Tryz.prog 130 #[.pointer (some ⟨Bs, 0, none⟩)] (dgs s) (KeepsBox Bs) (fun ys => ys = List.finRange s.size)
      (fun pre => ∃ k, k ≤ s.size ∧ pre = (List.finRange s.size).take k) s.size w := fun l J Jx W hW _ _ hY h0 => by
  have hc' := (hW.cell (p := ⟨Bs, 0, none⟩) hBs).trans hc
  exact behind1_in F n hf hro hn l Bs s hreach J Jx hY W hc' h0
end Go.Proofs.YtjbpipbmcicjiaaGreatDoor
namespace Go.Proofs.YtjbpipbmcicjiaaGreatDoor
open Go.RowKit

/-- block g holds just the cells cs, of element type t. -/
def Blk (w : World) (g : Nat) (t : TypeId) (cs : Array Value) : Prop := w.heap[g]? = some (.cells cs t (0, 0))
/-- numbers of one kind, as cells. -/
def kV (k : IntKind) (l : List Nat) : Array Value := (l.map fun n : Nat => Value.int k (n : Int)).toArray

section
variable {w w' : World} {g : Nat} {t : TypeId} {cs : Array Value}
theorem Blk.lt (h : Blk w g t cs) : g < w.heap.size := by
  rcases Nat.lt_or_ge g w.heap.size with hlt | hge
  · exact hlt
  · unfold Blk at h; rw [Array.getElem?_eq_none hge] at h; cases h
theorem Blk.cell (h : Blk w g t cs) (i : Nat) : w.cell? ⟨g, i, none⟩ = cs[i]? := cell_of_row w g i cs t (0, 0) h
theorem Blk.frozen (h : Blk w g t cs) (i : Nat) : w.frozen? ⟨g, i, none⟩ = false := by
  unfold Blk at h
  simp [World.frozen?, h]
theorem Blk.new (w : World) (t : TypeId) (cs : Array Value) : Blk (w.alloc (.cells cs t)) w.heap.size t cs := by
  show (w.heap.push _)[w.heap.size]? = _
  simp
theorem Blk.drew (h : Blk w g t cs) : Blk w.drew g t cs := h
theorem Blk.drewN (h : Blk w g t cs) (n : Nat) : Blk (w.drewN n) g t cs := h
theorem Blk.alloc (h : Blk w g t cs) (o : Obj) : Blk (w.alloc o) g t cs := (Below.heap_alloc w o g h.lt).trans h
theorem Blk.put (h : Blk w g t cs) (i : Nat) (u : Value) : Blk (w.setCell ⟨g, i, none⟩ u) g t (cs.setIfInBounds i u) := by
  unfold Blk at h ⊢
  simp [World.setCell, Array.getElem?_modify, h]
theorem Blk.far (h : Blk w g t cs) {p : Addr} (hp : g ≠ p.block) (u : Value) : Blk (w.setCell p u) g t cs := (Below.heap_setCell w p u g hp).trans h
theorem Blk.below {B : Nat} (h : Blk w g t cs) (hb : Below B w w') (hg : g < B) : Blk w' g t cs := (hb.block g hg).trans h
theorem Blk.grown {row : Option Nat} (h : Blk w g t cs) (hb : w.grownBy w' row) (hg : some g ≠ row) : Blk w' g t cs := (hb.block g h.lt hg).trans h
theorem Blk.turned (h : Blk w g t cs) {row : Option Nat} (hg : w.grownBy w' row) (hr : ∀ r, row = some r → ∃ o : Obj, w.heap[r]? = some o ∧ o.isCells = false) : Blk w' g t cs :=
  h.grown hg (fun e => by
    obtain ⟨o, ho, hc⟩ := hr g e.symm
    unfold Blk at h
    rw [h] at ho; cases ho; cases hc)
end

theorem kV_size (k : IntKind) (l : List Nat) : (kV k l).size = l.length := by simp [kV]
theorem kV_get (k : IntKind) (l : List Nat) (i : Nat) : (kV k l)[i]? = l[i]?.map fun n : Nat => Value.int k (n : Int) := by simp [kV]
theorem kV_get_lt (k : IntKind) (l : List Nat) (i : Nat) (h : i < l.length) : (kV k l)[i]? = some (.int k ((l[i]'h : Nat) : Int)) := by
  rw [kV_get, List.getElem?_eq_getElem h]; rfl
theorem kV_set (k : IntKind) (l : List Nat) (i n : Nat) : (kV k l).setIfInBounds i (.int k (n : Int)) = kV k (l.set i n) := by
  simp [kV, List.map_set]
theorem kV_zeros (k : IntKind) (n : Nat) : madeCells #[Value.int k 0] n = kV k (List.replicate n 0) := by
  apply Array.ext
  · simp [madeCells, kV]
  · intro i h1 h2
    simp [madeCells, kV, Nat.mod_one]

/-- a slice that has just been made, of zeros. -/
theorem run_zeros {P : Program} (t e : TypeId) (k : IntKind) (bytes : Nat) (ht : P.underlying t = some (.slice e)) (hinfo : (P.info? e).map (fun i => (i.zero, i.size, i.bytes)) = some (some (.int k 0), 1, bytes))
    (n : Nat) (hbytes : bytes * n ≤ 281474976710656) (h63 : n ≤ 9223372036854775807) (w : World) :
    (Instr.makeSlice t (.int .i64 (n : Int)) (.int .i64 (n : Int))).run P w = .ok (.slice (some ⟨w.heap.size, 0, none⟩) n n) (w.alloc (.cells (kV k (List.replicate n 0)) e)) := by
  rw [← kV_zeros]
  exact run_make_row' t e (.int k 0) bytes ht hinfo rfl .i64 .i64 n hbytes h63 w

/-- a text out of bytes. -/
theorem run_text {P : Program} (src dst e : TypeId) (hs : P.underlying src = some (.slice e)) (he : P.underlying e = some (.int .u8)) (hd : P.underlying dst = some .string)
    (g n cap : Nat) (l : List Nat) (hl : l.length = n) (w : World) (h : Blk w g e (kV .u8 l)) :
    (convert src dst (.slice (some ⟨g, 0, none⟩) n cap)).run P w = .ok (.string ⟨(l.map UInt8.ofNat).toArray⟩) w := by
  have hx := run_convert_bytes_arg (P := P) w src e hs he g 0 n cap (l.map fun m : Nat => (m : Int)) (by simpa using hl) (fun i hi => by
    rw [Nat.zero_add, h.cell, kV_get_lt _ _ _ (by omega)]
    simp [List.getD, List.getElem?_eq_getElem (show i < l.length by omega)]) dst hd
  rw [hx]
  have e2 : strOfNums (l.map fun m : Nat => (m : Int)) = ⟨(l.map UInt8.ofNat).toArray⟩ := by
    have := strOfNums_data (l.map fun m : Nat => (m : Int))
    have e3 : ∀ (a b : ByteArray), a.data.toList = b.data.toList → a = b := fun a b hab => by
      obtain ⟨⟨x⟩⟩ := a; obtain ⟨⟨y⟩⟩ := b; simpa using hab
    apply e3
    rw [this]
    simp
  rw [e2]

theorem Tryz.infoU8 : (Tryz.prog.info? 5).map (fun i => (i.zero, i.size, i.bytes)) = some (some (.int .u8 0), 1, 1) := by kernel_rfl
theorem Tryz.infoU32 : (Tryz.prog.info? 84).map (fun i => (i.zero, i.size, i.bytes)) = some (some (.int .u32 0), 1, 4) := by kernel_rfl
theorem Tryz.infoInt : (Tryz.prog.info? 3).map (fun i => (i.zero, i.size, i.bytes)) = some (some (.int .i64 0), 1, 8) := by kernel_rfl
end Go.Proofs.YtjbpipbmcicjiaaGreatDoor
namespace Go.Proofs.YtjbpipbmcicjiaaGreatDoor
open Go.RowKit Go.Shelf
attribute [local go_sem] Oper.semAt_some

theorem u64w {n : Int} (h0 : 0 ≤ n) (h1 : n < 18446744073709551616) : IntKind.u64.wrap n = n := by
  rw [IntKind.wrap_u64]; omega
theorem pow256_le8 {i : Nat} (hi : i < 8) (d : Nat) (hd : d < 256) : d * 256 ^ i < 18446744073709551616 ∧ 256 ^ i ≤ 18446744073709551616 := by
  have h1 : 256 ^ (i + 1) ≤ 256 ^ 8 := Nat.pow_le_pow_right (by omega) (by omega)
  rw [Nat.pow_succ] at h1
  have h2 : d * 256 ^ i ≤ 255 * 256 ^ i := Nat.mul_le_mul_right _ (by omega)
  have h3 : 0 < 256 ^ i := Nat.pow_pos (by omega)
  have h4 : (256 : Nat) ^ 8 = 18446744073709551616 := by decide
  omega
theorem ret_small {a b : Int} (h : a = b) : Ending.returned (.tuple #[.int .u64 a, .bool true]) = .returned (.tuple #[.int .u64 b, .bool true]) := by rw [h]
/-- one round of a number out of its digits. -/
theorem or_step (a d i : Nat) (hi : i < 8) (hd : d < 256) (ha : a < 256 ^ i) :
    bits .or .u64 (a : Int) (IntKind.u64.wrap ((d : Int) * 2 ^ (8 * (i : Int)).toNat)) = ((a + 256 ^ i * d : Nat) : Int) := by
  obtain ⟨h1, h2⟩ := pow256_le8 hi d hd
  have e : ((d : Int) * 2 ^ (8 * (i : Int)).toNat) = ((d * 256 ^ i : Nat) : Int) := by
    have : (8 * (i : Int)).toNat = 8 * i := by omega
    rw [this, show (256 : Nat) ^ i = 2 ^ (8 * i) from by rw [Nat.pow_mul]]; simp
  rw [e, u64w (by omega) (by omega), u64_or_nat _ _ (by omega) (by omega)]
  have e2 : (256 : Nat) ^ i = 2 ^ (8 * i) := by rw [Nat.pow_mul]
  rw [e2] at ha ⊢
  rw [Nat.or_comm, Nat.mul_comm d, Nat.add_comm, Nat.two_pow_add_eq_or_of_lt ha]
theorem or_low (n d : Nat) (hn : n < 72057594037927936) (hd : d < 256) :
    bits .or .u64 (IntKind.u64.wrap ((n : Int) * 256)) (d : Int) = ((n * 256 + d : Nat) : Int) := by
  rw [u64w (by omega) (by omega)]
  have e : ((n : Int) * 256) = ((n * 256 : Nat) : Int) := by omega
  rw [e, u64_or_nat _ _ (by omega) (by omega)]
  have h := Nat.two_pow_add_eq_or_of_lt (b := d) (i := 8) (by omega) n
  rw [show n * 256 = 2 ^ 8 * n from by omega, h]
/-- the number that the digits of some rounds make. -/
def smallStep (t : ByteArray) (c : Int) (i : Fin t.size) : Int := bits .or .u64 c (IntKind.u64.wrap (((t[t.size - 1 - i.1]'(by omega)).toNat : Int) * 2 ^ (8 * (i.1 : Int)).toNat))
theorem small_fold (t : ByteArray) (h8 : t.size ≤ 8) : (List.finRange t.size).foldl (smallStep t) 0 = (Nt.V t : Int) := by
  have h := foldl_fin t.size (smallStep t) (fun k => ((Nt.V t % 256 ^ k : Nat) : Int)) (fun i => by
    have hi := i.2
    unfold smallStep
    rw [Nt.V_dig t i.1 hi, or_step _ _ _ (by omega) (Nt.dig_lt _ _) (Nat.mod_lt _ (Nat.pow_pos (by omega))), Nt.mod_succ])
  simp only [Nat.pow_zero, Nat.mod_one] at h
  rw [Nt.mod_full (Nt.V_lt t)] at h
  exact h

set_option maxRecDepth 100000 in
set_option maxHeartbeats 2000000 in
theorem natSmall_loop (s t : ByteArray) (w : World) (ht : Nt.E (Nt.V s) = t) (h8 : t.size ≤ 8) :
    Calls Tryz.prog 53 #[.string s] w fun e w' => e = .returned (.tuple #[.int .u64 (Nt.V s : Int), .bool true]) ∧ Below w.heap.size w w' := by
  have hm : t.size ≤ maxLen := by unfold maxLen; omega
  have hT : ∀ w, Calls Tryz.prog 57 #[.string s] w fun e w' => e = .returned (.string t) ∧ w = w' := fun w => by rw [← ht]; exact natTrim_any s w
  have HT := Lib.hid hT
  have Ht := Lib.hid ht
  clear hT ht
  refine (callsIn_wide (n := 3)).1 ?_
  refine callsIn_of_wp_marks Tryz.func53 rfl trivial ?_ rfl
  simp only [Tryz.ntmps53, List.size_toArray, List.length_cons, List.length_nil, Nat.reduceAdd, Nat.reduceSub, Array.replicate_succ, Array.replicate_zero, List.push_toArray, List.append_toArray, List.nil_append, List.cons_append]
  gi_wp2_with (first
    | (refine ⟨trivial, ?_⟩; gi_at_call 57; refine (callsIn_wide.2 (HT.out _)).mono ?_; rintro e w' ⟨rfl, rfl⟩)
    | (refine ⟨trivial, ?_⟩; gi_at_call 94; refine (fromBehind_in Fence.wide _ trivial rfl _ _).mono ?_; rintro e w' ⟨rfl, rfl⟩))
  have bC := Boxed.new w 54 (.int .u64 0)
  have bN := Boxed.new (w.alloc (.cells #[.int .u64 0] 54)) 9 (.string t)
  rw [World.size_alloc] at bN
  have hB0 : Below w.heap.size w ((w.alloc (.cells #[.int .u64 0] 54)).alloc (.cells #[.string t] 9)) := ((Below.refl _ w).alloc (Nat.le_refl _) _).alloc (by simp) _
  refine wpIn_rangeFunc_ownF rfl (by omega) (gf := 130) (lb := #[.pointer (some ⟨w.heap.size + 1, 0, none⟩)]) rfl trivial (enters_of Tryz.func130 (by kernel_rfl) rfl)
    (behind_stops Fence.wide _ trivial rfl (by omega) (w.heap.size + 1) t hm _ (by simp) bN.cell) KeepsBox.trans keepsBox_b (Below.refl _ _) (fun _ => rfl)
    (fun pre W => (W.cell? ⟨w.heap.size, 0, none⟩ = some (.int .u64 (pre.foldl (smallStep t) 0)) ∧ W.frozen? ⟨w.heap.size, 0, none⟩ = false) ∧ Below w.heap.size w W)
    (fun _ _ _ => False)
    (OwnFrom.and (Own.from (fun s A B row hs hg hr => ⟨cell_kept hs.1 hg hr, (frozen_kept hs.1 hg hr).trans hs.2⟩) _) (ownFrom_below (Nat.le_refl _) (by simp; omega)))
    (fun _ _ _ _ _ hs _ _ => hs)
    ⟨⟨(bC.alloc _).cell, (bC.alloc _).frozen⟩, hB0⟩
    (fun i => { tmps := #[Value.string t, undef, Value.int IntKind.u64 0, Value.bool false, Value.pointer (some { block := w.heap.size, off := 0 }), .int .i64 (i.1 : Int), .int .u8 ((t[t.size - 1 - i.1]'(by omega)).toNat : Int), Value.string s, Value.string t, Value.string t, Value.int IntKind.i64 t.size, Value.bool (decide (8 < (t.size : Int))), Value.string t, Value.func (Fn.func 130) #[] #[Value.pointer (some { block := w.heap.size + 1, off := 0 })], .int .i64 (i.1 : Int), .int .u8 ((t[t.size - 1 - i.1]'(by omega)).toNat : Int), undef, undef, undef, undef, undef, undef, undef, undef], defers := [] }) ?assign ?body ?done ?stop
  case assign =>
    intro l x W K hK
    unfold dgs
    dsimp only
    gi_wp2
    exact hK
  case body =>
    rintro l pre x W ⟨⟨hc, hf⟩, hB⟩ _
    obtain ⟨i, hi⟩ := x
    obtain ⟨d, hd⟩ : ∃ d, d = (t[t.size - 1 - i]'(by omega)).toNat := ⟨_, rfl⟩
    have hd256 : d < 256 := by rw [hd]; exact UInt8.toNat_lt _
    have hs1 : (pre ++ [(⟨i, hi⟩ : Fin t.size)]).foldl (smallStep t) 0 = bits .or .u64 (pre.foldl (smallStep t) 0) (IntKind.u64.wrap ((d : Int) * 2 ^ (8 * (i : Int)).toNat)) := by
      rw [List.foldl_append, hd]; rfl
    generalize pre.foldl (smallStep t) 0 = c at hc hs1
    dsimp only
    rw [← hd]
    have Hs := Lib.hid hs1
    clear hd hs1
    have hw8 : IntKind.i64.wrap (8 * (i : Int)) = 8 * (i : Int) := IntWalk.i64_in _ (by omega)
    have hw0 : 0 ≤ 8 * (i : Int) := by omega
    have hwd : IntKind.u64.wrap (d : Int) = (d : Int) := by simp [IntKind.wrap, IntKind.bits, IntKind.signed]; omega
    have hmx : Tryz.prog.follows .mixedOrders = true := by kernel_rfl
    gi_wp2
    gi_region_with_o (fail)
    all_goals exact ⟨(KeepsOthers.setCell _ _ _).trans (KeepsOthers.drew _), ((KeepsBox.refl _ W).setCell (p := ⟨w.heap.size, 0, none⟩) (by simp) _).drew, ⟨by rw [Hs.out]; exact World.cell?_setCell_same' _ _ _ (by rw [hc]; rfl), by rw [frozen_drew_own, World.frozen?_setCell]; exact hf⟩, (hB.setCell (p := ⟨w.heap.size, 0, none⟩) (Nat.le_refl _) _).drew⟩
  case done =>
    rintro D xs W hD rfl ⟨⟨hc, _⟩, hB⟩ hK
    have hF := Lib.hid (small_fold t h8)
    generalize (List.finRange t.size).foldl (smallStep t) 0 = c at hc hF
    gi_wp2
    refine ⟨by simp, .inl ⟨_, _, rfl, run_takeDeferred hK, ?_⟩⟩
    exact ⟨_, results_tmp2 (t := 2) (u := 3) rfl _ _ _, ret_small (a := c) (b := ((Nt.V s : Nat) : Int)) (by rw [hF.out, ← Ht.out, Nt.V_E]), hB.trans (belowK_b (w := w) (Nat.le_refl _) W D _ _ (by simp at hD; omega) hK rfl rfl)⟩
  case stop =>
    rintro D c pre W _ _ h _
    exact h.elim

theorem ret_small2 {a b : Int} {c d : Bool} (h : a = b) (h' : c = d) : Ending.returned (.tuple #[.int .u64 a, .bool c]) = .returned (.tuple #[.int .u64 b, .bool d]) := by rw [h, h']
set_option maxRecDepth 100000 in
set_option maxHeartbeats 400000 in
theorem natSmall_any (s : ByteArray) (w : World) :
    Calls Tryz.prog 53 #[.string s] w fun e w' => e = .returned (.tuple #[.int .u64 (Nt.sm (Nt.V s) : Int), .bool (Nt.smB (Nt.V s))]) ∧ Below w.heap.size w w' := by
  by_cases h8 : (Nt.E (Nt.V s)).size ≤ 8
  · have h1 := Nt.E_small h8
    refine (natSmall_loop s _ w rfl h8).mono fun e w' h => ⟨?_, h.2⟩
    rw [h.1]
    exact ret_small2 (by rw [Nt.sm, if_pos h1]) (by rw [Nt.smB]; simp [h1])
  · have h1 := Nt.E_big h8
    have hr := Lib.hid (show Ending.returned (.tuple #[.int .u64 0, .bool false]) = .returned (.tuple #[.int .u64 (Nt.sm (Nt.V s) : Int), .bool (Nt.smB (Nt.V s))]) from ret_small2 (by rw [Nt.sm, if_neg h1]; rfl) (by rw [Nt.smB]; simp [h1]))
    go_enter Tryz.func53, Tryz.ntmps53
    go_wp2_with (go_at_call 57; refine (natTrim_any _ _).mono ?_; rintro e w' ⟨rfl, rfl⟩)
    go_ret2
    exact ⟨hr.out, Below.refl _ _⟩

end Go.Proofs.YtjbpipbmcicjiaaGreatDoor
