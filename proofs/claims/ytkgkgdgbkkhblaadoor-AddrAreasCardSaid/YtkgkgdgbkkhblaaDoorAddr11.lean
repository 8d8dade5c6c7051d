/-
  LAYER 10, AREAS: the program's iterator over an area's places: its contract, for every loop body.
-/
import Derived.Test.YtkgkgdgbkkhblaaDoorAddr10
namespace Go.Proofs.YtkgkgdgbkkhblaaDoor
open Go.RowKit Go.Shelf
set_option linter.unusedSimpArgs false
set_option linter.unusedVariables false
attribute [local go_sem] Oper.semAt_some

/-- what a round is handed: the k-th place. -/
def plc (a b : Int) (nc : Nat) {N : Nat} (k : Fin N) : Array Value := #[.int .i64 (a + (k.1 % nc : Nat)), .int .i64 (b + (k.1 / nc : Nat))]
theorem take_fin' {N k : Nat} (h : k < N) : (List.finRange N).take (k + 1) = (List.finRange N).take k ++ [⟨k, h⟩] := by
  rw [List.take_succ_eq_append_getElem (by simpa using h)]; simp
theorem take_fin_all' (N : Nat) : (List.finRange N).take N = List.finRange N := List.take_of_length_le (by simp)
theorem places_in (n : Nat) (a b c d : Int) (w : World) :
    CallsIn Fence.wide n Tryd.prog 33 #[areaV a b c d] w fun e w' => e = .returned (.func (.func 46) #[] #[.pointer (some ⟨w.heap.size, 0, none⟩)]) ∧ w' = w.alloc (.cells #[.int .i64 a, .int .i64 b, .int .i64 c, .int .i64 d] 34) := by
  refine callsIn_of_wp Tryd.func33 rfl trivial ?_ rfl
  simp only [Tryd.ntmps33, List.size_toArray, List.length_cons, List.length_nil, Nat.reduceAdd, Nat.reduceSub, Array.replicate_succ, Array.replicate_zero, List.push_toArray, List.append_toArray, List.nil_append, List.cons_append]
  gi_wp2
  go_ret
  exact ⟨rfl, rfl⟩
/-- what a round keeps: the box that holds the area. -/
def KeepsArea (Bs : Nat) (A B : World) : Prop := ∀ j v, A.cell? ⟨Bs, j, none⟩ = some v → B.cell? ⟨Bs, j, none⟩ = some v
theorem KeepsArea.refl (Bs : Nat) (A : World) : KeepsArea Bs A A := fun _ _ h => h
theorem KeepsArea.trans {Bs : Nat} {A B C : World} (h : KeepsArea Bs A B) (k : KeepsArea Bs B C) : KeepsArea Bs A C := fun j v hv => k j v (h j v hv)
theorem keepsArea_b {Bs : Nat} {w : World} (W : World) (l : Nat) (o o' : Obj) (_ : w.heap.size ≤ l) (h : W.heap[l]? = some o) (ho : o.isCells = false) (_ : o.isWalk = false) : KeepsArea Bs W (W.putObj l o') :=
  fun _ _ hv => cell_kept hv (grownBy_putObj' W l o') (fun r e => by cases e; exact ⟨o, h, ho⟩)
theorem keepsArea_below {Bs : Nat} {A B : World} (h : Below A.heap.size A B) (hb : Bs < A.heap.size) : KeepsArea Bs A B := fun _ _ hv => belK h hv hb
theorem grown_of_below {W W' : World} (h : Below W.heap.size W W') : W.grownBy W' none := ⟨h.os, h.tape, h.output, h.size, fun k hk _ => h.block k hk⟩
/-- j rows were told, and i more places of the next one. -/
def PIn {N : Nat} (J : List (Fin N) → World → Prop) (Bs : Nat) (W : World) (a : Int) (nc j : Nat) (c : Value) (wr : World) : Prop := ∃ i : Nat, i ≤ nc ∧ c = .int .i64 (a + i) ∧ J ((List.finRange N).take (j * nc + i)) wr ∧ KeepsArea Bs W wr
def POut {N : Nat} (J : List (Fin N) → World → Prop) (Bs : Nat) (W : World) (b : Int) (nc nr : Nat) (r : Value) (wr : World) : Prop := ∃ j : Nat, j ≤ nr ∧ r = .int .i64 (b + j) ∧ J ((List.finRange N).take (j * nc)) wr ∧ KeepsArea Bs W wr
theorem plc_at (a b : Int) {nc j i N : Nat} (hi : i < nc) (h : j * nc + i < N) : plc a b nc (⟨j * nc + i, h⟩ : Fin N) = #[.int .i64 (a + i), .int .i64 (b + j)] := by
  have h1 : (j * nc + i) % nc = i := by rw [Nat.mul_comm, Nat.mul_add_mod]; exact Nat.mod_eq_of_lt hi
  have h2 : (j * nc + i) / nc = j := by
    rw [Nat.mul_comm, Nat.mul_add_div (by omega), Nat.div_eq_of_lt hi]; omega
  unfold plc; dsimp only; rw [h1, h2]

set_option maxRecDepth 100000 in
set_option maxHeartbeats 4000000 in
theorem places1_no (n : Nat) (hn : 1 ≤ n) (l Bs N : Nat) (a b c d : Int) (hno : nrmB a b c d = false) (hN : N = 0) (J Jx : List (Fin N) → World → Prop)
    (W : World) (hJ : AbidesFrom W.heap.size J) (kA0 : W.cell? ⟨Bs, 0, none⟩ = some (.int .i64 a)) (kA1 : W.cell? ⟨Bs, 1, none⟩ = some (.int .i64 b)) (kA2 : W.cell? ⟨Bs, 2, none⟩ = some (.int .i64 c)) (kA3 : W.cell? ⟨Bs, 3, none⟩ = some (.int .i64 d)) (h0 : J [] W) :
    CallsIn Fence.wide n Tryd.prog 46 #[.func (.yield l) #[] #[], .pointer (some ⟨Bs, 0, none⟩)] W fun e W' => (∃ v, e = .returned v) ∧
      ((∃ ys, ys = List.finRange N ∧ J ys W') ∨ (∃ pre, (∃ k, k ≤ N ∧ pre = (List.finRange N).take k) ∧ Jx pre W')) := by
  have h1 := fun w => isNorm_any a b c d w
  rw [hno] at h1
  have H1 := Lib.hid h1
  have hf : List.finRange N = [] := by subst hN; rfl
  have HF := Lib.hid hf
  clear h1 hf
  refine callsIn_of_wp Tryd.func46 rfl trivial ?_ rfl
  simp only [Tryd.ntmps46, List.size_toArray, List.length_cons, List.length_nil, Nat.reduceAdd, Nat.reduceSub, Array.replicate_succ, Array.replicate_zero, List.push_toArray, List.append_toArray, List.nil_append, List.cons_append]
  gi_wp2_with (refine ⟨trivial, ?_⟩; gi_at_call 34; refine (callsIn_wide.2 (H1.out _)).mono ?_; rintro e w1 ⟨rfl, hb⟩)
  refine bodyPost_ret (results_none rfl _ _ _) rfl ?_
  exact ⟨⟨_, rfl⟩, .inl ⟨_, rfl, by rw [HF.out]; exact hJ _ _ _ none h0 (grown_of_below hb) (fun r e => by cases e)⟩⟩
set_option maxRecDepth 100000 in
set_option maxHeartbeats 4000000 in
theorem places1_yes (n : Nat) (hn : 1 ≤ n) (l Bs nc nr : Nat) (a b c d : Int) (hyes : nrmB a b c d = true) (hnc : nc = (c - a + 1).toNat) (hnr : nr = (d - b + 1).toNat) (J Jx : List (Fin (nc * nr)) → World → Prop)
    (hY : ∀ pre x W, J pre W → pre.length < nc * nr → YieldAt Fence.wide (n - 1) Tryd.prog l (plc a b nc x) W fun e W' =>
      (e = .returned (.bool true) ∧ J (pre ++ [x]) W' ∧ KeepsArea Bs W W') ∨ (e = .returned (.bool false) ∧ Jx (pre ++ [x]) W'))
    (W : World) (hJ : AbidesFrom W.heap.size J) (kA0 : W.cell? ⟨Bs, 0, none⟩ = some (.int .i64 a)) (kA1 : W.cell? ⟨Bs, 1, none⟩ = some (.int .i64 b)) (kA2 : W.cell? ⟨Bs, 2, none⟩ = some (.int .i64 c)) (kA3 : W.cell? ⟨Bs, 3, none⟩ = some (.int .i64 d)) (zA : Bs < W.heap.size) (h0 : J [] W) :
    CallsIn Fence.wide n Tryd.prog 46 #[.func (.yield l) #[] #[], .pointer (some ⟨Bs, 0, none⟩)] W fun e W' => (∃ v, e = .returned v) ∧
      ((∃ ys, ys = List.finRange (nc * nr) ∧ J ys W') ∨ (∃ pre, (∃ k, k ≤ nc * nr ∧ pre = (List.finRange (nc * nr)).take k) ∧ Jx pre W')) := by
  have h1 := fun w => isNorm_any a b c d w
  rw [hyes] at h1
  have H1 := Lib.hid h1
  obtain ⟨a1, a2, b1, b2, c1, c2, d1, d2, h3, h4, _⟩ := nrm_facts hyes
  have hc1 : c ≤ a + nc - 1 := by omega
  have hc2 : a + nc - 1 ≤ c := by omega
  have hd1 : d ≤ b + nr - 1 := by omega
  have hd2 : b + nr - 1 ≤ d := by omega
  have hnc1 : 1 ≤ nc := by omega
  have hnr1 : 1 ≤ nr := by omega
  have HK : Hid (∀ wr, KeepsArea Bs W wr → wr.cell? ⟨Bs, 0, none⟩ = some (.int .i64 a) ∧ wr.cell? ⟨Bs, 1, none⟩ = some (.int .i64 b) ∧ wr.cell? ⟨Bs, 2, none⟩ = some (.int .i64 c) ∧ wr.cell? ⟨Bs, 3, none⟩ = some (.int .i64 d)) := fun wr h => ⟨h _ _ kA0, h _ _ kA1, h _ _ kA2, h _ _ kA3⟩
  have HY := Lib.hid hY
  have HZ : Hid (∀ W', Below W.heap.size W W' → J [] W' ∧ KeepsArea Bs W W') := fun W' h => ⟨hJ _ _ _ none h0 (grown_of_below h) (fun r e => by cases e), keepsArea_below h zA⟩
  clear h1 hyes hnc hnr hY hJ h0 zA h3 h4
  refine callsIn_of_wp Tryd.func46 rfl trivial ?_ rfl
  simp only [Tryd.ntmps46, List.size_toArray, List.length_cons, List.length_nil, Nat.reduceAdd, Nat.reduceSub, Array.replicate_succ, Array.replicate_zero, List.push_toArray, List.append_toArray, List.nil_append, List.cons_append]
  gi_wp2_with (refine ⟨trivial, ?_⟩; gi_at_call 34; refine (callsIn_wide.2 (H1.out _)).mono ?_; rintro e w1 ⟨rfl, hb⟩; clear kA0 kA1 kA2 kA3; obtain ⟨hJ0, hK0⟩ := HZ.out _ hb; clear hb; obtain ⟨kA0, kA1, kA2, kA3⟩ := HK.out _ hK0)
  have HJ0 := Lib.hid hJ0
  have HK0 := Lib.hid hK0
  clear hJ0 hK0 kA0 kA1 kA2 kA3
  gi_loopw [3] (POut J Bs W b nc nr) (fun r _ => (b + nr - intOf r).toNat)
  case atStart => exact ⟨0, by omega, by simp, by rw [Nat.zero_mul]; exact HJ0.out, HK0.out⟩
  case round =>
    obtain ⟨j, hj, rfl, hJs, hKs⟩ := hrel
    obtain ⟨kA0, kA1, kA2, kA3⟩ := HK.out _ hKs
    by_cases hlt : j < nr
    · have HJS := Lib.hid hJs
      have HKS := Lib.hid hKs
      have hbd : b + (j : Int) ≤ d := by omega
      clear hJs hKs
      gi_wp2
      gi_loopw [4] (PIn J Bs W a nc j) (fun r _ => (a + nc - intOf r).toNat)
      case atStart => exact ⟨0, by omega, by simp, HJS.out, HKS.out⟩
      case round =>
        clear kA0 kA1 kA2 kA3
        obtain ⟨i, hi, rfl, hJi, hKi⟩ := hrel
        obtain ⟨kA0, kA1, kA2, kA3⟩ := HK.out _ hKi
        by_cases hit : i < nc
        · have hac : a + (i : Int) ≤ c := by omega
          have hb := grid_le (nc := nc) (nr := nr) hlt (show i + 1 ≤ nc from hit)
          have hbk : j * nc + i < nc * nr := by omega
          obtain ⟨fn, tmps, assign, body, hy, hR⟩ := HY.out _ ⟨j * nc + i, hbk⟩ wr hJi (by simp; omega)
          rw [plc_at a b hit hbk] at hy
          have HT := Lib.hid (take_fin' (N := nc * nr) hbk)
          have HKI := Lib.hid hKi
          clear hb hJi hKi
          gi_wp2
          refine hR.mono ?_
          rintro e W3 (⟨rfl, hJ3, hk3⟩ | ⟨rfl, hJx3⟩)
          · clear kA0 kA1 kA2 kA3
            have hK3 := HKI.out.trans hk3
            obtain ⟨kA0, kA1, kA2, kA3⟩ := HK.out _ hK3
            gi_wp2
            go_roundw
            case rel =>
              refine ⟨i + 1, by omega, congrArg (Value.int .i64) (by omega), ?_, hK3⟩
              rw [← Nat.add_assoc, HT.out]; exact hJ3
            case measure => simp [intOf]; omega
          · gi_wp2
            refine bodyPost_ret (results_none rfl _ _ _) rfl ?_
            exact ⟨⟨_, rfl⟩, .inr ⟨_, ⟨j * nc + i + 1, by omega, HT.out.symm⟩, hJx3⟩⟩
        · obtain rfl : i = nc := by omega
          have hac : c < a + (i : Int) := by omega
          have HJI := Lib.hid hJi
          have HKI := Lib.hid hKi
          clear hJi hKi
          gi_wp2
          go_roundw
          case rel =>
            refine ⟨j + 1, by omega, congrArg (Value.int .i64) (by omega), ?_, HKI.out⟩
            rw [Nat.add_mul, Nat.one_mul]; exact HJI.out
          case measure => simp [intOf]; omega
    · obtain rfl : j = nr := by omega
      have hbd : d < b + (j : Int) := by omega
      have HJS := Lib.hid hJs
      clear hJs hKs
      gi_wp2
      go_end0
      exact ⟨⟨_, rfl⟩, .inl ⟨_, rfl, by have := HJS.out; rwa [List.take_of_length_le (by rw [List.length_finRange, Nat.mul_comm]; exact Nat.le_refl _)] at this⟩⟩
theorem places_stops (n : Nat) (hn : 1 ≤ n) (Bs : Nat) (a b c d : Int) (w : World) (zA : Bs < w.heap.size)
    (kA0 : w.cell? ⟨Bs, 0, none⟩ = some (.int .i64 a)) (kA1 : w.cell? ⟨Bs, 1, none⟩ = some (.int .i64 b)) (kA2 : w.cell? ⟨Bs, 2, none⟩ = some (.int .i64 c)) (kA3 : w.cell? ⟨Bs, 3, none⟩ = some (.int .i64 d)) :
    SeqStopsK Fence.wide n Tryd.prog 46 #[.pointer (some ⟨Bs, 0, none⟩)] (plc a b (c - a + 1).toNat : Fin (cntN a b c d) → Array Value) (KeepsArea Bs) (fun ys => ys = List.finRange (cntN a b c d))
      (fun pre => ∃ k, k ≤ cntN a b c d ∧ pre = (List.finRange (cntN a b c d)).take k) (cntN a b c d) w := fun l J Jx W hW hJ _ hY h0 => by
  have q0 := (hW.cell (p := ⟨Bs, 0, none⟩) zA).trans kA0
  have q1 := (hW.cell (p := ⟨Bs, 1, none⟩) zA).trans kA1
  have q2 := (hW.cell (p := ⟨Bs, 2, none⟩) zA).trans kA2
  have q3 := (hW.cell (p := ⟨Bs, 3, none⟩) zA).trans kA3
  cases h : nrmB a b c d with
  | false => exact places1_no n hn l Bs _ a b c d h (cntN_no h) J Jx W hJ q0 q1 q2 q3 h0
  | true =>
    have hN := cntN_yes h
    revert J Jx
    rw [hN]
    intro J Jx hJ _ hY h0
    exact places1_yes n hn l Bs _ _ a b c d h rfl rfl J Jx hY W hJ q0 q1 q2 q3 (Nat.lt_of_lt_of_le zA hW.size) h0
end Go.Proofs.YtkgkgdgbkkhblaaDoor
