/-
  SMALL NUMBERS: a text below 2^64 as a number, and back.
-/
import Derived.Test.YtolbbmnhcgoooaaDoorIter
import Derived.IntWalk
namespace Go.Proofs.YtolbbmnhcgoooaaDoor
open Go.RowKit Go.Shelf
attribute [local go_sem] Oper.semAt_some

theorem u64w {n : Int} (h0 : 0 ≤ n) (h1 : n < 18446744073709551616) : IntKind.u64.wrap n = n := by
  rw [IntKind.wrap_u64]; omega
theorem pow256_le8 {i : Nat} (hi : i < 8) (d : Nat) (hd : d < 256) : d * 256 ^ i < 18446744073709551616 ∧ 256 ^ i ≤ 18446744073709551616 := by
  have h1 : 256 ^ (i + 1) ≤ 256 ^ 8 := Nat.pow_le_pow_right (by omega) (by omega)
  rw [Nat.pow_succ] at h1
  have h2 : d * 256 ^ i ≤ 255 * 256 ^ i := Nat.mul_le_mul_right _ (by omega)
  have h3 : 0 < 256 ^ i := Nat.pow_pos (by omega)
  have h4 : (256 : Nat) ^ 8 = 18446744073709551616 := by decide
  omega
theorem ret_small {a b : Int} (h : a = b) : Ending.returned (.tuple #[.int .u64 a, .bool true]) = .returned (.tuple #[.int .u64 b, .bool true]) := by rw [h]
/-- one round of a number out of its digits. -/
theorem or_step (a d i : Nat) (hi : i < 8) (hd : d < 256) (ha : a < 256 ^ i) :
    bits .or .u64 (a : Int) (IntKind.u64.wrap ((d : Int) * 2 ^ (8 * (i : Int)).toNat)) = ((a + 256 ^ i * d : Nat) : Int) := by
  obtain ⟨h1, h2⟩ := pow256_le8 hi d hd
  have e : ((d : Int) * 2 ^ (8 * (i : Int)).toNat) = ((d * 256 ^ i : Nat) : Int) := by
    have : (8 * (i : Int)).toNat = 8 * i := by omega
    rw [this, show (256 : Nat) ^ i = 2 ^ (8 * i) from by rw [Nat.pow_mul]]; simp
  rw [e, u64w (by omega) (by omega), u64_or_nat _ _ (by omega) (by omega)]
  have e2 : (256 : Nat) ^ i = 2 ^ (8 * i) := by rw [Nat.pow_mul]
  rw [e2] at ha ⊢
  rw [Nat.or_comm, Nat.mul_comm d, Nat.add_comm, Nat.two_pow_add_eq_or_of_lt ha]
theorem or_low (n d : Nat) (hn : n < 72057594037927936) (hd : d < 256) :
    bits .or .u64 (IntKind.u64.wrap ((n : Int) * 256)) (d : Int) = ((n * 256 + d : Nat) : Int) := by
  rw [u64w (by omega) (by omega)]
  have e : ((n : Int) * 256) = ((n * 256 : Nat) : Int) := by omega
  rw [e, u64_or_nat _ _ (by omega) (by omega)]
  have h := Nat.two_pow_add_eq_or_of_lt (b := d) (i := 8) (by omega) n
  rw [show n * 256 = 2 ^ 8 * n from by omega, h]
/-- the number that the digits of some rounds make. -/
def smallStep (t : ByteArray) (c : Int) (i : Fin t.size) : Int := bits .or .u64 c (IntKind.u64.wrap (((t[t.size - 1 - i.1]'(by omega)).toNat : Int) * 2 ^ (8 * (i.1 : Int)).toNat))
theorem small_fold (t : ByteArray) (h8 : t.size ≤ 8) : (List.finRange t.size).foldl (smallStep t) 0 = (Nt.V t : Int) := by
  have h := foldl_fin t.size (smallStep t) (fun k => ((Nt.V t % 256 ^ k : Nat) : Int)) (fun i => by
    have hi := i.2
    unfold smallStep
    rw [Nt.V_dig t i.1 hi, or_step _ _ _ (by omega) (Nt.dig_lt _ _) (Nat.mod_lt _ (Nat.pow_pos (by omega))), Nt.mod_succ])
  simp only [Nat.pow_zero, Nat.mod_one] at h
  rw [Nt.mod_full (Nt.V_lt t)] at h
  exact h

set_option maxRecDepth 100000 in
set_option maxHeartbeats 2000000 in
theorem natSmall_loop (s t : ByteArray) (w : World) (ht : Nt.E (Nt.V s) = t) (h8 : t.size ≤ 8) :
    Calls Tryd.prog 10 #[.string s] w fun e w' => e = .returned (.tuple #[.int .u64 (Nt.V s : Int), .bool true]) ∧ Below w.heap.size w w' := by
  have hm : t.size ≤ maxLen := by unfold maxLen; omega
  have hT : ∀ w, Calls Tryd.prog 14 #[.string s] w fun e w' => e = .returned (.string t) ∧ w = w' := fun w => by rw [← ht]; exact natTrim_any s w
  have HT := Lib.hid hT
  have Ht := Lib.hid ht
  clear hT ht
  refine (callsIn_wide (n := 3)).1 ?_
  refine callsIn_of_wp_marks Tryd.func10 rfl trivial ?_ rfl
  simp only [Tryd.ntmps10, List.size_toArray, List.length_cons, List.length_nil, Nat.reduceAdd, Nat.reduceSub, Array.replicate_succ, Array.replicate_zero, List.push_toArray, List.append_toArray, List.nil_append, List.cons_append]
  gi_wp2_with (first
    | (refine ⟨trivial, ?_⟩; gi_at_call 14; refine (callsIn_wide.2 (HT.out _)).mono ?_; rintro e w' ⟨rfl, rfl⟩)
    | (refine ⟨trivial, ?_⟩; gi_at_call 40; refine (fromBehind_in Fence.wide _ trivial rfl _ _).mono ?_; rintro e w' ⟨rfl, rfl⟩))
  have bC := Boxed.new w 22 (.int .u64 0)
  have bN := Boxed.new (w.alloc (.cells #[.int .u64 0] 22)) 9 (.string t)
  rw [World.size_alloc] at bN
  have hB0 : Below w.heap.size w ((w.alloc (.cells #[.int .u64 0] 22)).alloc (.cells #[.string t] 9)) := ((Below.refl _ w).alloc (Nat.le_refl _) _).alloc (by simp) _
  refine wpIn_rangeFunc_ownF rfl (by omega) (gf := 60) (lb := #[.pointer (some ⟨w.heap.size + 1, 0, none⟩)]) rfl trivial (enters_of Tryd.func60 (by kernel_rfl) rfl)
    (behind_stops Fence.wide _ trivial rfl (by omega) (w.heap.size + 1) t hm _ (by simp) bN.cell) KeepsBox.trans keepsBox_b (Below.refl _ _) (fun _ => rfl)
    (fun pre W => (W.cell? ⟨w.heap.size, 0, none⟩ = some (.int .u64 (pre.foldl (smallStep t) 0)) ∧ W.frozen? ⟨w.heap.size, 0, none⟩ = false) ∧ Below w.heap.size w W)
    (fun _ _ _ => False)
    (OwnFrom.and (Own.from (fun s A B row hs hg hr => ⟨cell_kept hs.1 hg hr, (frozen_kept hs.1 hg hr).trans hs.2⟩) _) (ownFrom_below (Nat.le_refl _) (by simp; omega)))
    (fun _ _ _ _ _ hs _ _ => hs)
    ⟨⟨(bC.alloc _).cell, (bC.alloc _).frozen⟩, hB0⟩
    (fun i => { tmps := #[Value.string t, undef, Value.int IntKind.u64 0, Value.bool false, Value.pointer (some { block := w.heap.size, off := 0 }), .int .i64 (i.1 : Int), .int .u8 ((t[t.size - 1 - i.1]'(by omega)).toNat : Int), Value.string s, Value.string t, Value.string t, Value.int IntKind.i64 t.size, Value.bool (decide (8 < (t.size : Int))), Value.string t, Value.func (Fn.func 60) #[] #[Value.pointer (some { block := w.heap.size + 1, off := 0 })], .int .i64 (i.1 : Int), .int .u8 ((t[t.size - 1 - i.1]'(by omega)).toNat : Int), undef, undef, undef, undef, undef, undef, undef, undef], defers := [] }) ?assign ?body ?done ?stop
  case assign =>
    intro l x W K hK
    unfold dgs
    dsimp only
    gi_wp2
    exact hK
  case body =>
    rintro l pre x W ⟨⟨hc, hf⟩, hB⟩ _
    obtain ⟨i, hi⟩ := x
    obtain ⟨d, hd⟩ : ∃ d, d = (t[t.size - 1 - i]'(by omega)).toNat := ⟨_, rfl⟩
    have hd256 : d < 256 := by rw [hd]; exact UInt8.toNat_lt _
    have hs1 : (pre ++ [(⟨i, hi⟩ : Fin t.size)]).foldl (smallStep t) 0 = bits .or .u64 (pre.foldl (smallStep t) 0) (IntKind.u64.wrap ((d : Int) * 2 ^ (8 * (i : Int)).toNat)) := by
      rw [List.foldl_append, hd]; rfl
    generalize pre.foldl (smallStep t) 0 = c at hc hs1
    dsimp only
    rw [← hd]
    have Hs := Lib.hid hs1
    clear hd hs1
    have hw8 : IntKind.i64.wrap (8 * (i : Int)) = 8 * (i : Int) := IntWalk.i64_in _ (by omega)
    have hw0 : 0 ≤ 8 * (i : Int) := by omega
    have hwd : IntKind.u64.wrap (d : Int) = (d : Int) := by simp [IntKind.wrap, IntKind.bits, IntKind.signed]; omega
    have hmx : Tryd.prog.follows .mixedOrders = true := by kernel_rfl
    gi_wp2
    gi_region_with_o (fail)
    all_goals exact ⟨(KeepsOthers.setCell _ _ _).trans (KeepsOthers.drew _), ((KeepsBox.refl _ W).setCell (p := ⟨w.heap.size, 0, none⟩) (by simp) _).drew, ⟨by rw [Hs.out]; exact World.cell?_setCell_same' _ _ _ (by rw [hc]; rfl), by rw [frozen_drew_own, World.frozen?_setCell]; exact hf⟩, (hB.setCell (p := ⟨w.heap.size, 0, none⟩) (Nat.le_refl _) _).drew⟩
  case done =>
    rintro D xs W hD rfl ⟨⟨hc, _⟩, hB⟩ hK
    have hF := Lib.hid (small_fold t h8)
    generalize (List.finRange t.size).foldl (smallStep t) 0 = c at hc hF
    gi_wp2
    refine ⟨by simp, .inl ⟨_, _, rfl, run_takeDeferred hK, ?_⟩⟩
    exact ⟨_, results_tmp2 (t := 2) (u := 3) rfl _ _ _, ret_small (a := c) (b := ((Nt.V s : Nat) : Int)) (by rw [hF.out, ← Ht.out, Nt.V_E]), hB.trans (belowK_b (w := w) (Nat.le_refl _) W D _ _ (by simp at hD; omega) hK rfl rfl)⟩
  case stop =>
    rintro D c pre W _ _ h _
    exact h.elim

theorem ret_small2 {a b : Int} {c d : Bool} (h : a = b) (h' : c = d) : Ending.returned (.tuple #[.int .u64 a, .bool c]) = .returned (.tuple #[.int .u64 b, .bool d]) := by rw [h, h']
set_option maxRecDepth 100000 in
set_option maxHeartbeats 400000 in
theorem natSmall_any (s : ByteArray) (w : World) :
    Calls Tryd.prog 10 #[.string s] w fun e w' => e = .returned (.tuple #[.int .u64 (Nt.sm (Nt.V s) : Int), .bool (Nt.smB (Nt.V s))]) ∧ Below w.heap.size w w' := by
  by_cases h8 : (Nt.E (Nt.V s)).size ≤ 8
  · have h1 := Nt.E_small h8
    refine (natSmall_loop s _ w rfl h8).mono fun e w' h => ⟨?_, h.2⟩
    rw [h.1]
    exact ret_small2 (by rw [Nt.sm, if_pos h1]) (by rw [Nt.smB]; simp [h1])
  · have h1 := Nt.E_big h8
    have hr := Lib.hid (show Ending.returned (.tuple #[.int .u64 0, .bool false]) = .returned (.tuple #[.int .u64 (Nt.sm (Nt.V s) : Int), .bool (Nt.smB (Nt.V s))]) from ret_small2 (by rw [Nt.sm, if_neg h1]; rfl) (by rw [Nt.smB]; simp [h1]))
    go_enter Tryd.func10, Tryd.ntmps10
    go_wp2_with (go_at_call 14; refine (natTrim_any _ _).mono ?_; rintro e w' ⟨rfl, rfl⟩)
    go_ret2
    exact ⟨hr.out, Below.refl _ _⟩

end Go.Proofs.YtolbbmnhcgoooaaDoor
