/-
  THE DOCUMENT'S ANSWERS FOR SUMS AND DIFFERENCES: at, turned, Add, Cmp, Sub.
-/
import Derived.Test.YtolbbmnhcgoooaaDoorText
import Derived.Deep.RegionWith
namespace Go.Proofs.YtolbbmnhcgoooaaDoor
open Go.RowKit Go.Shelf

set_option maxHeartbeats 400000 in
theorem refAt_any (s : ByteArray) (i : Nat) (w : World) (hs : s.size ≤ maxLen) :
    Calls Tryd.prog 49 #[.string s, .int .i64 (i : Int)] w fun e w' => e = .returned (.int .i64 (Nt.dig (Nt.V s) i : Int)) ∧ w = w' := by
  unfold maxLen at hs
  by_cases h : i < s.size
  · have hd := Lib.hid (Nt.V_dig s i h)
    go_enter Tryd.func49, Tryd.ntmps49
    go_wp2
    go_ret
    exact ⟨ret_int (a := wrap64 ((s[s.size - 1 - i]'(by omega)).toNat : Int)) (by
      rw [← hd.out]
      have := UInt8.toNat_lt (s[s.size - 1 - i]'(by omega))
      unfold wrap64; omega), rfl⟩
  · have hd := Lib.hid (Nt.dig_zero_le (Nt.V_lt s) (show s.size ≤ i by omega))
    go_enter Tryd.func49, Tryd.ntmps49
    go_wp2
    go_ret
    exact ⟨ret_int (a := 0) (by rw [hd.out]; rfl), rfl⟩
set_option maxHeartbeats 400000 in
theorem natDigitAt_any (s : ByteArray) (i : Nat) (w : World) (hs : s.size ≤ maxLen) :
    Calls Tryd.prog 48 #[.string s, .int .i64 (i : Int)] w fun e w' => e = .returned (.int .u8 (Nt.dig (Nt.V s) i : Int)) ∧ w = w' := by
  unfold maxLen at hs
  by_cases h : i < s.size
  · have hd := Lib.hid (Nt.V_dig s i h)
    go_enter Tryd.func48, Tryd.ntmps48
    go_wp2
    go_ret
    exact ⟨ret_int (by rw [← hd.out]), rfl⟩
  · have hd := Lib.hid (Nt.dig_zero_le (Nt.V_lt s) (show s.size ≤ i by omega))
    go_enter Tryd.func48, Tryd.ntmps48
    go_wp2
    go_ret
    exact ⟨ret_int (a := 0) (by rw [hd.out]; rfl), rfl⟩

/-- a slice of ints that reads as the numbers l: none, or a block's first cells. -/
def RdI (w : World) (A : Option Addr) (l : List Nat) : Prop :=
  l = [] ∨ ∃ g, A = some ⟨g, 0, none⟩ ∧ g < w.heap.size ∧ ∀ k (h : k < l.length), w.cell? ⟨g, k, none⟩ = some (.int .i64 ((l[k]'h : Nat) : Int))
theorem and_255i (n : Nat) (hn : n < 9223372036854775808) : bits .and .i64 (n : Int) 255 = ((n % 256 : Nat) : Int) := by
  have h := bits_mask .i64 63 (by decide) (fun m h0 h1 => by rw [IntKind.wrap_i64]; omega) 8 (by decide) (n : Int) (by omega) (by omega)
  have e : ((2 : Int) ^ 8 - 1) = 255 := by decide
  rw [e] at h
  rw [h]; omega

set_option maxRecDepth 100000 in
set_option maxHeartbeats 1000000 in
theorem refTurned_some (g n cap : Nat) (l : List Nat) (w : World) (hl : l.length = n) (hn : n ≤ 1000000) (hx : ∀ x ∈ l, x < 256) (hg : g < w.heap.size) (hc : ∀ k (h : k < l.length), w.cell? ⟨g, k, none⟩ = some (.int .i64 ((l[k]'h : Nat) : Int))) :
    Calls Tryd.prog 50 #[.slice (some ⟨g, 0, none⟩) n cap] w fun e w' => e = .returned (.string (Nt.E (Nt.lb l))) ∧ Below w.heap.size w w' := by
  have hmk := fun W => run_zeros (P := Tryd.prog) 53 5 .u8 1 Tryd.underlying53 Tryd.infoU8 n (by omega) (by omega) W
  have HL := Lib.hid hl
  obtain ⟨N, hN⟩ : ∃ N, N = Nt.lb l := ⟨_, rfl⟩
  have hV : Hid (Nt.V ⟨((Nt.digs N n).map UInt8.ofNat).toArray⟩ = N) := Nt.V_digs_lt (by rw [hN, ← hl]; exact Nt.lb_lt l hx)
  rw [← hN]
  have HN := Lib.hid hN
  have HX := Lib.hid hx
  have HC := Lib.hid hc
  clear hN hl hx hc
  go_enter Tryd.func50, Tryd.ntmps50
  go_wp2
  go_loopw [4] (fun i wr => ∃ k : Nat, k ≤ n ∧ i = .int .i64 k ∧ Blk wr w.heap.size 5 (kV .u8 (List.replicate (n - k) 0 ++ Nt.digs N k)) ∧ Below w.heap.size w wr) (fun i _ => n - (intOf i).toNat)
  case atStart => exact ⟨0, by omega, rfl, by simp only [Nat.sub_zero, Nt.digs, List.append_nil]; exact Blk.new _ _ _, (Below.refl _ _).alloc (Nat.le_refl _) _⟩
  case round =>
    obtain ⟨k, hk, rfl, hB, hW⟩ := hrel
    by_cases hlt : k < n
    · have hkl : k < l.length := by have := HL.out; omega
      have hc1 : wr.cell? ⟨g, k, none⟩ = some (.int .i64 ((l[k]'hkl : Nat) : Int)) := (hW.cell (p := ⟨g, _, none⟩) hg).trans (HC.out k hkl)
      have hxb := HX.out _ (List.getElem_mem hkl)
      have hD := Lib.hid (Nt.lb_dig l HX.out k hkl)
      generalize l[k]'hkl = x at hc1 hxb hD
      have hlen : n - 1 - k < (List.replicate (n - k) 0 ++ Nt.digs N k).length := by simp [Nt.digs_length]; omega
      have hc2 : wr.cell? ⟨w.heap.size, n - 1 - k, none⟩ = some (.int .u8 (((List.replicate (n - k) 0 ++ Nt.digs N k)[n - 1 - k]'hlen : Nat) : Int)) := (hB.cell _).trans (kV_get_lt _ _ _ hlen)
      have hf2 : wr.frozen? ⟨w.heap.size, n - 1 - k, none⟩ = false := hB.frozen _
      go_wp2
      refine ⟨⟨k + 1, by omega, by go_num, ?_, hW.setCell (p := ⟨w.heap.size, n - 1 - k, none⟩) (Nat.le_refl _) _⟩, by simp [intOf]; omega⟩
      rw [← Nt.zeros_set N k n x hlt (by rw [← hD.out, HN.out]), ← kV_set]
      exact hB.put _ _
    · obtain rfl : k = n := by omega
      rw [Nat.sub_self, List.replicate_zero, List.nil_append] at hB
      have hT := run_text (P := Tryd.prog) 53 9 5 Tryd.underlying53 Tryd.underlying5 Tryd.underlying9 w.heap.size k k _ (Nt.digs_length N k) wr hB
      go_wp2_with (go_at_call 15; refine (refTrim_any _ _).mono ?_; rintro e w' ⟨rfl, rfl⟩)
      go_ret
      exact ⟨ret_str (by rw [hV.out]), hW⟩
set_option maxRecDepth 100000 in
set_option maxHeartbeats 1000000 in
theorem refTurned_nil (w : World) :
    Calls Tryd.prog 50 #[.slice none 0 0] w fun e w' => e = .returned (.string (Nt.E 0)) ∧ Below w.heap.size w w' := by
  have hmk : ∀ W : World, (Instr.makeSlice 53 (.int .i64 0) (.int .i64 0)).run Tryd.prog W = .ok (.slice (some ⟨W.heap.size, 0, none⟩) 0 0) (W.alloc (.cells (kV .u8 []) 5)) :=
    fun W => run_zeros (P := Tryd.prog) 53 5 .u8 1 Tryd.underlying53 Tryd.infoU8 0 (by omega) (by omega) W
  have hT := run_text (P := Tryd.prog) 53 9 5 Tryd.underlying53 Tryd.underlying5 Tryd.underlying9 w.heap.size 0 0 [] rfl (w.alloc (.cells (kV .u8 []) 5)) (Blk.new _ _ _)
  go_enter Tryd.func50, Tryd.ntmps50
  go_wp2
  go_loop [4] (fun i => i = .int .i64 0) (fun _ => 0)
  case atStart => rfl
  case round =>
    subst hrel
    go_wp2_with (go_at_call 15; refine (refTrim_any _ _).mono ?_; rintro e w' ⟨rfl, rfl⟩)
    go_ret
    exact ⟨rfl, (Below.refl _ _).alloc (Nat.le_refl _) _⟩
theorem one_cells (z : Nat) : ∀ u ∈ [Value.int .i64 (z : Int)], u.oneCell' = true := by simp [Value.oneCell']
/-- numbers, as ints in memory. -/
def ints (l : List Nat) : List Value := l.map fun n : Nat => Value.int .i64 (n : Int)
theorem ints_length (l : List Nat) : (ints l).length = l.length := by simp [ints]
theorem ints_snoc (l : List Nat) (n : Nat) : ints l ++ [.int .i64 (n : Int)] = ints (l ++ [n]) := by simp [ints]
theorem refTurned_own (l : List Nat) (base n : Nat) (v : Value) (w : World) (hl : l.length = n) (hn : n ≤ 1000000) (hx : ∀ x ∈ l, x < 256) (ho : w.ownsRow base 3 1 v n (ints l)) :
    Calls Tryd.prog 50 #[v] w fun e w' => e = .returned (.string (Nt.E (Nt.lb l))) ∧ Below w.heap.size w w' := by
  rcases ho.2 with ⟨rfl, rfl⟩ | ⟨g, cap, cur, rfl, _, hg, _⟩
  · obtain rfl : l = [] := List.eq_nil_of_length_eq_zero hl
    exact refTurned_nil w
  · refine refTurned_some g n cap l w hl hn hx (Array.getElem?_eq_some_iff.1 hg).1 (fun k h => ?_)
    have hcell := ho.cells (g := g) rfl k (.int .i64 ((l[k]'h : Nat) : Int)) (by unfold ints; rw [List.getElem?_map, List.getElem?_eq_getElem h]; rfl)
    have hadd : (⟨g, 0, none⟩ : Addr).add k = ⟨g, k, none⟩ := by unfold Addr.add; split <;> simp_all
    rwa [hadd] at hcell

set_option maxRecDepth 100000 in
set_option maxHeartbeats 2000000 in
theorem refAdd_any (a b : ByteArray) (w : World) (ha : a.size ≤ 100000) (hb : b.size ≤ 100000) :
    Calls Tryd.prog 22 #[.string a, .string b] w fun e w' => e = .returned (.string (Nt.E (Nt.V a + Nt.V b))) ∧ Below w.heap.size w w' := by
  obtain ⟨i0, hi, hz0, hz1, hz2⟩ := info_parts Tryd.infoInt
  have ha' : a.size ≤ maxLen := by unfold maxLen; omega
  have hb' : b.size ≤ maxLen := by unfold maxLen; omega
  have hVa := Nt.V_lt a
  have hVb := Nt.V_lt b
  have HA := Lib.hid hVa
  have HBb := Lib.hid hVb
  clear hVa hVb
  go_enter Tryd.func22, Tryd.ntmps22
  go_wp2
  go_loopw [5, 6, 7] (fun v c i wr => ∃ k : Nat, k ≤ max a.size b.size + 1 ∧ i = .int .i64 k ∧ c = .int .i64 (Nt.cy (Nt.V a) (Nt.V b) k : Int) ∧ wr.ownsRow w.heap.size 3 1 v k (ints (Nt.low (Nt.V a + Nt.V b) k)) ∧ Below w.heap.size w wr) (fun _ _ i _ => max a.size b.size + 1 - (intOf i).toNat)
  case atStart => exact ⟨0, by omega, rfl, by rw [Nt.cy_zero]; rfl, World.ownsRow_nil _ _ _ _, Below.refl _ _⟩
  case round =>
    obtain ⟨k, hk, rfl, rfl, hO, hW⟩ := hrel
    have hcy := Nt.cy_le (Nt.V a) (Nt.V b) k
    by_cases hgo : k < a.size ∨ k < b.size ∨ 0 < Nt.cy (Nt.V a) (Nt.V b) k
    · have hkM : k ≤ max a.size b.size := by
        rcases Nat.lt_or_ge (max a.size b.size) k with hlt | hge
        · exfalso
          obtain rfl : k = max a.size b.size + 1 := by omega
          have h1 : Nt.V a < 256 ^ max a.size b.size := Nat.lt_of_lt_of_le HA.out (Nat.pow_le_pow_right (by omega) (by omega))
          have h2 : Nt.V b < 256 ^ max a.size b.size := Nat.lt_of_lt_of_le HBb.out (Nat.pow_le_pow_right (by omega) (by omega))
          have := Nt.cy_beyond h1 h2
          omega
        · exact hge
      have hst := Nt.cy_step (Nt.V a) (Nt.V b) k
      have hda := Nt.dig_lt (Nt.V a) k
      have hdb := Nt.dig_lt (Nt.V b) k
      have hds := Nt.dig_lt (Nt.V a + Nt.V b) k
      have hRA := Lib.hid (fun W => refAt_any a k W ha')
      have hRB := Lib.hid (fun W => refAt_any b k W hb')
      have HL := Lib.hid (Nt.low_succ (Nt.V a + Nt.V b) k)
      have hc1 := Nt.cy_le (Nt.V a) (Nt.V b) (k + 1)
      generalize Nt.cy (Nt.V a) (Nt.V b) k = c at hcy hgo hst
      obtain ⟨c', hc'⟩ : ∃ c', c' = Nt.cy (Nt.V a) (Nt.V b) (k + 1) := ⟨_, rfl⟩
      rw [← hc'] at hst hc1
      have HC' := Lib.hid hc'
      clear hc'
      generalize Nt.dig (Nt.V a) k = x at hst hda hRA
      generalize Nt.dig (Nt.V b) k = y at hst hdb hRB
      generalize Nt.dig (Nt.V a + Nt.V b) k = z at hst hds HL
      have hand := and_255i (x + y + c) (by omega)
      rw [show (x + y + c) % 256 = z from by omega] at hand
      rw [show ((x + y + c : Nat) : Int) = (x : Int) + (y : Int) + (c : Int) from by omega] at hand
      have Hst := Lib.hid hst
      clear hst
      have hk1 : k + 1 ≤ maxLen := by unfold maxLen; omega
      have hk2 : (k + 1) * 8 ≤ 140737488355328 := by omega
      have HWS := Lib.hid (fun o : Obj => show w.heap.size ≤ (wr.alloc o).heap.size by simp; have := hW.size; omega)
      go_wp2_with (first
        | (go_at_call_of 49 a; refine (hRA.out _).mono ?_; rintro e w1 ⟨rfl, rfl⟩)
        | (go_at_call_of 49 b; refine (hRB.out _).mono ?_; rintro e w1 ⟨rfl, rfl⟩)
        | (at_builtin; refine wpList_append_own _ rfl _ _ 55 rfl w.heap.size 3 i0 (.int .i64 0) 1 8 Tryd.underlying55 hi hz0 hz1 hz2 rfl (by decide) _ _ _ rfl (hO.alloc _) ⟨wr.heap.size, 0, none⟩ 1 1 [.int .i64 (z : Int)] rfl rfl (cell_one_new _ _ _) (one_cells z) hk1 hk2 (HWS.out _) ?_; intro v1 w2 hown1 hgrow1 _))
      all_goals first
        | (exfalso; omega)
        | (refine ⟨⟨k + 1, by omega, by go_num, ?_, ?_, ?_⟩, by simp [intOf]; omega⟩
           · have := Hst.out
             rw [← HC'.out]
             exact congrArg (Value.int .i64) (by omega)
           · rw [HL.out, ← ints_snoc]; exact hown1
           · exact (hW.alloc hW.size _).grown hgrow1 (HWS.out _) (fun j hj => (hO.lt j hj).1))
    · have hend : Hid (Nt.lb (Nt.low (Nt.V a + Nt.V b) k) = Nt.V a + Nt.V b) := by
        rw [Hid, Nt.lb_low]
        have h1 : Nt.V a < 256 ^ k := Nat.lt_of_lt_of_le HA.out (Nat.pow_le_pow_right (by omega) (by omega))
        have h2 : Nt.V b < 256 ^ k := Nat.lt_of_lt_of_le HBb.out (Nat.pow_le_pow_right (by omega) (by omega))
        exact Nat.mod_eq_of_lt (Nt.cy_end h1 h2 (by omega))
      have hT := Lib.hid (refTurned_own (Nt.low (Nt.V a + Nt.V b) k) _ k _ wr (Nt.low_length _ _) (by omega) (Nt.low_lt _ _) hO)
      have hc0 : Nt.cy (Nt.V a) (Nt.V b) k ≤ 0 := by omega
      generalize Nt.cy (Nt.V a) (Nt.V b) k = c at hcy hgo hc0
      go_wp2_with (go_at_call 50; refine hT.out.mono ?_; rintro e w1 ⟨rfl, hb1⟩)
      go_ret
      exact ⟨ret_str (by rw [hend.out]), hW.trans (hb1.mono hW.size)⟩
end Go.Proofs.YtolbbmnhcgoooaaDoor
