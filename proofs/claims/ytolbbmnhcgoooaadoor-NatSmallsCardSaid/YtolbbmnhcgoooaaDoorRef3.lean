/-
  THE DOCUMENT'S ANSWER FOR DIFFERENCES.
-/
import Derived.Test.YtolbbmnhcgoooaaDoorRef2
import Derived.Test.YtolbbmnhcgoooaaDoorCmp
namespace Go.Proofs.YtolbbmnhcgoooaaDoor
open Go.RowKit Go.Shelf

set_option maxRecDepth 100000 in
set_option maxHeartbeats 2000000 in
theorem refSub_pos (a b : ByteArray) (w : World) (ha : a.size ≤ 100000) (hb : b.size ≤ 100000) (hle : Nt.V b ≤ Nt.V a) :
    Calls Tryd.prog 24 #[.string a, .string b] w fun e w' => e = .returned (.string (Nt.E (Nt.V a - Nt.V b))) ∧ Below w.heap.size w w' := by
  obtain ⟨i0, hi, hz0, hz1, hz2⟩ := info_parts Tryd.infoInt
  have ha' : a.size ≤ maxLen := by unfold maxLen; omega
  have hb' : b.size ≤ maxLen := by unfold maxLen; omega
  have HA := Lib.hid (Nt.V_lt a)
  have HBb := Lib.hid (Nt.V_lt b)
  have HLE := Lib.hid hle
  have HC := Lib.hid (fun w => refCmp_any a b w (by omega) (by omega))
  have hz : 0 ≤ Nt.cmpZ (Nt.V a) (Nt.V b) := by unfold Nt.cmpZ; rw [if_neg (by omega)]; split <;> omega
  generalize Nt.cmpZ (Nt.V a) (Nt.V b) = z at *
  clear hle
  go_enter Tryd.func24, Tryd.ntmps24
  go_wp2_with (go_at_call 20; refine (HC.out _).mono ?_; rintro e w1 ⟨rfl, rfl⟩)
  go_loopw [5, 6, 7] (fun v c i wr => ∃ k : Nat, k ≤ max a.size b.size ∧ i = .int .i64 k ∧ c = .int .i64 (Nt.bw (Nt.V a) (Nt.V b) k : Int) ∧ wr.ownsRow w.heap.size 3 1 v k (ints (Nt.low (Nt.V a - Nt.V b) k)) ∧ Below w.heap.size w wr) (fun _ _ i _ => max a.size b.size - (intOf i).toNat)
  case atStart => exact ⟨0, by omega, rfl, by rw [Nt.bw_zero]; rfl, World.ownsRow_nil _ _ _ _, Below.refl _ _⟩
  case round =>
    obtain ⟨k, hk, rfl, rfl, hO, hW⟩ := hrel
    have hbw := Nt.bw_le (Nt.V a) (Nt.V b) k
    by_cases hgo : k < a.size ∨ k < b.size
    · have hkM : k < max a.size b.size := by omega
      have hst := Nt.bw_step HLE.out k
      have hda := Nt.dig_lt (Nt.V a) k
      have hdb := Nt.dig_lt (Nt.V b) k
      have hds := Nt.dig_lt (Nt.V a - Nt.V b) k
      have hRA := Lib.hid (fun W => refAt_any a k W ha')
      have hRB := Lib.hid (fun W => refAt_any b k W hb')
      have HL := Lib.hid (Nt.low_succ (Nt.V a - Nt.V b) k)
      have hc1 := Nt.bw_le (Nt.V a) (Nt.V b) (k + 1)
      generalize Nt.bw (Nt.V a) (Nt.V b) k = c at hbw hst
      obtain ⟨c', hc'⟩ : ∃ c', c' = Nt.bw (Nt.V a) (Nt.V b) (k + 1) := ⟨_, rfl⟩
      rw [← hc'] at hst hc1
      have HC' := Lib.hid hc'
      clear hc'
      generalize Nt.dig (Nt.V a) k = x at hst hda hRA
      generalize Nt.dig (Nt.V b) k = y at hst hdb hRB
      generalize Nt.dig (Nt.V a - Nt.V b) k = d at hst hds HL
      have Hst := Lib.hid hst
      have hk1 : k + 1 ≤ maxLen := by unfold maxLen; omega
      have hk2 : (k + 1) * 8 ≤ 140737488355328 := by omega
      have HWS := Lib.hid (fun o : Obj => show w.heap.size ≤ (wr.alloc o).heap.size by simp; have := hW.size; omega)
      by_cases hneg : (x : Int) - y - c < 0
      · have e1 : c' = 1 := by omega
        have hd : Hid ((x : Int) - y - c + 256 = (d : Int)) := by show _ = _; omega
        subst e1
        clear hst
        go_wp2_with (first
          | (go_at_call_of 49 a; refine (hRA.out _).mono ?_; rintro e w1 ⟨rfl, rfl⟩)
          | (go_at_call_of 49 b; refine (hRB.out _).mono ?_; rintro e w1 ⟨rfl, rfl⟩)
          | (at_builtin; refine wpList_append_own _ rfl _ _ 55 rfl w.heap.size 3 i0 (.int .i64 0) 1 8 Tryd.underlying55 hi hz0 hz1 hz2 rfl (by decide) _ _ _ rfl (hO.alloc _) ⟨wr.heap.size, 0, none⟩ 1 1 [.int .i64 ((x : Int) - y - c + 256)] rfl rfl (cell_one_new _ _ _) (by simp [Value.oneCell']) hk1 hk2 (HWS.out _) ?_; intro v1 w2 hown1 hgrow1 _))
        all_goals first
          | (exfalso; omega)
          | (refine ⟨⟨k + 1, by omega, by go_num, ?_, ?_, ?_⟩, by simp [intOf]; omega⟩
             · rw [← HC'.out]; rfl
             · rw [hd.out] at hown1; rw [HL.out, ← ints_snoc]; exact hown1
             · exact (hW.alloc hW.size _).grown hgrow1 (HWS.out _) (fun j hj => (hO.lt j hj).1))
      · have e1 : c' = 0 := by omega
        have hd : Hid ((x : Int) - y - c = (d : Int)) := by show _ = _; omega
        subst e1
        clear hst
        go_wp2_with (first
          | (go_at_call_of 49 a; refine (hRA.out _).mono ?_; rintro e w1 ⟨rfl, rfl⟩)
          | (go_at_call_of 49 b; refine (hRB.out _).mono ?_; rintro e w1 ⟨rfl, rfl⟩)
          | (at_builtin; refine wpList_append_own _ rfl _ _ 55 rfl w.heap.size 3 i0 (.int .i64 0) 1 8 Tryd.underlying55 hi hz0 hz1 hz2 rfl (by decide) _ _ _ rfl (hO.alloc _) ⟨wr.heap.size, 0, none⟩ 1 1 [.int .i64 ((x : Int) - y - c)] rfl rfl (cell_one_new _ _ _) (by simp [Value.oneCell']) hk1 hk2 (HWS.out _) ?_; intro v1 w2 hown1 hgrow1 _))
        all_goals first
          | (exfalso; omega)
          | (refine ⟨⟨k + 1, by omega, by go_num, ?_, ?_, ?_⟩, by simp [intOf]; omega⟩
             · rw [← HC'.out]; rfl
             · rw [hd.out] at hown1; rw [HL.out, ← ints_snoc]; exact hown1
             · exact (hW.alloc hW.size _).grown hgrow1 (HWS.out _) (fun j hj => (hO.lt j hj).1))
    · have hend : Hid (Nt.lb (Nt.low (Nt.V a - Nt.V b) k) = Nt.V a - Nt.V b) := by
        rw [Hid, Nt.lb_low]
        have h1 : Nt.V a < 256 ^ k := Nat.lt_of_lt_of_le HA.out (Nat.pow_le_pow_right (by omega) (by omega))
        exact Nat.mod_eq_of_lt (by omega)
      have hT := Lib.hid (refTurned_own (Nt.low (Nt.V a - Nt.V b) k) _ k _ wr (Nt.low_length _ _) (by omega) (Nt.low_lt _ _) hO)
      generalize Nt.bw (Nt.V a) (Nt.V b) k = c at hbw
      go_wp2_with (go_at_call 50; refine hT.out.mono ?_; rintro e w1 ⟨rfl, hb1⟩)
      go_ret
      exact ⟨ret_str (by rw [hend.out]), hW.trans (hb1.mono hW.size)⟩
set_option maxRecDepth 100000 in
set_option maxHeartbeats 2000000 in
theorem refSub_any (a b : ByteArray) (w : World) (ha : a.size ≤ 100000) (hb : b.size ≤ 100000) :
    Calls Tryd.prog 24 #[.string a, .string b] w fun e w' => e = .returned (.string (Nt.E (Nt.V a - Nt.V b))) ∧ Below w.heap.size w w' := by
  by_cases hle : Nt.V b ≤ Nt.V a
  · exact refSub_pos a b w ha hb hle
  · have hr : Hid (Nt.E (Nt.V a - Nt.V b) = ⟨#[]⟩) := by rw [Hid, show Nt.V a - Nt.V b = 0 from by omega]; rfl
    have HC := Lib.hid (fun w => refCmp_any a b w (by omega) (by omega))
    have hz : Nt.cmpZ (Nt.V a) (Nt.V b) < 0 := by unfold Nt.cmpZ; rw [if_pos (by omega)]; omega
    generalize Nt.cmpZ (Nt.V a) (Nt.V b) = z at *
    clear hle
    go_enter Tryd.func24, Tryd.ntmps24
    go_wp2_with (go_at_call 20; refine (HC.out _).mono ?_; rintro e w1 ⟨rfl, rfl⟩)
    go_ret
    exact ⟨ret_str hr.out.symm, Below.refl _ _⟩
end Go.Proofs.YtolbbmnhcgoooaaDoor
