/-
  WORDS OF 32 BITS AS A TEXT; a small number as a text.
-/
import Derived.Test.YtolbbmnhcgoooaaDoorRef1
import Derived.Test.YtolbbmnhcgoooaaDoorMath2
namespace Go.Proofs.YtolbbmnhcgoooaaDoor
open Go.RowKit Go.Shelf

set_option maxRecDepth 100000 in
set_option maxHeartbeats 1000000 in
theorem natText_any (g n cap : Nat) (l : List Nat) (w : World) (hl : l.length = n) (hn : n ≤ 1000000) (hx : ∀ x ∈ l, x < 4294967296) (hb : Blk w g 47 (kV .u32 l)) :
    Calls Tryd.prog 41 #[.slice (some ⟨g, 0, none⟩) n cap] w fun e w' => e = .returned (.string ⟨((Nt.digs (Nt.lw l) (4 * n)).map UInt8.ofNat).toArray⟩) ∧ Below w.heap.size w w' := by
  obtain ⟨m, hm⟩ : ∃ m, m = 4 * n := ⟨_, rfl⟩
  have hmk := fun W => run_zeros (P := Tryd.prog) 53 5 .u8 1 Tryd.underlying53 Tryd.infoU8 m (by omega) (by omega) W
  have hm' : (4 * (n : Int)) = (m : Int) := by omega
  rw [← hm]
  have hM := Lib.hid hm
  have hmn : m ≤ 4 * n := by omega
  have hnm : 4 * n ≤ m := by omega
  have HL := Lib.hid hl
  clear hm hl
  have hw0 := hb.lt
  obtain ⟨N, hN⟩ : ∃ N, N = Nt.lw l := ⟨_, rfl⟩
  rw [← hN]
  have HN := Lib.hid hN
  clear hN
  go_enter Tryd.func41, Tryd.ntmps41
  go_wp2
  go_loopw [12] (fun i wr => ∃ k : Nat, k ≤ m ∧ i = .int .i64 k ∧ Blk wr w.heap.size 5 (kV .u8 (Nt.upTo N m k)) ∧ Below w.heap.size w wr) (fun i _ => m - (intOf i).toNat)
  case atStart => exact ⟨0, by omega, rfl, by rw [Nt.upTo_zero]; exact Blk.new _ _ _, (Below.refl _ _).alloc (Nat.le_refl _) _⟩
  case round =>
    obtain ⟨k, hk, rfl, hB, hW⟩ := hrel
    by_cases hlt : k < m
    · have hp4 : (m - 1 - k) / 4 < l.length := by have := HL.out; omega
      have hc1 : wr.cell? ⟨g, (m - 1 - k) / 4, none⟩ = some (.int .u32 ((l[(m - 1 - k) / 4]'hp4 : Nat) : Int)) := (hW.cell (p := ⟨g, _, none⟩) hw0).trans ((hb.cell _).trans (kV_get_lt _ _ _ hp4))
      have hxb := hx _ (List.getElem_mem hp4)
      have hD := Lib.hid (Nt.lw_dig l hx (m - 1 - k) hp4)
      generalize l[(m - 1 - k) / 4]'hp4 = x at hc1 hxb hD
      have hlen : k < (Nt.upTo N m k).length := by rw [Nt.upTo_length _ _ _ hk]; exact hlt
      have hc2 : wr.cell? ⟨w.heap.size, k, none⟩ = some (.int .u8 (((Nt.upTo N m k)[k]'hlen : Nat) : Int)) := (hB.cell _).trans (kV_get_lt _ _ _ hlen)
      have hf2 : wr.frozen? ⟨w.heap.size, k, none⟩ = false := hB.frozen _
      have hE : ((x : Int) / 2 ^ ((m - 1 - k) % 4 * 8) % 256) = ((Nt.dig N (m - 1 - k) : Nat) : Int) := by
        rw [HN.out, hD.out, show (256 : Nat) ^ ((m - 1 - k) % 4) = 2 ^ ((m - 1 - k) % 4 * 8) from by rw [Nat.mul_comm, Nat.pow_mul]]
        simp
      have HE := Lib.hid hE
      clear hE
      go_wp2
      refine ⟨⟨k + 1, by omega, by go_num, ?_, hW.setCell (p := ⟨w.heap.size, k, none⟩) (Nat.le_refl _) _⟩, by simp [intOf]; omega⟩
      rw [HE.out, ← Nt.upTo_set N m k _ hlt rfl, ← kV_set]
      exact hB.put _ _
    · obtain rfl : k = m := by omega
      have hT := run_text (P := Tryd.prog) 53 9 5 Tryd.underlying53 Tryd.underlying5 Tryd.underlying9 w.heap.size k k _ (Nt.upTo_length N k k hk) wr hB
      rw [Nt.upTo_all] at hT
      go_wp2
      go_ret
      exact ⟨rfl, hW⟩

theorem lw_two (n : Nat) : Nt.lw [n % 4294967296, n / 4294967296] = n := by
  simp [Nt.lw]; omega
set_option maxRecDepth 100000 in
set_option maxHeartbeats 1000000 in
theorem natOf_any (n : Nat) (w : World) (hn : n < 18446744073709551616) :
    Calls Tryd.prog 12 #[.int .u64 (n : Int)] w fun e w' => e = .returned (.string (Nt.E n)) ∧ Below w.heap.size w w' := by
  have hlw := lw_two n
  have hV : Hid (Nt.V ⟨((Nt.digs n 8).map UInt8.ofNat).toArray⟩ = n) := Nt.V_digs_lt (by rw [Nt.pow8]; exact hn)
  have hbk : Blk (w.alloc (.cells #[.int .u32 ((n : Int) % 4294967296), .int .u32 ((n : Int) / 4294967296)] 47)) w.heap.size 47 (kV .u32 [n % 4294967296, n / 4294967296]) := Blk.new _ _ _
  have hT := natText_any w.heap.size 2 2 _ _ rfl (by omega) (by simp; omega) hbk
  rw [hlw] at hT
  have HT := Lib.hid hT
  clear hT hlw hbk
  go_enter Tryd.func12, Tryd.ntmps12
  go_wp2_with (first
    | (go_at_call 41; refine HT.out.mono ?_; rintro e w1 ⟨rfl, hb1⟩)
    | (go_at_call 14; refine (natTrim_any _ _).mono ?_; rintro e w' ⟨rfl, rfl⟩))
  go_ret
  exact ⟨ret_str (by rw [hV.out]), ((Below.refl _ _).alloc (Nat.le_refl _) _).trans (hb1.mono (by simp))⟩
end Go.Proofs.YtolbbmnhcgoooaaDoor
