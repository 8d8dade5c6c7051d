/-
  THE DOCUMENT'S ANSWERS FOR SMALL NUMBERS: Small, Byte, Of, Bits; the program's Of and Bits.
  WORDS OF 32 BITS AS A TEXT; a small number as a text.
  THE DOCUMENT'S ANSWERS FOR SUMS AND DIFFERENCES: at, turned, Add, Cmp, Sub.
-/
import Derived.Test.YtkdipgcefcakaaaGreatDoorTrim
import Derived.Deep.RegionWith
import Derived.Lib.Small
import Derived.Lib.BitFns
import Derived.Test.YtkdipgcefcakaaaGreatDoorMath
namespace Go.Proofs.YtkdipgcefcakaaaGreatDoor
open Go.RowKit Go.Shelf

set_option maxRecDepth 100000 in
set_option maxHeartbeats 1000000 in
theorem refSmall_any (s : ByteArray) (w : World) :
    Calls Tryz.prog 27 #[.string s] w fun e w' => e = .returned (.tuple #[.int .u64 (Nt.sm (Nt.V s) : Int), .bool (Nt.smB (Nt.V s))]) ∧ w = w' := by
  obtain ⟨t, ht⟩ : ∃ t, t = Nt.E (Nt.V s) := ⟨_, rfl⟩
  have hV : Nt.V t = Nt.V s := by rw [ht, Nt.V_E]
  have HT := Lib.hid (fun w => (ht ▸ refTrim_any s w : Calls Tryz.prog 11 #[.string s] w fun e w' => e = .returned (.string t) ∧ w = w'))
  by_cases h8 : t.size ≤ 8
  · have h1 := Nt.E_small (ht ▸ h8)
    have hr : Hid (Ending.returned (.tuple #[.int .u64 ((Nt.top t t.size : Nat) : Int), .bool true]) = .returned (.tuple #[.int .u64 (Nt.sm (Nt.V s) : Int), .bool (Nt.smB (Nt.V s))])) :=
      ret_small2 (by rw [Nt.sm, if_pos h1, Nt.top_all, hV]) (by rw [Nt.smB]; simp [h1])
    clear ht hV
    go_enter Tryz.func27, Tryz.ntmps27
    go_wp2_with (go_at_call 11; refine (HT.out _).mono ?_; rintro e w' ⟨rfl, rfl⟩)
    go_loop [4, 5] (fun n i => ∃ k : Nat, k ≤ t.size ∧ i = .int .i64 k ∧ n = .int .u64 ((Nt.top t k : Nat) : Int)) (fun _ i => t.size - (intOf i).toNat)
    case atStart => exact ⟨0, Nat.zero_le _, rfl, by rw [Nt.top_zero]; rfl⟩
    case round =>
      obtain ⟨k, hk, rfl, rfl⟩ := hrel
      by_cases hlt : k < t.size
      · have hs1 := Lib.hid (Nt.top_step t k hlt)
        have hl1 := Nt.top_lt t k hk
        generalize Nt.top t k = n at hs1 hl1
        have hd := UInt8.toNat_lt (t[k]'hlt)
        have hn : n < 72057594037927936 := by
          have : 256 ^ k ≤ 256 ^ 7 := Nat.pow_le_pow_right (by omega) (by omega)
          have h7 : (256 : Nat) ^ 7 = 72057594037927936 := by decide
          omega
        have ho := Lib.hid (or_low n (t[k]'hlt).toNat hn hd)
        clear hn hl1
        go_wp2
        go_round
        case rel => exact ⟨k + 1, by omega, by go_num, by rw [ho.out, hs1.out]⟩
        case measure => simp [intOf]; omega
      · obtain rfl : k = t.size := by omega
        go_wp2
        go_ret2
        exact ⟨hr, rfl⟩
  · have h1 := Nt.E_big (ht ▸ h8)
    have hr := Lib.hid (show Ending.returned (.tuple #[.int .u64 0, .bool false]) = .returned (.tuple #[.int .u64 (Nt.sm (Nt.V s) : Int), .bool (Nt.smB (Nt.V s))]) from ret_small2 (by rw [Nt.sm, if_neg h1]; rfl) (by rw [Nt.smB]; simp [h1]))
    clear ht hV
    go_enter Tryz.func27, Tryz.ntmps27
    go_wp2_with (go_at_call 11; refine (HT.out _).mono ?_; rintro e w' ⟨rfl, rfl⟩)
    go_ret2
    exact ⟨hr.out, rfl⟩

set_option maxRecDepth 100000 in
set_option maxHeartbeats 400000 in
theorem refByte_any (c : Int) (w : World) (h0 : 0 ≤ c) (h1 : c < 256) :
    Calls Tryz.prog 48 #[.int .i64 c] w fun e w' => e = .returned (.string ⟨#[UInt8.ofNat c.toNat]⟩) ∧ Below w.heap.size w w' := by
  have hx := run_text (P := Tryz.prog) 31 9 5 Tryz.underlying31 Tryz.underlying5 Tryz.underlying9 w.heap.size 1 1 [c.toNat] rfl (w.alloc (.cells #[.int .u8 c] 5)) (by
    have e : kV .u8 [c.toNat] = #[.int .u8 c] := by simp [kV]; omega
    rw [e]; exact Blk.new _ _ _)
  simp only [List.map_cons, List.map_nil] at hx
  go_enter Tryz.func48, Tryz.ntmps48
  go_wp2
  go_ret
  exact ⟨rfl, (Below.refl _ _).alloc (Nat.le_refl _) _⟩

set_option maxHeartbeats 4000000 in
set_option maxRecDepth 100000 in
theorem len8_any (x : Int) (w : World) (h0 : 0 ≤ x) (h1 : x ≤ 255) :
    Calls Tryz.prog 29 #[.int .u8 x] w fun e w' => e = .returned (.int .i64 (Lib.bitLen x.toNat)) ∧ w = w' := by
  go_enter Tryz.func29, Tryz.ntmps29
  go_wp2
  go_ret
  exact ⟨ret_int (a := wrap64 (Lib.len8 x)) (by unfold wrap64; exact Lib.len8_int x h0 h1), rfl⟩

theorem and_255 (n : Nat) (hn : n < 18446744073709551616) : bits .and .u64 (n : Int) 255 = ((n % 256 : Nat) : Int) := by
  rw [show (255 : Int) = ((255 : Nat) : Int) from rfl, u64_and_nat _ _ (by omega) (by omega)]
  rw [show 255 = 2 ^ 8 - 1 from rfl, Nat.and_two_pow_sub_one_eq_mod]
theorem str_append (a b : List UInt8) : (⟨a.toArray⟩ : ByteArray) ++ ⟨b.toArray⟩ = ⟨(a ++ b).toArray⟩ := by
  apply ByteArray.ext
  simp
theorem bitLen_blen : ∀ n : Fin 256, Lib.bitLen n.1 = Nt.blen n.1 := by decide +kernel
theorem isEmpty_false {t : ByteArray} (h : 0 < t.size) : t.toList.isEmpty = false := by
  rw [ByteArray.toList_eq]
  obtain ⟨⟨l⟩⟩ := t
  cases l with
  | nil => exact absurd h (by decide)
  | cons b l => rfl
theorem isEmpty_true {t : ByteArray} (h : ¬ 0 < t.size) : t.toList.isEmpty = true := by
  rw [ByteArray.toList_eq]
  obtain ⟨⟨l⟩⟩ := t
  cases l with
  | nil => rfl
  | cons b l => exact absurd (show 0 < l.length + 1 by omega) h
set_option maxRecDepth 100000 in
set_option maxHeartbeats 1000000 in
theorem natBits_any (s : ByteArray) (w : World) (hs : s.size ≤ 140737488351232) :
    Calls Tryz.prog 12 #[.string s] w fun e w' => e = .returned (.int .i64 (Nt.blen (Nt.V s) : Int)) ∧ w = w' := by
  obtain ⟨t, ht⟩ : ∃ t, t = Nt.E (Nt.V s) := ⟨_, rfl⟩
  have HT := Lib.hid (fun w => (ht ▸ natTrim_any s w : Calls Tryz.prog 28 #[.string s] w fun e w' => e = .returned (.string t) ∧ w = w'))
  have hts : t.size ≤ 140737488351232 := by rw [ht]; exact Nat.le_trans (Nt.E_size_V s) hs
  by_cases h0 : 0 < t.size
  · have hd := UInt8.toNat_lt (t[0]'h0)
    have hr : Hid ((wrap64 (8 * ((t.size : Int) - 1) + (Lib.bitLen (t[0]'h0).toNat : Int))) = (Nt.blen (Nt.V s) : Int)) := by
      subst ht
      have hb := Lib.bitLen_le8 ⟨_, hd⟩
      have he := bitLen_blen ⟨_, hd⟩
      have ht := Nt.blen_top _ h0
      dsimp only at hb he
      show wrap64 _ = _
      unfold wrap64
      omega
    have hE := isEmpty_false h0
    clear ht
    go_enter Tryz.func12, Tryz.ntmps12
    go_wp2_with (first
      | (go_at_call 28; refine (HT.out _).mono ?_; rintro e w' ⟨rfl, rfl⟩)
      | (go_at_call 29; refine (len8_any _ _ (by omega) (by omega)).mono ?_; rintro e w' ⟨rfl, rfl⟩))
    go_ret
    exact ⟨ret_int hr.out, rfl⟩
  · have hr : Hid (Nt.V s = 0) := Nt.E_nil _ (ht ▸ h0)
    have hE := isEmpty_true h0
    clear ht
    go_enter Tryz.func12, Tryz.ntmps12
    go_wp2_with (go_at_call 28; refine (HT.out _).mono ?_; rintro e w' ⟨rfl, rfl⟩)
    go_ret
    exact ⟨ret_int (a := 0) (by rw [hr.out]; rfl), rfl⟩

end Go.Proofs.YtkdipgcefcakaaaGreatDoor
namespace Go.Proofs.YtkdipgcefcakaaaGreatDoor
open Go.RowKit Go.Shelf

set_option maxRecDepth 100000 in
set_option maxHeartbeats 1000000 in
theorem natText_any (g n cap : Nat) (l : List Nat) (w : World) (hl : l.length = n) (hn : n ≤ 1000000) (hx : ∀ x ∈ l, x < 4294967296) (hb : Blk w g 64 (kV .u32 l)) :
    Calls Tryz.prog 41 #[.slice (some ⟨g, 0, none⟩) n cap] w fun e w' => e = .returned (.string ⟨((Nt.digs (Nt.lw l) (4 * n)).map UInt8.ofNat).toArray⟩) ∧ Below w.heap.size w w' := by
  obtain ⟨m, hm⟩ : ∃ m, m = 4 * n := ⟨_, rfl⟩
  have hmk := fun W => run_zeros (P := Tryz.prog) 31 5 .u8 1 Tryz.underlying31 Tryz.infoU8 m (by omega) (by omega) W
  have hm' : (4 * (n : Int)) = (m : Int) := by omega
  rw [← hm]
  have hM := Lib.hid hm
  have hmn : m ≤ 4 * n := by omega
  have hnm : 4 * n ≤ m := by omega
  have HL := Lib.hid hl
  clear hm hl
  have hw0 := hb.lt
  obtain ⟨N, hN⟩ : ∃ N, N = Nt.lw l := ⟨_, rfl⟩
  rw [← hN]
  have HN := Lib.hid hN
  clear hN
  go_enter Tryz.func41, Tryz.ntmps41
  go_wp2
  go_loopw [12] (fun i wr => ∃ k : Nat, k ≤ m ∧ i = .int .i64 k ∧ Blk wr w.heap.size 5 (kV .u8 (Nt.upTo N m k)) ∧ Below w.heap.size w wr) (fun i _ => m - (intOf i).toNat)
  case atStart => exact ⟨0, by omega, rfl, by rw [Nt.upTo_zero]; exact Blk.new _ _ _, (Below.refl _ _).alloc (Nat.le_refl _) _⟩
  case round =>
    obtain ⟨k, hk, rfl, hB, hW⟩ := hrel
    by_cases hlt : k < m
    · have hp4 : (m - 1 - k) / 4 < l.length := by have := HL.out; omega
      have hc1 : wr.cell? ⟨g, (m - 1 - k) / 4, none⟩ = some (.int .u32 ((l[(m - 1 - k) / 4]'hp4 : Nat) : Int)) := (hW.cell (p := ⟨g, _, none⟩) hw0).trans ((hb.cell _).trans (kV_get_lt _ _ _ hp4))
      have hxb := hx _ (List.getElem_mem hp4)
      have hD := Lib.hid (Nt.lw_dig l hx (m - 1 - k) hp4)
      generalize l[(m - 1 - k) / 4]'hp4 = x at hc1 hxb hD
      have hlen : k < (Nt.upTo N m k).length := by rw [Nt.upTo_length _ _ _ hk]; exact hlt
      have hc2 : wr.cell? ⟨w.heap.size, k, none⟩ = some (.int .u8 (((Nt.upTo N m k)[k]'hlen : Nat) : Int)) := (hB.cell _).trans (kV_get_lt _ _ _ hlen)
      have hf2 : wr.frozen? ⟨w.heap.size, k, none⟩ = false := hB.frozen _
      have hE : ((x : Int) / 2 ^ ((m - 1 - k) % 4 * 8) % 256) = ((Nt.dig N (m - 1 - k) : Nat) : Int) := by
        rw [HN.out, hD.out, show (256 : Nat) ^ ((m - 1 - k) % 4) = 2 ^ ((m - 1 - k) % 4 * 8) from by rw [Nat.mul_comm, Nat.pow_mul]]
        simp
      have HE := Lib.hid hE
      clear hE
      go_wp2
      refine ⟨⟨k + 1, by omega, by go_num, ?_, hW.setCell (p := ⟨w.heap.size, k, none⟩) (Nat.le_refl _) _⟩, by simp [intOf]; omega⟩
      rw [HE.out, ← Nt.upTo_set N m k _ hlt rfl, ← kV_set]
      exact hB.put _ _
    · obtain rfl : k = m := by omega
      have hT := run_text (P := Tryz.prog) 31 9 5 Tryz.underlying31 Tryz.underlying5 Tryz.underlying9 w.heap.size k k _ (Nt.upTo_length N k k hk) wr hB
      rw [Nt.upTo_all] at hT
      go_wp2
      go_ret
      exact ⟨rfl, hW⟩

theorem lw_two (n : Nat) : Nt.lw [n % 4294967296, n / 4294967296] = n := by
  simp [Nt.lw]; omega
set_option maxRecDepth 100000 in
set_option maxHeartbeats 1000000 in
theorem natOf_any (n : Nat) (w : World) (hn : n < 18446744073709551616) :
    Calls Tryz.prog 20 #[.int .u64 (n : Int)] w fun e w' => e = .returned (.string (Nt.E n)) ∧ Below w.heap.size w w' := by
  have hlw := lw_two n
  have hV : Hid (Nt.V ⟨((Nt.digs n 8).map UInt8.ofNat).toArray⟩ = n) := Nt.V_digs_lt (by rw [Nt.pow8]; exact hn)
  have hbk : Blk (w.alloc (.cells #[.int .u32 ((n : Int) % 4294967296), .int .u32 ((n : Int) / 4294967296)] 64)) w.heap.size 64 (kV .u32 [n % 4294967296, n / 4294967296]) := Blk.new _ _ _
  have hT := natText_any w.heap.size 2 2 _ _ rfl (by omega) (by simp; omega) hbk
  rw [hlw] at hT
  have HT := Lib.hid hT
  clear hT hlw hbk
  go_enter Tryz.func20, Tryz.ntmps20
  go_wp2_with (first
    | (go_at_call 41; refine HT.out.mono ?_; rintro e w1 ⟨rfl, hb1⟩)
    | (go_at_call 28; refine (natTrim_any _ _).mono ?_; rintro e w' ⟨rfl, rfl⟩))
  go_ret
  exact ⟨ret_str (by rw [hV.out]), ((Below.refl _ _).alloc (Nat.le_refl _) _).trans (hb1.mono (by simp))⟩
end Go.Proofs.YtkdipgcefcakaaaGreatDoor
namespace Go.Proofs.YtkdipgcefcakaaaGreatDoor
open Go.RowKit Go.Shelf

set_option maxHeartbeats 400000 in
theorem refAt_any (s : ByteArray) (i : Nat) (w : World) (hs : s.size ≤ maxLen) :
    Calls Tryz.prog 80 #[.string s, .int .i64 (i : Int)] w fun e w' => e = .returned (.int .i64 (Nt.dig (Nt.V s) i : Int)) ∧ w = w' := by
  unfold maxLen at hs
  by_cases h : i < s.size
  · have hd := Lib.hid (Nt.V_dig s i h)
    go_enter Tryz.func80, Tryz.ntmps80
    go_wp2
    go_ret
    exact ⟨ret_int (a := wrap64 ((s[s.size - 1 - i]'(by omega)).toNat : Int)) (by
      rw [← hd.out]
      have := UInt8.toNat_lt (s[s.size - 1 - i]'(by omega))
      unfold wrap64; omega), rfl⟩
  · have hd := Lib.hid (Nt.dig_zero_le (Nt.V_lt s) (show s.size ≤ i by omega))
    go_enter Tryz.func80, Tryz.ntmps80
    go_wp2
    go_ret
    exact ⟨ret_int (a := 0) (by rw [hd.out]; rfl), rfl⟩
set_option maxHeartbeats 400000 in
theorem natDigitAt_any (s : ByteArray) (i : Nat) (w : World) (hs : s.size ≤ maxLen) :
    Calls Tryz.prog 45 #[.string s, .int .i64 (i : Int)] w fun e w' => e = .returned (.int .u8 (Nt.dig (Nt.V s) i : Int)) ∧ w = w' := by
  unfold maxLen at hs
  by_cases h : i < s.size
  · have hd := Lib.hid (Nt.V_dig s i h)
    go_enter Tryz.func45, Tryz.ntmps45
    go_wp2
    go_ret
    exact ⟨ret_int (by rw [← hd.out]), rfl⟩
  · have hd := Lib.hid (Nt.dig_zero_le (Nt.V_lt s) (show s.size ≤ i by omega))
    go_enter Tryz.func45, Tryz.ntmps45
    go_wp2
    go_ret
    exact ⟨ret_int (a := 0) (by rw [hd.out]; rfl), rfl⟩

/-- a slice of ints that reads as the numbers l: none, or a block's first cells. -/
def RdI (w : World) (A : Option Addr) (l : List Nat) : Prop :=
  l = [] ∨ ∃ g, A = some ⟨g, 0, none⟩ ∧ g < w.heap.size ∧ ∀ k (h : k < l.length), w.cell? ⟨g, k, none⟩ = some (.int .i64 ((l[k]'h : Nat) : Int))
theorem and_255i (n : Nat) (hn : n < 9223372036854775808) : bits .and .i64 (n : Int) 255 = ((n % 256 : Nat) : Int) := by
  have h := bits_mask .i64 63 (by decide) (fun m h0 h1 => by rw [IntKind.wrap_i64]; omega) 8 (by decide) (n : Int) (by omega) (by omega)
  have e : ((2 : Int) ^ 8 - 1) = 255 := by decide
  rw [e] at h
  rw [h]; omega

set_option maxRecDepth 100000 in
set_option maxHeartbeats 1000000 in
theorem refTurned_some (g n cap : Nat) (l : List Nat) (w : World) (hl : l.length = n) (hn : n ≤ 1000000) (hx : ∀ x ∈ l, x < 256) (hg : g < w.heap.size) (hc : ∀ k (h : k < l.length), w.cell? ⟨g, k, none⟩ = some (.int .i64 ((l[k]'h : Nat) : Int))) :
    Calls Tryz.prog 81 #[.slice (some ⟨g, 0, none⟩) n cap] w fun e w' => e = .returned (.string (Nt.E (Nt.lb l))) ∧ Below w.heap.size w w' := by
  have hmk := fun W => run_zeros (P := Tryz.prog) 31 5 .u8 1 Tryz.underlying31 Tryz.infoU8 n (by omega) (by omega) W
  have HL := Lib.hid hl
  obtain ⟨N, hN⟩ : ∃ N, N = Nt.lb l := ⟨_, rfl⟩
  have hV : Hid (Nt.V ⟨((Nt.digs N n).map UInt8.ofNat).toArray⟩ = N) := Nt.V_digs_lt (by rw [hN, ← hl]; exact Nt.lb_lt l hx)
  rw [← hN]
  have HN := Lib.hid hN
  have HX := Lib.hid hx
  have HC := Lib.hid hc
  clear hN hl hx hc
  go_enter Tryz.func81, Tryz.ntmps81
  go_wp2
  go_loopw [4] (fun i wr => ∃ k : Nat, k ≤ n ∧ i = .int .i64 k ∧ Blk wr w.heap.size 5 (kV .u8 (List.replicate (n - k) 0 ++ Nt.digs N k)) ∧ Below w.heap.size w wr) (fun i _ => n - (intOf i).toNat)
  case atStart => exact ⟨0, by omega, rfl, by simp only [Nat.sub_zero, Nt.digs, List.append_nil]; exact Blk.new _ _ _, (Below.refl _ _).alloc (Nat.le_refl _) _⟩
  case round =>
    obtain ⟨k, hk, rfl, hB, hW⟩ := hrel
    by_cases hlt : k < n
    · have hkl : k < l.length := by have := HL.out; omega
      have hc1 : wr.cell? ⟨g, k, none⟩ = some (.int .i64 ((l[k]'hkl : Nat) : Int)) := (hW.cell (p := ⟨g, _, none⟩) hg).trans (HC.out k hkl)
      have hxb := HX.out _ (List.getElem_mem hkl)
      have hD := Lib.hid (Nt.lb_dig l HX.out k hkl)
      generalize l[k]'hkl = x at hc1 hxb hD
      have hlen : n - 1 - k < (List.replicate (n - k) 0 ++ Nt.digs N k).length := by simp [Nt.digs_length]; omega
      have hc2 : wr.cell? ⟨w.heap.size, n - 1 - k, none⟩ = some (.int .u8 (((List.replicate (n - k) 0 ++ Nt.digs N k)[n - 1 - k]'hlen : Nat) : Int)) := (hB.cell _).trans (kV_get_lt _ _ _ hlen)
      have hf2 : wr.frozen? ⟨w.heap.size, n - 1 - k, none⟩ = false := hB.frozen _
      go_wp2
      refine ⟨⟨k + 1, by omega, by go_num, ?_, hW.setCell (p := ⟨w.heap.size, n - 1 - k, none⟩) (Nat.le_refl _) _⟩, by simp [intOf]; omega⟩
      rw [← Nt.zeros_set N k n x hlt (by rw [← hD.out, HN.out]), ← kV_set]
      exact hB.put _ _
    · obtain rfl : k = n := by omega
      rw [Nat.sub_self, List.replicate_zero, List.nil_append] at hB
      have hT := run_text (P := Tryz.prog) 31 9 5 Tryz.underlying31 Tryz.underlying5 Tryz.underlying9 w.heap.size k k _ (Nt.digs_length N k) wr hB
      go_wp2_with (go_at_call 11; refine (refTrim_any _ _).mono ?_; rintro e w' ⟨rfl, rfl⟩)
      go_ret
      exact ⟨ret_str (by rw [hV.out]), hW⟩
set_option maxRecDepth 100000 in
set_option maxHeartbeats 1000000 in
theorem refTurned_nil (w : World) :
    Calls Tryz.prog 81 #[.slice none 0 0] w fun e w' => e = .returned (.string (Nt.E 0)) ∧ Below w.heap.size w w' := by
  have hmk : ∀ W : World, (Instr.makeSlice 31 (.int .i64 0) (.int .i64 0)).run Tryz.prog W = .ok (.slice (some ⟨W.heap.size, 0, none⟩) 0 0) (W.alloc (.cells (kV .u8 []) 5)) :=
    fun W => run_zeros (P := Tryz.prog) 31 5 .u8 1 Tryz.underlying31 Tryz.infoU8 0 (by omega) (by omega) W
  have hT := run_text (P := Tryz.prog) 31 9 5 Tryz.underlying31 Tryz.underlying5 Tryz.underlying9 w.heap.size 0 0 [] rfl (w.alloc (.cells (kV .u8 []) 5)) (Blk.new _ _ _)
  go_enter Tryz.func81, Tryz.ntmps81
  go_wp2
  go_loop [4] (fun i => i = .int .i64 0) (fun _ => 0)
  case atStart => rfl
  case round =>
    subst hrel
    go_wp2_with (go_at_call 11; refine (refTrim_any _ _).mono ?_; rintro e w' ⟨rfl, rfl⟩)
    go_ret
    exact ⟨rfl, (Below.refl _ _).alloc (Nat.le_refl _) _⟩
theorem one_cells (z : Nat) : ∀ u ∈ [Value.int .i64 (z : Int)], u.oneCell' = true := by simp [Value.oneCell']
/-- numbers, as ints in memory. -/
def ints (l : List Nat) : List Value := l.map fun n : Nat => Value.int .i64 (n : Int)
theorem ints_length (l : List Nat) : (ints l).length = l.length := by simp [ints]
theorem ints_snoc (l : List Nat) (n : Nat) : ints l ++ [.int .i64 (n : Int)] = ints (l ++ [n]) := by simp [ints]
theorem refTurned_own (l : List Nat) (base n : Nat) (v : Value) (w : World) (hl : l.length = n) (hn : n ≤ 1000000) (hx : ∀ x ∈ l, x < 256) (ho : w.ownsRow base 3 1 v n (ints l)) :
    Calls Tryz.prog 81 #[v] w fun e w' => e = .returned (.string (Nt.E (Nt.lb l))) ∧ Below w.heap.size w w' := by
  rcases ho.2 with ⟨rfl, rfl⟩ | ⟨g, cap, cur, rfl, _, hg, _⟩
  · obtain rfl : l = [] := List.eq_nil_of_length_eq_zero hl
    exact refTurned_nil w
  · refine refTurned_some g n cap l w hl hn hx (Array.getElem?_eq_some_iff.1 hg).1 (fun k h => ?_)
    have hcell := ho.cells (g := g) rfl k (.int .i64 ((l[k]'h : Nat) : Int)) (by unfold ints; rw [List.getElem?_map, List.getElem?_eq_getElem h]; rfl)
    have hadd : (⟨g, 0, none⟩ : Addr).add k = ⟨g, k, none⟩ := by unfold Addr.add; split <;> simp_all
    rwa [hadd] at hcell

end Go.Proofs.YtkdipgcefcakaaaGreatDoor
