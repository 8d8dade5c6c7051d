/-
  THE DOCUMENT'S ANSWERS FOR SMALL NUMBERS: Small, Byte, Of, Bits; the program's Of and Bits.
  WORDS OF 32 BITS AS A TEXT; a small number as a text.
  THE DOCUMENT'S ANSWERS FOR SUMS AND DIFFERENCES: at, turned, Add, Cmp, Sub.
-/
import Derived.Test.YtjbpipbmcicjiaaGreatDoorTrim
import Derived.Deep.RegionWith
import Derived.Lib.Small
import Derived.Lib.BitFns
import Derived.Test.YtjbpipbmcicjiaaGreatDoorMath
namespace Go.Proofs.YtjbpipbmcicjiaaGreatDoor
open Go.RowKit Go.Shelf

set_option maxRecDepth 100000 in
set_option maxHeartbeats 1000000 in
theorem refSmall_any (s : ByteArray) (w : World) :
    Calls Tryz.prog 55 #[.string s] w fun e w' => e = .returned (.tuple #[.int .u64 (Nt.sm (Nt.V s) : Int), .bool (Nt.smB (Nt.V s))]) ∧ w = w' := by
  obtain ⟨t, ht⟩ : ∃ t, t = Nt.E (Nt.V s) := ⟨_, rfl⟩
  have hV : Nt.V t = Nt.V s := by rw [ht, Nt.V_E]
  have HT := Lib.hid (fun w => (ht ▸ refTrim_any s w : Calls Tryz.prog 58 #[.string s] w fun e w' => e = .returned (.string t) ∧ w = w'))
  by_cases h8 : t.size ≤ 8
  · have h1 := Nt.E_small (ht ▸ h8)
    have hr : Hid (Ending.returned (.tuple #[.int .u64 ((Nt.top t t.size : Nat) : Int), .bool true]) = .returned (.tuple #[.int .u64 (Nt.sm (Nt.V s) : Int), .bool (Nt.smB (Nt.V s))])) :=
      ret_small2 (by rw [Nt.sm, if_pos h1, Nt.top_all, hV]) (by rw [Nt.smB]; simp [h1])
    clear ht hV
    go_enter Tryz.func55, Tryz.ntmps55
    go_wp2_with (go_at_call 58; refine (HT.out _).mono ?_; rintro e w' ⟨rfl, rfl⟩)
    go_loop [4, 5] (fun n i => ∃ k : Nat, k ≤ t.size ∧ i = .int .i64 k ∧ n = .int .u64 ((Nt.top t k : Nat) : Int)) (fun _ i => t.size - (intOf i).toNat)
    case atStart => exact ⟨0, Nat.zero_le _, rfl, by rw [Nt.top_zero]; rfl⟩
    case round =>
      obtain ⟨k, hk, rfl, rfl⟩ := hrel
      by_cases hlt : k < t.size
      · have hs1 := Lib.hid (Nt.top_step t k hlt)
        have hl1 := Nt.top_lt t k hk
        generalize Nt.top t k = n at hs1 hl1
        have hd := UInt8.toNat_lt (t[k]'hlt)
        have hn : n < 72057594037927936 := by
          have : 256 ^ k ≤ 256 ^ 7 := Nat.pow_le_pow_right (by omega) (by omega)
          have h7 : (256 : Nat) ^ 7 = 72057594037927936 := by decide
          omega
        have ho := Lib.hid (or_low n (t[k]'hlt).toNat hn hd)
        clear hn hl1
        go_wp2
        go_round
        case rel => exact ⟨k + 1, by omega, by go_num, by rw [ho.out, hs1.out]⟩
        case measure => simp [intOf]; omega
      · obtain rfl : k = t.size := by omega
        go_wp2
        go_ret2
        exact ⟨hr, rfl⟩
  · have h1 := Nt.E_big (ht ▸ h8)
    have hr := Lib.hid (show Ending.returned (.tuple #[.int .u64 0, .bool false]) = .returned (.tuple #[.int .u64 (Nt.sm (Nt.V s) : Int), .bool (Nt.smB (Nt.V s))]) from ret_small2 (by rw [Nt.sm, if_neg h1]; rfl) (by rw [Nt.smB]; simp [h1]))
    clear ht hV
    go_enter Tryz.func55, Tryz.ntmps55
    go_wp2_with (go_at_call 58; refine (HT.out _).mono ?_; rintro e w' ⟨rfl, rfl⟩)
    go_ret2
    exact ⟨hr.out, rfl⟩

set_option maxRecDepth 100000 in
set_option maxHeartbeats 400000 in
theorem refByte_any (c : Int) (w : World) (h0 : 0 ≤ c) (h1 : c < 256) :
    Calls Tryz.prog 97 #[.int .i64 c] w fun e w' => e = .returned (.string ⟨#[UInt8.ofNat c.toNat]⟩) ∧ Below w.heap.size w w' := by
  have hx := run_text (P := Tryz.prog) 94 9 5 Tryz.underlying94 Tryz.underlying5 Tryz.underlying9 w.heap.size 1 1 [c.toNat] rfl (w.alloc (.cells #[.int .u8 c] 5)) (by
    have e : kV .u8 [c.toNat] = #[.int .u8 c] := by simp [kV]; omega
    rw [e]; exact Blk.new _ _ _)
  simp only [List.map_cons, List.map_nil] at hx
  go_enter Tryz.func97, Tryz.ntmps97
  go_wp2
  go_ret
  exact ⟨rfl, (Below.refl _ _).alloc (Nat.le_refl _) _⟩

set_option maxHeartbeats 4000000 in
set_option maxRecDepth 100000 in
theorem len8_any (x : Int) (w : World) (h0 : 0 ≤ x) (h1 : x ≤ 255) :
    Calls Tryz.prog 146 #[.int .u8 x] w fun e w' => e = .returned (.int .i64 (Lib.bitLen x.toNat)) ∧ w = w' := by
  go_enter Tryz.func146, Tryz.ntmps146
  go_wp2
  go_ret
  exact ⟨ret_int (a := wrap64 (Lib.len8 x)) (by unfold wrap64; exact Lib.len8_int x h0 h1), rfl⟩

theorem and_255 (n : Nat) (hn : n < 18446744073709551616) : bits .and .u64 (n : Int) 255 = ((n % 256 : Nat) : Int) := by
  rw [show (255 : Int) = ((255 : Nat) : Int) from rfl, u64_and_nat _ _ (by omega) (by omega)]
  rw [show 255 = 2 ^ 8 - 1 from rfl, Nat.and_two_pow_sub_one_eq_mod]
theorem str_append (a b : List UInt8) : (⟨a.toArray⟩ : ByteArray) ++ ⟨b.toArray⟩ = ⟨(a ++ b).toArray⟩ := by
  apply ByteArray.ext
  simp
set_option maxRecDepth 100000 in
set_option maxHeartbeats 1000000 in
theorem refOf_any (n : Nat) (w : World) (hn : n < 18446744073709551616) :
    Calls Tryz.prog 59 #[.int .u64 (n : Int)] w fun e w' => e = .returned (.string (Nt.E n)) ∧ Below w.heap.size w w' := by
  have HN := Lib.hid hn
  have hV : Hid (Nt.V ⟨(Nt.be n 8).toArray⟩ = n) := by show Nt.val _ = n; rw [Nt.val_be, Nt.pow8]; exact Nat.mod_eq_of_lt hn
  clear hn
  go_enter Tryz.func59, Tryz.ntmps59
  go_wp2
  go_loopw [0, 3, 4] (fun x s i wr => ∃ k : Nat, k ≤ 8 ∧ i = .int .i64 k ∧ x = .int .u64 (Nt.sh n k : Int) ∧ s = .string ⟨(Nt.be n k).toArray⟩ ∧ Below w.heap.size w wr) (fun _ _ i _ => 8 - (intOf i).toNat)
  case atStart => exact ⟨0, by omega, rfl, by rw [Nt.sh_zero], rfl, Below.refl _ _⟩
  case round =>
    obtain ⟨k, hk, rfl, rfl, rfl, hB⟩ := hrel
    by_cases hlt : k < 8
    · have hA := and_255 (Nt.sh n k) (by have := HN.out; have := Nt.sh_le n k; omega)
      rw [Nt.sh_dig] at hA
      have hd := Nt.dig_lt n k
      have HS := Lib.hid (Nt.sh_succ n k)
      have HB : Hid (Nt.be n (k + 1) = UInt8.ofNat (Nt.dig n k) :: Nt.be n k) := rfl
      generalize Nt.dig n k = d at hd hA HB
      generalize Nt.sh n k = x at hA HS
      have hL : (Nt.be n k).length ≤ 8 := by rw [Nt.be_length]; omega
      go_wp2_with (go_at_call 97; refine (refByte_any _ _ (by omega) (by omega)).mono ?_; rintro e w' ⟨rfl, hb1⟩)
      refine ⟨⟨k + 1, by omega, by go_num, by rw [HS.out]; go_num, ?_, hB.trans (hb1.mono hB.size)⟩, by simp [intOf]; omega⟩
      rw [HB.out, show (⟨#[UInt8.ofNat d]⟩ : ByteArray) = ⟨[UInt8.ofNat d].toArray⟩ from rfl, str_append]
      rfl
    · obtain rfl : k = 8 := by omega
      go_wp2_with (go_at_call 58; refine (refTrim_any _ _).mono ?_; rintro e w' ⟨rfl, rfl⟩)
      go_ret
      exact ⟨ret_str (by rw [hV.out]), hB⟩

theorem bitLen_blen : ∀ n : Fin 256, Lib.bitLen n.1 = Nt.blen n.1 := by decide +kernel
theorem isEmpty_false {t : ByteArray} (h : 0 < t.size) : t.toList.isEmpty = false := by
  rw [ByteArray.toList_eq]
  obtain ⟨⟨l⟩⟩ := t
  cases l with
  | nil => exact absurd h (by decide)
  | cons b l => rfl
theorem isEmpty_true {t : ByteArray} (h : ¬ 0 < t.size) : t.toList.isEmpty = true := by
  rw [ByteArray.toList_eq]
  obtain ⟨⟨l⟩⟩ := t
  cases l with
  | nil => rfl
  | cons b l => exact absurd (show 0 < l.length + 1 by omega) h
set_option maxRecDepth 100000 in
set_option maxHeartbeats 1000000 in
theorem natBits_any (s : ByteArray) (w : World) (hs : s.size ≤ 140737488351232) :
    Calls Tryz.prog 105 #[.string s] w fun e w' => e = .returned (.int .i64 (Nt.blen (Nt.V s) : Int)) ∧ w = w' := by
  obtain ⟨t, ht⟩ : ∃ t, t = Nt.E (Nt.V s) := ⟨_, rfl⟩
  have HT := Lib.hid (fun w => (ht ▸ natTrim_any s w : Calls Tryz.prog 57 #[.string s] w fun e w' => e = .returned (.string t) ∧ w = w'))
  have hts : t.size ≤ 140737488351232 := by rw [ht]; exact Nat.le_trans (Nt.E_size_V s) hs
  by_cases h0 : 0 < t.size
  · have hd := UInt8.toNat_lt (t[0]'h0)
    have hr : Hid ((wrap64 (8 * ((t.size : Int) - 1) + (Lib.bitLen (t[0]'h0).toNat : Int))) = (Nt.blen (Nt.V s) : Int)) := by
      subst ht
      have hb := Lib.bitLen_le8 ⟨_, hd⟩
      have he := bitLen_blen ⟨_, hd⟩
      have ht := Nt.blen_top _ h0
      dsimp only at hb he
      show wrap64 _ = _
      unfold wrap64
      omega
    have hE := isEmpty_false h0
    clear ht
    go_enter Tryz.func105, Tryz.ntmps105
    go_wp2_with (first
      | (go_at_call 57; refine (HT.out _).mono ?_; rintro e w' ⟨rfl, rfl⟩)
      | (go_at_call 146; refine (len8_any _ _ (by omega) (by omega)).mono ?_; rintro e w' ⟨rfl, rfl⟩))
    go_ret
    exact ⟨ret_int hr.out, rfl⟩
  · have hr : Hid (Nt.V s = 0) := Nt.E_nil _ (ht ▸ h0)
    have hE := isEmpty_true h0
    clear ht
    go_enter Tryz.func105, Tryz.ntmps105
    go_wp2_with (go_at_call 57; refine (HT.out _).mono ?_; rintro e w' ⟨rfl, rfl⟩)
    go_ret
    exact ⟨ret_int (a := 0) (by rw [hr.out]; rfl), rfl⟩

set_option maxRecDepth 100000 in
set_option maxHeartbeats 1000000 in
theorem refBits_any (s : ByteArray) (w : World) (hs : s.size ≤ 140737488351232) :
    Calls Tryz.prog 113 #[.string s] w fun e w' => e = .returned (.int .i64 (Nt.blen (Nt.V s) : Int)) ∧ w = w' := by
  obtain ⟨t, ht⟩ : ∃ t, t = Nt.E (Nt.V s) := ⟨_, rfl⟩
  have HT := Lib.hid (fun w => (ht ▸ refTrim_any s w : Calls Tryz.prog 58 #[.string s] w fun e w' => e = .returned (.string t) ∧ w = w'))
  have hts : t.size ≤ 140737488351232 := by rw [ht]; exact Nat.le_trans (Nt.E_size_V s) hs
  by_cases h0 : 0 < t.size
  · have hd := UInt8.toNat_lt (t[0]'h0)
    obtain ⟨d, hdd⟩ : ∃ d, d = (t[0]'h0).toNat := ⟨_, rfl⟩
    have hr : Hid (8 * (t.size - 1) + Nt.blen d = Nt.blen (Nt.V s)) := by
      subst ht
      rw [hdd]
      exact (Nt.blen_top _ h0).symm
    have hb : Nt.blen d ≤ 8 := by rw [hdd]; exact (bitLen_blen ⟨_, hd⟩) ▸ Lib.bitLen_le8 ⟨_, hd⟩
    rw [← hdd] at hd
    have hE := isEmpty_false h0
    have Hd := Lib.hid hdd
    clear ht hdd
    go_enter Tryz.func113, Tryz.ntmps113
    go_wp2_with (go_at_call 58; refine (HT.out _).mono ?_; rintro e w' ⟨rfl, rfl⟩)
    rw [← Hd.out]
    go_loop [3, 4] (fun n c => ∃ (x k : Nat), c = .int .u8 (x : Int) ∧ n = .int .i64 (k : Int) ∧ k + Nt.blen x = 8 * (t.size - 1) + Nt.blen d ∧ x ≤ d) (fun _ c => (intOf c).toNat)
    case atStart => exact ⟨d, 8 * (t.size - 1), rfl, by go_num, rfl, Nat.le_refl _⟩
    case round =>
      obtain ⟨x, k, rfl, rfl, hk, hx⟩ := hrel
      by_cases hz : x = 0
      · subst hz
        have hf : Hid (k = Nt.blen (Nt.V s)) := by rw [← hr.out, ← hk]; rfl
        clear hk
        go_wp2
        go_ret
        exact ⟨ret_int (by rw [hf.out]), rfl⟩
      · have hh := Nt.blen_half hz
        have hpos : 0 < x := by omega
        have hk' : Hid (k + 1 + Nt.blen (x / 2) = 8 * (t.size - 1) + Nt.blen d) := by show _ = _; omega
        have hkb : k ≤ 8 * t.size + 8 := by omega
        clear hh hk hz
        go_wp2
        go_round
        case rel => exact ⟨x / 2, k + 1, by go_num, by go_num, hk'.out, by omega⟩
        case measure => simp [intOf]; omega
  · have hr : Hid (Nt.V s = 0) := Nt.E_nil _ (ht ▸ h0)
    have hE := isEmpty_true h0
    clear ht
    go_enter Tryz.func113, Tryz.ntmps113
    go_wp2_with (go_at_call 58; refine (HT.out _).mono ?_; rintro e w' ⟨rfl, rfl⟩)
    go_ret
    exact ⟨ret_int (a := 0) (by rw [hr.out]; rfl), rfl⟩
end Go.Proofs.YtjbpipbmcicjiaaGreatDoor
namespace Go.Proofs.YtjbpipbmcicjiaaGreatDoor
open Go.RowKit Go.Shelf

set_option maxRecDepth 100000 in
set_option maxHeartbeats 1000000 in
theorem natText_any (g n cap : Nat) (l : List Nat) (w : World) (hl : l.length = n) (hn : n ≤ 1000000) (hx : ∀ x ∈ l, x < 4294967296) (hb : Blk w g 84 (kV .u32 l)) :
    Calls Tryz.prog 95 #[.slice (some ⟨g, 0, none⟩) n cap] w fun e w' => e = .returned (.string ⟨((Nt.digs (Nt.lw l) (4 * n)).map UInt8.ofNat).toArray⟩) ∧ Below w.heap.size w w' := by
  obtain ⟨m, hm⟩ : ∃ m, m = 4 * n := ⟨_, rfl⟩
  have hmk := fun W => run_zeros (P := Tryz.prog) 94 5 .u8 1 Tryz.underlying94 Tryz.infoU8 m (by omega) (by omega) W
  have hm' : (4 * (n : Int)) = (m : Int) := by omega
  rw [← hm]
  have hM := Lib.hid hm
  have hmn : m ≤ 4 * n := by omega
  have hnm : 4 * n ≤ m := by omega
  have HL := Lib.hid hl
  clear hm hl
  have hw0 := hb.lt
  obtain ⟨N, hN⟩ : ∃ N, N = Nt.lw l := ⟨_, rfl⟩
  rw [← hN]
  have HN := Lib.hid hN
  clear hN
  go_enter Tryz.func95, Tryz.ntmps95
  go_wp2
  go_loopw [12] (fun i wr => ∃ k : Nat, k ≤ m ∧ i = .int .i64 k ∧ Blk wr w.heap.size 5 (kV .u8 (Nt.upTo N m k)) ∧ Below w.heap.size w wr) (fun i _ => m - (intOf i).toNat)
  case atStart => exact ⟨0, by omega, rfl, by rw [Nt.upTo_zero]; exact Blk.new _ _ _, (Below.refl _ _).alloc (Nat.le_refl _) _⟩
  case round =>
    obtain ⟨k, hk, rfl, hB, hW⟩ := hrel
    by_cases hlt : k < m
    · have hp4 : (m - 1 - k) / 4 < l.length := by have := HL.out; omega
      have hc1 : wr.cell? ⟨g, (m - 1 - k) / 4, none⟩ = some (.int .u32 ((l[(m - 1 - k) / 4]'hp4 : Nat) : Int)) := (hW.cell (p := ⟨g, _, none⟩) hw0).trans ((hb.cell _).trans (kV_get_lt _ _ _ hp4))
      have hxb := hx _ (List.getElem_mem hp4)
      have hD := Lib.hid (Nt.lw_dig l hx (m - 1 - k) hp4)
      generalize l[(m - 1 - k) / 4]'hp4 = x at hc1 hxb hD
      have hlen : k < (Nt.upTo N m k).length := by rw [Nt.upTo_length _ _ _ hk]; exact hlt
      have hc2 : wr.cell? ⟨w.heap.size, k, none⟩ = some (.int .u8 (((Nt.upTo N m k)[k]'hlen : Nat) : Int)) := (hB.cell _).trans (kV_get_lt _ _ _ hlen)
      have hf2 : wr.frozen? ⟨w.heap.size, k, none⟩ = false := hB.frozen _
      have hE : ((x : Int) / 2 ^ ((m - 1 - k) % 4 * 8) % 256) = ((Nt.dig N (m - 1 - k) : Nat) : Int) := by
        rw [HN.out, hD.out, show (256 : Nat) ^ ((m - 1 - k) % 4) = 2 ^ ((m - 1 - k) % 4 * 8) from by rw [Nat.mul_comm, Nat.pow_mul]]
        simp
      have HE := Lib.hid hE
      clear hE
      go_wp2
      refine ⟨⟨k + 1, by omega, by go_num, ?_, hW.setCell (p := ⟨w.heap.size, k, none⟩) (Nat.le_refl _) _⟩, by simp [intOf]; omega⟩
      rw [HE.out, ← Nt.upTo_set N m k _ hlt rfl, ← kV_set]
      exact hB.put _ _
    · obtain rfl : k = m := by omega
      have hT := run_text (P := Tryz.prog) 94 9 5 Tryz.underlying94 Tryz.underlying5 Tryz.underlying9 w.heap.size k k _ (Nt.upTo_length N k k hk) wr hB
      rw [Nt.upTo_all] at hT
      go_wp2
      go_ret
      exact ⟨rfl, hW⟩

theorem lw_two (n : Nat) : Nt.lw [n % 4294967296, n / 4294967296] = n := by
  simp [Nt.lw]; omega
set_option maxRecDepth 100000 in
set_option maxHeartbeats 1000000 in
theorem natOf_any (n : Nat) (w : World) (hn : n < 18446744073709551616) :
    Calls Tryz.prog 56 #[.int .u64 (n : Int)] w fun e w' => e = .returned (.string (Nt.E n)) ∧ Below w.heap.size w w' := by
  have hlw := lw_two n
  have hV : Hid (Nt.V ⟨((Nt.digs n 8).map UInt8.ofNat).toArray⟩ = n) := Nt.V_digs_lt (by rw [Nt.pow8]; exact hn)
  have hbk : Blk (w.alloc (.cells #[.int .u32 ((n : Int) % 4294967296), .int .u32 ((n : Int) / 4294967296)] 84)) w.heap.size 84 (kV .u32 [n % 4294967296, n / 4294967296]) := Blk.new _ _ _
  have hT := natText_any w.heap.size 2 2 _ _ rfl (by omega) (by simp; omega) hbk
  rw [hlw] at hT
  have HT := Lib.hid hT
  clear hT hlw hbk
  go_enter Tryz.func56, Tryz.ntmps56
  go_wp2_with (first
    | (go_at_call 95; refine HT.out.mono ?_; rintro e w1 ⟨rfl, hb1⟩)
    | (go_at_call 57; refine (natTrim_any _ _).mono ?_; rintro e w' ⟨rfl, rfl⟩))
  go_ret
  exact ⟨ret_str (by rw [hV.out]), ((Below.refl _ _).alloc (Nat.le_refl _) _).trans (hb1.mono (by simp))⟩
end Go.Proofs.YtjbpipbmcicjiaaGreatDoor
namespace Go.Proofs.YtjbpipbmcicjiaaGreatDoor
open Go.RowKit Go.Shelf

set_option maxHeartbeats 400000 in
theorem refAt_any (s : ByteArray) (i : Nat) (w : World) (hs : s.size ≤ maxLen) :
    Calls Tryz.prog 144 #[.string s, .int .i64 (i : Int)] w fun e w' => e = .returned (.int .i64 (Nt.dig (Nt.V s) i : Int)) ∧ w = w' := by
  unfold maxLen at hs
  by_cases h : i < s.size
  · have hd := Lib.hid (Nt.V_dig s i h)
    go_enter Tryz.func144, Tryz.ntmps144
    go_wp2
    go_ret
    exact ⟨ret_int (a := wrap64 ((s[s.size - 1 - i]'(by omega)).toNat : Int)) (by
      rw [← hd.out]
      have := UInt8.toNat_lt (s[s.size - 1 - i]'(by omega))
      unfold wrap64; omega), rfl⟩
  · have hd := Lib.hid (Nt.dig_zero_le (Nt.V_lt s) (show s.size ≤ i by omega))
    go_enter Tryz.func144, Tryz.ntmps144
    go_wp2
    go_ret
    exact ⟨ret_int (a := 0) (by rw [hd.out]; rfl), rfl⟩
set_option maxHeartbeats 400000 in
theorem natDigitAt_any (s : ByteArray) (i : Nat) (w : World) (hs : s.size ≤ maxLen) :
    Calls Tryz.prog 122 #[.string s, .int .i64 (i : Int)] w fun e w' => e = .returned (.int .u8 (Nt.dig (Nt.V s) i : Int)) ∧ w = w' := by
  unfold maxLen at hs
  by_cases h : i < s.size
  · have hd := Lib.hid (Nt.V_dig s i h)
    go_enter Tryz.func122, Tryz.ntmps122
    go_wp2
    go_ret
    exact ⟨ret_int (by rw [← hd.out]), rfl⟩
  · have hd := Lib.hid (Nt.dig_zero_le (Nt.V_lt s) (show s.size ≤ i by omega))
    go_enter Tryz.func122, Tryz.ntmps122
    go_wp2
    go_ret
    exact ⟨ret_int (a := 0) (by rw [hd.out]; rfl), rfl⟩

/-- a slice of ints that reads as the numbers l: none, or a block's first cells. -/
def RdI (w : World) (A : Option Addr) (l : List Nat) : Prop :=
  l = [] ∨ ∃ g, A = some ⟨g, 0, none⟩ ∧ g < w.heap.size ∧ ∀ k (h : k < l.length), w.cell? ⟨g, k, none⟩ = some (.int .i64 ((l[k]'h : Nat) : Int))
theorem and_255i (n : Nat) (hn : n < 9223372036854775808) : bits .and .i64 (n : Int) 255 = ((n % 256 : Nat) : Int) := by
  have h := bits_mask .i64 63 (by decide) (fun m h0 h1 => by rw [IntKind.wrap_i64]; omega) 8 (by decide) (n : Int) (by omega) (by omega)
  have e : ((2 : Int) ^ 8 - 1) = 255 := by decide
  rw [e] at h
  rw [h]; omega

set_option maxRecDepth 100000 in
set_option maxHeartbeats 1000000 in
theorem refTurned_some (g n cap : Nat) (l : List Nat) (w : World) (hl : l.length = n) (hn : n ≤ 1000000) (hx : ∀ x ∈ l, x < 256) (hg : g < w.heap.size) (hc : ∀ k (h : k < l.length), w.cell? ⟨g, k, none⟩ = some (.int .i64 ((l[k]'h : Nat) : Int))) :
    Calls Tryz.prog 145 #[.slice (some ⟨g, 0, none⟩) n cap] w fun e w' => e = .returned (.string (Nt.E (Nt.lb l))) ∧ Below w.heap.size w w' := by
  have hmk := fun W => run_zeros (P := Tryz.prog) 94 5 .u8 1 Tryz.underlying94 Tryz.infoU8 n (by omega) (by omega) W
  have HL := Lib.hid hl
  obtain ⟨N, hN⟩ : ∃ N, N = Nt.lb l := ⟨_, rfl⟩
  have hV : Hid (Nt.V ⟨((Nt.digs N n).map UInt8.ofNat).toArray⟩ = N) := Nt.V_digs_lt (by rw [hN, ← hl]; exact Nt.lb_lt l hx)
  rw [← hN]
  have HN := Lib.hid hN
  have HX := Lib.hid hx
  have HC := Lib.hid hc
  clear hN hl hx hc
  go_enter Tryz.func145, Tryz.ntmps145
  go_wp2
  go_loopw [4] (fun i wr => ∃ k : Nat, k ≤ n ∧ i = .int .i64 k ∧ Blk wr w.heap.size 5 (kV .u8 (List.replicate (n - k) 0 ++ Nt.digs N k)) ∧ Below w.heap.size w wr) (fun i _ => n - (intOf i).toNat)
  case atStart => exact ⟨0, by omega, rfl, by simp only [Nat.sub_zero, Nt.digs, List.append_nil]; exact Blk.new _ _ _, (Below.refl _ _).alloc (Nat.le_refl _) _⟩
  case round =>
    obtain ⟨k, hk, rfl, hB, hW⟩ := hrel
    by_cases hlt : k < n
    · have hkl : k < l.length := by have := HL.out; omega
      have hc1 : wr.cell? ⟨g, k, none⟩ = some (.int .i64 ((l[k]'hkl : Nat) : Int)) := (hW.cell (p := ⟨g, _, none⟩) hg).trans (HC.out k hkl)
      have hxb := HX.out _ (List.getElem_mem hkl)
      have hD := Lib.hid (Nt.lb_dig l HX.out k hkl)
      generalize l[k]'hkl = x at hc1 hxb hD
      have hlen : n - 1 - k < (List.replicate (n - k) 0 ++ Nt.digs N k).length := by simp [Nt.digs_length]; omega
      have hc2 : wr.cell? ⟨w.heap.size, n - 1 - k, none⟩ = some (.int .u8 (((List.replicate (n - k) 0 ++ Nt.digs N k)[n - 1 - k]'hlen : Nat) : Int)) := (hB.cell _).trans (kV_get_lt _ _ _ hlen)
      have hf2 : wr.frozen? ⟨w.heap.size, n - 1 - k, none⟩ = false := hB.frozen _
      go_wp2
      refine ⟨⟨k + 1, by omega, by go_num, ?_, hW.setCell (p := ⟨w.heap.size, n - 1 - k, none⟩) (Nat.le_refl _) _⟩, by simp [intOf]; omega⟩
      rw [← Nt.zeros_set N k n x hlt (by rw [← hD.out, HN.out]), ← kV_set]
      exact hB.put _ _
    · obtain rfl : k = n := by omega
      rw [Nat.sub_self, List.replicate_zero, List.nil_append] at hB
      have hT := run_text (P := Tryz.prog) 94 9 5 Tryz.underlying94 Tryz.underlying5 Tryz.underlying9 w.heap.size k k _ (Nt.digs_length N k) wr hB
      go_wp2_with (go_at_call 58; refine (refTrim_any _ _).mono ?_; rintro e w' ⟨rfl, rfl⟩)
      go_ret
      exact ⟨ret_str (by rw [hV.out]), hW⟩
set_option maxRecDepth 100000 in
set_option maxHeartbeats 1000000 in
theorem refTurned_nil (w : World) :
    Calls Tryz.prog 145 #[.slice none 0 0] w fun e w' => e = .returned (.string (Nt.E 0)) ∧ Below w.heap.size w w' := by
  have hmk : ∀ W : World, (Instr.makeSlice 94 (.int .i64 0) (.int .i64 0)).run Tryz.prog W = .ok (.slice (some ⟨W.heap.size, 0, none⟩) 0 0) (W.alloc (.cells (kV .u8 []) 5)) :=
    fun W => run_zeros (P := Tryz.prog) 94 5 .u8 1 Tryz.underlying94 Tryz.infoU8 0 (by omega) (by omega) W
  have hT := run_text (P := Tryz.prog) 94 9 5 Tryz.underlying94 Tryz.underlying5 Tryz.underlying9 w.heap.size 0 0 [] rfl (w.alloc (.cells (kV .u8 []) 5)) (Blk.new _ _ _)
  go_enter Tryz.func145, Tryz.ntmps145
  go_wp2
  go_loop [4] (fun i => i = .int .i64 0) (fun _ => 0)
  case atStart => rfl
  case round =>
    subst hrel
    go_wp2_with (go_at_call 58; refine (refTrim_any _ _).mono ?_; rintro e w' ⟨rfl, rfl⟩)
    go_ret
    exact ⟨rfl, (Below.refl _ _).alloc (Nat.le_refl _) _⟩
theorem one_cells (z : Nat) : ∀ u ∈ [Value.int .i64 (z : Int)], u.oneCell' = true := by simp [Value.oneCell']
/-- numbers, as ints in memory. -/
def ints (l : List Nat) : List Value := l.map fun n : Nat => Value.int .i64 (n : Int)
theorem ints_length (l : List Nat) : (ints l).length = l.length := by simp [ints]
theorem ints_snoc (l : List Nat) (n : Nat) : ints l ++ [.int .i64 (n : Int)] = ints (l ++ [n]) := by simp [ints]
theorem refTurned_own (l : List Nat) (base n : Nat) (v : Value) (w : World) (hl : l.length = n) (hn : n ≤ 1000000) (hx : ∀ x ∈ l, x < 256) (ho : w.ownsRow base 3 1 v n (ints l)) :
    Calls Tryz.prog 145 #[v] w fun e w' => e = .returned (.string (Nt.E (Nt.lb l))) ∧ Below w.heap.size w w' := by
  rcases ho.2 with ⟨rfl, rfl⟩ | ⟨g, cap, cur, rfl, _, hg, _⟩
  · obtain rfl : l = [] := List.eq_nil_of_length_eq_zero hl
    exact refTurned_nil w
  · refine refTurned_some g n cap l w hl hn hx (Array.getElem?_eq_some_iff.1 hg).1 (fun k h => ?_)
    have hcell := ho.cells (g := g) rfl k (.int .i64 ((l[k]'h : Nat) : Int)) (by unfold ints; rw [List.getElem?_map, List.getElem?_eq_getElem h]; rfl)
    have hadd : (⟨g, 0, none⟩ : Addr).add k = ⟨g, k, none⟩ := by unfold Addr.add; split <;> simp_all
    rwa [hadd] at hcell

set_option maxRecDepth 100000 in
set_option maxHeartbeats 2000000 in
theorem refAdd_any (a b : ByteArray) (w : World) (ha : a.size ≤ 100000) (hb : b.size ≤ 100000) :
    Calls Tryz.prog 103 #[.string a, .string b] w fun e w' => e = .returned (.string (Nt.E (Nt.V a + Nt.V b))) ∧ Below w.heap.size w w' := by
  obtain ⟨i0, hi, hz0, hz1, hz2⟩ := info_parts Tryz.infoInt
  have ha' : a.size ≤ maxLen := by unfold maxLen; omega
  have hb' : b.size ≤ maxLen := by unfold maxLen; omega
  have hVa := Nt.V_lt a
  have hVb := Nt.V_lt b
  have HA := Lib.hid hVa
  have HBb := Lib.hid hVb
  clear hVa hVb
  go_enter Tryz.func103, Tryz.ntmps103
  go_wp2
  go_loopw [5, 6, 7] (fun v c i wr => ∃ k : Nat, k ≤ max a.size b.size + 1 ∧ i = .int .i64 k ∧ c = .int .i64 (Nt.cy (Nt.V a) (Nt.V b) k : Int) ∧ wr.ownsRow w.heap.size 3 1 v k (ints (Nt.low (Nt.V a + Nt.V b) k)) ∧ Below w.heap.size w wr) (fun _ _ i _ => max a.size b.size + 1 - (intOf i).toNat)
  case atStart => exact ⟨0, by omega, rfl, by rw [Nt.cy_zero]; rfl, World.ownsRow_nil _ _ _ _, Below.refl _ _⟩
  case round =>
    obtain ⟨k, hk, rfl, rfl, hO, hW⟩ := hrel
    have hcy := Nt.cy_le (Nt.V a) (Nt.V b) k
    by_cases hgo : k < a.size ∨ k < b.size ∨ 0 < Nt.cy (Nt.V a) (Nt.V b) k
    · have hkM : k ≤ max a.size b.size := by
        rcases Nat.lt_or_ge (max a.size b.size) k with hlt | hge
        · exfalso
          obtain rfl : k = max a.size b.size + 1 := by omega
          have h1 : Nt.V a < 256 ^ max a.size b.size := Nat.lt_of_lt_of_le HA.out (Nat.pow_le_pow_right (by omega) (by omega))
          have h2 : Nt.V b < 256 ^ max a.size b.size := Nat.lt_of_lt_of_le HBb.out (Nat.pow_le_pow_right (by omega) (by omega))
          have := Nt.cy_beyond h1 h2
          omega
        · exact hge
      have hst := Nt.cy_step (Nt.V a) (Nt.V b) k
      have hda := Nt.dig_lt (Nt.V a) k
      have hdb := Nt.dig_lt (Nt.V b) k
      have hds := Nt.dig_lt (Nt.V a + Nt.V b) k
      have hRA := Lib.hid (fun W => refAt_any a k W ha')
      have hRB := Lib.hid (fun W => refAt_any b k W hb')
      have HL := Lib.hid (Nt.low_succ (Nt.V a + Nt.V b) k)
      have hc1 := Nt.cy_le (Nt.V a) (Nt.V b) (k + 1)
      generalize Nt.cy (Nt.V a) (Nt.V b) k = c at hcy hgo hst
      obtain ⟨c', hc'⟩ : ∃ c', c' = Nt.cy (Nt.V a) (Nt.V b) (k + 1) := ⟨_, rfl⟩
      rw [← hc'] at hst hc1
      have HC' := Lib.hid hc'
      clear hc'
      generalize Nt.dig (Nt.V a) k = x at hst hda hRA
      generalize Nt.dig (Nt.V b) k = y at hst hdb hRB
      generalize Nt.dig (Nt.V a + Nt.V b) k = z at hst hds HL
      have hand := and_255i (x + y + c) (by omega)
      rw [show (x + y + c) % 256 = z from by omega] at hand
      rw [show ((x + y + c : Nat) : Int) = (x : Int) + (y : Int) + (c : Int) from by omega] at hand
      have Hst := Lib.hid hst
      clear hst
      have hk1 : k + 1 ≤ maxLen := by unfold maxLen; omega
      have hk2 : (k + 1) * 8 ≤ 140737488355328 := by omega
      have HWS := Lib.hid (fun o : Obj => show w.heap.size ≤ (wr.alloc o).heap.size by simp; have := hW.size; omega)
      go_wp2_with (first
        | (go_at_call_of 144 a; refine (hRA.out _).mono ?_; rintro e w1 ⟨rfl, rfl⟩)
        | (go_at_call_of 144 b; refine (hRB.out _).mono ?_; rintro e w1 ⟨rfl, rfl⟩)
        | (at_builtin; refine wpList_append_own _ rfl _ _ 118 rfl w.heap.size 3 i0 (.int .i64 0) 1 8 Tryz.underlying118 hi hz0 hz1 hz2 rfl (by decide) _ _ _ rfl (hO.alloc _) ⟨wr.heap.size, 0, none⟩ 1 1 [.int .i64 (z : Int)] rfl rfl (cell_one_new _ _ _) (one_cells z) hk1 hk2 (HWS.out _) ?_; intro v1 w2 hown1 hgrow1 _))
      all_goals first
        | (exfalso; omega)
        | (refine ⟨⟨k + 1, by omega, by go_num, ?_, ?_, ?_⟩, by simp [intOf]; omega⟩
           · have := Hst.out
             rw [← HC'.out]
             exact congrArg (Value.int .i64) (by omega)
           · rw [HL.out, ← ints_snoc]; exact hown1
           · exact (hW.alloc hW.size _).grown hgrow1 (HWS.out _) (fun j hj => (hO.lt j hj).1))
    · have hend : Hid (Nt.lb (Nt.low (Nt.V a + Nt.V b) k) = Nt.V a + Nt.V b) := by
        rw [Hid, Nt.lb_low]
        have h1 : Nt.V a < 256 ^ k := Nat.lt_of_lt_of_le HA.out (Nat.pow_le_pow_right (by omega) (by omega))
        have h2 : Nt.V b < 256 ^ k := Nat.lt_of_lt_of_le HBb.out (Nat.pow_le_pow_right (by omega) (by omega))
        exact Nat.mod_eq_of_lt (Nt.cy_end h1 h2 (by omega))
      have hT := Lib.hid (refTurned_own (Nt.low (Nt.V a + Nt.V b) k) _ k _ wr (Nt.low_length _ _) (by omega) (Nt.low_lt _ _) hO)
      have hc0 : Nt.cy (Nt.V a) (Nt.V b) k ≤ 0 := by omega
      generalize Nt.cy (Nt.V a) (Nt.V b) k = c at hcy hgo hc0
      go_wp2_with (go_at_call 145; refine hT.out.mono ?_; rintro e w1 ⟨rfl, hb1⟩)
      go_ret
      exact ⟨ret_str (by rw [hend.out]), hW.trans (hb1.mono hW.size)⟩
end Go.Proofs.YtjbpipbmcicjiaaGreatDoor
