/-
  THE DOCUMENT'S ANSWERS FOR SMALL NUMBERS: Small, Byte, Of, Bits; the program's Of and Bits.
-/
import Derived.Test.YtolbbmnhcgoooaaDoorSmall
import Derived.Test.YtolbbmnhcgoooaaDoorMem
import Derived.Deep.RegionWith
import Derived.Lib.Small
import Derived.Lib.BitFns
namespace Go.Proofs.YtolbbmnhcgoooaaDoor
open Go.RowKit Go.Shelf

set_option maxRecDepth 100000 in
set_option maxHeartbeats 1000000 in
theorem refSmall_any (s : ByteArray) (w : World) :
    Calls Tryd.prog 11 #[.string s] w fun e w' => e = .returned (.tuple #[.int .u64 (Nt.sm (Nt.V s) : Int), .bool (Nt.smB (Nt.V s))]) ∧ w = w' := by
  obtain ⟨t, ht⟩ : ∃ t, t = Nt.E (Nt.V s) := ⟨_, rfl⟩
  have hV : Nt.V t = Nt.V s := by rw [ht, Nt.V_E]
  have HT := Lib.hid (fun w => (ht ▸ refTrim_any s w : Calls Tryd.prog 15 #[.string s] w fun e w' => e = .returned (.string t) ∧ w = w'))
  by_cases h8 : t.size ≤ 8
  · have h1 := Nt.E_small (ht ▸ h8)
    have hr : Hid (Ending.returned (.tuple #[.int .u64 ((Nt.top t t.size : Nat) : Int), .bool true]) = .returned (.tuple #[.int .u64 (Nt.sm (Nt.V s) : Int), .bool (Nt.smB (Nt.V s))])) :=
      ret_small2 (by rw [Nt.sm, if_pos h1, Nt.top_all, hV]) (by rw [Nt.smB]; simp [h1])
    clear ht hV
    go_enter Tryd.func11, Tryd.ntmps11
    go_wp2_with (go_at_call 15; refine (HT.out _).mono ?_; rintro e w' ⟨rfl, rfl⟩)
    go_loop [4, 5] (fun n i => ∃ k : Nat, k ≤ t.size ∧ i = .int .i64 k ∧ n = .int .u64 ((Nt.top t k : Nat) : Int)) (fun _ i => t.size - (intOf i).toNat)
    case atStart => exact ⟨0, Nat.zero_le _, rfl, by rw [Nt.top_zero]; rfl⟩
    case round =>
      obtain ⟨k, hk, rfl, rfl⟩ := hrel
      by_cases hlt : k < t.size
      · have hs1 := Lib.hid (Nt.top_step t k hlt)
        have hl1 := Nt.top_lt t k hk
        generalize Nt.top t k = n at hs1 hl1
        have hd := UInt8.toNat_lt (t[k]'hlt)
        have hn : n < 72057594037927936 := by
          have : 256 ^ k ≤ 256 ^ 7 := Nat.pow_le_pow_right (by omega) (by omega)
          have h7 : (256 : Nat) ^ 7 = 72057594037927936 := by decide
          omega
        have ho := Lib.hid (or_low n (t[k]'hlt).toNat hn hd)
        clear hn hl1
        go_wp2
        go_round
        case rel => exact ⟨k + 1, by omega, by go_num, by rw [ho.out, hs1.out]⟩
        case measure => simp [intOf]; omega
      · obtain rfl : k = t.size := by omega
        go_wp2
        go_ret2
        exact ⟨hr, rfl⟩
  · have h1 := Nt.E_big (ht ▸ h8)
    have hr := Lib.hid (show Ending.returned (.tuple #[.int .u64 0, .bool false]) = .returned (.tuple #[.int .u64 (Nt.sm (Nt.V s) : Int), .bool (Nt.smB (Nt.V s))]) from ret_small2 (by rw [Nt.sm, if_neg h1]; rfl) (by rw [Nt.smB]; simp [h1]))
    clear ht hV
    go_enter Tryd.func11, Tryd.ntmps11
    go_wp2_with (go_at_call 15; refine (HT.out _).mono ?_; rintro e w' ⟨rfl, rfl⟩)
    go_ret2
    exact ⟨hr.out, rfl⟩

set_option maxRecDepth 100000 in
set_option maxHeartbeats 400000 in
theorem refByte_any (c : Int) (w : World) (h0 : 0 ≤ c) (h1 : c < 256) :
    Calls Tryd.prog 42 #[.int .i64 c] w fun e w' => e = .returned (.string ⟨#[UInt8.ofNat c.toNat]⟩) ∧ Below w.heap.size w w' := by
  have hx := run_text (P := Tryd.prog) 53 9 5 Tryd.underlying53 Tryd.underlying5 Tryd.underlying9 w.heap.size 1 1 [c.toNat] rfl (w.alloc (.cells #[.int .u8 c] 5)) (by
    have e : kV .u8 [c.toNat] = #[.int .u8 c] := by simp [kV]; omega
    rw [e]; exact Blk.new _ _ _)
  simp only [List.map_cons, List.map_nil] at hx
  go_enter Tryd.func42, Tryd.ntmps42
  go_wp2
  go_ret
  exact ⟨rfl, (Below.refl _ _).alloc (Nat.le_refl _) _⟩

set_option maxHeartbeats 4000000 in
set_option maxRecDepth 100000 in
theorem len8_any (x : Int) (w : World) (h0 : 0 ≤ x) (h1 : x ≤ 255) :
    Calls Tryd.prog 44 #[.int .u8 x] w fun e w' => e = .returned (.int .i64 (Lib.bitLen x.toNat)) ∧ w = w' := by
  go_enter Tryd.func44, Tryd.ntmps44
  go_wp2
  go_ret
  exact ⟨ret_int (a := wrap64 (Lib.len8 x)) (by unfold wrap64; exact Lib.len8_int x h0 h1), rfl⟩

theorem and_255 (n : Nat) (hn : n < 18446744073709551616) : bits .and .u64 (n : Int) 255 = ((n % 256 : Nat) : Int) := by
  rw [show (255 : Int) = ((255 : Nat) : Int) from rfl, u64_and_nat _ _ (by omega) (by omega)]
  rw [show 255 = 2 ^ 8 - 1 from rfl, Nat.and_two_pow_sub_one_eq_mod]
theorem str_append (a b : List UInt8) : (⟨a.toArray⟩ : ByteArray) ++ ⟨b.toArray⟩ = ⟨(a ++ b).toArray⟩ := by
  apply ByteArray.ext
  simp
set_option maxRecDepth 100000 in
set_option maxHeartbeats 1000000 in
theorem refOf_any (n : Nat) (w : World) (hn : n < 18446744073709551616) :
    Calls Tryd.prog 13 #[.int .u64 (n : Int)] w fun e w' => e = .returned (.string (Nt.E n)) ∧ Below w.heap.size w w' := by
  have HN := Lib.hid hn
  have hV : Hid (Nt.V ⟨(Nt.be n 8).toArray⟩ = n) := by show Nt.val _ = n; rw [Nt.val_be, Nt.pow8]; exact Nat.mod_eq_of_lt hn
  clear hn
  go_enter Tryd.func13, Tryd.ntmps13
  go_wp2
  go_loopw [0, 3, 4] (fun x s i wr => ∃ k : Nat, k ≤ 8 ∧ i = .int .i64 k ∧ x = .int .u64 (Nt.sh n k : Int) ∧ s = .string ⟨(Nt.be n k).toArray⟩ ∧ Below w.heap.size w wr) (fun _ _ i _ => 8 - (intOf i).toNat)
  case atStart => exact ⟨0, by omega, rfl, by rw [Nt.sh_zero], rfl, Below.refl _ _⟩
  case round =>
    obtain ⟨k, hk, rfl, rfl, rfl, hB⟩ := hrel
    by_cases hlt : k < 8
    · have hA := and_255 (Nt.sh n k) (by have := HN.out; have := Nt.sh_le n k; omega)
      rw [Nt.sh_dig] at hA
      have hd := Nt.dig_lt n k
      have HS := Lib.hid (Nt.sh_succ n k)
      have HB : Hid (Nt.be n (k + 1) = UInt8.ofNat (Nt.dig n k) :: Nt.be n k) := rfl
      generalize Nt.dig n k = d at hd hA HB
      generalize Nt.sh n k = x at hA HS
      have hL : (Nt.be n k).length ≤ 8 := by rw [Nt.be_length]; omega
      go_wp2_with (go_at_call 42; refine (refByte_any _ _ (by omega) (by omega)).mono ?_; rintro e w' ⟨rfl, hb1⟩)
      refine ⟨⟨k + 1, by omega, by go_num, by rw [HS.out]; go_num, ?_, hB.trans (hb1.mono hB.size)⟩, by simp [intOf]; omega⟩
      rw [HB.out, show (⟨#[UInt8.ofNat d]⟩ : ByteArray) = ⟨[UInt8.ofNat d].toArray⟩ from rfl, str_append]
      rfl
    · obtain rfl : k = 8 := by omega
      go_wp2_with (go_at_call 15; refine (refTrim_any _ _).mono ?_; rintro e w' ⟨rfl, rfl⟩)
      go_ret
      exact ⟨ret_str (by rw [hV.out]), hB⟩

theorem bitLen_blen : ∀ n : Fin 256, Lib.bitLen n.1 = Nt.blen n.1 := by decide +kernel
theorem isEmpty_false {t : ByteArray} (h : 0 < t.size) : t.toList.isEmpty = false := by
  rw [ByteArray.toList_eq]
  obtain ⟨⟨l⟩⟩ := t
  cases l with
  | nil => exact absurd h (by decide)
  | cons b l => rfl
theorem isEmpty_true {t : ByteArray} (h : ¬ 0 < t.size) : t.toList.isEmpty = true := by
  rw [ByteArray.toList_eq]
  obtain ⟨⟨l⟩⟩ := t
  cases l with
  | nil => rfl
  | cons b l => exact absurd (show 0 < l.length + 1 by omega) h
set_option maxRecDepth 100000 in
set_option maxHeartbeats 1000000 in
theorem natBits_any (s : ByteArray) (w : World) (hs : s.size ≤ 140737488351232) :
    Calls Tryd.prog 16 #[.string s] w fun e w' => e = .returned (.int .i64 (Nt.blen (Nt.V s) : Int)) ∧ w = w' := by
  obtain ⟨t, ht⟩ : ∃ t, t = Nt.E (Nt.V s) := ⟨_, rfl⟩
  have HT := Lib.hid (fun w => (ht ▸ natTrim_any s w : Calls Tryd.prog 14 #[.string s] w fun e w' => e = .returned (.string t) ∧ w = w'))
  have hts : t.size ≤ 140737488351232 := by rw [ht]; exact Nat.le_trans (Nt.E_size_V s) hs
  by_cases h0 : 0 < t.size
  · have hd := UInt8.toNat_lt (t[0]'h0)
    have hr : Hid ((wrap64 (8 * ((t.size : Int) - 1) + (Lib.bitLen (t[0]'h0).toNat : Int))) = (Nt.blen (Nt.V s) : Int)) := by
      subst ht
      have hb := Lib.bitLen_le8 ⟨_, hd⟩
      have he := bitLen_blen ⟨_, hd⟩
      have ht := Nt.blen_top _ h0
      dsimp only at hb he
      show wrap64 _ = _
      unfold wrap64
      omega
    have hE := isEmpty_false h0
    clear ht
    go_enter Tryd.func16, Tryd.ntmps16
    go_wp2_with (first
      | (go_at_call 14; refine (HT.out _).mono ?_; rintro e w' ⟨rfl, rfl⟩)
      | (go_at_call 44; refine (len8_any _ _ (by omega) (by omega)).mono ?_; rintro e w' ⟨rfl, rfl⟩))
    go_ret
    exact ⟨ret_int hr.out, rfl⟩
  · have hr : Hid (Nt.V s = 0) := Nt.E_nil _ (ht ▸ h0)
    have hE := isEmpty_true h0
    clear ht
    go_enter Tryd.func16, Tryd.ntmps16
    go_wp2_with (go_at_call 14; refine (HT.out _).mono ?_; rintro e w' ⟨rfl, rfl⟩)
    go_ret
    exact ⟨ret_int (a := 0) (by rw [hr.out]; rfl), rfl⟩

set_option maxRecDepth 100000 in
set_option maxHeartbeats 1000000 in
theorem refBits_any (s : ByteArray) (w : World) (hs : s.size ≤ 140737488351232) :
    Calls Tryd.prog 17 #[.string s] w fun e w' => e = .returned (.int .i64 (Nt.blen (Nt.V s) : Int)) ∧ w = w' := by
  obtain ⟨t, ht⟩ : ∃ t, t = Nt.E (Nt.V s) := ⟨_, rfl⟩
  have HT := Lib.hid (fun w => (ht ▸ refTrim_any s w : Calls Tryd.prog 15 #[.string s] w fun e w' => e = .returned (.string t) ∧ w = w'))
  have hts : t.size ≤ 140737488351232 := by rw [ht]; exact Nat.le_trans (Nt.E_size_V s) hs
  by_cases h0 : 0 < t.size
  · have hd := UInt8.toNat_lt (t[0]'h0)
    obtain ⟨d, hdd⟩ : ∃ d, d = (t[0]'h0).toNat := ⟨_, rfl⟩
    have hr : Hid (8 * (t.size - 1) + Nt.blen d = Nt.blen (Nt.V s)) := by
      subst ht
      rw [hdd]
      exact (Nt.blen_top _ h0).symm
    have hb : Nt.blen d ≤ 8 := by rw [hdd]; exact (bitLen_blen ⟨_, hd⟩) ▸ Lib.bitLen_le8 ⟨_, hd⟩
    rw [← hdd] at hd
    have hE := isEmpty_false h0
    have Hd := Lib.hid hdd
    clear ht hdd
    go_enter Tryd.func17, Tryd.ntmps17
    go_wp2_with (go_at_call 15; refine (HT.out _).mono ?_; rintro e w' ⟨rfl, rfl⟩)
    rw [← Hd.out]
    go_loop [3, 4] (fun n c => ∃ (x k : Nat), c = .int .u8 (x : Int) ∧ n = .int .i64 (k : Int) ∧ k + Nt.blen x = 8 * (t.size - 1) + Nt.blen d ∧ x ≤ d) (fun _ c => (intOf c).toNat)
    case atStart => exact ⟨d, 8 * (t.size - 1), rfl, by go_num, rfl, Nat.le_refl _⟩
    case round =>
      obtain ⟨x, k, rfl, rfl, hk, hx⟩ := hrel
      by_cases hz : x = 0
      · subst hz
        have hf : Hid (k = Nt.blen (Nt.V s)) := by rw [← hr.out, ← hk]; rfl
        clear hk
        go_wp2
        go_ret
        exact ⟨ret_int (by rw [hf.out]), rfl⟩
      · have hh := Nt.blen_half hz
        have hpos : 0 < x := by omega
        have hk' : Hid (k + 1 + Nt.blen (x / 2) = 8 * (t.size - 1) + Nt.blen d) := by show _ = _; omega
        have hkb : k ≤ 8 * t.size + 8 := by omega
        clear hh hk hz
        go_wp2
        go_round
        case rel => exact ⟨x / 2, k + 1, by go_num, by go_num, hk'.out, by omega⟩
        case measure => simp [intOf]; omega
  · have hr : Hid (Nt.V s = 0) := Nt.E_nil _ (ht ▸ h0)
    have hE := isEmpty_true h0
    clear ht
    go_enter Tryd.func17, Tryd.ntmps17
    go_wp2_with (go_at_call 15; refine (HT.out _).mono ?_; rintro e w' ⟨rfl, rfl⟩)
    go_ret
    exact ⟨ret_int (a := 0) (by rw [hr.out]; rfl), rfl⟩
end Go.Proofs.YtolbbmnhcgoooaaDoor
