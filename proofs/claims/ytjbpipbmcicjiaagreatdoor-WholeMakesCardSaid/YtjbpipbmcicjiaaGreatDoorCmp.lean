/-
  NUMBERS HELD AGAINST EACH OTHER: in the program, and in the document's answer.
  THE DOCUMENT'S ANSWER FOR DIFFERENCES.
-/
import Derived.Test.YtjbpipbmcicjiaaGreatDoorRef1
namespace Go.Proofs.YtjbpipbmcicjiaaGreatDoor
open Go.RowKit Go.Shelf

namespace Nt
/-- -1, 0 or 1. -/
def cmpZ (n m : Nat) : Int := if n < m then -1 else if n = m then 0 else 1
theorem less_val : ∀ (l k : List UInt8), l.length = k.length → Op.bytesLess l k = decide (val l < val k)
  | [], [], _ => by simp [Op.bytesLess]
  | a :: l, b :: k, h => by
    have hl : l.length = k.length := by simpa using h
    have h1 := val_lt l
    have h2 := val_lt k
    have h3 : a < b ↔ a.toNat < b.toNat := UInt8.lt_iff_toNat_lt
    rw [Op.bytesLess, less_val l k hl, val_cons, val_cons, hl]
    rw [hl] at h1
    rw [Bool.eq_iff_iff]
    simp only [Bool.or_eq_true, Bool.and_eq_true, decide_eq_true_eq, beq_iff_eq]
    constructor
    · rintro (hab | ⟨rfl, hlk⟩)
      · have : (a.toNat + 1) * 256 ^ k.length ≤ b.toNat * 256 ^ k.length := Nat.mul_le_mul_right _ (h3.1 hab)
        rw [Nat.add_mul, Nat.one_mul] at this
        generalize 256 ^ k.length = P at *
        omega
      · omega
    · intro hlt
      by_cases hab : a < b
      · exact .inl hab
      · right
        have hba : b.toNat ≤ a.toNat := Nat.le_of_not_lt (fun h => hab (h3.2 h))
        by_cases he : a.toNat = b.toNat
        · rw [he] at hlt
          exact ⟨UInt8.toNat_inj.1 he, by omega⟩
        · have : (b.toNat + 1) * 256 ^ k.length ≤ a.toNat * 256 ^ k.length := Nat.mul_le_mul_right _ (by omega)
          rw [Nat.add_mul, Nat.one_mul] at this
          generalize 256 ^ k.length = P at *
          omega
theorem enc_inj {n m : Nat} (h : enc n = enc m) : n = m := by rw [← val_enc n, h, val_enc]
theorem enc_less {n m : Nat} (h : (enc n).length = (enc m).length) : Op.bytesLess (enc n) (enc m) = decide (n < m) := by
  rw [less_val _ _ h, val_enc, val_enc]
theorem enc_short {n m : Nat} (h : (enc n).length < (enc m).length) : n < m := by
  rcases Nat.lt_or_ge n m with hlt | hge
  · exact hlt
  · have := enc_length_mono hge
    omega
end Nt
theorem less_self (l : List UInt8) : Op.bytesLess l l = false := by rw [Nt.less_val l l rfl]; simp
theorem E_list (n : Nat) : (Nt.E n).toList = Nt.enc n := by rw [ByteArray.toList_eq]; exact Nt.E_toList n
/-- all that a comparison of two shortest texts may meet. -/
theorem cmp_ways (n m : Nat) :
    (Nt.cmpZ n m = -1 ∧ n < m ∧ ((Nt.E n).size < (Nt.E m).size ∨ ((Nt.E n).size = (Nt.E m).size ∧ Op.bytesLess (Nt.E n).toList (Nt.E m).toList = true))) ∨
    (Nt.cmpZ n m = 0 ∧ n = m) ∨
    (Nt.cmpZ n m = 1 ∧ m < n ∧ ((Nt.E n).toList == (Nt.E m).toList) = false ∧ ((Nt.E m).size < (Nt.E n).size ∨ ((Nt.E n).size = (Nt.E m).size ∧ Op.bytesLess (Nt.E n).toList (Nt.E m).toList = false))) := by
  simp only [E_list, Nt.E_size]
  rcases Nat.lt_trichotomy n m with h | h | h
  · left
    refine ⟨by simp [Nt.cmpZ, h], h, ?_⟩
    have := Nt.enc_length_mono (Nat.le_of_lt h)
    by_cases hl : (Nt.enc n).length < (Nt.enc m).length
    · exact .inl hl
    · exact .inr ⟨by omega, by rw [Nt.enc_less (by omega)]; simpa using h⟩
  · exact .inr (.inl ⟨by simp [Nt.cmpZ, h], h⟩)
  · right; right
    refine ⟨by unfold Nt.cmpZ; rw [if_neg (by omega), if_neg (by omega)], h, ?_, ?_⟩
    · rw [beq_eq_false_iff_ne]
      intro he
      have := Nt.enc_inj he
      omega
    · have := Nt.enc_length_mono (Nat.le_of_lt h)
      by_cases hl : (Nt.enc m).length < (Nt.enc n).length
      · exact .inl hl
      · exact .inr ⟨by omega, by rw [Nt.enc_less (by omega)]; simp; omega⟩

set_option maxRecDepth 100000 in
set_option maxHeartbeats 1000000 in
theorem refCmp_any (a b : ByteArray) (w : World) (ha : a.size ≤ 140737488351232) (hb : b.size ≤ 140737488351232) :
    Calls Tryz.prog 116 #[.string a, .string b] w fun e w' => e = .returned (.int .i64 (Nt.cmpZ (Nt.V a) (Nt.V b))) ∧ w = w' := by
  have hw := cmp_ways (Nt.V a) (Nt.V b)
  have hta := Nat.le_trans (Nt.E_size_V a) ha
  have htb := Nat.le_trans (Nt.E_size_V b) hb
  have HTA := Lib.hid (fun w => refTrim_any a w)
  have HTB := Lib.hid (fun w => refTrim_any b w)
  generalize Nt.V a = n at *
  generalize Nt.V b = m at *
  rcases hw with ⟨h1, _, h3⟩ | ⟨h1, rfl⟩ | ⟨h1, _, h3, h4⟩
  · have H1 := Lib.hid h1
    generalize Nt.cmpZ n m = z at *
    clear h1
    generalize Nt.E n = t at *
    generalize Nt.E m = u at *
    rcases h3 with h3 | ⟨h3, h4⟩
    · go_enter Tryz.func116, Tryz.ntmps116
      go_wp2_with (first
        | (go_at_call_of 58 a; refine (HTA.out _).mono ?_; rintro e w1 ⟨rfl, rfl⟩)
        | (go_at_call_of 58 b; refine (HTB.out _).mono ?_; rintro e w1 ⟨rfl, rfl⟩))
      go_ret
      exact ⟨ret_int H1.out.symm, rfl⟩
    · have h5 : t.size ≤ u.size := by omega
      have h6 : u.size ≤ t.size := by omega
      clear h3
      go_enter Tryz.func116, Tryz.ntmps116
      go_wp2_with (first
        | (go_at_call_of 58 a; refine (HTA.out _).mono ?_; rintro e w1 ⟨rfl, rfl⟩)
        | (go_at_call_of 58 b; refine (HTB.out _).mono ?_; rintro e w1 ⟨rfl, rfl⟩))
      go_ret
      exact ⟨ret_int H1.out.symm, rfl⟩
  · have H1 := Lib.hid h1
    generalize Nt.cmpZ n n = z at *
    clear h1
    have hbl := less_self (Nt.E n).toList
    generalize Nt.E n = t at *
    all_goals
      go_enter Tryz.func116, Tryz.ntmps116
      go_wp2_with (first
        | (go_at_call_of 58 a; refine (HTA.out _).mono ?_; rintro e w1 ⟨rfl, rfl⟩)
        | (go_at_call_of 58 b; refine (HTB.out _).mono ?_; rintro e w1 ⟨rfl, rfl⟩))
      go_ret
      exact ⟨ret_int H1.out.symm, rfl⟩
  · have H1 := Lib.hid h1
    generalize Nt.cmpZ n m = z at *
    clear h1
    generalize Nt.E n = t at *
    generalize Nt.E m = u at *
    rcases h4 with h4 | ⟨h4, h5⟩
    · go_enter Tryz.func116, Tryz.ntmps116
      go_wp2_with (first
        | (go_at_call_of 58 a; refine (HTA.out _).mono ?_; rintro e w1 ⟨rfl, rfl⟩)
        | (go_at_call_of 58 b; refine (HTB.out _).mono ?_; rintro e w1 ⟨rfl, rfl⟩))
      go_ret
      exact ⟨ret_int H1.out.symm, rfl⟩
    · have h6 : t.size ≤ u.size := by omega
      have h7 : u.size ≤ t.size := by omega
      clear h4
      go_enter Tryz.func116, Tryz.ntmps116
      go_wp2_with (first
        | (go_at_call_of 58 a; refine (HTA.out _).mono ?_; rintro e w1 ⟨rfl, rfl⟩)
        | (go_at_call_of 58 b; refine (HTB.out _).mono ?_; rintro e w1 ⟨rfl, rfl⟩))
      go_ret
      exact ⟨ret_int H1.out.symm, rfl⟩

/-- -1, 0 or 1, of ints. -/
def cmpI (x y : Int) : Int := if x < y then -1 else if x = y then 0 else 1
set_option maxRecDepth 100000 in
set_option maxHeartbeats 400000 in
theorem isNaNInt_any (x : Int) (w : World) :
    Calls Tryz.prog 150 #[.int .i64 x] w fun e w' => e = .returned (.bool false) ∧ w = w' := by
  go_enter Tryz.func150, Tryz.ntmps150
  go_wp2
  go_ret
  exact ⟨ret_bool (by simp), rfl⟩
set_option maxRecDepth 100000 in
set_option maxHeartbeats 400000 in
theorem isNaNStr_any (x : ByteArray) (w : World) :
    Calls Tryz.prog 151 #[.string x] w fun e w' => e = .returned (.bool false) ∧ w = w' := by
  go_enter Tryz.func151, Tryz.ntmps151
  go_wp2
  go_ret
  exact ⟨ret_bool (by simp), rfl⟩
set_option maxRecDepth 100000 in
set_option maxHeartbeats 1000000 in
theorem compareInt_any (x y : Int) (w : World) :
    Calls Tryz.prog 120 #[.int .i64 x, .int .i64 y] w fun e w' => e = .returned (.int .i64 (cmpI x y)) ∧ w = w' := by
  have hr : Hid (cmpI x y = if x < y then -1 else if x = y then 0 else 1) := rfl
  generalize cmpI x y = z at *
  go_enter Tryz.func120, Tryz.ntmps120
  go_wp2_with (go_at_call 150; refine (isNaNInt_any _ _).mono ?_; rintro e w1 ⟨rfl, rfl⟩)
  all_goals
    go_ret
    refine ⟨ret_int ?_, rfl⟩
    rw [hr.out]
    repeat (first | rw [if_pos (by omega)] | rw [if_neg (by omega)])
    try rfl
set_option maxRecDepth 100000 in
set_option maxHeartbeats 1000000 in
theorem compareStr_any (x y : ByteArray) (w : World) :
    Calls Tryz.prog 121 #[.string x, .string y] w fun e w' => e = .returned (.int .i64 (if Op.bytesLess x.toList y.toList = true then -1 else if (x.toList == y.toList) = true then 0 else 1)) ∧ w = w' := by
  obtain ⟨p, hp⟩ : ∃ p, p = Op.bytesLess x.toList y.toList := ⟨_, rfl⟩
  obtain ⟨q, hq⟩ : ∃ q, q = (x.toList == y.toList) := ⟨_, rfl⟩
  rw [← hp, ← hq]
  cases p <;> cases q
  all_goals
    have hp' := hp.symm
    have hq' := hq.symm
    clear hp hq
    go_enter Tryz.func121, Tryz.ntmps121
    go_wp2_with (go_at_call 151; refine (isNaNStr_any _ _).mono ?_; rintro e w1 ⟨rfl, rfl⟩)
    go_ret
    exact ⟨rfl, rfl⟩

set_option maxRecDepth 100000 in
set_option maxHeartbeats 1000000 in
theorem or2_any (g : Nat) (x y : Int) (w : World) (hb : Blk w g 3 #[.int .i64 x, .int .i64 y]) :
    Calls Tryz.prog 119 #[.slice (some ⟨g, 0, none⟩) 2 2] w fun e w' => e = .returned (.int .i64 (if x = 0 then y else x)) ∧ w = w' := by
  have hc0 : w.cell? ⟨g, 0, none⟩ = some (.int .i64 x) := by rw [hb.cell]; rfl
  have hc1 : w.cell? ⟨g, 1, none⟩ = some (.int .i64 y) := by rw [hb.cell]; rfl
  obtain ⟨z, hz⟩ : ∃ z, z = if x = 0 then y else x := ⟨_, rfl⟩
  rw [← hz]
  have hr := Lib.hid hz
  clear hb hz
  go_enter Tryz.func119, Tryz.ntmps119
  go_wp2
  go_loop [8] (fun i => ∃ k : Nat, k ≤ 2 ∧ i = .int .i64 k ∧ (1 ≤ k → x = 0) ∧ (2 ≤ k → y = 0)) (fun i => 2 - (intOf i).toNat)
  case atStart => exact ⟨0, by omega, rfl, by omega, by omega⟩
  case round =>
    obtain ⟨k, hk, rfl, h1, h2⟩ := hrel
    by_cases k2 : 2 ≤ k
    · obtain rfl : k = 2 := by omega
      have hx := Lib.hid (h1 (by omega))
      have hy := Lib.hid (h2 (by omega))
      clear h1 h2
      go_wp2
      go_ret
      exact ⟨ret_int (a := 0) (by rw [hr.out, if_pos hx.out, hy.out]), rfl⟩
    · by_cases k1 : 1 ≤ k
      · obtain rfl : k = 1 := by omega
        have hx := Lib.hid (h1 (by omega))
        clear h1 h2
        by_cases y0 : y = 0
        · have hy : (y != 0) = false := by simp [y0]
          have HY := Lib.hid y0
          clear y0
          go_wp2
          go_round
          case rel => exact ⟨2, by omega, rfl, fun _ => hx.out, fun _ => HY.out⟩
          case measure => simp [intOf]
        · have hy : (y != 0) = true := by simp [y0]
          clear y0
          go_wp2
          go_ret
          exact ⟨ret_int (a := y) (by rw [hr.out, if_pos hx.out]), rfl⟩
      · obtain rfl : k = 0 := by omega
        clear h1 h2
        by_cases x0 : x = 0
        · have hx : (x != 0) = false := by simp [x0]
          have HX := Lib.hid x0
          clear x0
          go_wp2
          go_round
          case rel => exact ⟨1, by omega, rfl, fun _ => HX.out, by omega⟩
          case measure => simp [intOf]
        · have hx : (x != 0) = true := by simp [x0]
          have HX := Lib.hid x0
          clear x0
          go_wp2
          go_ret
          exact ⟨ret_int (a := x) (by rw [hr.out, if_neg HX.out]), rfl⟩

theorem cmp_join (n m : Nat) : (if cmpI ((Nt.E n).size : Int) ((Nt.E m).size : Int) = 0 then (if Op.bytesLess (Nt.E n).toList (Nt.E m).toList = true then (-1 : Int) else if ((Nt.E n).toList == (Nt.E m).toList) = true then 0 else 1) else cmpI ((Nt.E n).size : Int) ((Nt.E m).size : Int)) = Nt.cmpZ n m := by
  unfold cmpI
  rcases cmp_ways n m with ⟨h1, _, h3 | ⟨h3, h4⟩⟩ | ⟨h1, rfl⟩ | ⟨h1, _, h3, h4 | ⟨h4, h5⟩⟩
  · rw [if_pos (show ((Nt.E n).size : Int) < (Nt.E m).size by omega), h1]; rfl
  · rw [if_neg (show ¬ ((Nt.E n).size : Int) < (Nt.E m).size by omega), if_pos (show ((Nt.E n).size : Int) = (Nt.E m).size by omega), if_pos rfl, if_pos h4, h1]
  · rw [h1, less_self]; simp
  · rw [if_neg (show ¬ ((Nt.E n).size : Int) < (Nt.E m).size by omega), if_neg (show ¬ ((Nt.E n).size : Int) = (Nt.E m).size by omega), h1]; rfl
  · rw [if_neg (show ¬ ((Nt.E n).size : Int) < (Nt.E m).size by omega), if_pos (show ((Nt.E n).size : Int) = (Nt.E m).size by omega), if_pos rfl, h5, h3, h1]; rfl

set_option maxRecDepth 100000 in
set_option maxHeartbeats 1000000 in
theorem natCmp_any (a b : ByteArray) (w : World) (ha : a.size ≤ 140737488351232) (hb : b.size ≤ 140737488351232) :
    Calls Tryz.prog 82 #[.string a, .string b] w fun e w' => e = .returned (.int .i64 (Nt.cmpZ (Nt.V a) (Nt.V b))) ∧ Below w.heap.size w w' := by
  have hj := Lib.hid (cmp_join (Nt.V a) (Nt.V b))
  have hta := Nat.le_trans (Nt.E_size_V a) ha
  have htb := Nat.le_trans (Nt.E_size_V b) hb
  have HTA := Lib.hid (fun w => natTrim_any a w)
  have HTB := Lib.hid (fun w => natTrim_any b w)
  generalize Nt.cmpZ (Nt.V a) (Nt.V b) = z at *
  generalize Nt.E (Nt.V a) = t at *
  generalize Nt.E (Nt.V b) = u at *
  have HI := Lib.hid (fun w => compareInt_any (t.size : Int) (u.size : Int) w)
  have HS := Lib.hid (fun w => compareStr_any t u w)
  generalize cmpI (t.size : Int) (u.size : Int) = x at *
  generalize (if Op.bytesLess t.toList u.toList = true then (-1 : Int) else if (t.toList == u.toList) = true then 0 else 1) = y at *
  have ho := or2_any w.heap.size x y (w.alloc (.cells #[.int .i64 x, .int .i64 y] 3)) (Blk.new _ _ _)
  rw [hj.out] at ho
  have HO := Lib.hid ho
  clear ho
  go_enter Tryz.func82, Tryz.ntmps82
  go_wp2_with (first
    | (go_at_call_of 57 a; refine (HTA.out _).mono ?_; rintro e w1 ⟨rfl, rfl⟩)
    | (go_at_call_of 57 b; refine (HTB.out _).mono ?_; rintro e w1 ⟨rfl, rfl⟩)
    | (go_at_call 120; refine (HI.out _).mono ?_; rintro e w1 ⟨rfl, rfl⟩)
    | (go_at_call 121; refine (HS.out _).mono ?_; rintro e w1 ⟨rfl, rfl⟩)
    | (go_at_call 119; refine HO.out.mono ?_; rintro e w1 ⟨rfl, rfl⟩))
  go_ret
  exact ⟨rfl, (Below.refl _ _).alloc (Nat.le_refl _) _⟩
end Go.Proofs.YtjbpipbmcicjiaaGreatDoor
namespace Go.Proofs.YtjbpipbmcicjiaaGreatDoor
open Go.RowKit Go.Shelf

set_option maxRecDepth 100000 in
set_option maxHeartbeats 2000000 in
theorem refSub_pos (a b : ByteArray) (w : World) (ha : a.size ≤ 100000) (hb : b.size ≤ 100000) (hle : Nt.V b ≤ Nt.V a) :
    Calls Tryz.prog 117 #[.string a, .string b] w fun e w' => e = .returned (.string (Nt.E (Nt.V a - Nt.V b))) ∧ Below w.heap.size w w' := by
  obtain ⟨i0, hi, hz0, hz1, hz2⟩ := info_parts Tryz.infoInt
  have ha' : a.size ≤ maxLen := by unfold maxLen; omega
  have hb' : b.size ≤ maxLen := by unfold maxLen; omega
  have HA := Lib.hid (Nt.V_lt a)
  have HBb := Lib.hid (Nt.V_lt b)
  have HLE := Lib.hid hle
  have HC := Lib.hid (fun w => refCmp_any a b w (by omega) (by omega))
  have hz : 0 ≤ Nt.cmpZ (Nt.V a) (Nt.V b) := by unfold Nt.cmpZ; rw [if_neg (by omega)]; split <;> omega
  generalize Nt.cmpZ (Nt.V a) (Nt.V b) = z at *
  clear hle
  go_enter Tryz.func117, Tryz.ntmps117
  go_wp2_with (go_at_call 116; refine (HC.out _).mono ?_; rintro e w1 ⟨rfl, rfl⟩)
  go_loopw [5, 6, 7] (fun v c i wr => ∃ k : Nat, k ≤ max a.size b.size ∧ i = .int .i64 k ∧ c = .int .i64 (Nt.bw (Nt.V a) (Nt.V b) k : Int) ∧ wr.ownsRow w.heap.size 3 1 v k (ints (Nt.low (Nt.V a - Nt.V b) k)) ∧ Below w.heap.size w wr) (fun _ _ i _ => max a.size b.size - (intOf i).toNat)
  case atStart => exact ⟨0, by omega, rfl, by rw [Nt.bw_zero]; rfl, World.ownsRow_nil _ _ _ _, Below.refl _ _⟩
  case round =>
    obtain ⟨k, hk, rfl, rfl, hO, hW⟩ := hrel
    have hbw := Nt.bw_le (Nt.V a) (Nt.V b) k
    by_cases hgo : k < a.size ∨ k < b.size
    · have hkM : k < max a.size b.size := by omega
      have hst := Nt.bw_step HLE.out k
      have hda := Nt.dig_lt (Nt.V a) k
      have hdb := Nt.dig_lt (Nt.V b) k
      have hds := Nt.dig_lt (Nt.V a - Nt.V b) k
      have hRA := Lib.hid (fun W => refAt_any a k W ha')
      have hRB := Lib.hid (fun W => refAt_any b k W hb')
      have HL := Lib.hid (Nt.low_succ (Nt.V a - Nt.V b) k)
      have hc1 := Nt.bw_le (Nt.V a) (Nt.V b) (k + 1)
      generalize Nt.bw (Nt.V a) (Nt.V b) k = c at hbw hst
      obtain ⟨c', hc'⟩ : ∃ c', c' = Nt.bw (Nt.V a) (Nt.V b) (k + 1) := ⟨_, rfl⟩
      rw [← hc'] at hst hc1
      have HC' := Lib.hid hc'
      clear hc'
      generalize Nt.dig (Nt.V a) k = x at hst hda hRA
      generalize Nt.dig (Nt.V b) k = y at hst hdb hRB
      generalize Nt.dig (Nt.V a - Nt.V b) k = d at hst hds HL
      have Hst := Lib.hid hst
      have hk1 : k + 1 ≤ maxLen := by unfold maxLen; omega
      have hk2 : (k + 1) * 8 ≤ 140737488355328 := by omega
      have HWS := Lib.hid (fun o : Obj => show w.heap.size ≤ (wr.alloc o).heap.size by simp; have := hW.size; omega)
      by_cases hneg : (x : Int) - y - c < 0
      · have e1 : c' = 1 := by omega
        have hd : Hid ((x : Int) - y - c + 256 = (d : Int)) := by show _ = _; omega
        subst e1
        clear hst
        go_wp2_with (first
          | (go_at_call_of 144 a; refine (hRA.out _).mono ?_; rintro e w1 ⟨rfl, rfl⟩)
          | (go_at_call_of 144 b; refine (hRB.out _).mono ?_; rintro e w1 ⟨rfl, rfl⟩)
          | (at_builtin; refine wpList_append_own _ rfl _ _ 118 rfl w.heap.size 3 i0 (.int .i64 0) 1 8 Tryz.underlying118 hi hz0 hz1 hz2 rfl (by decide) _ _ _ rfl (hO.alloc _) ⟨wr.heap.size, 0, none⟩ 1 1 [.int .i64 ((x : Int) - y - c + 256)] rfl rfl (cell_one_new _ _ _) (by simp [Value.oneCell']) hk1 hk2 (HWS.out _) ?_; intro v1 w2 hown1 hgrow1 _))
        all_goals first
          | (exfalso; omega)
          | (refine ⟨⟨k + 1, by omega, by go_num, ?_, ?_, ?_⟩, by simp [intOf]; omega⟩
             · rw [← HC'.out]; rfl
             · rw [hd.out] at hown1; rw [HL.out, ← ints_snoc]; exact hown1
             · exact (hW.alloc hW.size _).grown hgrow1 (HWS.out _) (fun j hj => (hO.lt j hj).1))
      · have e1 : c' = 0 := by omega
        have hd : Hid ((x : Int) - y - c = (d : Int)) := by show _ = _; omega
        subst e1
        clear hst
        go_wp2_with (first
          | (go_at_call_of 144 a; refine (hRA.out _).mono ?_; rintro e w1 ⟨rfl, rfl⟩)
          | (go_at_call_of 144 b; refine (hRB.out _).mono ?_; rintro e w1 ⟨rfl, rfl⟩)
          | (at_builtin; refine wpList_append_own _ rfl _ _ 118 rfl w.heap.size 3 i0 (.int .i64 0) 1 8 Tryz.underlying118 hi hz0 hz1 hz2 rfl (by decide) _ _ _ rfl (hO.alloc _) ⟨wr.heap.size, 0, none⟩ 1 1 [.int .i64 ((x : Int) - y - c)] rfl rfl (cell_one_new _ _ _) (by simp [Value.oneCell']) hk1 hk2 (HWS.out _) ?_; intro v1 w2 hown1 hgrow1 _))
        all_goals first
          | (exfalso; omega)
          | (refine ⟨⟨k + 1, by omega, by go_num, ?_, ?_, ?_⟩, by simp [intOf]; omega⟩
             · rw [← HC'.out]; rfl
             · rw [hd.out] at hown1; rw [HL.out, ← ints_snoc]; exact hown1
             · exact (hW.alloc hW.size _).grown hgrow1 (HWS.out _) (fun j hj => (hO.lt j hj).1))
    · have hend : Hid (Nt.lb (Nt.low (Nt.V a - Nt.V b) k) = Nt.V a - Nt.V b) := by
        rw [Hid, Nt.lb_low]
        have h1 : Nt.V a < 256 ^ k := Nat.lt_of_lt_of_le HA.out (Nat.pow_le_pow_right (by omega) (by omega))
        exact Nat.mod_eq_of_lt (by omega)
      have hT := Lib.hid (refTurned_own (Nt.low (Nt.V a - Nt.V b) k) _ k _ wr (Nt.low_length _ _) (by omega) (Nt.low_lt _ _) hO)
      generalize Nt.bw (Nt.V a) (Nt.V b) k = c at hbw
      go_wp2_with (go_at_call 145; refine hT.out.mono ?_; rintro e w1 ⟨rfl, hb1⟩)
      go_ret
      exact ⟨ret_str (by rw [hend.out]), hW.trans (hb1.mono hW.size)⟩
set_option maxRecDepth 100000 in
set_option maxHeartbeats 2000000 in
theorem refSub_any (a b : ByteArray) (w : World) (ha : a.size ≤ 100000) (hb : b.size ≤ 100000) :
    Calls Tryz.prog 117 #[.string a, .string b] w fun e w' => e = .returned (.string (Nt.E (Nt.V a - Nt.V b))) ∧ Below w.heap.size w w' := by
  by_cases hle : Nt.V b ≤ Nt.V a
  · exact refSub_pos a b w ha hb hle
  · have hr : Hid (Nt.E (Nt.V a - Nt.V b) = ⟨#[]⟩) := by rw [Hid, show Nt.V a - Nt.V b = 0 from by omega]; rfl
    have HC := Lib.hid (fun w => refCmp_any a b w (by omega) (by omega))
    have hz : Nt.cmpZ (Nt.V a) (Nt.V b) < 0 := by unfold Nt.cmpZ; rw [if_pos (by omega)]; omega
    generalize Nt.cmpZ (Nt.V a) (Nt.V b) = z at *
    clear hle
    go_enter Tryz.func117, Tryz.ntmps117
    go_wp2_with (go_at_call 116; refine (HC.out _).mono ?_; rintro e w1 ⟨rfl, rfl⟩)
    go_ret
    exact ⟨ret_str hr.out.symm, Below.refl _ _⟩
end Go.Proofs.YtjbpipbmcicjiaaGreatDoor
