/-
  NUMBERS IN DIGITS: the program's Text, how many digits.
-/
import Derived.Test.YtjbpipbmcicjiaaGreatDoorDec4
namespace Go.Proofs.YtjbpipbmcicjiaaGreatDoor
open Go.RowKit Go.Shelf

theorem Nt.cuts_enough (v : Nat) : v < 10 ^ (9 * (Nt.blen v / 29 + 1)) := by
  have h := Nt.lt_blen v
  refine Nat.lt_of_lt_of_le h (Nat.le_trans (Nat.pow_le_pow_right (by omega) (show Nt.blen v ≤ 29 * (Nt.blen v / 29 + 1) by omega)) ?_)
  rw [Nat.pow_mul, Nat.pow_mul]
  exact Nat.pow_le_pow_left (by decide) _
def TextRel (w : World) (n m c G : Nat) (a i : Value) (wr : World) : Prop := ∃ (j : Nat) (t : ByteArray), j ≤ c ∧ i = .int .i64 (j : Int) ∧ a = .string t ∧ Nt.V t = n / 10 ^ (9 * j) ∧ t.size ≤ 2000 ∧
  Blk wr G 5 (kV .u8 (fnL (Nt.tail n m j) m)) ∧ Below w.heap.size w wr
theorem D_zero : Nt.D 0 = ⟨#[48]⟩ := by decide
set_option maxRecDepth 100000 in
set_option maxHeartbeats 2000000 in
theorem natText_of (a : ByteArray) (w : World) (ha : a.size ≤ 2000) :
    Calls Tryz.prog 64 #[.string a] w fun e w' => e = .returned (.string (Nt.D (Nt.V a))) ∧ Below w.heap.size w w' := by
  have HB := Lib.hid (fun w => natBits_any a w (by omega))
  have hes := Nt.E_size_V a
  have hcu := Nt.cuts_enough (Nt.V a)
  have hbs := Nt.blen_le_size (Nt.V a)
  obtain ⟨n, hn⟩ : ∃ n, n = Nt.V a := ⟨_, rfl⟩
  rw [← hn] at HB hcu hes hbs ⊢
  obtain ⟨L, hL⟩ : ∃ L, L = Nt.blen n := ⟨_, rfl⟩
  rw [← hL] at HB hcu hbs
  have hL2 : L ≤ 16000 := by omega
  obtain ⟨c, hc⟩ : ∃ c, c = L / 29 + 1 := ⟨_, rfl⟩
  rw [← hc] at hcu
  obtain ⟨m, hm⟩ : ∃ m, m = 9 * c := ⟨_, rfl⟩
  rw [← hm] at hcu
  have hc2 : c ≤ 1000 := by omega
  have g1 : (L : Int) / 29 + 1 = (c : Int) := by omega
  have g2 : (9 : Int) * (c : Int) = (m : Int) := by omega
  have hm2 : m ≤ 9000 := by omega
  have hmk := fun W => run_zeros (P := Tryz.prog) 94 5 .u8 1 Tryz.underlying94 Tryz.infoU8 m (by omega) (by omega) W
  have HCU := Lib.hid hcu
  have HN := Lib.hid hn
  have HM := Lib.hid hm
  clear hcu hn hm hc hL hes hbs
  go_enter Tryz.func64, Tryz.ntmps64
  go_wp2_with (go_at_call 105; refine (HB.out _).mono ?_; rintro e w1 ⟨rfl, rfl⟩)
  go_loopw [0, 19] (TextRel w n m c w.heap.size) (fun _ i _ => c - (intOf i).toNat)
  case atStart => exact ⟨0, a, by omega, rfl, rfl, by rw [Nat.mul_zero, Nat.pow_zero, Nat.div_one]; exact HN.out.symm, ha, by rw [Nt.tail_zero]; exact Blk.new _ _ _, (Below.refl _ _).alloc (Nat.le_refl _) _⟩
  case round =>
    obtain ⟨j, t, hj, rfl, rfl, ht, hts, hK, hW⟩ := hrel
    by_cases hlt : j < c
    · have hdm := fun W => divMod_ok t ⟨#[59, 154, 202, 0]⟩ W hts (by decide)
      have e1 : Nt.V ⟨#[59, 154, 202, 0]⟩ = 1000000000 := by decide
      rw [e1, divOut, if_neg (by decide), ht] at hdm
      have hq : n / 10 ^ (9 * j) / 1000000000 = n / 10 ^ (9 * (j + 1)) := by
        rw [Nat.div_div_eq_div_mul, show (1000000000 : Nat) = 10 ^ 9 from by decide, ← Nat.pow_add, show 9 * j + 9 = 9 * (j + 1) from by omega]
      rw [hq] at hdm
      obtain ⟨p, hp⟩ : ∃ p, p + 9 + 9 * j = m := ⟨m - 9 - 9 * j, by have := HM.out; omega⟩
      have hw9 := Nt.tail_next n m j p hp
      have hxl : n / 10 ^ (9 * j) % 1000000000 < 1000000000 := Nat.mod_lt _ (by omega)
      have hqs : (Nt.E (n / 10 ^ (9 * (j + 1)))).size ≤ 2000 := by
        refine Nat.le_trans (Nt.E_size_le (m := Nt.V t) ?_) (Nat.le_trans (Nt.E_size_V t) hts)
        rw [ht, ← hq]; exact Nat.div_le_self _ _
      have hwn := fun (W : World) (hb : Blk W w.heap.size 5 (kV .u8 (fnL (Nt.tail n m j) m))) cap => writeNine_any w.heap.size p cap (n / 10 ^ (9 * j) % 1000000000) m (Nt.tail n m j) W hxl (by omega) hb
      rw [hw9] at hwn
      have HD := Lib.hid hdm
      have HWN := Lib.hid hwn
      have HK := Lib.hid hK
      have HW := Lib.hid hW
      have HP := Lib.hid hp
      generalize n / 10 ^ (9 * j) % 1000000000 = x at *
      have g3 : (m : Int) - 9 * (j : Int) = ((p + 9 : Nat) : Int) := by omega
      obtain ⟨en, hen⟩ : ∃ en, en = p + 9 := ⟨_, rfl⟩
      rw [← hen] at g3
      have g4 : (en : Int) - 9 = (p : Int) := by omega
      have g5 : en - p = 9 := by omega
      have g6 : en ≤ m := by omega
      have g7 : p ≤ en := by omega
      clear hdm hwn hK hW hp hw9 hxl ht hts hq e1 hen
      go_wp2_with (first
        | (go_at_call 98; with_reducible refine (HD.out _).mono ?_; rintro e w1 ⟨rfl, hb1⟩; have HK1 := Lib.hid (HK.out.below hb1 HK.out.lt))
        | (go_at_call 106; refine (HWN.out _ HK1.out _).mono ?_; rintro e w2 ⟨⟨rfl, hk2⟩, hb2⟩))
      exact ⟨⟨j + 1, _, by omega, by go_num, rfl, by rw [Nt.V_E], hqs, hk2, (HW.out.trans (hb1.mono HW.out.size)).trans hb2⟩, by simp [intOf]; omega⟩
    · have hj2 : j = c := by omega
      subst hj2
      have hT := run_text (P := Tryz.prog) 94 9 5 Tryz.underlying94 Tryz.underlying5 Tryz.underlying9 w.heap.size m m _ (fnL_length _ _) wr hK
      have hfn : fnL (Nt.tail n m j) m = Nt.dcs n m := by rw [HM.out]; exact Nt.tail_all n j
      rw [hfn] at hT
      obtain ⟨T, hTd⟩ : ∃ T : ByteArray, T = ⟨((Nt.dcs n m).map UInt8.ofNat).toArray⟩ := ⟨_, rfl⟩
      rw [← hTd] at hT
      have htl := fun W => Tryz.strings_TrimLeft_one T 48 (by decide) W
      have hdz : Lib.trimLeftB T.data.toList 48 = (if n = 0 then [] else Nt.dec n).map UInt8.ofNat := by
        unfold Lib.trimLeftB
        rw [hTd]
        show ((Nt.dcs n m).map UInt8.ofNat).dropWhile (· == 48) = _
        rw [Nt.drop_zeros _ (Nt.dcs_lt n m), Nt.dcs_trim HCU.out]
      rw [hdz] at htl
      by_cases hn0 : n = 0
      · rw [if_pos hn0] at htl
        have e2 : (⟨(([] : List Nat).map UInt8.ofNat).toArray⟩ : ByteArray) = ⟨#[]⟩ := rfl
        rw [e2] at htl
        have HTL := Lib.hid htl
        have hf : Hid (Nt.D n = ⟨#[48]⟩) := by rw [Hid, hn0]; exact D_zero
        have HW := Lib.hid hW
        clear htl hdz hTd hfn hK hW hn0 e2
        go_wp2_with (go_at_call 96; refine (HTL.out _).mono ?_; rintro e w1 ⟨rfl, rfl⟩)
        go_ret
        exact ⟨ret_str hf.out.symm, HW.out⟩
      · rw [if_neg hn0] at htl
        have e2 : (⟨((Nt.dec n).map UInt8.ofNat).toArray⟩ : ByteArray) = Nt.D n := rfl
        rw [e2] at htl
        have hne : ¬ (Nt.D n).toList = [] := by
          rw [ByteArray.toList_eq, Nt.D, Nt.S_toList]
          intro h; exact Nt.dec_ne n (List.map_eq_nil_iff.1 h)
        have hne2 : (Nt.D n).toList.isEmpty = false := by simpa using hne
        obtain ⟨R, hR⟩ : ∃ R, R = Nt.D n := ⟨_, rfl⟩
        rw [← hR] at htl hne hne2
        have HTL := Lib.hid htl
        have HW := Lib.hid hW
        have HR := Lib.hid hR
        clear htl hdz hTd hfn hK hW hn0 e2 hR
        go_wp2_with (go_at_call 96; refine (HTL.out _).mono ?_; rintro e w1 ⟨rfl, rfl⟩)
        go_ret
        exact ⟨ret_str HR.out, HW.out⟩
end Go.Proofs.YtjbpipbmcicjiaaGreatDoor
