/-
  NUMBERS IN DIGITS, AND HOW OFTEN 2 AND 5 DIVIDE THEM: the document's answers.
-/
import Derived.Test.YtjbpipbmcicjiaaGreatDoorDec7
namespace Go.Proofs.YtjbpipbmcicjiaaGreatDoor
open Go.RowKit Go.Shelf

def DigRel10 (w : World) (n : Nat) (a s i : Value) (wr : World) : Prop := ∃ k : Nat, i = .int .i64 (k : Int) ∧ a = .string (Nt.E (n / 10 ^ k)) ∧ s = .string (Nt.S (Nt.dcs n k)) ∧ (k = 0 ∨ k = 1 ∨ 10 ^ (k - 1) ≤ n) ∧ Below w.heap.size w wr
theorem digit_text (d : Nat) (h : d < 10) : (⟨#[48, 49, 50, 51, 52, 53, 54, 55, 56, 57]⟩ : ByteArray).extract d (d + 1) = Nt.S [48 + d] := by
  have : ∀ d : Fin 10, (⟨#[48, 49, 50, 51, 52, 53, 54, 55, 56, 57]⟩ : ByteArray).extract d.val (d.val + 1) = Nt.S [48 + d.val] := by decide
  exact this ⟨d, h⟩
theorem Nt.lt_ten_few {n k K : Nat} (h : n < 10 ^ K) (hk : 10 ^ k ≤ n) : k < K := (Nat.pow_lt_pow_iff_right (a := 10) (by omega)).1 (Nat.lt_of_le_of_lt hk h)
set_option maxRecDepth 100000 in
set_option maxHeartbeats 2000000 in
theorem refText_of (a : ByteArray) (w : World) (ha : a.size ≤ 2000) :
    Calls Tryz.prog 66 #[.string a] w fun e w' => e = .returned (.string (Nt.D (Nt.V a))) ∧ Below w.heap.size w w' := by
  have HT := Lib.hid (fun w => refTrim_any a w)
  have hes := Nat.le_trans (Nt.E_size_V a) ha
  obtain ⟨n, hn⟩ : ∃ n, n = Nt.V a := ⟨_, rfl⟩
  rw [← hn] at HT hes ⊢
  obtain ⟨k0, hk0⟩ : ∃ k, k = 1000 := ⟨_, rfl⟩
  obtain ⟨K, hK⟩ : ∃ K, K = 5 * k0 := ⟨_, rfl⟩
  have h10 : n < 10 ^ K := by rw [hK]; exact Nt.lt_ten hes (by omega)
  have hK5 : K ≤ 5000 := by omega
  have H10 := Lib.hid h10
  obtain ⟨R, hR⟩ : ∃ R, R = Nt.D n := ⟨_, rfl⟩
  rw [← hR]
  have HR := Lib.hid hR
  clear h10 hn hK hR hk0
  go_enter Tryz.func66, Tryz.ntmps66
  go_wp2_with (go_at_call 58; refine (HT.out _).mono ?_; rintro e w1 ⟨rfl, rfl⟩)
  go_loopw [0, 3, 4] (DigRel10 w n) (fun _ _ i _ => 5000 - (intOf i).toNat)
  case atStart => exact ⟨0, rfl, by rw [Nat.pow_zero, Nat.div_one], rfl, Or.inl rfl, Below.refl _ _⟩
  case round =>
    obtain ⟨k, rfl, rfl, rfl, hk, hW⟩ := hrel
    by_cases hgo : k = 0 ∨ n / 10 ^ k ≠ 0
    · have hk5 : k < 5000 := by
        rcases hgo with h | h
        · omega
        · have hp : 0 < 10 ^ k := Nat.pow_pos (by omega)
          have : 10 ^ k ≤ n := by
            rcases Nat.lt_or_ge n (10 ^ k) with h2 | h2
            · exact absurd (Nat.div_eq_of_lt h2) h
            · exact h2
          exact Nat.lt_of_lt_of_le (Nt.lt_ten_few H10.out this) hK5
      have hk2 : Hid (k + 1 = 0 ∨ k + 1 = 1 ∨ 10 ^ (k + 1 - 1) ≤ n) := by
        rcases hgo with h | h
        · exact Or.inr (Or.inl (by omega))
        · right; right
          rw [Nat.add_sub_cancel]
          rcases Nat.lt_or_ge n (10 ^ k) with h2 | h2
          · exact absurd (Nat.div_eq_of_lt h2) h
          · exact h2
      have hcond : (((k : Int) == 0) = true) ∨ ((((k : Int) == 0) = false) ∧ ¬ (Nt.E (n / 10 ^ k)).toList = [] ∧ (Nt.E (n / 10 ^ k)).toList.isEmpty = false) := by
        by_cases h0 : k = 0
        · left; simp [h0]
        · right
          have h1 : n / 10 ^ k ≠ 0 := by rcases hgo with h | h; exact absurd h h0; exact h
          exact ⟨by simp; omega, E_toList_ne _ h1, by rw [isEmpty_E]; simpa using h1⟩
      have hms := Nat.le_trans (Nt.E_size_le (Nat.div_le_self n (10 ^ k))) hes
      have hdm := fun W => refDivMod_any (Nt.E (n / 10 ^ k)) ⟨#[10]⟩ W (by omega) (by decide)
      have e1 : Nt.V ⟨#[10]⟩ = 10 := by decide
      rw [Nt.V_E, e1, divOut, if_neg (by decide)] at hdm
      have hq : n / 10 ^ k / 10 = n / 10 ^ (k + 1) := by rw [Nat.div_div_eq_div_mul, Nat.pow_succ]
      rw [hq] at hdm
      have hdc := Nt.dcs_one n k
      obtain ⟨d, hd⟩ : ∃ d, d = n / 10 ^ k % 10 := ⟨_, rfl⟩
      have hd10 : d < 10 := by omega
      rw [← hd] at hdm hdc
      have hsm := fun W => refSmall_any (Nt.E d) W
      rw [Nt.V_E, show Nt.sm d = d from by rw [Nt.sm, if_pos (by omega)], show Nt.smB d = true from by rw [Nt.smB]; simp; omega] at hsm
      have hdt := digit_text d hd10
      have happ : Hid (Nt.S [48 + d] ++ Nt.S (Nt.dcs n k) = Nt.S (Nt.dcs n (k + 1))) := by rw [Hid, Nt.S_append, hdc]; rfl
      have hss : (Nt.S [48 + d]).size = 1 := by rw [Nt.S_size]; rfl
      have hss2 : (Nt.S (Nt.dcs n k)).size = k := by rw [Nt.S_size, Nt.dcs_length]
      have HDM := Lib.hid hdm
      have HSM := Lib.hid hsm
      have HW := Lib.hid hW
      generalize Nt.S [48 + d] = D1 at *
      generalize Nt.S (Nt.dcs n k) = Sk at *
      have hD1 : D1.size ≤ 1 := by omega
      have hSk : Sk.size ≤ 5000 := by omega
      generalize Nt.E (n / 10 ^ k) = m at *
      clear hdm hsm hW hd hdc hq e1 hms hk hgo hss hss2
      rcases hcond with hc1 | ⟨hc1, hc2, hc3⟩
      all_goals
        go_wp2_with (first
          | (go_at_call 107; refine (HDM.out _).mono ?_; rintro e w1 ⟨rfl, hb1⟩)
          | (go_at_call 55; refine (HSM.out _).mono ?_; rintro e w2 ⟨rfl, rfl⟩))
        refine ⟨⟨k + 1, by go_num, rfl, by rw [← happ.out], hk2.out, ?_⟩, by simp [intOf]; omega⟩
        exact HW.out.trans (hb1.mono HW.out.size)
    · have hk0 : k ≠ 0 := fun h => hgo (Or.inl h)
      have hz : n / 10 ^ k = 0 := by
        rcases Nat.eq_zero_or_pos (n / 10 ^ k) with h | h
        · exact h
        · exact absurd (Or.inr (by omega)) hgo
      have hp : 0 < 10 ^ k := Nat.pow_pos (by omega)
      have hnk : n < 10 ^ k := by
        rcases Nat.lt_or_ge n (10 ^ k) with h | h
        · exact h
        · have := Nat.div_pos h hp; omega
      have hde : Nt.dcs n k = Nt.dec n := by
        obtain ⟨j, rfl⟩ : ∃ j, k = j + 1 := ⟨k - 1, by omega⟩
        exact Nt.dcs_dec hnk (by rw [Nat.add_sub_cancel] at hk; omega)
      have hSR : Nt.S (Nt.dcs n k) = R := by rw [hde, HR.out]; rfl
      have hze : (Nt.E (n / 10 ^ k)).toList = [] := by rw [hz, ByteArray.toList_eq]; rfl
      have hc1 : ((k : Int) == 0) = false := by simp; omega
      generalize Nt.S (Nt.dcs n k) = Sk at *
      generalize Nt.E (n / 10 ^ k) = m at *
      subst hSR
      clear hk hgo hz hp hnk hde
      go_wp2
      all_goals first
        | (go_ret; exact ⟨rfl, hW⟩)
        | (exfalso; omega)

def OftRel (w : World) (p n : Nat) (a k i : Value) (wr : World) : Prop := ∃ j : Nat, i = .int .i64 (j : Int) ∧ k = .int .i64 (j : Int) ∧ a = .string (Nt.E (n / p ^ j)) ∧ p ^ j ∣ n ∧ Below w.heap.size w wr
end Go.Proofs.YtjbpipbmcicjiaaGreatDoor
