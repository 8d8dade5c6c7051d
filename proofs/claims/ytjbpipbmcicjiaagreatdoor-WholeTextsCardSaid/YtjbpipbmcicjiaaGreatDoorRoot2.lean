/-
  THE PROGRAM: Root, out of what DivMod answers.
-/
import Derived.Test.YtjbpipbmcicjiaaGreatDoorTwo
import Derived.Test.YtjbpipbmcicjiaaGreatDoorAdd
import Derived.Test.YtjbpipbmcicjiaaGreatDoorCmp
namespace Go.Proofs.YtjbpipbmcicjiaaGreatDoor
open Go.RowKit Go.Shelf

/-- what DivMod is owed: it is proved apart. -/
def DivModOk : Prop := ∀ (a b : ByteArray) (w : World), a.size ≤ 2000 → b.size ≤ 2000 → Calls Tryz.prog 98 #[.string a, .string b] w fun e w' => e = .returned (divOut (Nt.V a) (Nt.V b)) ∧ Below w.heap.size w w'

theorem Nt.size_of_lt (x K M : Nat) (h : x < 2 ^ K) (hk : K ≤ 8 * M) : (Nt.E x).size ≤ M := Nt.size_le2 (Nat.lt_of_lt_of_le h (Nat.pow_le_pow_right (by omega) hk))
theorem Nt.four_le (x q : Nat) : 4 * (x * q) ≤ (x + q) * (x + q) := by
  have key : ∀ q d : Nat, 4 * ((q + d) * q) ≤ (q + d + q) * (q + d + q) ∧ 4 * (q * (q + d)) ≤ (q + (q + d)) * (q + (q + d)) := by
    intro q d
    have h1 : (q + d) * q = q * q + q * d := by rw [Nat.add_mul, Nat.mul_comm d q]
    have h2 : (q + d + q) * (q + d + q) = 4 * (q * q) + 4 * (q * d) + d * d := by
      simp only [Nat.add_mul, Nat.mul_add, Nat.mul_comm d q]; omega
    rw [Nat.mul_comm q (q + d), h1, show q + (q + d) = q + d + q from by omega, h2]; omega
  rcases Nat.le_total q x with h | h
  · obtain ⟨d, rfl⟩ := Nat.exists_eq_add_of_le h
    exact (key q d).1
  · obtain ⟨d, rfl⟩ := Nat.exists_eq_add_of_le h
    exact (key x d).2
theorem Nt.newton (v x : Nat) (hx : 0 < x) : v < ((x + v / x) / 2 + 1) * ((x + v / x) / 2 + 1) := by
  obtain ⟨q, hq⟩ : ∃ q, q = v / x := ⟨_, rfl⟩
  have h1 : v < x * (q + 1) := by rw [hq]; exact Nat.lt_mul_div_succ v hx
  rw [← hq]
  obtain ⟨y, hy⟩ : ∃ y, y = (x + q) / 2 + 1 := ⟨_, rfl⟩
  rw [← hy]
  have h2 : x + (q + 1) ≤ 2 * y := by omega
  have h3 := Nt.four_le x (q + 1)
  have h4 := Nat.mul_le_mul h2 h2
  have h5 : 2 * y * (2 * y) = 4 * (y * y) := by
    rw [Nat.mul_assoc, Nat.mul_left_comm y 2 y]; omega
  omega
theorem Nt.newton_end (v x : Nat) (h : x ≤ (x + v / x) / 2) : x * x ≤ v := by
  have h1 : x ≤ v / x := by omega
  exact Nat.le_trans (Nat.mul_le_mul (Nat.le_refl x) h1) (Nat.mul_div_le v x)
theorem Nt.newton_start (v L : Nat) (h : v < 2 ^ L) : v < (2 ^ ((L + 1) / 2) + 1) * (2 ^ ((L + 1) / 2) + 1) := by
  refine Nat.lt_of_lt_of_le h ?_
  refine Nat.le_trans (Nat.pow_le_pow_right (by omega) (show L ≤ (L + 1) / 2 + (L + 1) / 2 by omega)) ?_
  rw [Nat.pow_add]
  exact Nat.mul_le_mul (by omega) (by omega)

set_option maxRecDepth 100000 in
set_option maxHeartbeats 2000000 in
theorem natRoot_of (hdm : DivModOk) (a : ByteArray) (w : World) (ha : a.size ≤ 1000) :
    Calls Tryz.prog 91 #[.string a] w fun e w' => (∃ r, Nt.IsRoot r (Nt.V a) ∧ e = .returned (.string (Nt.E r))) ∧ Below w.heap.size w w' := by
  have HB := Lib.hid (fun w => natBits_any a w (by omega))
  have hbs := Nt.blen_le_size (Nt.V a)
  have hes := Nt.E_size_V a
  have hlb := Nt.lt_blen (Nt.V a)
  have hb0 := Nt.blen_bounds (Nt.V a)
  have HD := Lib.hid (fun (x : Nat) (hs : (Nt.E x).size ≤ 2000) (h0 : 0 < x) W => (by
    have h := hdm a (Nt.E x) W (by omega) hs
    rw [Nt.V_E, divOut, if_neg (by omega)] at h
    exact h : Calls Tryz.prog 98 #[.string a, .string (Nt.E x)] W fun e w' => e = .returned (.tuple #[.string (Nt.E (Nt.V a / x)), .string (Nt.E (Nt.V a % x)), .int .i64 0]) ∧ Below W.heap.size W w'))
  generalize Nt.V a = v at *
  by_cases h0 : v = 0
  · have hz : Nt.blen v = 0 := by rw [h0]; rfl
    rw [hz] at HB
    have hr : Hid (Nt.IsRoot 0 v) := by subst h0; exact ⟨by omega, by omega⟩
    clear hbs hes hlb h0 hz hb0
    go_enter Tryz.func91, Tryz.ntmps91
    go_wp2_with (go_at_call 105; refine (HB.out _).mono ?_; rintro e w1 ⟨rfl, rfl⟩)
    go_ret
    exact ⟨⟨0, hr.out, rfl⟩, Below.refl _ _⟩
  · have hbb := hb0 h0
    generalize Nt.blen v = L at *
    have hl0 : ((L : Int) == 0) = false := by simp; omega
    have hL1 : 1 ≤ L := hbb.2.2
    have hLb : L ≤ 8000 := by omega
    have hst := Nt.newton_start v L hlb
    obtain ⟨m, hm⟩ : ∃ m, m = (L + 1) / 2 := ⟨_, rfl⟩
    rw [← hm] at hst
    have g1 : IntKind.i64.wrap (((L : Int) + 1).tdiv 2) = (m : Int) := by
      rw [Int.tdiv_eq_ediv_of_nonneg (by omega), show ((L : Int) + 1) / 2 = (m : Int) from by omega]
      exact IntWalk.i64_in _ (by omega)
    have g2 : ((L : Int) + 1) / 2 = (m : Int) := by omega
    have HT := Lib.hid (fun W => twoTo_any m W (by omega))
    have hXv : 2 ^ m + v < 2 ^ (L + 1) := by
      have : 2 ^ m ≤ 2 ^ L := Nat.pow_le_pow_right (by omega) (by omega)
      rw [Nat.pow_succ]; omega
    have hsz := Nt.size_of_lt (2 ^ m + v) (L + 1) 1001 hXv (by omega)
    have hX0 : 0 < 2 ^ m := Nat.two_pow_pos m
    generalize 2 ^ m = X at *
    have hv0 : 0 < v := by omega
    have HSZ := Lib.hid (fun s (h : s ≤ X + v) => Nat.le_trans (Nt.E_size_le h) hsz)
    have HST := Lib.hid hst
    have HAdd := Lib.hid (fun (x q : Nat) (hx : x ≤ X) (hq : q ≤ v) W => (by have h := natAdd_any (Nt.E x) (Nt.E q) W (by have := HSZ.out x (by omega); omega) (by have := HSZ.out q (by omega); omega); simp only [Nt.V_E] at h; exact h : Calls Tryz.prog 83 #[.string (Nt.E x), .string (Nt.E q)] W fun e w' => e = .returned (.string (Nt.E (x + q))) ∧ Below W.heap.size W w'))
    have HShr := Lib.hid (fun (s : Nat) (h : s ≤ X + v) W => (by have h := natShr_any (Nt.E s) 1 W (by have := HSZ.out s h; omega) (by omega); rw [Nt.V_E, show shrNum s 1 = s / 2 from by rw [shrNum, if_neg (by omega)]; rfl] at h; exact h : Calls Tryz.prog 128 #[.string (Nt.E s), .int .i64 1] W fun e w' => e = .returned (.string (Nt.E (s / 2))) ∧ Below W.heap.size W w'))
    have HCmp := Lib.hid (fun (x y : Nat) (hx : x ≤ X + v) (hy : y ≤ X + v) W => (by have h := natCmp_any (Nt.E x) (Nt.E y) W (by have := HSZ.out x hx; omega) (by have := HSZ.out y hy; omega); simp only [Nt.V_E] at h; exact h : Calls Tryz.prog 82 #[.string (Nt.E x), .string (Nt.E y)] W fun e w' => e = .returned (.int .i64 (Nt.cmpZ x y)) ∧ Below W.heap.size W w'))
    clear hst hlb hbs hes hb0 hbb h0 hm hsz hXv
    go_enter Tryz.func91, Tryz.ntmps91
    go_wp2_with (first
      | (go_at_call 105; refine (HB.out _).mono ?_; rintro e w1 ⟨rfl, rfl⟩)
      | (go_at_call 127; refine (HT.out _).mono ?_; rintro e w2 ⟨rfl, hb2⟩))
    go_loopw [4] (fun r wr => ∃ x : Nat, r = .string (Nt.E x) ∧ 0 < x ∧ x ≤ X ∧ v < (x + 1) * (x + 1) ∧ Below w.heap.size w wr) (fun r _ => match r with | .string s => Nt.V s | _ => 0)
    case atStart => exact ⟨X, rfl, by omega, by omega, HST.out, by assumption⟩
    case round =>
      obtain ⟨x, rfl, hx0, hxX, hxv, hW⟩ := hrel
      have hn := Nt.newton v x hx0
      have he := Nt.newton_end v x
      have hq : v / x ≤ v := Nat.div_le_self v x
      have hq0 : x = 1 → v / x = v := fun h => by rw [h, Nat.div_one]
      have hd := HD.out x (by have := HSZ.out x (by omega); omega) hx0
      generalize v / x = q at *
      generalize v % x = rest at *
      have ha1 := HAdd.out x q hxX hq
      have hs1 := HShr.out (x + q) (by omega)
      obtain ⟨y, hy⟩ : ∃ y, y = (x + q) / 2 := ⟨_, rfl⟩
      rw [← hy] at hn he hs1
      have hc1 := HCmp.out y x (by omega) (by omega)
      have hy0 : 0 < y := by
        rcases (by omega : x = 1 ∨ 2 ≤ x) with h | h
        · have := hq0 h; omega
        · omega
      have H1 := Lib.hid hd
      have H2 := Lib.hid ha1
      have H3 := Lib.hid hs1
      have HN := Lib.hid hn
      have HV := Lib.hid hxv
      have hyX : y ≤ x + q := by omega
      clear hd ha1 hs1 hq0 hy hn hxv
      by_cases hge : x ≤ y
      · have hf : Hid (Nt.IsRoot x v) := ⟨he hge, HV.out⟩
        have hz : 0 ≤ Nt.cmpZ y x := by unfold Nt.cmpZ; rw [if_neg (by omega)]; split <;> omega
        generalize Nt.cmpZ y x = z at *
        have H4 := Lib.hid hc1
        clear hc1 he
        go_wp2_with (first
          | (go_at_call 98; refine (H1.out _).mono ?_; rintro e w1 ⟨rfl, hb1⟩)
          | (go_at_call 83; refine (H2.out _).mono ?_; rintro e w2 ⟨rfl, hb2⟩)
          | (go_at_call 128; refine (H3.out _).mono ?_; rintro e w3 ⟨rfl, hb3⟩)
          | (go_at_call 82; refine (H4.out _).mono ?_; rintro e w4 ⟨rfl, hb4⟩))
        go_ret
        have h1 := hW.trans (hb1.mono hW.size)
        have h2 := h1.trans (hb2.mono h1.size)
        have h3 := h2.trans (hb3.mono h2.size)
        exact ⟨⟨x, hf.out, rfl⟩, h3.trans (hb4.mono h3.size)⟩
      · have hz : Nt.cmpZ y x < 0 := by unfold Nt.cmpZ; rw [if_pos (by omega)]; omega
        generalize Nt.cmpZ y x = z at *
        have H4 := Lib.hid hc1
        clear hc1 he
        go_wp2_with (first
          | (go_at_call 98; refine (H1.out _).mono ?_; rintro e w1 ⟨rfl, hb1⟩)
          | (go_at_call 83; refine (H2.out _).mono ?_; rintro e w2 ⟨rfl, hb2⟩)
          | (go_at_call 128; refine (H3.out _).mono ?_; rintro e w3 ⟨rfl, hb3⟩)
          | (go_at_call 82; refine (H4.out _).mono ?_; rintro e w4 ⟨rfl, hb4⟩))
        have h1 := hW.trans (hb1.mono hW.size)
        have h2 := h1.trans (hb2.mono h1.size)
        have h3 := h2.trans (hb3.mono h2.size)
        refine ⟨⟨y, rfl, by omega, by omega, HN.out, h3.trans (hb4.mono h3.size)⟩, ?_⟩
        show Nt.V (Nt.E y) < Nt.V (Nt.E x)
        rw [Nt.V_E, Nt.V_E]; omega
end Go.Proofs.YtjbpipbmcicjiaaGreatDoor
