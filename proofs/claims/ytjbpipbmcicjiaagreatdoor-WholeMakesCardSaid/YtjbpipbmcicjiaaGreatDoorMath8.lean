/-
  PLAIN MATHS FOR A LONG DIVISION: windows of words, carries, borrows, a guessed digit.
  PLAIN MATHS FOR A LONG DIVISION: a borrow's bit, shifts of words, what is left round by round.
-/
import Derived.Test.YtjbpipbmcicjiaaGreatDoorLimbs1
namespace Go.Proofs.YtjbpipbmcicjiaaGreatDoor
open Go.RowKit Go.Shelf

/-- a list by its places. -/
def fnL (f : Nat → Nat) (m : Nat) : List Nat := (List.range m).map f
theorem fnL_length (f : Nat → Nat) (m : Nat) : (fnL f m).length = m := by simp [fnL]
theorem fnL_get (f : Nat → Nat) (m i : Nat) (h : i < (fnL f m).length) : (fnL f m)[i] = f i := by simp [fnL]
theorem fnL_ext {f g : Nat → Nat} {m : Nat} (h : ∀ k, k < m → f k = g k) : fnL f m = fnL g m := by
  apply List.ext_getElem (by simp [fnL])
  intro i h1 h2
  rw [fnL_length] at h1
  rw [fnL_get, fnL_get, h i h1]
theorem fnL_set {f g : Nat → Nat} {m i v : Nat} (hi : g i = v) (h : ∀ k, k < m → k ≠ i → f k = g k) : (fnL f m).set i v = fnL g m := by
  apply List.ext_getElem (by simp [fnL])
  intro k h1 h2
  rw [List.length_set, fnL_length] at h1
  rw [List.getElem_set, fnL_get, fnL_get]
  by_cases e : i = k
  · subst e; rw [if_pos rfl, hi]
  · rw [if_neg e, h k h1 (fun e' => e e'.symm)]
theorem Nt.wds_fn (N m : Nat) : Nt.wds N m = fnL (Nt.wd N) m := rfl

/-- L's words, but those of a window from p on, as far as i, are Z's. -/
def Nt.mixf (L p i Z k : Nat) : Nat := if p ≤ k ∧ k < p + i then Nt.wd Z (k - p) else Nt.wd L k
theorem Nt.mix_zero (L p Z m : Nat) : fnL (Nt.mixf L p 0 Z) m = Nt.wds L m := by
  rw [Nt.wds_fn]; exact fnL_ext fun k _ => by unfold Nt.mixf; rw [if_neg (by omega)]
theorem Nt.mix_next (L p i Z : Nat) : Nt.mixf L p i Z (p + i) = Nt.wd L (p + i) := by unfold Nt.mixf; rw [if_neg (by omega)]
theorem Nt.mix_set (L p i Z m : Nat) : (fnL (Nt.mixf L p i Z) m).set (p + i) (Nt.wd Z i) = fnL (Nt.mixf L p (i + 1) Z) m := by
  apply fnL_set
  · unfold Nt.mixf; rw [if_pos (by omega), Nat.add_sub_cancel_left]
  · intro k _ hk
    unfold Nt.mixf
    by_cases h : p ≤ k ∧ k < p + i
    · rw [if_pos h, if_pos (by omega)]
    · rw [if_neg h, if_neg (by omega)]
theorem Nt.mixf_lt (L p i Z k : Nat) : Nt.mixf L p i Z k < 4294967296 := by unfold Nt.mixf; split <;> exact Nt.wd_lt _ _
theorem Nt.wd_low (n p i : Nat) (h : i < p) : Nt.wd (n % 4294967296 ^ p) i = Nt.wd n i := by
  obtain ⟨t, rfl⟩ : ∃ t, p = i + 1 + t := ⟨p - (i + 1), by omega⟩
  unfold Nt.wd
  rw [Nat.pow_add, Nat.mod_mul, Nat.pow_succ]
  have hi : 0 < 4294967296 ^ i := Nat.pow_pos (by omega)
  rw [Nat.mul_assoc, Nat.add_mul_div_left _ _ hi, Nat.mod_mul, Nat.add_mul_div_left _ _ hi, Nat.div_eq_of_lt (Nat.mod_lt _ hi)]
  omega
theorem Nt.wd_high (n p i : Nat) : Nt.wd (n / 4294967296 ^ p) i = Nt.wd n (p + i) := by
  unfold Nt.wd; rw [Nat.pow_add, Nat.div_div_eq_div_mul]
theorem Nt.wd_zero {n i : Nat} (h : n < 4294967296 ^ i) : Nt.wd n i = 0 := by simp [Nt.wd, Nat.div_eq_of_lt h]
theorem Nt.wd_zero_le {n i m : Nat} (h : n < 4294967296 ^ m) (hm : m ≤ i) : Nt.wd n i = 0 := Nt.wd_zero (Nat.lt_of_lt_of_le h (Nat.pow_le_pow_right (by omega) hm))
theorem Nt.mix_end (L p n Z m : Nat) (hL : L < 4294967296 ^ (p + n)) (hZ : Z < 4294967296 ^ n) : fnL (Nt.mixf L p n Z) m = Nt.wds (L % 4294967296 ^ p + Z * 4294967296 ^ p) m := by
  rw [Nt.wds_fn]
  refine fnL_ext fun k _ => ?_
  have hp : 0 < 4294967296 ^ p := Nat.pow_pos (by omega)
  have hlo := Nat.mod_lt L hp
  unfold Nt.mixf
  by_cases h : k < p
  · rw [if_neg (by omega), ← Nt.wd_low _ p k h, ← Nt.wd_low (L % 4294967296 ^ p + Z * 4294967296 ^ p) p k h, Nat.add_mul_mod_self_right, Nat.mod_mod]
  · obtain ⟨j, rfl⟩ : ∃ j, k = p + j := ⟨k - p, by omega⟩
    have e : Nt.wd (L % 4294967296 ^ p + Z * 4294967296 ^ p) (p + j) = Nt.wd Z j := by
      rw [← Nt.wd_high, Nat.add_mul_div_right _ _ hp, Nat.div_eq_of_lt hlo, Nat.zero_add]
    rw [e, Nat.add_sub_cancel_left]
    by_cases h2 : j < n
    · rw [if_pos (by omega)]
    · rw [if_neg (by omega), Nt.wd_zero_le hL (by omega), Nt.wd_zero_le hZ (by omega)]

theorem Nt.wmod_succ (n k : Nat) : n % 4294967296 ^ (k + 1) = n % 4294967296 ^ k + 4294967296 ^ k * Nt.wd n k := by
  rw [Nat.pow_succ, Nat.mod_mul, Nt.wd]
/-- what a sum carries above its k lowest words. -/
def Nt.wcy (a b k : Nat) : Nat := (a % 4294967296 ^ k + b % 4294967296 ^ k) / 4294967296 ^ k
theorem Nt.wcy_zero (a b : Nat) : Nt.wcy a b 0 = 0 := by simp [Nt.wcy, Nat.mod_one]
theorem Nt.wcy_step (a b k : Nat) : Nt.wd a k + Nt.wd b k + Nt.wcy a b k = Nt.wd (a + b) k + 4294967296 * Nt.wcy a b (k + 1) := by
  have hp : 0 < 4294967296 ^ k := Nat.pow_pos (by omega)
  have ha := Nt.wmod_succ a k
  have hb := Nt.wmod_succ b k
  have hA := Nt.wd_lt a k
  have hB := Nt.wd_lt b k
  unfold Nt.wcy
  have e1 : (a % 4294967296 ^ (k + 1) + b % 4294967296 ^ (k + 1)) / 4294967296 ^ (k + 1) = ((a % 4294967296 ^ k + b % 4294967296 ^ k) / 4294967296 ^ k + (Nt.wd a k + Nt.wd b k)) / 4294967296 := by
    rw [ha, hb, Nat.pow_succ, ← Nat.div_div_eq_div_mul]
    rw [show a % 4294967296 ^ k + 4294967296 ^ k * Nt.wd a k + (b % 4294967296 ^ k + 4294967296 ^ k * Nt.wd b k) = a % 4294967296 ^ k + b % 4294967296 ^ k + 4294967296 ^ k * (Nt.wd a k + Nt.wd b k) from by rw [Nat.mul_add]; omega]
    rw [Nat.add_mul_div_left _ _ hp]
  have e2 : Nt.wd (a + b) k = ((a % 4294967296 ^ k + b % 4294967296 ^ k) / 4294967296 ^ k + (Nt.wd a k + Nt.wd b k)) % 4294967296 := by
    unfold Nt.wd
    have h1 : a = a % 4294967296 ^ k + 4294967296 ^ k * (a / 4294967296 ^ k) := (Nat.mod_add_div a (4294967296 ^ k)).symm
    have h2 : b = b % 4294967296 ^ k + 4294967296 ^ k * (b / 4294967296 ^ k) := (Nat.mod_add_div b (4294967296 ^ k)).symm
    have h3 : (a + b) / 4294967296 ^ k = (a % 4294967296 ^ k + b % 4294967296 ^ k) / 4294967296 ^ k + (a / 4294967296 ^ k + b / 4294967296 ^ k) := by
      conv => lhs; rw [h1, h2]
      rw [show a % 4294967296 ^ k + 4294967296 ^ k * (a / 4294967296 ^ k) + (b % 4294967296 ^ k + 4294967296 ^ k * (b / 4294967296 ^ k)) = a % 4294967296 ^ k + b % 4294967296 ^ k + 4294967296 ^ k * (a / 4294967296 ^ k + b / 4294967296 ^ k) from by rw [Nat.mul_add]; omega]
      rw [Nat.add_mul_div_left _ _ hp]
    rw [h3]
    omega
  rw [e1, e2]
  omega
theorem Nt.wcy_le (a b k : Nat) : Nt.wcy a b k ≤ 1 := by
  have hp : 0 < 4294967296 ^ k := Nat.pow_pos (by omega)
  have h1 := Nat.mod_lt a hp
  have h2 := Nat.mod_lt b hp
  unfold Nt.wcy
  have : (a % 4294967296 ^ k + b % 4294967296 ^ k) / 4294967296 ^ k < 2 := by
    rw [Nat.div_lt_iff_lt_mul hp]; omega
  omega
/-- what a difference owes above its k lowest words. -/
def Nt.wbw (a b k : Nat) : Nat := if a % 4294967296 ^ k < b % 4294967296 ^ k then 1 else 0
theorem Nt.wbw_zero (a b : Nat) : Nt.wbw a b 0 = 0 := by simp [Nt.wbw, Nat.mod_one]
theorem Nt.wbw_le (a b k : Nat) : Nt.wbw a b k ≤ 1 := by unfold Nt.wbw; split <;> omega
theorem Nt.wbw_step {a b : Nat} (h : b ≤ a) (k : Nat) : Nt.wd a k + 4294967296 * Nt.wbw a b (k + 1) = Nt.wd (a - b) k + Nt.wd b k + Nt.wbw a b k := by
  obtain ⟨c, rfl⟩ : ∃ c, a = b + c := ⟨a - b, by omega⟩
  rw [Nat.add_sub_cancel_left]
  have hs := Nt.wcy_step b c k
  have hk : ∀ j, Nt.wbw (b + c) b j = Nt.wcy b c j := fun j => by
    have hp : 0 < 4294967296 ^ j := Nat.pow_pos (by omega)
    have h1 := Nat.mod_lt b hp
    have h2 := Nat.mod_lt c hp
    unfold Nt.wbw Nt.wcy
    rw [Nat.add_mod]
    by_cases hlt : b % 4294967296 ^ j + c % 4294967296 ^ j < 4294967296 ^ j
    · rw [Nat.mod_eq_of_lt hlt, if_neg (by omega), Nat.div_eq_of_lt hlt]
    · have e : (b % 4294967296 ^ j + c % 4294967296 ^ j) % 4294967296 ^ j = b % 4294967296 ^ j + c % 4294967296 ^ j - 4294967296 ^ j := by
        rw [Nat.mod_eq_sub_mod (by omega), Nat.mod_eq_of_lt (by omega)]
      have e2 : (b % 4294967296 ^ j + c % 4294967296 ^ j) / 4294967296 ^ j = 1 := by
        rw [Nat.div_eq_iff hp]; omega
      rw [e, e2, if_pos (by omega)]
  rw [hk, hk]
  have := Nt.wd_lt c k
  omega
/-- P without X in n words, and one more above if X is more. -/
def Nt.zof (P X n : Nat) : Nat := P + 4294967296 ^ n - X
theorem Nt.zof_step (P X n k : Nat) (hk : k < n) (hX : X ≤ 4294967296 ^ n) : Nt.wd P k + 4294967296 * Nt.wbw P X (k + 1) = Nt.wd (Nt.zof P X n) k + Nt.wd X k + Nt.wbw P X k := by
  have h := Nt.wbw_step (a := P + 4294967296 ^ n) (b := X) (by omega) k
  have e : ∀ j, j ≤ n → (P + 4294967296 ^ n) % 4294967296 ^ j = P % 4294967296 ^ j := fun j hj => by
    obtain ⟨t, rfl⟩ : ∃ t, n = j + t := ⟨n - j, by omega⟩
    rw [Nat.pow_add, Nat.add_mul_mod_self_left]
  have e1 : Nt.wd (P + 4294967296 ^ n) k = Nt.wd P k := by rw [← Nt.wd_low _ (k + 1) k (by omega), e (k + 1) (by omega), Nt.wd_low _ (k + 1) k (by omega)]
  have e2 : ∀ j, j ≤ n → Nt.wbw (P + 4294967296 ^ n) X j = Nt.wbw P X j := fun j hj => by unfold Nt.wbw; rw [e j hj]
  rw [e1, e2 k (by omega), e2 (k + 1) (by omega)] at h
  exact h
theorem Nt.wbw_all (P X n : Nat) (hP : P < 4294967296 ^ n) (hX : X < 4294967296 ^ n) : Nt.wbw P X n = if P < X then 1 else 0 := by
  unfold Nt.wbw; rw [Nat.mod_eq_of_lt hP, Nat.mod_eq_of_lt hX]
/-- what a product carries: t times the i lowest words of V. -/
def Nt.tcy (t V i : Nat) : Nat := t * (V % 4294967296 ^ i) / 4294967296 ^ i
theorem Nt.tcy_zero (t V : Nat) : Nt.tcy t V 0 = 0 := by simp [Nt.tcy, Nat.mod_one]
theorem Nt.tcy_lt (t V i : Nat) (ht : t < 4294967296) : Nt.tcy t V i < 4294967296 := by
  have hp : 0 < 4294967296 ^ i := Nat.pow_pos (by omega)
  unfold Nt.tcy
  rw [Nat.div_lt_iff_lt_mul hp]
  exact Nat.lt_of_le_of_lt (Nat.mul_le_mul_left t (Nat.le_of_lt (Nat.mod_lt V hp))) (Nat.mul_lt_mul_of_pos_right ht hp)
theorem Nt.tcy_step (t V i : Nat) : (Nt.tcy t V i + Nt.wd V i * t) % 4294967296 = Nt.wd (t * V) i ∧ (Nt.tcy t V i + Nt.wd V i * t) / 4294967296 = Nt.tcy t V (i + 1) := by
  have hp : 0 < 4294967296 ^ i := Nat.pow_pos (by omega)
  have e : t * (V % 4294967296 ^ (i + 1)) / 4294967296 ^ i = Nt.tcy t V i + Nt.wd V i * t := by
    rw [Nt.wmod_succ, Nat.mul_add, ← Nat.mul_assoc, Nat.mul_comm t (4294967296 ^ i), Nat.mul_assoc, Nat.add_mul_div_left _ _ hp, Nat.mul_comm t (Nt.wd V i)]
    rfl
  constructor
  · rw [← e]
    have h2 : t * V = t * (V % 4294967296 ^ (i + 1)) + 4294967296 ^ i * (4294967296 * (t * (V / 4294967296 ^ (i + 1)))) := by
      conv => lhs; rw [← Nat.mod_add_div V (4294967296 ^ (i + 1))]
      rw [Nat.mul_add, Nat.pow_succ]
      congr 1
      rw [← Nat.mul_assoc, Nat.mul_comm t, Nat.mul_assoc, Nat.mul_assoc]
    have h3 : t * V / 4294967296 ^ i = t * (V % 4294967296 ^ (i + 1)) / 4294967296 ^ i + 4294967296 * (t * (V / 4294967296 ^ (i + 1))) := by
      conv => lhs; rw [h2]
      rw [Nat.add_mul_div_left _ _ hp]
    unfold Nt.wd
    rw [h3]; omega
  · rw [← e, Nt.tcy, Nat.pow_succ, ← Nat.div_div_eq_div_mul]
theorem Nt.tcy_sum (t V i : Nat) (ht : t < 4294967296) : Nt.tcy t V i + Nt.wd V i * t < 18446744073709551616 := by
  have h1 := Nt.tcy_lt t V i ht
  have h2 : Nt.wd V i * t ≤ 4294967295 * 4294967295 := Nat.mul_le_mul (by have := Nt.wd_lt V i; omega) (by omega)
  omega

/-- a digit that is guessed out of two words of the divisor, three of what is divided: the right one, or one more. -/
theorem Nt.guess_le {g F S A p P V n : Nat} (hV1 : (F * 4294967296 + S) * 4294967296 ^ n ≤ V) (hP : (A * 4294967296 + p) * 4294967296 ^ n ≤ P)
    (hV2 : V < (F * 4294967296 + S + 1) * 4294967296 ^ n) (hF : 0 < F) (hg : g < 4294967296) (h : g * (F * 4294967296 + S) ≤ A * 4294967296 + p) : g ≤ P / V + 1 := by
  have hB : 0 < 4294967296 ^ n := Nat.pow_pos (by omega)
  have hVp : 0 < V := Nat.lt_of_lt_of_le (Nat.mul_pos (by omega) hB) hV1
  rcases Nat.eq_zero_or_pos g with h0 | h0
  · rw [h0]; exact Nat.zero_le _
  · have : g - 1 ≤ P / V := by
      rw [Nat.le_div_iff_mul_le hVp]
      obtain ⟨k, rfl⟩ : ∃ k, g = k + 1 := ⟨g - 1, by omega⟩
      rw [Nat.add_sub_cancel]
      refine Nat.le_trans (Nat.mul_le_mul_left k (Nat.le_of_lt hV2)) (Nat.le_trans ?_ hP)
      rw [← Nat.mul_assoc]
      refine Nat.mul_le_mul_right _ (Nat.le_trans ?_ h)
      rw [Nat.mul_add k, Nat.mul_one, Nat.add_mul, Nat.one_mul]
      omega
    exact (Nat.sub_le_iff_le_add).1 this
theorem Nt.guess_more {g F S A p P V n : Nat} (hV1 : (F * 4294967296 + S) * 4294967296 ^ n ≤ V) (hP : P < (A * 4294967296 + p + 1) * 4294967296 ^ n) (hF : 0 < F)
    (h : A * 4294967296 + p < g * (F * 4294967296 + S)) : P / V < g := by
  have hB : 0 < 4294967296 ^ n := Nat.pow_pos (by omega)
  have hVp : 0 < V := Nat.lt_of_lt_of_le (Nat.mul_pos (by omega) hB) hV1
  rw [Nat.div_lt_iff_lt_mul hVp]
  refine Nat.lt_of_lt_of_le hP (Nat.le_trans ?_ (Nat.mul_le_mul_left g hV1))
  rw [← Nat.mul_assoc]
  exact Nat.mul_le_mul_right _ h
theorem Nt.guess_first {F S A p P V n : Nat} (hV1 : (F * 4294967296 + S) * 4294967296 ^ n ≤ V) (hP : P < (A * 4294967296 + p + 1) * 4294967296 ^ n) (hF : 0 < F) (hp : p < 4294967296) : P / V ≤ A / F := by
  have h := Nt.guess_more (g := A / F + 1) hV1 hP hF (by
    have h1 := Nat.mod_add_div A F
    have h2 := Nat.mod_lt A hF
    have h3 : (A / F + 1) * (F * 4294967296 + S) = (F * (A / F) + F) * 4294967296 + (A / F + 1) * S := by
      rw [Nat.mul_add]
      congr 1
      rw [← Nat.mul_assoc, Nat.add_mul, Nat.one_mul, Nat.mul_comm F]
    rw [h3]
    omega)
  omega
/-- the two or three highest words of a number, and what stands below. -/
theorem Nt.top2 (V n : Nat) (hV : V < 4294967296 ^ (n + 2)) : (Nt.wd V (n + 1) * 4294967296 + Nt.wd V n) * 4294967296 ^ n ≤ V ∧ V < (Nt.wd V (n + 1) * 4294967296 + Nt.wd V n + 1) * 4294967296 ^ n := by
  have hB : 0 < 4294967296 ^ n := Nat.pow_pos (by omega)
  have e : V / 4294967296 ^ n = Nt.wd V (n + 1) * 4294967296 + Nt.wd V n := by
    rw [Nt.wd_join V n, Nt.wd_join V (n + 1), Nat.div_eq_of_lt hV, Nat.zero_mul, Nat.zero_add]
  rw [← e]
  have h1 := Nat.mod_add_div V (4294967296 ^ n)
  have h2 := Nat.mod_lt V hB
  rw [Nat.mul_comm (V / _), Nat.mul_comm (V / _ + 1), Nat.mul_add]
  omega
theorem Nt.top3 (P n : Nat) (hP : P < 4294967296 ^ (n + 3)) : ((Nt.wd P (n + 2) * 4294967296 + Nt.wd P (n + 1)) * 4294967296 + Nt.wd P n) * 4294967296 ^ n ≤ P ∧ P < ((Nt.wd P (n + 2) * 4294967296 + Nt.wd P (n + 1)) * 4294967296 + Nt.wd P n + 1) * 4294967296 ^ n := by
  have hB : 0 < 4294967296 ^ n := Nat.pow_pos (by omega)
  have e : P / 4294967296 ^ n = (Nt.wd P (n + 2) * 4294967296 + Nt.wd P (n + 1)) * 4294967296 + Nt.wd P n := by
    rw [Nt.wd_join P n, Nt.wd_join P (n + 1), Nt.wd_join P (n + 2), Nat.div_eq_of_lt hP, Nat.zero_mul, Nat.zero_add]
  rw [← e]
  have h1 := Nat.mod_add_div P (4294967296 ^ n)
  have h2 := Nat.mod_lt P hB
  rw [Nat.mul_comm (P / _), Nat.mul_comm (P / _ + 1), Nat.mul_add]
  omega
/-! shifts of words. -/
theorem Nt.up_round (U by' i : Nat) :
    (U % 4294967296 ^ (i + 1)) * 2 ^ by' = (U % 4294967296 ^ i) * 2 ^ by' + Nt.wd U i * 2 ^ by' * 4294967296 ^ i := by
  rw [Nt.wmod_succ, Nat.add_mul]
  congr 1
  rw [Nat.mul_assoc, Nat.mul_comm]
end Go.Proofs.YtjbpipbmcicjiaaGreatDoor
namespace Go.Proofs.YtjbpipbmcicjiaaGreatDoor
open Go.RowKit Go.Shelf

theorem Nt.bit_or (a b : Nat) : (a ||| b) / 2147483648 = a / 2147483648 ||| b / 2147483648 := Nat.or_div_two_pow (n := 31)
theorem Nt.bit_and (a b : Nat) : (a &&& b) / 2147483648 = a / 2147483648 &&& b / 2147483648 := Nat.and_div_two_pow (n := 31)
theorem Nt.bit_xor (a b : Nat) : (a ^^^ b) / 2147483648 = a / 2147483648 ^^^ b / 2147483648 := Nat.xor_div_two_pow (n := 31)
theorem Nt.sub_borrow (x y b d : Nat) (hx : x < 4294967296) (hy : y < 4294967296) (hb : b ≤ 1) (hd : d = (x + 4294967296 - y - b) % 4294967296) :
    (((4294967295 ^^^ x) &&& y) ||| ((4294967295 ^^^ (x ^^^ y)) &&& d)) / 2147483648 = if x < y + b then 1 else 0 := by
  rw [Nt.bit_or, Nt.bit_and, Nt.bit_and, Nt.bit_xor, Nt.bit_xor, Nt.bit_xor]
  have h1 : x / 2147483648 = 0 ∨ x / 2147483648 = 1 := by omega
  have h2 : y / 2147483648 = 0 ∨ y / 2147483648 = 1 := by omega
  have h3 : d / 2147483648 = 0 ∨ d / 2147483648 = 1 := by omega
  have e : (4294967295 : Nat) / 2147483648 = 1 := rfl
  rcases h1 with h1 | h1 <;> rcases h2 with h2 | h2 <;> rcases h3 with h3 | h3 <;> rw [e, h1, h2, h3] <;> simp only [Nat.xor_zero, Nat.zero_xor, Nat.xor_self, Nat.and_zero, Nat.zero_and, Nat.and_self, Nat.or_zero, Nat.zero_or, Nat.or_self] <;> split <;> omega

/-- a number's i lowest words, times 2^s. -/
def Nt.ups (U s i : Nat) : Nat := U % 4294967296 ^ i * 2 ^ s
theorem Nt.ups_zero (U s : Nat) : Nt.ups U s 0 = 0 := by simp [Nt.ups, Nat.mod_one]
theorem Nt.two_split32 (s : Nat) (hs : s < 32) : 2 ^ s * 2 ^ (32 - s) = 4294967296 := by
  rw [← Nat.pow_add, show s + (32 - s) = 32 from by omega]
theorem Nt.shift_mod (x s : Nat) (hs : s < 32) : x * 2 ^ s % 4294967296 = x % 2 ^ (32 - s) * 2 ^ s := by
  rw [← Nt.two_split32 s hs, Nat.mul_comm x, Nat.mul_mod_mul_left, Nat.mul_comm]
theorem Nt.carry_div (c X : Nat) (h : c + X % 4294967296 < 4294967296) (h5 : X < 4294967296 * 4294967296) : (c + X) / 4294967296 % 4294967296 = X / 4294967296 := by omega
theorem Nt.ups_set (U s i m : Nat) (hs : s < 32) :
    ((Nt.wds (Nt.ups U s i) m).set i (Nt.wd (Nt.ups U s i) i ||| Nt.wd U i * 2 ^ s % 4294967296)).set (i + 1) (Nt.wd U i * 2 ^ s / 4294967296) = Nt.wds (Nt.ups U s (i + 1)) m := by
  have hp : 0 < 4294967296 ^ i := Nat.pow_pos (by omega)
  have h2 : 0 < 2 ^ s := Nat.two_pow_pos s
  have hlt : Nt.ups U s i < 4294967296 ^ i * 2 ^ s := Nat.mul_lt_mul_of_pos_right (Nat.mod_lt U hp) h2
  have hsp := Nt.two_split32 s hs
  have hs2 : 2 ^ s < 4294967296 := Nat.pow_lt_pow_right (m := s) (n := 32) (by omega) hs
  have hstep : Nt.ups U s (i + 1) = Nt.ups U s i + Nt.wd U i * 2 ^ s * 4294967296 ^ i := Nt.up_round U s i
  have hxb := Nt.wd_lt U i
  have hc : Nt.ups U s i / 4294967296 ^ i < 2 ^ s := by rw [Nat.div_lt_iff_lt_mul hp, Nat.mul_comm]; exact hlt
  have hdiv : Nt.ups U s (i + 1) / 4294967296 ^ i = Nt.ups U s i / 4294967296 ^ i + Nt.wd U i * 2 ^ s := by rw [hstep, Nat.add_mul_div_right _ _ hp]
  have hmod := Nt.shift_mod (Nt.wd U i) s hs
  have hml := Nat.mod_lt (Nt.wd U i) (Nat.two_pow_pos (32 - s))
  have hroom : Nt.ups U s i / 4294967296 ^ i + Nt.wd U i * 2 ^ s % 4294967296 < 4294967296 := by
    rw [hmod]
    have h4 : (Nt.wd U i % 2 ^ (32 - s) + 1) * 2 ^ s ≤ 2 ^ (32 - s) * 2 ^ s := Nat.mul_le_mul_right _ hml
    rw [Nat.mul_comm (2 ^ (32 - s)), hsp, Nat.add_mul, Nat.one_mul] at h4
    omega
  have hsame : ∀ k, k < i → Nt.wd (Nt.ups U s (i + 1)) k = Nt.wd (Nt.ups U s i) k := fun k hk => by
    rw [← Nt.wd_low _ i k hk, hstep, Nat.add_mul_mod_self_right, Nt.wd_low _ i k hk]
  have hat : Nt.wd (Nt.ups U s (i + 1)) i = Nt.wd (Nt.ups U s i) i ||| Nt.wd U i * 2 ^ s % 4294967296 := by
    have e1 : Nt.wd (Nt.ups U s i) i = Nt.ups U s i / 4294967296 ^ i := by unfold Nt.wd; exact Nat.mod_eq_of_lt (by omega)
    have e2 : Nt.wd (Nt.ups U s (i + 1)) i = Nt.ups U s i / 4294967296 ^ i + Nt.wd U i * 2 ^ s % 4294967296 := by
      show Nt.ups U s (i + 1) / 4294967296 ^ i % 4294967296 = _
      rw [hdiv]; omega
    rw [e1, e2, hmod, Nat.or_comm, Nat.mul_comm (Nt.wd U i % _), ← Nat.two_pow_add_eq_or_of_lt hc, Nat.add_comm]
  have hab : Nt.wd (Nt.ups U s (i + 1)) (i + 1) = Nt.wd U i * 2 ^ s / 4294967296 := by
    show Nt.ups U s (i + 1) / 4294967296 ^ (i + 1) % 4294967296 = _
    rw [Nat.pow_succ, ← Nat.div_div_eq_div_mul, hdiv]
    exact Nt.carry_div _ _ hroom (Nat.mul_lt_mul'' hxb hs2)
  have hbig : Nt.ups U s (i + 1) < 4294967296 ^ (i + 2) := by
    have h6 : Nt.ups U s (i + 1) < 4294967296 ^ (i + 1) * 2 ^ s := Nat.mul_lt_mul_of_pos_right (Nat.mod_lt U (Nat.pow_pos (by omega))) h2
    exact Nat.lt_trans h6 (Nat.mul_lt_mul_of_pos_left hs2 (Nat.pow_pos (by omega)))
  have hsml : Nt.ups U s i < 4294967296 ^ (i + 1) := Nat.lt_trans hlt (Nat.mul_lt_mul_of_pos_left hs2 hp)
  have h0 : ∀ k, i + 1 < k → Nt.wd (Nt.ups U s (i + 1)) k = Nt.wd (Nt.ups U s i) k := fun k hk => by
    rw [Nt.wd_zero_le hbig (by omega), Nt.wd_zero_le hsml (by omega)]
  apply List.ext_getElem (by simp [Nt.wds])
  intro k h7 h8
  rw [List.getElem_set, Nt.wds_get]
  by_cases h9 : i + 1 = k
  · subst h9; rw [if_pos rfl, hab]
  · rw [if_neg h9, List.getElem_set]
    by_cases h10 : i = k
    · subst h10; rw [if_pos rfl, hat]
    · rw [if_neg h10, Nt.wds_get]
      rcases Nat.lt_or_ge k i with h | h
      · rw [hsame k h]
      · rw [h0 k (by omega)]
theorem Nt.ups_all {U n : Nat} (s : Nat) (h : U < 4294967296 ^ n) : Nt.ups U s n = U * 2 ^ s := by rw [Nt.ups, Nat.mod_eq_of_lt h]

theorem Nt.join2 (B a b c w0 w1 : Nat) (h1 : a = b * B + w0) (h3 : b = c * B + w1) : a = w1 * B + w0 + B * (B * c) := by
  rw [h1, h3, Nat.add_mul, Nat.mul_comm B (B * c), Nat.mul_comm B c]
  omega
/-- two words, shifted down. -/
theorem Nt.down_word (L s i : Nat) (hs : s < 32) : (Nt.wd L (i + 1) * 4294967296 + Nt.wd L i) / 2 ^ s % 4294967296 = Nt.wd (L / 2 ^ s) i := by
  have h2 : 0 < 2 ^ s := Nat.two_pow_pos s
  have hsp := Nt.two_split32 s hs
  have e : L / 4294967296 ^ i = (Nt.wd L (i + 1) * 4294967296 + Nt.wd L i) + 2 ^ s * (4294967296 * (2 ^ (32 - s) * (L / 4294967296 ^ (i + 2)))) := by
    have h1 := Nt.wd_join L i
    have h3 : L / 4294967296 ^ (i + 1) = L / 4294967296 ^ (i + 2) * 4294967296 + Nt.wd L (i + 1) := Nt.wd_join L (i + 1)
    have h4 : 2 ^ s * (4294967296 * (2 ^ (32 - s) * (L / 4294967296 ^ (i + 2)))) = 4294967296 * (4294967296 * (L / 4294967296 ^ (i + 2))) := by
      rw [← Nat.mul_assoc 4294967296, Nat.mul_comm 4294967296 (2 ^ (32 - s)), Nat.mul_assoc, ← Nat.mul_assoc (2 ^ s), hsp]
    rw [h4]
    exact Nt.join2 _ _ _ _ _ _ h1 h3
  have e2 : L / 2 ^ s / 4294967296 ^ i = (Nt.wd L (i + 1) * 4294967296 + Nt.wd L i) / 2 ^ s + 4294967296 * (2 ^ (32 - s) * (L / 4294967296 ^ (i + 2))) := by
    rw [Nat.div_div_eq_div_mul, Nat.mul_comm, ← Nat.div_div_eq_div_mul, e, Nat.add_mul_div_left _ _ h2]
  show _ = L / 2 ^ s / 4294967296 ^ i % 4294967296
  rw [e2, Nat.add_mul_mod_self_left]

/-- what is left of U when V was taken away as often as is seen from the j-th word on. -/
def Nt.lft (U V j : Nat) : Nat := U % 4294967296 ^ j + U / 4294967296 ^ j % V * 4294967296 ^ j
theorem Nt.lft_div (U V i : Nat) : Nt.lft U V (i + 1) / 4294967296 ^ i = U / 4294967296 ^ (i + 1) % V * 4294967296 + Nt.wd U i := by
  have hp : 0 < 4294967296 ^ i := Nat.pow_pos (by omega)
  have h1 := Nat.mod_lt U hp
  unfold Nt.lft
  rw [Nt.wmod_succ, Nat.pow_succ, Nat.mul_comm (4294967296 ^ i) 4294967296, ← Nat.mul_assoc, Nat.mul_comm (4294967296 ^ i) (Nt.wd U i), Nat.add_assoc, ← Nat.add_mul, Nat.add_mul_div_right _ _ hp, Nat.div_eq_of_lt h1]
  omega
theorem Nt.lft_mod (U V i : Nat) : Nt.lft U V (i + 1) % 4294967296 ^ i = U % 4294967296 ^ i := by
  unfold Nt.lft
  rw [Nt.wmod_succ, Nat.pow_succ, Nat.mul_comm (4294967296 ^ i) 4294967296, ← Nat.mul_assoc, Nat.mul_comm (4294967296 ^ i) (Nt.wd U i), Nat.add_assoc, ← Nat.add_mul, Nat.add_mul_mod_self_right, Nat.mod_mod]
theorem Nt.lft_start (U V n m s : Nat) (hn : 1 ≤ n) (hm : n ≤ m) (hU : U < 4294967296 ^ m) (hV : 4294967296 ^ (n - 1) ≤ V) : Nt.lft (U * 2 ^ s) (V * 2 ^ s) (m - n + 1) = U * 2 ^ s := by
  have hp : 0 < 4294967296 ^ (m - n + 1) := Nat.pow_pos (by omega)
  have h2 : 0 < 2 ^ s := Nat.two_pow_pos s
  have h1 : U * 2 ^ s / 4294967296 ^ (m - n + 1) < V * 2 ^ s := by
    rw [Nat.div_lt_iff_lt_mul hp]
    refine Nat.lt_of_lt_of_le (Nat.mul_lt_mul_of_pos_right hU h2) ?_
    rw [show m = (n - 1) + (m - n + 1) from by omega, Nat.pow_add, show (n - 1) + (m - n + 1) - n + 1 = m - n + 1 from by omega, Nat.mul_assoc, Nat.mul_comm _ (2 ^ s), ← Nat.mul_assoc]
    exact Nat.mul_le_mul_right _ (Nat.mul_le_mul_right _ hV)
  unfold Nt.lft
  rw [Nat.mod_eq_of_lt h1, Nat.mul_comm (_ / _), Nat.mod_add_div]
theorem Nt.lft_end (U V : Nat) : Nt.lft U V 0 = U % V := by simp [Nt.lft, Nat.mod_one]
theorem Nt.lft_next (U V i : Nat) (hV : 0 < V) : Nt.lft U V (i + 1) % 4294967296 ^ i + Nt.lft U V (i + 1) / 4294967296 ^ i % V * 4294967296 ^ i = Nt.lft U V i := by
  rw [Nt.lft_mod, Nt.lft_div, (Nt.limb_round U i V hV).2.1]; rfl
theorem Nt.lft_lt (U V i n : Nat) (hV0 : 0 < V) (hV : V < 4294967296 ^ n) : Nt.lft U V (i + 1) < 4294967296 ^ (i + (n + 1)) := by
  have hp : 0 < 4294967296 ^ i := Nat.pow_pos (by omega)
  have h1 := (Nt.limb_round U i V hV0).2.2
  rw [← Nt.lft_div] at h1
  have h2 : V * 4294967296 ≤ 4294967296 ^ (n + 1) := by rw [Nat.pow_succ]; exact Nat.mul_le_mul_right _ (Nat.le_of_lt hV)
  have h3 := Nat.lt_of_lt_of_le h1 h2
  rw [Nat.pow_add, Nat.mul_comm]
  exact (Nat.div_lt_iff_lt_mul hp).1 h3
theorem Nt.quo_lt (U V n m : Nat) (hn : 1 ≤ n) (hm : n ≤ m) (hU : U < 4294967296 ^ m) (hV : 4294967296 ^ (n - 1) ≤ V) : U / V < 4294967296 ^ (m - n + 1) := by
  have hVp : 0 < V := Nat.lt_of_lt_of_le (Nat.pow_pos (by omega)) hV
  rw [Nat.div_lt_iff_lt_mul hVp]
  refine Nat.lt_of_lt_of_le hU ?_
  conv => lhs; rw [show m = (m - n + 1) + (n - 1) from by omega, Nat.pow_add]
  exact Nat.mul_le_mul_left _ hV
/-- the right digit taken away. -/
theorem Nt.taken_right (P V g M : Nat) (hV : 0 < V) (hP : P < M) (hg : P / V ≤ g) (h : ¬ P < g * V) : g = P / V ∧ (P + M - g * V) % M = P % V := by
  have h1 : g ≤ P / V := (Nat.le_div_iff_mul_le hV).2 (by omega)
  have h2 : g = P / V := Nat.le_antisymm h1 hg
  subst h2
  refine ⟨rfl, ?_⟩
  have h3 := Nat.mod_add_div P V
  rw [Nat.mul_comm] at h3
  rw [show P + M - P / V * V = P % V + M from by omega, Nat.add_mod_right, Nat.mod_eq_of_lt (by omega)]
/-- one too many, and one put back. -/
theorem Nt.taken_back (P V g M : Nat) (hV : 0 < V) (hP : P < M) (hM : g * V ≤ M) (hg : g ≤ P / V + 1) (h : P < g * V) : g = P / V + 1 ∧ P + M - g * V < M ∧ (P + M - g * V) % M = P + M - g * V ∧ (P + M - g * V + V) % M = P % V := by
  have h1 : P / V < g := (Nat.div_lt_iff_lt_mul hV).2 h
  have h2 : g = P / V + 1 := Nat.le_antisymm hg h1
  have h3 := Nat.mod_add_div P V
  rw [Nat.mul_comm] at h3
  have h4 : g * V = P / V * V + V := by rw [h2, Nat.add_mul, Nat.one_mul]
  refine ⟨h2, by omega, Nat.mod_eq_of_lt (by omega), ?_⟩
  rw [show P + M - g * V + V = P % V + M from by omega, Nat.add_mod_right, Nat.mod_eq_of_lt (by omega)]
/-- the highest bit of a number is moved to its highest word's end. -/
theorem Nt.norm_lt (V n s k : Nat) (hn : 1 ≤ n) (hV : V < 4294967296 ^ n) (hk : Nt.wd V (n - 1) < 2 ^ k) (hs : k + s ≤ 32) : V * 2 ^ s < 4294967296 ^ n := by
  have hp : 0 < 4294967296 ^ (n - 1) := Nat.pow_pos (by omega)
  have hd : V / 4294967296 ^ (n - 1) = Nt.wd V (n - 1) := by
    have h1 := Nt.wd_join V (n - 1)
    rw [show n - 1 + 1 = n from by omega, Nat.div_eq_of_lt hV] at h1
    omega
  rw [← hd, Nat.div_lt_iff_lt_mul hp] at hk
  refine Nat.lt_of_lt_of_le (Nat.mul_lt_mul_of_pos_right hk (Nat.two_pow_pos s)) ?_
  conv => rhs; rw [show n = (n - 1) + 1 from by omega, Nat.pow_succ, Nat.mul_comm]
  rw [Nat.mul_assoc, Nat.mul_comm (4294967296 ^ (n - 1)), ← Nat.mul_assoc, ← Nat.pow_add]
  exact Nat.mul_le_mul_right _ (Nat.pow_le_pow_right (n := 2) (by omega) hs : 2 ^ (k + s) ≤ 2 ^ 32)
end Go.Proofs.YtjbpipbmcicjiaaGreatDoor
