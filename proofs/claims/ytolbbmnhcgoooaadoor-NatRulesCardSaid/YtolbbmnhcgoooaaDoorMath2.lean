/-
  PLAIN MATHEMATICS, FURTHER: words of 32 bits; digits laid one by one.
-/
import Derived.Test.YtolbbmnhcgoooaaDoorMath
namespace Go.Proofs.YtolbbmnhcgoooaaDoor.Nt
/-! words of 32 bits, the lowest first -/
def lw : List Nat → Nat
  | [] => 0
  | x :: l => x + 4294967296 * lw l
theorem lw_append (a b : List Nat) : lw (a ++ b) = lw a + 4294967296 ^ a.length * lw b := by
  induction a with
  | nil => simp [lw]
  | cons x a ih => simp only [List.cons_append, lw, ih, List.length_cons, Nat.pow_succ, Nat.mul_add, Nat.mul_assoc, Nat.mul_left_comm 4294967296]; omega
theorem lw_lt (l : List Nat) (h : ∀ x ∈ l, x < 4294967296) : lw l < 4294967296 ^ l.length := by
  induction l with
  | nil => simp [lw]
  | cons x l ih =>
    have h1 := h x (by simp)
    have h2 := ih (fun y hy => h y (by simp [hy]))
    rw [List.length_cons, Nat.pow_succ, lw]
    omega
theorem pow4 : (256 : Nat) ^ 4 = 4294967296 := by decide
theorem lw_dig (l : List Nat) (h : ∀ x ∈ l, x < 4294967296) (p : Nat) (hp : p / 4 < l.length) : dig (lw l) p = l[p / 4] / 256 ^ (p % 4) % 256 := by
  induction l generalizing p with
  | nil => simp at hp
  | cons x l ih =>
    have h1 := h x (by simp)
    by_cases h4 : p < 4
    · have e1 : p / 4 = 0 := by omega
      have e2 : p % 4 = p := by omega
      simp only [e1, e2, List.getElem_cons_zero, lw, dig]
      have e3 : (4294967296 : Nat) = 256 ^ p * (256 * 256 ^ (3 - p)) := by
        rw [← pow4, show (4 : Nat) = p + (1 + (3 - p)) from by omega, Nat.pow_add, Nat.pow_add]
      rw [e3, Nat.mul_assoc, Nat.add_mul_div_left _ _ (Nat.pow_pos (by omega)), Nat.mul_assoc, Nat.add_mul_mod_self_left]
    · obtain ⟨q, rfl⟩ : ∃ q, p = q + 4 := ⟨p - 4, by omega⟩
      have e1 : (q + 4) / 4 = q / 4 + 1 := by omega
      have e2 : (q + 4) % 4 = q % 4 := by omega
      simp only [e1, e2, List.getElem_cons_succ, List.length_cons] at hp ⊢
      rw [← ih (fun y hy => h y (by simp [hy])) q (by omega)]
      simp only [dig, lw]
      rw [Nat.pow_add, pow4, Nat.mul_comm (256 ^ q), ← Nat.div_div_eq_div_mul]
      rw [show (x + 4294967296 * lw l) / 4294967296 = lw l from by omega]
/-- digits from the highest on, the rest still zeros -/
def upTo (n m k : Nat) : List Nat := (digs n m).take k ++ List.replicate (m - k) 0
theorem upTo_zero (n m : Nat) : upTo n m 0 = List.replicate m 0 := by simp [upTo]
theorem upTo_all (n m : Nat) : upTo n m m = digs n m := by simp [upTo, List.take_of_length_le, digs_length]
theorem upTo_length (n m k : Nat) (h : k ≤ m) : (upTo n m k).length = m := by simp [upTo, digs_length]; omega
theorem digs_get (n m i : Nat) (h : i < m) : (digs n m)[i]'(by rw [digs_length]; exact h) = dig n (m - 1 - i) := by
  induction m generalizing i with
  | zero => omega
  | succ m ih =>
    cases i with
    | zero => simp [digs]
    | succ i =>
      simp only [digs, List.getElem_cons_succ]
      rw [ih i (by omega)]
      congr 1
      omega
theorem upTo_set (n m k d : Nat) (h : k < m) (hd : d = dig n (m - 1 - k)) : (upTo n m k).set k d = upTo n m (k + 1) := by
  unfold upTo
  have hl : ((digs n m).take k).length = k := by rw [List.length_take, digs_length]; omega
  rw [List.set_append_right _ _ (by omega), hl, Nat.sub_self, show m - k = (m - (k + 1)) + 1 from by omega, List.replicate_succ]
  simp only [List.set_cons_zero]
  rw [List.take_succ_eq_append_getElem (by rw [digs_length]; exact h), digs_get n m k h, hd]
  simp
/-! digits, the lowest first -/
def lb : List Nat → Nat
  | [] => 0
  | x :: l => x + 256 * lb l
theorem lb_append (a b : List Nat) : lb (a ++ b) = lb a + 256 ^ a.length * lb b := by
  induction a with
  | nil => simp [lb]
  | cons x a ih => simp only [List.cons_append, lb, ih, List.length_cons, Nat.pow_succ, Nat.mul_add, Nat.mul_assoc, Nat.mul_left_comm 256]; omega
theorem lb_lt (l : List Nat) (h : ∀ x ∈ l, x < 256) : lb l < 256 ^ l.length := by
  induction l with
  | nil => simp [lb]
  | cons x l ih =>
    have h1 := h x (by simp)
    have h2 := ih (fun y hy => h y (by simp [hy]))
    rw [List.length_cons, Nat.pow_succ, lb]
    omega
theorem lb_dig (l : List Nat) (h : ∀ x ∈ l, x < 256) (p : Nat) (hp : p < l.length) : dig (lb l) p = l[p] := by
  induction l generalizing p with
  | nil => simp at hp
  | cons x l ih =>
    have h1 := h x (by simp)
    cases p with
    | zero => simp [dig, lb]; omega
    | succ p =>
      simp only [List.getElem_cons_succ, List.length_cons] at hp ⊢
      rw [← ih (fun y hy => h y (by simp [hy])) p (by omega)]
      simp only [dig, lb]
      rw [Nat.pow_succ, Nat.mul_comm (256 ^ p), ← Nat.div_div_eq_div_mul, show (x + 256 * lb l) / 256 = lb l from by omega]
/-- the k lowest digits, the lowest first -/
def low (n k : Nat) : List Nat := (List.range k).map (dig n)
theorem low_zero (n : Nat) : low n 0 = [] := rfl
theorem low_succ (n k : Nat) : low n (k + 1) = low n k ++ [dig n k] := by simp [low, List.range_succ]
theorem low_length (n k : Nat) : (low n k).length = k := by simp [low]
theorem low_lt (n k : Nat) : ∀ x ∈ low n k, x < 256 := by
  intro x hx
  simp only [low, List.mem_map] at hx
  obtain ⟨i, _, rfl⟩ := hx
  exact dig_lt _ _
theorem lb_low (n k : Nat) : lb (low n k) = n % 256 ^ k := by
  induction k with
  | zero => simp [low, lb, Nat.mod_one]
  | succ k ih => rw [low_succ, lb_append, ih, low_length, mod_succ]; simp [lb]
/-- what a sum carries over its k lowest digits -/
def cy (a b k : Nat) : Nat := (a % 256 ^ k + b % 256 ^ k) / 256 ^ k
theorem cy_zero (a b : Nat) : cy a b 0 = 0 := by simp [cy, Nat.mod_one]
theorem cy_step (a b k : Nat) : dig a k + dig b k + cy a b k = dig (a + b) k + 256 * cy a b (k + 1) := by
  have hp : 0 < 256 ^ k := Nat.pow_pos (by omega)
  have ha := mod_succ a k
  have hb := mod_succ b k
  have hA := dig_lt a k
  have hB := dig_lt b k
  unfold cy
  -- everything over 256 ^ k
  have e1 : (a % 256 ^ (k + 1) + b % 256 ^ (k + 1)) / 256 ^ (k + 1) = ((a % 256 ^ k + b % 256 ^ k) / 256 ^ k + (dig a k + dig b k)) / 256 := by
    rw [ha, hb, Nat.pow_succ, ← Nat.div_div_eq_div_mul]
    rw [show a % 256 ^ k + 256 ^ k * dig a k + (b % 256 ^ k + 256 ^ k * dig b k) = a % 256 ^ k + b % 256 ^ k + 256 ^ k * (dig a k + dig b k) from by rw [Nat.mul_add]; omega]
    rw [Nat.add_mul_div_left _ _ hp]
  have e2 : dig (a + b) k = ((a % 256 ^ k + b % 256 ^ k) / 256 ^ k + (dig a k + dig b k)) % 256 := by
    unfold dig
    have h1 : a = a % 256 ^ k + 256 ^ k * (a / 256 ^ k) := (Nat.mod_add_div a (256 ^ k)).symm
    have h2 : b = b % 256 ^ k + 256 ^ k * (b / 256 ^ k) := (Nat.mod_add_div b (256 ^ k)).symm
    have h3 : (a + b) / 256 ^ k = (a % 256 ^ k + b % 256 ^ k) / 256 ^ k + (a / 256 ^ k + b / 256 ^ k) := by
      conv => lhs; rw [h1, h2]
      rw [show a % 256 ^ k + 256 ^ k * (a / 256 ^ k) + (b % 256 ^ k + 256 ^ k * (b / 256 ^ k)) = a % 256 ^ k + b % 256 ^ k + 256 ^ k * (a / 256 ^ k + b / 256 ^ k) from by rw [Nat.mul_add]; omega]
      rw [Nat.add_mul_div_left _ _ hp]
    rw [h3]
    omega
  rw [e1, e2]
  omega
theorem cy_le (a b k : Nat) : cy a b k ≤ 1 := by
  have hp : 0 < 256 ^ k := Nat.pow_pos (by omega)
  have h1 := Nat.mod_lt a hp
  have h2 := Nat.mod_lt b hp
  unfold cy
  have : (a % 256 ^ k + b % 256 ^ k) / 256 ^ k < 2 := by
    rw [Nat.div_lt_iff_lt_mul hp]; omega
  omega
theorem cy_full {a b k : Nat} (ha : a < 256 ^ k) (hb : b < 256 ^ k) : cy a b k = (a + b) / 256 ^ k := by
  unfold cy
  rw [Nat.mod_eq_of_lt ha, Nat.mod_eq_of_lt hb]
theorem cy_end {a b k : Nat} (ha : a < 256 ^ k) (hb : b < 256 ^ k) (h0 : cy a b k = 0) : a + b < 256 ^ k := by
  rw [cy_full ha hb] at h0
  have hp : 0 < 256 ^ k := Nat.pow_pos (by omega)
  rcases Nat.lt_or_ge (a + b) (256 ^ k) with h | h
  · exact h
  · have := Nat.div_pos h hp
    omega
theorem cy_beyond {a b k : Nat} (ha : a < 256 ^ k) (hb : b < 256 ^ k) : cy a b (k + 1) = 0 := by
  have ha' : a < 256 ^ (k + 1) := Nat.lt_of_lt_of_le ha (Nat.pow_le_pow_right (by omega) (by omega))
  have hb' : b < 256 ^ (k + 1) := Nat.lt_of_lt_of_le hb (Nat.pow_le_pow_right (by omega) (by omega))
  rw [cy_full ha' hb']
  apply Nat.div_eq_of_lt
  rw [Nat.pow_succ]
  omega
/-- what a difference owes above its k lowest digits -/
def bw (a b k : Nat) : Nat := if a % 256 ^ k < b % 256 ^ k then 1 else 0
theorem bw_zero (a b : Nat) : bw a b 0 = 0 := by simp [bw, Nat.mod_one]
theorem bw_le (a b k : Nat) : bw a b k ≤ 1 := by unfold bw; split <;> omega
theorem bw_step {a b : Nat} (h : b ≤ a) (k : Nat) : dig a k + 256 * bw a b (k + 1) = dig (a - b) k + dig b k + bw a b k := by
  obtain ⟨c, rfl⟩ : ∃ c, a = b + c := ⟨a - b, by omega⟩
  rw [Nat.add_sub_cancel_left]
  have hs := cy_step b c k
  have hk : ∀ j, bw (b + c) b j = cy b c j := fun j => by
    have hp : 0 < 256 ^ j := Nat.pow_pos (by omega)
    have h1 := Nat.mod_lt b hp
    have h2 := Nat.mod_lt c hp
    unfold bw cy
    rw [Nat.add_mod]
    by_cases hlt : b % 256 ^ j + c % 256 ^ j < 256 ^ j
    · rw [Nat.mod_eq_of_lt hlt, if_neg (by omega), Nat.div_eq_of_lt hlt]
    · have e : (b % 256 ^ j + c % 256 ^ j) % 256 ^ j = b % 256 ^ j + c % 256 ^ j - 256 ^ j := by
        rw [Nat.mod_eq_sub_mod (by omega), Nat.mod_eq_of_lt (by omega)]
      have e2 : (b % 256 ^ j + c % 256 ^ j) / 256 ^ j = 1 := by
        rw [Nat.div_eq_iff hp]; omega
      rw [e, e2, if_pos (by omega)]
  rw [hk, hk]
  have := dig_lt c k
  omega
end Go.Proofs.YtolbbmnhcgoooaaDoor.Nt
