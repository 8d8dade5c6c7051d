/-
  PLAIN MATHEMATICS OF PRODUCTS: a digit that is set; words out of bytes; a step of a product.
-/
import Derived.Test.YtolbbmnhcgoooaaDoorMath2
namespace Go.Proofs.YtolbbmnhcgoooaaDoor.Nt

theorem lw_set (l : List Nat) (p v : Nat) (h : p < l.length) : lw (l.set p v) + l[p] * 4294967296 ^ p = lw l + v * 4294967296 ^ p := by
  induction l generalizing p with
  | nil => simp at h
  | cons x l ih =>
    cases p with
    | zero => simp [lw]; omega
    | succ p =>
      have hp : p < l.length := by simpa using h
      have := ih p hp
      simp only [List.set_cons_succ, lw, List.getElem_cons_succ, Nat.pow_succ]
      have e1 : l[p]'hp * (4294967296 ^ p * 4294967296) = 4294967296 * (l[p]'hp * 4294967296 ^ p) := by rw [← Nat.mul_assoc, Nat.mul_comm]
      have e2 : v * (4294967296 ^ p * 4294967296) = 4294967296 * (v * 4294967296 ^ p) := by rw [← Nat.mul_assoc, Nat.mul_comm]
      rw [e1, e2]
      omega
theorem lb_set (l : List Nat) (p v : Nat) (h : p < l.length) : lb (l.set p v) + l[p] * 256 ^ p = lb l + v * 256 ^ p := by
  induction l generalizing p with
  | nil => simp at h
  | cons x l ih =>
    cases p with
    | zero => simp [lb]; omega
    | succ p =>
      have hp : p < l.length := by simpa using h
      have := ih p hp
      simp only [List.set_cons_succ, lb, List.getElem_cons_succ, Nat.pow_succ]
      have e1 : l[p]'hp * (256 ^ p * 256) = 256 * (l[p]'hp * 256 ^ p) := by rw [← Nat.mul_assoc, Nat.mul_comm]
      have e2 : v * (256 ^ p * 256) = 256 * (v * 256 ^ p) := by rw [← Nat.mul_assoc, Nat.mul_comm]
      rw [e1, e2]
      omega
theorem lw_zeros (n : Nat) : lw (List.replicate n 0) = 0 := by
  induction n with
  | zero => rfl
  | succ n ih => simp [List.replicate_succ, lw, ih]
theorem lb_zeros (n : Nat) : lb (List.replicate n 0) = 0 := by
  induction n with
  | zero => rfl
  | succ n ih => simp [List.replicate_succ, lb, ih]
theorem lw_take_succ (l : List Nat) (k : Nat) (h : k < l.length) : lw (l.take (k + 1)) = lw (l.take k) + l[k] * 4294967296 ^ k := by
  rw [List.take_succ_eq_append_getElem h, lw_append]
  simp only [lw, List.length_take, Nat.min_eq_left (Nat.le_of_lt h), Nat.mul_zero, Nat.add_zero]
  rw [Nat.mul_comm]
/-- one place of a product, base b: what is set, and what is carried on. -/
theorem place_step (L L' p t c P d e b : Nat) (h : L' + p * P = L + t % b * P) (ht : t = d * e + p + c) : L' + t / b * (P * b) = L + (d * e + c) * P := by
  have h1 : t % b + b * (t / b) = t := Nat.mod_add_div t b
  have h2 : t / b * (P * b) = b * (t / b) * P := by rw [Nat.mul_comm P b, ← Nat.mul_assoc, Nat.mul_comm (t / b) b]
  have h3 : t % b * P + b * (t / b) * P = t * P := by rw [← Nat.add_mul, h1]
  have h4 : t * P = d * e * P + p * P + c * P := by rw [ht, Nat.add_mul, Nat.add_mul]
  rw [h2, Nat.add_mul]
  omega
/-! words of 32 bits out of bytes -/
def wd (n j : Nat) : Nat := n / 4294967296 ^ j % 4294967296
def wds (n m : Nat) : List Nat := (List.range m).map (wd n)
theorem wds_length (n m : Nat) : (wds n m).length = m := by simp [wds]
theorem wds_get (n m j : Nat) (h : j < (wds n m).length) : (wds n m)[j] = wd n j := by simp [wds]
theorem wd_lt (n j : Nat) : wd n j < 4294967296 := Nat.mod_lt _ (by omega)
theorem wds_lt (n m : Nat) : ∀ x ∈ wds n m, x < 4294967296 := by
  intro x hx
  simp only [wds, List.mem_map] at hx
  obtain ⟨i, _, rfl⟩ := hx
  exact wd_lt _ _
theorem wds_zero (m : Nat) : wds 0 m = List.replicate m 0 := by
  apply List.ext_getElem
  · simp [wds]
  · intro i h1 h2
    simp [wds, wd]
theorem lw_wds (n m : Nat) : lw (wds n m) = n % 4294967296 ^ m := by
  induction m with
  | zero => simp [wds, lw, Nat.mod_one]
  | succ m ih =>
    have e : wds n (m + 1) = wds n m ++ [wd n m] := by simp [wds, List.range_succ]
    rw [e, lw_append, ih, wds_length]
    simp only [lw, Nat.mul_zero, Nat.add_zero]
    rw [Nat.pow_succ, Nat.mod_mul, wd]
theorem pow32 (j : Nat) : (4294967296 : Nat) ^ j = 256 ^ (4 * j) := by rw [Nat.pow_mul, pow4]
theorem wds_step (n k m : Nat) (hm : k / 4 < m) :
    (wds (n % 256 ^ k) m).set (k / 4) (wd (n % 256 ^ k) (k / 4) ||| dig n k * 2 ^ (k % 4 * 8)) = wds (n % 256 ^ (k + 1)) m := by
  have hd := dig_lt n k
  obtain ⟨q, r, hk, hr⟩ : ∃ q r, k = 4 * q + r ∧ r < 4 := ⟨k / 4, k % 4, by omega, by omega⟩
  have hq : k / 4 = q := by omega
  have hr' : k % 4 = r := by omega
  rw [hq] at hm ⊢
  rw [hr']
  have hP : (256 : Nat) ^ k = 4294967296 ^ q * 256 ^ r := by rw [hk, Nat.pow_add, pow32]
  have hlt : n % 256 ^ k < 256 ^ k := Nat.mod_lt _ (Nat.pow_pos (by omega))
  have hQ : 0 < 4294967296 ^ q := Nat.pow_pos (by omega)
  have hR : (256 : Nat) ^ r * 256 ≤ 4294967296 := by
    rw [← Nat.pow_succ, ← pow4]; exact Nat.pow_le_pow_right (by omega) (by omega)
  have hRp : 0 < (256 : Nat) ^ r := Nat.pow_pos (by omega)
  generalize hM : n % 256 ^ k = M at *
  have hS := mod_succ n k
  rw [hM] at hS
  rw [hS]
  have hdiv : M / 4294967296 ^ q < 256 ^ r := by
    rw [Nat.div_lt_iff_lt_mul hQ, Nat.mul_comm, ← hP]; exact hlt
  have hsum : (M + 256 ^ k * dig n k) / 4294967296 ^ q = M / 4294967296 ^ q + 256 ^ r * dig n k := by
    rw [hP, Nat.mul_assoc, Nat.add_mul_div_left _ _ hQ]
  have hdr : 256 ^ r * dig n k ≤ 256 ^ r * 255 := Nat.mul_le_mul_left _ (by omega)
  apply List.ext_getElem
  · simp [wds]
  · intro j h1 h2
    rw [wds_get]
    by_cases hj : j = q
    · subst hj
      rw [List.getElem_set_self]
      unfold wd
      rw [hsum, Nat.mod_eq_of_lt (by omega), Nat.mod_eq_of_lt (by omega)]
      have e2 : (256 : Nat) ^ r = 2 ^ (r * 8) := by rw [Nat.mul_comm, Nat.pow_mul]
      rw [e2] at hdiv ⊢
      rw [Nat.or_comm, Nat.mul_comm (dig n k), ← Nat.two_pow_add_eq_or_of_lt hdiv, Nat.add_comm]
    · rw [List.getElem_set_ne (by omega)]
      rw [wds_get]
      unfold wd
      rcases Nat.lt_or_ge j q with hlt' | hge
      · obtain ⟨t, rfl⟩ : ∃ t, q = j + 1 + t := ⟨q - (j + 1), by omega⟩
        have hJ : 0 < 4294967296 ^ j := Nat.pow_pos (by omega)
        have e3 : 256 ^ k * dig n k = 4294967296 ^ j * (4294967296 * (4294967296 ^ t * 256 ^ r * dig n k)) := by
          rw [hP, Nat.pow_add, Nat.pow_succ]
          simp only [Nat.mul_assoc]
        rw [e3, Nat.add_mul_div_left _ _ hJ, Nat.add_mul_mod_self_left]
      · obtain ⟨t, rfl⟩ : ∃ t, j = q + 1 + t := ⟨j - (q + 1), by omega⟩
        have e4 : (4294967296 : Nat) ^ (q + 1 + t) = 4294967296 ^ q * (4294967296 * 4294967296 ^ t) := by
          rw [Nat.pow_add, Nat.pow_succ, Nat.mul_assoc]
        have hT : 0 < 4294967296 ^ t := Nat.pow_pos (by omega)
        have hT2 : 4294967296 * 1 ≤ 4294967296 * 4294967296 ^ t := Nat.mul_le_mul_left _ hT
        rw [e4]
        simp only [← Nat.div_div_eq_div_mul, hsum]
        rw [Nat.div_eq_of_lt (show M / 4294967296 ^ q < 4294967296 by omega), Nat.div_eq_of_lt (show M / 4294967296 ^ q + 256 ^ r * dig n k < 4294967296 by omega)]
end Go.Proofs.YtolbbmnhcgoooaaDoor.Nt
