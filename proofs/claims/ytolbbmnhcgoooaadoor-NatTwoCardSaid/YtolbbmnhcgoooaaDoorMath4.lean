/-
  PLAIN MATHEMATICS OF PRODUCTS, DIGIT BY DIGIT, IN ANY BASE.
-/
import Derived.Test.YtolbbmnhcgoooaaDoorMath3
namespace Go.Proofs.YtolbbmnhcgoooaaDoor.Nt

/-- digits of base b, the lowest first. -/
def le (b : Nat) : List Nat → Nat
  | [] => 0
  | x :: l => x + b * le b l
theorem le_lw (l : List Nat) : le 4294967296 l = lw l := by
  induction l with
  | nil => rfl
  | cons x l ih => simp only [le, lw, ih]
theorem le_lb (l : List Nat) : le 256 l = lb l := by
  induction l with
  | nil => rfl
  | cons x l ih => simp only [le, lb, ih]
theorem le_append (b : Nat) (x y : List Nat) : le b (x ++ y) = le b x + b ^ x.length * le b y := by
  induction x with
  | nil => simp [le]
  | cons a x ih => simp only [List.cons_append, le, ih, List.length_cons, Nat.pow_succ, Nat.mul_add, Nat.mul_assoc, Nat.mul_left_comm b]; omega
theorem le_zeros (b n : Nat) : le b (List.replicate n 0) = 0 := by
  induction n with
  | zero => rfl
  | succ n ih => simp [List.replicate_succ, le, ih]
theorem le_set (b : Nat) (l : List Nat) (p v : Nat) (h : p < l.length) : le b (l.set p v) + l[p] * b ^ p = le b l + v * b ^ p := by
  induction l generalizing p with
  | nil => simp at h
  | cons x l ih =>
    cases p with
    | zero => simp [le]; omega
    | succ p =>
      have hp : p < l.length := by simpa using h
      have := ih p hp
      simp only [List.set_cons_succ, le, List.getElem_cons_succ, Nat.pow_succ]
      have e1 : l[p]'hp * (b ^ p * b) = b * (l[p]'hp * b ^ p) := by rw [← Nat.mul_assoc, Nat.mul_comm]
      have e2 : v * (b ^ p * b) = b * (v * b ^ p) := by rw [← Nat.mul_assoc, Nat.mul_comm]
      have e3 : b * (le b (l.set p v)) + b * (l[p]'hp * b ^ p) = b * le b l + b * (v * b ^ p) := by rw [← Nat.mul_add, this, Nat.mul_add]
      rw [e1, e2]
      omega
theorem le_take_succ (b : Nat) (l : List Nat) (k : Nat) (h : k < l.length) : le b (l.take (k + 1)) = le b (l.take k) + l[k] * b ^ k := by
  rw [List.take_succ_eq_append_getElem h, le_append]
  simp only [le, List.length_take, Nat.min_eq_left (Nat.le_of_lt h), Nat.mul_zero, Nat.add_zero]
  rw [Nat.mul_comm]

/-- a product behind i rounds. -/
structure MulOut (b : Nat) (xs ys : List Nat) (i : Nat) (ls : List Nat) : Prop where
  len : ls.length = xs.length + ys.length
  lt : ∀ x ∈ ls, x < b
  zero : ∀ p (h : p < ls.length), i + ys.length ≤ p → ls[p] = 0
  val : le b ls = le b (xs.take i) * le b ys
/-- a product behind i rounds, and j places of one more, whose digit is d. -/
structure MulIn (b : Nat) (xs ys : List Nat) (i d j c : Nat) (ls : List Nat) : Prop where
  len : ls.length = xs.length + ys.length
  lt : ∀ x ∈ ls, x < b
  zero : ∀ p (h : p < ls.length), i + ys.length ≤ p → ls[p] = 0
  cb : c < b
  val : le b ls + c * b ^ (i + j) = le b (xs.take i) * le b ys + d * le b (ys.take j) * b ^ i
theorem mul_start (b : Nat) (hb : 0 < b) (xs ys : List Nat) : MulOut b xs ys 0 (List.replicate (xs.length + ys.length) 0) :=
  ⟨by simp, fun x hx => by simp at hx; omega, fun p h _ => by simp, by rw [le_zeros]; simp [le]⟩
theorem mul_in {b : Nat} (hb : 0 < b) {xs ys ls : List Nat} {i : Nat} (d : Nat) (h : MulOut b xs ys i ls) : MulIn b xs ys i d 0 0 ls :=
  ⟨h.len, h.lt, h.zero, hb, by simp [le, h.val]⟩
theorem mul_step {b : Nat} {xs ys ls : List Nat} {i d j c t : Nat} (h : MulIn b xs ys i d j c ls) (hd : d < b) (hi : i < xs.length) (hj : j < ys.length) (hy : ys[j] < b)
    (ht : t = d * ys[j] + ls[i + j]'(by rw [h.len]; omega) + c) : MulIn b xs ys i d (j + 1) (t / b) (ls.set (i + j) (t % b)) := by
  have hb : 0 < b := by omega
  have hp : i + j < ls.length := by rw [h.len]; omega
  have hl := h.lt _ (List.getElem_mem hp)
  have hc := h.cb
  refine ⟨by simp [h.len], fun x hx => ?_, fun p hp' hge => ?_, ?_, ?_⟩
  · rcases List.mem_or_eq_of_mem_set hx with hx | rfl
    · exact h.lt x hx
    · exact Nat.mod_lt _ hb
  · rw [List.getElem_set_ne (by omega)]
    exact h.zero p (by simpa using hp') hge
  · rw [Nat.div_lt_iff_lt_mul hb, ht]
    have h1 : d * ys[j] ≤ (b - 1) * (b - 1) := Nat.mul_le_mul (by omega) (by omega)
    obtain ⟨m, rfl⟩ : ∃ m, b = m + 1 := ⟨b - 1, by omega⟩
    simp only [Nat.add_sub_cancel] at h1
    have h2 : (m + 1) * (m + 1) = m * m + m + m + 1 := by rw [Nat.add_mul, Nat.mul_add]; omega
    omega
  · have h1 := le_set b ls (i + j) (t % b) hp
    have h2 := place_step (le b ls) (le b (ls.set (i + j) (t % b))) (ls[i + j]'hp) t c (b ^ (i + j)) d ys[j] b h1 ht
    rw [show i + (j + 1) = (i + j) + 1 from rfl, Nat.pow_succ, h2, le_take_succ b ys j hj]
    have h3 := h.val
    have h4 : (d * ys[j] + c) * b ^ (i + j) = d * ys[j] * b ^ (i + j) + c * b ^ (i + j) := Nat.add_mul _ _ _
    have h5 : d * (le b (ys.take j) + ys[j] * b ^ j) * b ^ i = d * le b (ys.take j) * b ^ i + d * ys[j] * b ^ (i + j) := by
      rw [Nat.mul_add, Nat.add_mul, Nat.pow_add]
      congr 1
      rw [Nat.mul_comm (b ^ i), ← Nat.mul_assoc, ← Nat.mul_assoc]
    omega
theorem mul_sum {b : Nat} {d e l c : Nat} (hd : d < b) (he : e < b) (hl : l < b) (hc : c < b) : d * e + l + c < b * b := by
  have h1 : d * e ≤ (b - 1) * (b - 1) := Nat.mul_le_mul (by omega) (by omega)
  obtain ⟨m, rfl⟩ : ∃ m, b = m + 1 := ⟨b - 1, by omega⟩
  simp only [Nat.add_sub_cancel] at h1
  have h2 : (m + 1) * (m + 1) = m * m + m + m + 1 := by rw [Nat.add_mul, Nat.mul_add]; omega
  omega
theorem mul_out {b : Nat} {xs ys ls : List Nat} {i d c : Nat} (h : MulIn b xs ys i d ys.length c ls) (hi : i < xs.length) (hd : d = xs[i]) : MulOut b xs ys (i + 1) (ls.set (i + ys.length) c) := by
  have hp : i + ys.length < ls.length := by rw [h.len]; omega
  have h0 := h.zero _ hp (Nat.le_refl _)
  refine ⟨by simp [h.len], fun x hx => ?_, fun p hp' hge => ?_, ?_⟩
  · rcases List.mem_or_eq_of_mem_set hx with hx | rfl
    · exact h.lt x hx
    · exact h.cb
  · rw [List.getElem_set_ne (by omega)]
    exact h.zero p (by simpa using hp') (by omega)
  · have h1 := le_set b ls (i + ys.length) c hp
    rw [h0, Nat.zero_mul, Nat.add_zero] at h1
    rw [h1, h.val, List.take_length, le_take_succ b xs i hi, Nat.add_mul, ← hd]
    congr 1
    rw [Nat.mul_assoc, Nat.mul_assoc, Nat.mul_comm (b ^ i)]
theorem mul_end {b : Nat} {xs ys ls : List Nat} (h : MulOut b xs ys xs.length ls) : le b ls = le b xs * le b ys := by
  rw [h.val, List.take_length]
end Go.Proofs.YtolbbmnhcgoooaaDoor.Nt
