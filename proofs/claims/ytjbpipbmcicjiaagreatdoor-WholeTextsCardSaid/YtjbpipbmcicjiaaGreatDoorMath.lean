/-
  PLAIN MATHEMATICS OF NATURALS AS TEXTS OF BYTES: val (the number of a list of bytes, the highest first), enc (its shortest list), trim. No program is named here.
  PLAIN MATHEMATICS, FURTHER: words of 32 bits; digits laid one by one.
  PLAIN MATHEMATICS OF PRODUCTS: a digit that is set; words out of bytes; a step of a product.
  PLAIN MATHEMATICS OF PRODUCTS, DIGIT BY DIGIT, IN ANY BASE.
-/


namespace Go.Proofs.YtjbpipbmcicjiaaGreatDoor.Nt

def val : List UInt8 → Nat := List.foldl (fun n b => n * 256 + b.toNat) 0
def encF : Nat → Nat → List UInt8
  | 0, _ => []
  | f + 1, n => if n = 0 then [] else encF f (n / 256) ++ [UInt8.ofNat n]
def enc (n : Nat) : List UInt8 := encF n n
def trim : List UInt8 → List UInt8
  | [] => []
  | b :: l => if b = 0 then trim l else b :: l
def V (s : ByteArray) : Nat := val s.data.toList
def E (n : Nat) : ByteArray := ⟨(enc n).toArray⟩

theorem val_foldl (l : List UInt8) (a : Nat) : l.foldl (fun n b => n * 256 + b.toNat) a = a * 256 ^ l.length + val l := by
  induction l generalizing a with
  | nil => simp [val]
  | cons b l ih =>
    have h1 := ih (a * 256 + b.toNat)
    have h2 := ih (0 * 256 + b.toNat)
    simp only [List.foldl_cons, val, List.length_cons] at *
    rw [h1, h2, Nat.pow_succ]
    simp only [Nat.add_mul, Nat.zero_mul, Nat.zero_add, Nat.mul_assoc, Nat.mul_comm 256]
    omega
theorem val_nil : val [] = 0 := rfl
theorem val_cons (b : UInt8) (l : List UInt8) : val (b :: l) = b.toNat * 256 ^ l.length + val l := by
  have := val_foldl l (0 * 256 + b.toNat)
  simpa [val] using this
theorem val_append (l k : List UInt8) : val (l ++ k) = val l * 256 ^ k.length + val k := by
  have := val_foldl k (val l)
  rw [← this]; simp [val, List.foldl_append]
theorem val_snoc (l : List UInt8) (b : UInt8) : val (l ++ [b]) = val l * 256 + b.toNat := by
  rw [val_append]; simp [val]
theorem val_lt (l : List UInt8) : val l < 256 ^ l.length := by
  induction l with
  | nil => simp [val]
  | cons b l ih =>
    rw [val_cons, List.length_cons, Nat.pow_succ]
    have hb : b.toNat < 256 := b.toNat_lt
    have : b.toNat * 256 ^ l.length ≤ 255 * 256 ^ l.length := Nat.mul_le_mul_right _ (by omega)
    omega
theorem encF_eq (n : Nat) : ∀ f g : Nat, n ≤ f → n ≤ g → encF f n = encF g n := by
  induction n using Nat.strongRecOn with
  | ind n ih =>
    intro f g hf hg
    by_cases h0 : n = 0
    · subst h0
      cases f <;> cases g <;> simp [encF]
    · obtain ⟨f', rfl⟩ : ∃ f', f = f' + 1 := ⟨f - 1, by omega⟩
      obtain ⟨g', rfl⟩ : ∃ g', g = g' + 1 := ⟨g - 1, by omega⟩
      simp only [encF, if_neg h0]
      rw [ih (n / 256) (by omega) f' g' (by omega) (by omega)]
theorem enc_zero : enc 0 = [] := rfl
theorem enc_pos {n : Nat} (h : n ≠ 0) : enc n = enc (n / 256) ++ [UInt8.ofNat n] := by
  obtain ⟨m, rfl⟩ : ∃ m, n = m + 1 := ⟨n - 1, by omega⟩
  unfold enc
  rw [show encF (m + 1) (m + 1) = encF m ((m + 1) / 256) ++ [UInt8.ofNat (m + 1)] from by simp [encF]]
  rw [encF_eq ((m + 1) / 256) m ((m + 1) / 256) (by omega) (by omega)]
theorem val_enc (n : Nat) : val (enc n) = n := by
  induction n using Nat.strongRecOn with
  | ind n ih =>
    by_cases h0 : n = 0
    · subst h0; rfl
    · rw [enc_pos h0, val_snoc, ih (n / 256) (by omega)]
      have : (UInt8.ofNat n).toNat = n % 256 := by simp
      rw [this]; omega
theorem trim_snoc (l : List UInt8) (b : UInt8) : trim (l ++ [b]) = if trim l = [] then (if b = 0 then [] else [b]) else trim l ++ [b] := by
  induction l with
  | nil => simp [trim]
  | cons c l ih =>
    simp only [List.cons_append, trim]
    by_cases hc : c = 0
    · simp only [hc, if_true]; exact ih
    · simp [hc]
theorem trim_eq_nil_iff (l : List UInt8) : trim l = [] ↔ val l = 0 := by
  induction l with
  | nil => simp [trim, val]
  | cons c l ih =>
    rw [val_cons]
    simp only [trim]
    by_cases hc : c = 0
    · simp [hc, ih]
    · have h1 : c.toNat ≠ 0 := fun h => hc (UInt8.toNat_inj.1 (by simpa using h))
      have h2 : 0 < 256 ^ l.length := Nat.pow_pos (by omega)
      have h3 : 0 < c.toNat * 256 ^ l.length := Nat.mul_pos (by omega) h2
      simp [hc]; omega
theorem trim_rev (r : List UInt8) : trim r.reverse = enc (val r.reverse) := by
  induction r with
  | nil => rfl
  | cons b r ih =>
    rw [List.reverse_cons, trim_snoc, val_snoc]
    by_cases h0 : val r.reverse = 0
    · have ht := (trim_eq_nil_iff _).2 h0
      rw [if_pos ht, h0]
      by_cases hb : b = 0
      · subst hb; rfl
      · have h1 : b.toNat ≠ 0 := fun h => hb (UInt8.toNat_inj.1 (by simpa using h))
        rw [if_neg hb, enc_pos (by omega)]
        have hlt := b.toNat_lt
        rw [show (0 * 256 + b.toNat) / 256 = 0 from by omega, enc_zero, Nat.zero_mul, Nat.zero_add]
        simp
    · have ht : ¬ trim r.reverse = [] := fun h => h0 ((trim_eq_nil_iff _).1 h)
      rw [if_neg ht, enc_pos (by omega), ih]
      have hlt := b.toNat_lt
      rw [show (val r.reverse * 256 + b.toNat) / 256 = val r.reverse from by omega]
      congr 2
      apply UInt8.toNat_inj.1
      simp
theorem trim_eq (l : List UInt8) : trim l = enc (val l) := by
  have := trim_rev l.reverse
  simpa using this
theorem V_E (n : Nat) : V (E n) = n := val_enc n
theorem E_inj {n m : Nat} (h : E n = E m) : n = m := by rw [← V_E n, h, V_E]
theorem trim_enc (n : Nat) : trim (enc n) = enc n := by rw [trim_eq, val_enc]
/-- no byte 0 ahead -/
theorem enc_head (n : Nat) (l : List UInt8) : enc n ≠ 0 :: l := by
  intro h
  have h1 := trim_enc n
  rw [h] at h1
  simp only [trim, if_true] at h1
  have h2 : (trim l).length ≤ l.length := by
    clear h h1
    induction l with
    | nil => simp [trim]
    | cons c l ih =>
      simp only [trim]
      split
      · simp; omega
      · simp
  rw [h1] at h2
  simp at h2
  omega
theorem enc_length_le {n m : Nat} (h : n < 256 ^ m) : (enc n).length ≤ m := by
  induction m generalizing n with
  | zero => simp at h; subst h; simp [enc_zero]
  | succ m ih =>
    by_cases h0 : n = 0
    · subst h0; simp [enc_zero]
    · rw [enc_pos h0]
      rw [Nat.pow_succ] at h
      have := ih (n := n / 256) (by omega)
      simp; omega
theorem enc_lt (n : Nat) : n < 256 ^ (enc n).length := by
  have := val_lt (enc n)
  rwa [val_enc] at this
theorem enc_ge {n : Nat} (h : n ≠ 0) : 256 ^ ((enc n).length - 1) ≤ n := by
  rcases Nat.lt_or_ge n (256 ^ ((enc n).length - 1)) with hlt | hge
  · have h1 := enc_length_le hlt
    have h2 : 0 < (enc n).length := by rw [enc_pos h]; simp
    omega
  · exact hge
theorem enc_length_mono {n m : Nat} (h : n ≤ m) : (enc n).length ≤ (enc m).length := enc_length_le (Nat.lt_of_le_of_lt h (enc_lt m))
theorem E_size (n : Nat) : (E n).size = (enc n).length := rfl
theorem E_toList (n : Nat) : (E n).data.toList = enc n := by simp [E]
theorem V_lt (s : ByteArray) : V s < 256 ^ s.size := by
  exact val_lt s.data.toList
theorem E_size_V (s : ByteArray) : (E (V s)).size ≤ s.size := by
  rw [E_size]; exact enc_length_le (V_lt s)

/-! digits by place -/
def dig (n i : Nat) : Nat := n / 256 ^ i % 256
theorem dig_lt (n i : Nat) : dig n i < 256 := Nat.mod_lt _ (by omega)
/-- the m lowest digits as numbers, the highest first -/
def digs (n : Nat) : Nat → List Nat
  | 0 => []
  | m + 1 => dig n m :: digs n m
/-- the m lowest digits, the highest first -/
def be (n : Nat) : Nat → List UInt8
  | 0 => []
  | m + 1 => UInt8.ofNat (dig n m) :: be n m
theorem be_length (n m : Nat) : (be n m).length = m := by
  induction m with
  | zero => rfl
  | succ m ih => simp [be, ih]
theorem val_be (n m : Nat) : val (be n m) = n % 256 ^ m := by
  induction m with
  | zero => simp [be, val_nil, Nat.mod_one]
  | succ m ih =>
    rw [be, val_cons, ih, be_length]
    have h1 : (UInt8.ofNat (dig n m)).toNat = dig n m := by
      have := dig_lt n m
      simp; omega
    rw [h1, dig, Nat.pow_succ, Nat.mod_mul, Nat.mul_comm, Nat.add_comm]
theorem digs_be (n m : Nat) : (digs n m).map UInt8.ofNat = be n m := by
  induction m with
  | zero => rfl
  | succ m ih => simp [digs, be, ih]
theorem digs_length (n m : Nat) : (digs n m).length = m := by
  induction m with
  | zero => rfl
  | succ m ih => simp [digs, ih]
theorem V_digs (n m : Nat) : V ⟨((digs n m).map UInt8.ofNat).toArray⟩ = n % 256 ^ m := by
  rw [digs_be]; exact val_be n m
theorem V_digs_lt {n m : Nat} (h : n < 256 ^ m) : V ⟨((digs n m).map UInt8.ofNat).toArray⟩ = n := by
  rw [V_digs]; exact Nat.mod_eq_of_lt h
/-- zeros ahead, and one more digit in the last zero's place -/
theorem zeros_set (n k m d : Nat) (h : k < m) (hd : d = dig n k) : (List.replicate (m - k) 0 ++ digs n k).set (m - 1 - k) d = List.replicate (m - (k + 1)) 0 ++ digs n (k + 1) := by
  obtain ⟨j, rfl⟩ : ∃ j, m = k + 1 + j := ⟨m - (k + 1), by omega⟩
  have e1 : k + 1 + j - k = j + 1 := by omega
  have e2 : k + 1 + j - 1 - k = j := by omega
  have e3 : k + 1 + j - (k + 1) = j := by omega
  rw [e1, e2, e3, List.replicate_succ', List.append_assoc, List.set_append_right _ _ (by simp)]
  simp [digs, hd]
theorem be_get (n m i : Nat) (h : i < m) : (be n m)[i]? = some (UInt8.ofNat (dig n (m - 1 - i))) := by
  induction m generalizing i with
  | zero => omega
  | succ m ih =>
    cases i with
    | zero => simp [be]
    | succ i =>
      rw [be, List.getElem?_cons_succ, ih i (by omega)]
      congr 3
      omega
theorem val_dig (l : List UInt8) (i : Nat) (h : i < l.length) : (l[l.length - 1 - i]'(by omega)).toNat = dig (val l) i := by
  induction l generalizing i with
  | nil => simp at h
  | cons b l ih =>
    rw [val_cons]
    by_cases hi : i = l.length
    · subst hi
      have : (b :: l).length - 1 - l.length = 0 := by simp
      simp only [this, List.getElem_cons_zero, dig]
      have h1 := val_lt l
      rw [Nat.add_comm, Nat.add_mul_div_right _ _ (Nat.pow_pos (by omega)), Nat.div_eq_of_lt h1, Nat.zero_add]
      have := b.toNat_lt
      omega
    · simp only [List.length_cons] at h ⊢
      have h2 : l.length + 1 - 1 - i = (l.length - 1 - i) + 1 := by omega
      simp only [h2, List.getElem_cons_succ]
      rw [ih i (by omega)]
      unfold dig
      obtain ⟨d, hd⟩ : ∃ d, l.length = i + 1 + d := ⟨l.length - i - 1, by omega⟩
      rw [hd, Nat.pow_add, Nat.pow_succ]
      rw [show b.toNat * (256 ^ i * 256 * 256 ^ d) = 256 ^ i * (256 * (b.toNat * 256 ^ d)) from by
        simp only [Nat.mul_assoc, Nat.mul_left_comm, Nat.mul_comm]]
      rw [Nat.mul_add_div (Nat.pow_pos (by omega)), Nat.mul_add_mod]
theorem dig_eq (n i : Nat) : n / 256 ^ i % 256 = dig n i := rfl
theorem mod_full {n m : Nat} (h : n < 256 ^ m) : n % 256 ^ m = n := Nat.mod_eq_of_lt h
theorem dig_zero {n i : Nat} (h : n < 256 ^ i) : dig n i = 0 := by simp [dig, Nat.div_eq_of_lt h]
theorem dig_zero_le {n i m : Nat} (h : n < 256 ^ m) (hm : m ≤ i) : dig n i = 0 := dig_zero (Nat.lt_of_lt_of_le h (Nat.pow_le_pow_right (by omega) hm))
/-- a sum of the first places, and the next one -/
theorem mod_succ (n k : Nat) : n % 256 ^ (k + 1) = n % 256 ^ k + 256 ^ k * dig n k := by
  rw [Nat.pow_succ, Nat.mod_mul, dig]

/-! texts as arrays of bytes -/
theorem V_cons (s : ByteArray) (h : 0 < s.size) : V s = (s[0]'h).toNat * 256 ^ (s.size - 1) + V (s.extract 1 s.size) := by
  obtain ⟨⟨l⟩⟩ := s
  cases l with
  | nil => exact absurd h (by decide)
  | cons b l =>
    have e : (ByteArray.extract ⟨⟨b :: l⟩⟩ 1 (ByteArray.size ⟨⟨b :: l⟩⟩)).data.toList = l := by
      rw [ByteArray.data_extract]
      show (Array.extract (⟨b :: l⟩ : Array UInt8) 1 (l.length + 1)).toList = l
      rw [Array.toList_extract]
      simp [List.extract]
    unfold V
    rw [e]
    show val (b :: l) = b.toNat * 256 ^ (l.length + 1 - 1) + val l
    rw [val_cons]
    rfl
theorem V_tail (s : ByteArray) (h : 0 < s.size) (h0 : (s[0]'h).toNat = 0) : V (s.extract 1 s.size) = V s := by
  rw [V_cons s h, h0]; simp
theorem V_dig (s : ByteArray) (i : Nat) (h : i < s.size) : (s[s.size - 1 - i]'(by omega)).toNat = dig (V s) i := val_dig s.data.toList i h
theorem E_V_nil (s : ByteArray) (h : ¬ 0 < s.size) : E (V s) = s := by
  obtain ⟨⟨l⟩⟩ := s
  cases l with
  | nil => rfl
  | cons b l => exact absurd (show 0 < l.length + 1 by omega) h
theorem E_V_head (s : ByteArray) (h : 0 < s.size) (h0 : (s[0]'h).toNat ≠ 0) : E (V s) = s := by
  obtain ⟨⟨l⟩⟩ := s
  cases l with
  | nil => exact absurd h (by decide)
  | cons b l =>
    have hb : ¬ b = 0 := fun e => h0 (by subst e; rfl)
    unfold E V
    have := trim_eq (b :: l)
    rw [trim, if_neg hb] at this
    rw [← this]
/-- a number that is below 2^64, or 0 -/
def sm (n : Nat) : Nat := if n < 18446744073709551616 then n else 0
def smB (n : Nat) : Bool := decide (n < 18446744073709551616)
theorem pow8 : (256 : Nat) ^ 8 = 18446744073709551616 := by decide
theorem E_small {n : Nat} (h : (E n).size ≤ 8) : n < 18446744073709551616 := by
  have h1 := enc_lt n
  have h2 : 256 ^ (enc n).length ≤ 256 ^ 8 := Nat.pow_le_pow_right (by omega) h
  rw [pow8] at h2
  omega
theorem E_big {n : Nat} (h : ¬ (E n).size ≤ 8) : ¬ n < 18446744073709551616 := by
  intro hn
  rw [← pow8] at hn
  exact h (enc_length_le hn)
/-- the number of the first k digits -/
def top (s : ByteArray) (k : Nat) : Nat := V s / 256 ^ (s.size - k)
theorem top_step (s : ByteArray) (k : Nat) (h : k < s.size) : top s (k + 1) = top s k * 256 + (s[k]'h).toNat := by
  have h1 := V_dig s (s.size - 1 - k) (by omega)
  have e : s.size - 1 - (s.size - 1 - k) = k := by omega
  simp only [e] at h1
  unfold top
  rw [h1, dig, show s.size - k = (s.size - 1 - k) + 1 from by omega, show s.size - (k + 1) = s.size - 1 - k from by omega, Nat.pow_succ, ← Nat.div_div_eq_div_mul]
  omega
theorem top_zero (s : ByteArray) : top s 0 = 0 := Nat.div_eq_of_lt (V_lt s)
theorem top_all (s : ByteArray) : top s s.size = V s := by simp [top]
theorem top_lt (s : ByteArray) (k : Nat) (h : k ≤ s.size) : top s k < 256 ^ k := by
  unfold top
  rw [Nat.div_lt_iff_lt_mul (Nat.pow_pos (by omega)), ← Nat.pow_add, show k + (s.size - k) = s.size from by omega]
  exact V_lt s
/-- what is left above the k lowest digits -/
def sh (n k : Nat) : Nat := n / 256 ^ k
theorem sh_zero (n : Nat) : sh n 0 = n := by simp [sh]
theorem sh_succ (n k : Nat) : sh n (k + 1) = sh n k / 256 := by unfold sh; rw [Nat.pow_succ, ← Nat.div_div_eq_div_mul]
theorem sh_le (n k : Nat) : sh n k ≤ n := Nat.div_le_self _ _
theorem sh_dig (n k : Nat) : sh n k % 256 = dig n k := rfl
/-- how many bits a number has -/
def blen (n : Nat) : Nat := if n = 0 then 0 else Nat.log2 n + 1
theorem blen_join (d m r : Nat) (hd : d ≠ 0) (hr : r < 256 ^ m) : blen (d * 256 ^ m + r) = 8 * m + blen d := by
  have hp : (256 : Nat) ^ m = 2 ^ (8 * m) := by rw [Nat.pow_mul]
  rw [hp] at hr ⊢
  have h1 : d * 2 ^ (8 * m) ≠ 0 := Nat.mul_ne_zero hd (Nat.pos_iff_ne_zero.1 (Nat.two_pow_pos _))
  have h2 : d * 2 ^ (8 * m) + r ≠ 0 := by omega
  unfold blen
  rw [if_neg h2, if_neg hd]
  have hlo : 8 * m + Nat.log2 d ≤ Nat.log2 (d * 2 ^ (8 * m) + r) := by
    rw [Nat.le_log2 h2, Nat.pow_add, Nat.mul_comm]
    exact Nat.le_trans (Nat.mul_le_mul_right _ (Nat.log2_self_le hd)) (Nat.le_add_right _ _)
  have hhi : Nat.log2 (d * 2 ^ (8 * m) + r) < 8 * m + Nat.log2 d + 1 := by
    rw [Nat.log2_lt h2]
    have h3 : d < 2 ^ (Nat.log2 d + 1) := Nat.lt_log2_self
    have h4 : (d + 1) * 2 ^ (8 * m) ≤ 2 ^ (Nat.log2 d + 1) * 2 ^ (8 * m) := Nat.mul_le_mul_right _ h3
    rw [show 8 * m + Nat.log2 d + 1 = (Nat.log2 d + 1) + 8 * m from by omega, Nat.pow_add]
    rw [Nat.add_mul] at h4
    omega
  omega
theorem E_head (n : Nat) (h : 0 < (E n).size) : ((E n)[0]'h).toNat ≠ 0 := by
  intro h0
  have h1 : enc n = 0 :: (enc n).tail := by
    have h2 : 0 < (enc n).length := h
    cases he : enc n with
    | nil => rw [he] at h2; simp at h2
    | cons b l =>
      have h3 : ((E n)[0]'h) = b := by
        show (E n).data[0]'h = b
        have : (E n).data = (b :: l).toArray := by unfold E; rw [he]
        simp [this]
      rw [h3] at h0
      have : b = 0 := UInt8.toNat_inj.1 (by simpa using h0)
      simp [this]
  exact enc_head n _ h1
theorem blen_top (n : Nat) (h : 0 < (E n).size) : blen n = 8 * ((E n).size - 1) + blen ((E n)[0]'h).toNat := by
  have h1 := V_cons (E n) h
  rw [V_E] at h1
  have h2 := V_lt ((E n).extract 1 (E n).size)
  have h3 : ((E n).extract 1 (E n).size).size = (E n).size - 1 := by simp
  rw [h3] at h2
  conv => lhs; rw [h1]
  exact blen_join _ _ _ (E_head n h) h2
theorem blen_zero : blen 0 = 0 := rfl
theorem E_nil (n : Nat) (h : ¬ 0 < (E n).size) : n = 0 := by
  have h1 := V_lt (E n)
  rw [V_E, show (E n).size = 0 from by omega] at h1
  simpa using h1
/-- one bit less behind a half -/
theorem blen_half {n : Nat} (h : n ≠ 0) : blen n = blen (n / 2) + 1 := by
  unfold blen
  rw [if_neg h]
  by_cases h2 : n / 2 = 0
  · have : n = 1 := by omega
    subst this; decide
  · rw [if_neg h2, Nat.log2_def, if_pos (by omega)]
end Go.Proofs.YtjbpipbmcicjiaaGreatDoor.Nt
namespace Go.Proofs.YtjbpipbmcicjiaaGreatDoor.Nt
/-! words of 32 bits, the lowest first -/
def lw : List Nat → Nat
  | [] => 0
  | x :: l => x + 4294967296 * lw l
theorem lw_append (a b : List Nat) : lw (a ++ b) = lw a + 4294967296 ^ a.length * lw b := by
  induction a with
  | nil => simp [lw]
  | cons x a ih => simp only [List.cons_append, lw, ih, List.length_cons, Nat.pow_succ, Nat.mul_add, Nat.mul_assoc, Nat.mul_left_comm 4294967296]; omega
theorem lw_lt (l : List Nat) (h : ∀ x ∈ l, x < 4294967296) : lw l < 4294967296 ^ l.length := by
  induction l with
  | nil => simp [lw]
  | cons x l ih =>
    have h1 := h x (by simp)
    have h2 := ih (fun y hy => h y (by simp [hy]))
    rw [List.length_cons, Nat.pow_succ, lw]
    omega
theorem pow4 : (256 : Nat) ^ 4 = 4294967296 := by decide
theorem lw_dig (l : List Nat) (h : ∀ x ∈ l, x < 4294967296) (p : Nat) (hp : p / 4 < l.length) : dig (lw l) p = l[p / 4] / 256 ^ (p % 4) % 256 := by
  induction l generalizing p with
  | nil => simp at hp
  | cons x l ih =>
    have h1 := h x (by simp)
    by_cases h4 : p < 4
    · have e1 : p / 4 = 0 := by omega
      have e2 : p % 4 = p := by omega
      simp only [e1, e2, List.getElem_cons_zero, lw, dig]
      have e3 : (4294967296 : Nat) = 256 ^ p * (256 * 256 ^ (3 - p)) := by
        rw [← pow4, show (4 : Nat) = p + (1 + (3 - p)) from by omega, Nat.pow_add, Nat.pow_add]
      rw [e3, Nat.mul_assoc, Nat.add_mul_div_left _ _ (Nat.pow_pos (by omega)), Nat.mul_assoc, Nat.add_mul_mod_self_left]
    · obtain ⟨q, rfl⟩ : ∃ q, p = q + 4 := ⟨p - 4, by omega⟩
      have e1 : (q + 4) / 4 = q / 4 + 1 := by omega
      have e2 : (q + 4) % 4 = q % 4 := by omega
      simp only [e1, e2, List.getElem_cons_succ, List.length_cons] at hp ⊢
      rw [← ih (fun y hy => h y (by simp [hy])) q (by omega)]
      simp only [dig, lw]
      rw [Nat.pow_add, pow4, Nat.mul_comm (256 ^ q), ← Nat.div_div_eq_div_mul]
      rw [show (x + 4294967296 * lw l) / 4294967296 = lw l from by omega]
/-- digits from the highest on, the rest still zeros -/
def upTo (n m k : Nat) : List Nat := (digs n m).take k ++ List.replicate (m - k) 0
theorem upTo_zero (n m : Nat) : upTo n m 0 = List.replicate m 0 := by simp [upTo]
theorem upTo_all (n m : Nat) : upTo n m m = digs n m := by simp [upTo, List.take_of_length_le, digs_length]
theorem upTo_length (n m k : Nat) (h : k ≤ m) : (upTo n m k).length = m := by simp [upTo, digs_length]; omega
theorem digs_get (n m i : Nat) (h : i < m) : (digs n m)[i]'(by rw [digs_length]; exact h) = dig n (m - 1 - i) := by
  induction m generalizing i with
  | zero => omega
  | succ m ih =>
    cases i with
    | zero => simp [digs]
    | succ i =>
      simp only [digs, List.getElem_cons_succ]
      rw [ih i (by omega)]
      congr 1
      omega
theorem upTo_set (n m k d : Nat) (h : k < m) (hd : d = dig n (m - 1 - k)) : (upTo n m k).set k d = upTo n m (k + 1) := by
  unfold upTo
  have hl : ((digs n m).take k).length = k := by rw [List.length_take, digs_length]; omega
  rw [List.set_append_right _ _ (by omega), hl, Nat.sub_self, show m - k = (m - (k + 1)) + 1 from by omega, List.replicate_succ]
  simp only [List.set_cons_zero]
  rw [List.take_succ_eq_append_getElem (by rw [digs_length]; exact h), digs_get n m k h, hd]
  simp
/-! digits, the lowest first -/
def lb : List Nat → Nat
  | [] => 0
  | x :: l => x + 256 * lb l
theorem lb_append (a b : List Nat) : lb (a ++ b) = lb a + 256 ^ a.length * lb b := by
  induction a with
  | nil => simp [lb]
  | cons x a ih => simp only [List.cons_append, lb, ih, List.length_cons, Nat.pow_succ, Nat.mul_add, Nat.mul_assoc, Nat.mul_left_comm 256]; omega
theorem lb_lt (l : List Nat) (h : ∀ x ∈ l, x < 256) : lb l < 256 ^ l.length := by
  induction l with
  | nil => simp [lb]
  | cons x l ih =>
    have h1 := h x (by simp)
    have h2 := ih (fun y hy => h y (by simp [hy]))
    rw [List.length_cons, Nat.pow_succ, lb]
    omega
theorem lb_dig (l : List Nat) (h : ∀ x ∈ l, x < 256) (p : Nat) (hp : p < l.length) : dig (lb l) p = l[p] := by
  induction l generalizing p with
  | nil => simp at hp
  | cons x l ih =>
    have h1 := h x (by simp)
    cases p with
    | zero => simp [dig, lb]; omega
    | succ p =>
      simp only [List.getElem_cons_succ, List.length_cons] at hp ⊢
      rw [← ih (fun y hy => h y (by simp [hy])) p (by omega)]
      simp only [dig, lb]
      rw [Nat.pow_succ, Nat.mul_comm (256 ^ p), ← Nat.div_div_eq_div_mul, show (x + 256 * lb l) / 256 = lb l from by omega]
/-- the k lowest digits, the lowest first -/
def low (n k : Nat) : List Nat := (List.range k).map (dig n)
theorem low_zero (n : Nat) : low n 0 = [] := rfl
theorem low_succ (n k : Nat) : low n (k + 1) = low n k ++ [dig n k] := by simp [low, List.range_succ]
theorem low_length (n k : Nat) : (low n k).length = k := by simp [low]
theorem low_lt (n k : Nat) : ∀ x ∈ low n k, x < 256 := by
  intro x hx
  simp only [low, List.mem_map] at hx
  obtain ⟨i, _, rfl⟩ := hx
  exact dig_lt _ _
theorem lb_low (n k : Nat) : lb (low n k) = n % 256 ^ k := by
  induction k with
  | zero => simp [low, lb, Nat.mod_one]
  | succ k ih => rw [low_succ, lb_append, ih, low_length, mod_succ]; simp [lb]
/-- what a sum carries over its k lowest digits -/
def cy (a b k : Nat) : Nat := (a % 256 ^ k + b % 256 ^ k) / 256 ^ k
theorem cy_zero (a b : Nat) : cy a b 0 = 0 := by simp [cy, Nat.mod_one]
theorem cy_step (a b k : Nat) : dig a k + dig b k + cy a b k = dig (a + b) k + 256 * cy a b (k + 1) := by
  have hp : 0 < 256 ^ k := Nat.pow_pos (by omega)
  have ha := mod_succ a k
  have hb := mod_succ b k
  have hA := dig_lt a k
  have hB := dig_lt b k
  unfold cy
  -- everything over 256 ^ k
  have e1 : (a % 256 ^ (k + 1) + b % 256 ^ (k + 1)) / 256 ^ (k + 1) = ((a % 256 ^ k + b % 256 ^ k) / 256 ^ k + (dig a k + dig b k)) / 256 := by
    rw [ha, hb, Nat.pow_succ, ← Nat.div_div_eq_div_mul]
    rw [show a % 256 ^ k + 256 ^ k * dig a k + (b % 256 ^ k + 256 ^ k * dig b k) = a % 256 ^ k + b % 256 ^ k + 256 ^ k * (dig a k + dig b k) from by rw [Nat.mul_add]; omega]
    rw [Nat.add_mul_div_left _ _ hp]
  have e2 : dig (a + b) k = ((a % 256 ^ k + b % 256 ^ k) / 256 ^ k + (dig a k + dig b k)) % 256 := by
    unfold dig
    have h1 : a = a % 256 ^ k + 256 ^ k * (a / 256 ^ k) := (Nat.mod_add_div a (256 ^ k)).symm
    have h2 : b = b % 256 ^ k + 256 ^ k * (b / 256 ^ k) := (Nat.mod_add_div b (256 ^ k)).symm
    have h3 : (a + b) / 256 ^ k = (a % 256 ^ k + b % 256 ^ k) / 256 ^ k + (a / 256 ^ k + b / 256 ^ k) := by
      conv => lhs; rw [h1, h2]
      rw [show a % 256 ^ k + 256 ^ k * (a / 256 ^ k) + (b % 256 ^ k + 256 ^ k * (b / 256 ^ k)) = a % 256 ^ k + b % 256 ^ k + 256 ^ k * (a / 256 ^ k + b / 256 ^ k) from by rw [Nat.mul_add]; omega]
      rw [Nat.add_mul_div_left _ _ hp]
    rw [h3]
    omega
  rw [e1, e2]
  omega
theorem cy_le (a b k : Nat) : cy a b k ≤ 1 := by
  have hp : 0 < 256 ^ k := Nat.pow_pos (by omega)
  have h1 := Nat.mod_lt a hp
  have h2 := Nat.mod_lt b hp
  unfold cy
  have : (a % 256 ^ k + b % 256 ^ k) / 256 ^ k < 2 := by
    rw [Nat.div_lt_iff_lt_mul hp]; omega
  omega
theorem cy_full {a b k : Nat} (ha : a < 256 ^ k) (hb : b < 256 ^ k) : cy a b k = (a + b) / 256 ^ k := by
  unfold cy
  rw [Nat.mod_eq_of_lt ha, Nat.mod_eq_of_lt hb]
theorem cy_end {a b k : Nat} (ha : a < 256 ^ k) (hb : b < 256 ^ k) (h0 : cy a b k = 0) : a + b < 256 ^ k := by
  rw [cy_full ha hb] at h0
  have hp : 0 < 256 ^ k := Nat.pow_pos (by omega)
  rcases Nat.lt_or_ge (a + b) (256 ^ k) with h | h
  · exact h
  · have := Nat.div_pos h hp
    omega
theorem cy_beyond {a b k : Nat} (ha : a < 256 ^ k) (hb : b < 256 ^ k) : cy a b (k + 1) = 0 := by
  have ha' : a < 256 ^ (k + 1) := Nat.lt_of_lt_of_le ha (Nat.pow_le_pow_right (by omega) (by omega))
  have hb' : b < 256 ^ (k + 1) := Nat.lt_of_lt_of_le hb (Nat.pow_le_pow_right (by omega) (by omega))
  rw [cy_full ha' hb']
  apply Nat.div_eq_of_lt
  rw [Nat.pow_succ]
  omega
/-- what a difference owes above its k lowest digits -/
def bw (a b k : Nat) : Nat := if a % 256 ^ k < b % 256 ^ k then 1 else 0
theorem bw_zero (a b : Nat) : bw a b 0 = 0 := by simp [bw, Nat.mod_one]
theorem bw_le (a b k : Nat) : bw a b k ≤ 1 := by unfold bw; split <;> omega
theorem bw_step {a b : Nat} (h : b ≤ a) (k : Nat) : dig a k + 256 * bw a b (k + 1) = dig (a - b) k + dig b k + bw a b k := by
  obtain ⟨c, rfl⟩ : ∃ c, a = b + c := ⟨a - b, by omega⟩
  rw [Nat.add_sub_cancel_left]
  have hs := cy_step b c k
  have hk : ∀ j, bw (b + c) b j = cy b c j := fun j => by
    have hp : 0 < 256 ^ j := Nat.pow_pos (by omega)
    have h1 := Nat.mod_lt b hp
    have h2 := Nat.mod_lt c hp
    unfold bw cy
    rw [Nat.add_mod]
    by_cases hlt : b % 256 ^ j + c % 256 ^ j < 256 ^ j
    · rw [Nat.mod_eq_of_lt hlt, if_neg (by omega), Nat.div_eq_of_lt hlt]
    · have e : (b % 256 ^ j + c % 256 ^ j) % 256 ^ j = b % 256 ^ j + c % 256 ^ j - 256 ^ j := by
        rw [Nat.mod_eq_sub_mod (by omega), Nat.mod_eq_of_lt (by omega)]
      have e2 : (b % 256 ^ j + c % 256 ^ j) / 256 ^ j = 1 := by
        rw [Nat.div_eq_iff hp]; omega
      rw [e, e2, if_pos (by omega)]
  rw [hk, hk]
  have := dig_lt c k
  omega
end Go.Proofs.YtjbpipbmcicjiaaGreatDoor.Nt
namespace Go.Proofs.YtjbpipbmcicjiaaGreatDoor.Nt

theorem lw_set (l : List Nat) (p v : Nat) (h : p < l.length) : lw (l.set p v) + l[p] * 4294967296 ^ p = lw l + v * 4294967296 ^ p := by
  induction l generalizing p with
  | nil => simp at h
  | cons x l ih =>
    cases p with
    | zero => simp [lw]; omega
    | succ p =>
      have hp : p < l.length := by simpa using h
      have := ih p hp
      simp only [List.set_cons_succ, lw, List.getElem_cons_succ, Nat.pow_succ]
      have e1 : l[p]'hp * (4294967296 ^ p * 4294967296) = 4294967296 * (l[p]'hp * 4294967296 ^ p) := by rw [← Nat.mul_assoc, Nat.mul_comm]
      have e2 : v * (4294967296 ^ p * 4294967296) = 4294967296 * (v * 4294967296 ^ p) := by rw [← Nat.mul_assoc, Nat.mul_comm]
      rw [e1, e2]
      omega
theorem lb_set (l : List Nat) (p v : Nat) (h : p < l.length) : lb (l.set p v) + l[p] * 256 ^ p = lb l + v * 256 ^ p := by
  induction l generalizing p with
  | nil => simp at h
  | cons x l ih =>
    cases p with
    | zero => simp [lb]; omega
    | succ p =>
      have hp : p < l.length := by simpa using h
      have := ih p hp
      simp only [List.set_cons_succ, lb, List.getElem_cons_succ, Nat.pow_succ]
      have e1 : l[p]'hp * (256 ^ p * 256) = 256 * (l[p]'hp * 256 ^ p) := by rw [← Nat.mul_assoc, Nat.mul_comm]
      have e2 : v * (256 ^ p * 256) = 256 * (v * 256 ^ p) := by rw [← Nat.mul_assoc, Nat.mul_comm]
      rw [e1, e2]
      omega
theorem lw_zeros (n : Nat) : lw (List.replicate n 0) = 0 := by
  induction n with
  | zero => rfl
  | succ n ih => simp [List.replicate_succ, lw, ih]
theorem lb_zeros (n : Nat) : lb (List.replicate n 0) = 0 := by
  induction n with
  | zero => rfl
  | succ n ih => simp [List.replicate_succ, lb, ih]
theorem lw_take_succ (l : List Nat) (k : Nat) (h : k < l.length) : lw (l.take (k + 1)) = lw (l.take k) + l[k] * 4294967296 ^ k := by
  rw [List.take_succ_eq_append_getElem h, lw_append]
  simp only [lw, List.length_take, Nat.min_eq_left (Nat.le_of_lt h), Nat.mul_zero, Nat.add_zero]
  rw [Nat.mul_comm]
/-- one place of a product, base b: what is set, and what is carried on. -/
theorem place_step (L L' p t c P d e b : Nat) (h : L' + p * P = L + t % b * P) (ht : t = d * e + p + c) : L' + t / b * (P * b) = L + (d * e + c) * P := by
  have h1 : t % b + b * (t / b) = t := Nat.mod_add_div t b
  have h2 : t / b * (P * b) = b * (t / b) * P := by rw [Nat.mul_comm P b, ← Nat.mul_assoc, Nat.mul_comm (t / b) b]
  have h3 : t % b * P + b * (t / b) * P = t * P := by rw [← Nat.add_mul, h1]
  have h4 : t * P = d * e * P + p * P + c * P := by rw [ht, Nat.add_mul, Nat.add_mul]
  rw [h2, Nat.add_mul]
  omega
/-! words of 32 bits out of bytes -/
def wd (n j : Nat) : Nat := n / 4294967296 ^ j % 4294967296
def wds (n m : Nat) : List Nat := (List.range m).map (wd n)
theorem wds_length (n m : Nat) : (wds n m).length = m := by simp [wds]
theorem wds_get (n m j : Nat) (h : j < (wds n m).length) : (wds n m)[j] = wd n j := by simp [wds]
theorem wd_lt (n j : Nat) : wd n j < 4294967296 := Nat.mod_lt _ (by omega)
theorem wds_lt (n m : Nat) : ∀ x ∈ wds n m, x < 4294967296 := by
  intro x hx
  simp only [wds, List.mem_map] at hx
  obtain ⟨i, _, rfl⟩ := hx
  exact wd_lt _ _
theorem wds_zero (m : Nat) : wds 0 m = List.replicate m 0 := by
  apply List.ext_getElem
  · simp [wds]
  · intro i h1 h2
    simp [wds, wd]
theorem lw_wds (n m : Nat) : lw (wds n m) = n % 4294967296 ^ m := by
  induction m with
  | zero => simp [wds, lw, Nat.mod_one]
  | succ m ih =>
    have e : wds n (m + 1) = wds n m ++ [wd n m] := by simp [wds, List.range_succ]
    rw [e, lw_append, ih, wds_length]
    simp only [lw, Nat.mul_zero, Nat.add_zero]
    rw [Nat.pow_succ, Nat.mod_mul, wd]
theorem pow32 (j : Nat) : (4294967296 : Nat) ^ j = 256 ^ (4 * j) := by rw [Nat.pow_mul, pow4]
theorem wds_step (n k m : Nat) (hm : k / 4 < m) :
    (wds (n % 256 ^ k) m).set (k / 4) (wd (n % 256 ^ k) (k / 4) ||| dig n k * 2 ^ (k % 4 * 8)) = wds (n % 256 ^ (k + 1)) m := by
  have hd := dig_lt n k
  obtain ⟨q, r, hk, hr⟩ : ∃ q r, k = 4 * q + r ∧ r < 4 := ⟨k / 4, k % 4, by omega, by omega⟩
  have hq : k / 4 = q := by omega
  have hr' : k % 4 = r := by omega
  rw [hq] at hm ⊢
  rw [hr']
  have hP : (256 : Nat) ^ k = 4294967296 ^ q * 256 ^ r := by rw [hk, Nat.pow_add, pow32]
  have hlt : n % 256 ^ k < 256 ^ k := Nat.mod_lt _ (Nat.pow_pos (by omega))
  have hQ : 0 < 4294967296 ^ q := Nat.pow_pos (by omega)
  have hR : (256 : Nat) ^ r * 256 ≤ 4294967296 := by
    rw [← Nat.pow_succ, ← pow4]; exact Nat.pow_le_pow_right (by omega) (by omega)
  have hRp : 0 < (256 : Nat) ^ r := Nat.pow_pos (by omega)
  generalize hM : n % 256 ^ k = M at *
  have hS := mod_succ n k
  rw [hM] at hS
  rw [hS]
  have hdiv : M / 4294967296 ^ q < 256 ^ r := by
    rw [Nat.div_lt_iff_lt_mul hQ, Nat.mul_comm, ← hP]; exact hlt
  have hsum : (M + 256 ^ k * dig n k) / 4294967296 ^ q = M / 4294967296 ^ q + 256 ^ r * dig n k := by
    rw [hP, Nat.mul_assoc, Nat.add_mul_div_left _ _ hQ]
  have hdr : 256 ^ r * dig n k ≤ 256 ^ r * 255 := Nat.mul_le_mul_left _ (by omega)
  apply List.ext_getElem
  · simp [wds]
  · intro j h1 h2
    rw [wds_get]
    by_cases hj : j = q
    · subst hj
      rw [List.getElem_set_self]
      unfold wd
      rw [hsum, Nat.mod_eq_of_lt (by omega), Nat.mod_eq_of_lt (by omega)]
      have e2 : (256 : Nat) ^ r = 2 ^ (r * 8) := by rw [Nat.mul_comm, Nat.pow_mul]
      rw [e2] at hdiv ⊢
      rw [Nat.or_comm, Nat.mul_comm (dig n k), ← Nat.two_pow_add_eq_or_of_lt hdiv, Nat.add_comm]
    · rw [List.getElem_set_ne (by omega)]
      rw [wds_get]
      unfold wd
      rcases Nat.lt_or_ge j q with hlt' | hge
      · obtain ⟨t, rfl⟩ : ∃ t, q = j + 1 + t := ⟨q - (j + 1), by omega⟩
        have hJ : 0 < 4294967296 ^ j := Nat.pow_pos (by omega)
        have e3 : 256 ^ k * dig n k = 4294967296 ^ j * (4294967296 * (4294967296 ^ t * 256 ^ r * dig n k)) := by
          rw [hP, Nat.pow_add, Nat.pow_succ]
          simp only [Nat.mul_assoc]
        rw [e3, Nat.add_mul_div_left _ _ hJ, Nat.add_mul_mod_self_left]
      · obtain ⟨t, rfl⟩ : ∃ t, j = q + 1 + t := ⟨j - (q + 1), by omega⟩
        have e4 : (4294967296 : Nat) ^ (q + 1 + t) = 4294967296 ^ q * (4294967296 * 4294967296 ^ t) := by
          rw [Nat.pow_add, Nat.pow_succ, Nat.mul_assoc]
        have hT : 0 < 4294967296 ^ t := Nat.pow_pos (by omega)
        have hT2 : 4294967296 * 1 ≤ 4294967296 * 4294967296 ^ t := Nat.mul_le_mul_left _ hT
        rw [e4]
        simp only [← Nat.div_div_eq_div_mul, hsum]
        rw [Nat.div_eq_of_lt (show M / 4294967296 ^ q < 4294967296 by omega), Nat.div_eq_of_lt (show M / 4294967296 ^ q + 256 ^ r * dig n k < 4294967296 by omega)]
end Go.Proofs.YtjbpipbmcicjiaaGreatDoor.Nt
namespace Go.Proofs.YtjbpipbmcicjiaaGreatDoor.Nt

/-- digits of base b, the lowest first. -/
def le (b : Nat) : List Nat → Nat
  | [] => 0
  | x :: l => x + b * le b l
theorem le_lw (l : List Nat) : le 4294967296 l = lw l := by
  induction l with
  | nil => rfl
  | cons x l ih => simp only [le, lw, ih]
theorem le_lb (l : List Nat) : le 256 l = lb l := by
  induction l with
  | nil => rfl
  | cons x l ih => simp only [le, lb, ih]
theorem le_append (b : Nat) (x y : List Nat) : le b (x ++ y) = le b x + b ^ x.length * le b y := by
  induction x with
  | nil => simp [le]
  | cons a x ih => simp only [List.cons_append, le, ih, List.length_cons, Nat.pow_succ, Nat.mul_add, Nat.mul_assoc, Nat.mul_left_comm b]; omega
theorem le_zeros (b n : Nat) : le b (List.replicate n 0) = 0 := by
  induction n with
  | zero => rfl
  | succ n ih => simp [List.replicate_succ, le, ih]
theorem le_set (b : Nat) (l : List Nat) (p v : Nat) (h : p < l.length) : le b (l.set p v) + l[p] * b ^ p = le b l + v * b ^ p := by
  induction l generalizing p with
  | nil => simp at h
  | cons x l ih =>
    cases p with
    | zero => simp [le]; omega
    | succ p =>
      have hp : p < l.length := by simpa using h
      have := ih p hp
      simp only [List.set_cons_succ, le, List.getElem_cons_succ, Nat.pow_succ]
      have e1 : l[p]'hp * (b ^ p * b) = b * (l[p]'hp * b ^ p) := by rw [← Nat.mul_assoc, Nat.mul_comm]
      have e2 : v * (b ^ p * b) = b * (v * b ^ p) := by rw [← Nat.mul_assoc, Nat.mul_comm]
      have e3 : b * (le b (l.set p v)) + b * (l[p]'hp * b ^ p) = b * le b l + b * (v * b ^ p) := by rw [← Nat.mul_add, this, Nat.mul_add]
      rw [e1, e2]
      omega
theorem le_take_succ (b : Nat) (l : List Nat) (k : Nat) (h : k < l.length) : le b (l.take (k + 1)) = le b (l.take k) + l[k] * b ^ k := by
  rw [List.take_succ_eq_append_getElem h, le_append]
  simp only [le, List.length_take, Nat.min_eq_left (Nat.le_of_lt h), Nat.mul_zero, Nat.add_zero]
  rw [Nat.mul_comm]

/-- a product behind i rounds. -/
structure MulOut (b : Nat) (xs ys : List Nat) (i : Nat) (ls : List Nat) : Prop where
  len : ls.length = xs.length + ys.length
  lt : ∀ x ∈ ls, x < b
  zero : ∀ p (h : p < ls.length), i + ys.length ≤ p → ls[p] = 0
  val : le b ls = le b (xs.take i) * le b ys
/-- a product behind i rounds, and j places of one more, whose digit is d. -/
structure MulIn (b : Nat) (xs ys : List Nat) (i d j c : Nat) (ls : List Nat) : Prop where
  len : ls.length = xs.length + ys.length
  lt : ∀ x ∈ ls, x < b
  zero : ∀ p (h : p < ls.length), i + ys.length ≤ p → ls[p] = 0
  cb : c < b
  val : le b ls + c * b ^ (i + j) = le b (xs.take i) * le b ys + d * le b (ys.take j) * b ^ i
theorem mul_start (b : Nat) (hb : 0 < b) (xs ys : List Nat) : MulOut b xs ys 0 (List.replicate (xs.length + ys.length) 0) :=
  ⟨by simp, fun x hx => by simp at hx; omega, fun p h _ => by simp, by rw [le_zeros]; simp [le]⟩
theorem mul_in {b : Nat} (hb : 0 < b) {xs ys ls : List Nat} {i : Nat} (d : Nat) (h : MulOut b xs ys i ls) : MulIn b xs ys i d 0 0 ls :=
  ⟨h.len, h.lt, h.zero, hb, by simp [le, h.val]⟩
theorem mul_step {b : Nat} {xs ys ls : List Nat} {i d j c t : Nat} (h : MulIn b xs ys i d j c ls) (hd : d < b) (hi : i < xs.length) (hj : j < ys.length) (hy : ys[j] < b)
    (ht : t = d * ys[j] + ls[i + j]'(by rw [h.len]; omega) + c) : MulIn b xs ys i d (j + 1) (t / b) (ls.set (i + j) (t % b)) := by
  have hb : 0 < b := by omega
  have hp : i + j < ls.length := by rw [h.len]; omega
  have hl := h.lt _ (List.getElem_mem hp)
  have hc := h.cb
  refine ⟨by simp [h.len], fun x hx => ?_, fun p hp' hge => ?_, ?_, ?_⟩
  · rcases List.mem_or_eq_of_mem_set hx with hx | rfl
    · exact h.lt x hx
    · exact Nat.mod_lt _ hb
  · rw [List.getElem_set_ne (by omega)]
    exact h.zero p (by simpa using hp') hge
  · rw [Nat.div_lt_iff_lt_mul hb, ht]
    have h1 : d * ys[j] ≤ (b - 1) * (b - 1) := Nat.mul_le_mul (by omega) (by omega)
    obtain ⟨m, rfl⟩ : ∃ m, b = m + 1 := ⟨b - 1, by omega⟩
    simp only [Nat.add_sub_cancel] at h1
    have h2 : (m + 1) * (m + 1) = m * m + m + m + 1 := by rw [Nat.add_mul, Nat.mul_add]; omega
    omega
  · have h1 := le_set b ls (i + j) (t % b) hp
    have h2 := place_step (le b ls) (le b (ls.set (i + j) (t % b))) (ls[i + j]'hp) t c (b ^ (i + j)) d ys[j] b h1 ht
    rw [show i + (j + 1) = (i + j) + 1 from rfl, Nat.pow_succ, h2, le_take_succ b ys j hj]
    have h3 := h.val
    have h4 : (d * ys[j] + c) * b ^ (i + j) = d * ys[j] * b ^ (i + j) + c * b ^ (i + j) := Nat.add_mul _ _ _
    have h5 : d * (le b (ys.take j) + ys[j] * b ^ j) * b ^ i = d * le b (ys.take j) * b ^ i + d * ys[j] * b ^ (i + j) := by
      rw [Nat.mul_add, Nat.add_mul, Nat.pow_add]
      congr 1
      rw [Nat.mul_comm (b ^ i), ← Nat.mul_assoc, ← Nat.mul_assoc]
    omega
theorem mul_sum {b : Nat} {d e l c : Nat} (hd : d < b) (he : e < b) (hl : l < b) (hc : c < b) : d * e + l + c < b * b := by
  have h1 : d * e ≤ (b - 1) * (b - 1) := Nat.mul_le_mul (by omega) (by omega)
  obtain ⟨m, rfl⟩ : ∃ m, b = m + 1 := ⟨b - 1, by omega⟩
  simp only [Nat.add_sub_cancel] at h1
  have h2 : (m + 1) * (m + 1) = m * m + m + m + 1 := by rw [Nat.add_mul, Nat.mul_add]; omega
  omega
theorem mul_out {b : Nat} {xs ys ls : List Nat} {i d c : Nat} (h : MulIn b xs ys i d ys.length c ls) (hi : i < xs.length) (hd : d = xs[i]) : MulOut b xs ys (i + 1) (ls.set (i + ys.length) c) := by
  have hp : i + ys.length < ls.length := by rw [h.len]; omega
  have h0 := h.zero _ hp (Nat.le_refl _)
  refine ⟨by simp [h.len], fun x hx => ?_, fun p hp' hge => ?_, ?_⟩
  · rcases List.mem_or_eq_of_mem_set hx with hx | rfl
    · exact h.lt x hx
    · exact h.cb
  · rw [List.getElem_set_ne (by omega)]
    exact h.zero p (by simpa using hp') (by omega)
  · have h1 := le_set b ls (i + ys.length) c hp
    rw [h0, Nat.zero_mul, Nat.add_zero] at h1
    rw [h1, h.val, List.take_length, le_take_succ b xs i hi, Nat.add_mul, ← hd]
    congr 1
    rw [Nat.mul_assoc, Nat.mul_assoc, Nat.mul_comm (b ^ i)]
theorem mul_end {b : Nat} {xs ys ls : List Nat} (h : MulOut b xs ys xs.length ls) : le b ls = le b xs * le b ys := by
  rw [h.val, List.take_length]
end Go.Proofs.YtjbpipbmcicjiaaGreatDoor.Nt
