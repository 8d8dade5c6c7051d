/-
  PLAIN MATHEMATICS OF NATURALS AS TEXTS OF BYTES: val (the number of a list of bytes, the highest first), enc (its shortest list), trim. No program is named here.
-/
namespace Go.Proofs.YtolbbmnhcgoooaaDoor.Nt

def val : List UInt8 → Nat := List.foldl (fun n b => n * 256 + b.toNat) 0
def encF : Nat → Nat → List UInt8
  | 0, _ => []
  | f + 1, n => if n = 0 then [] else encF f (n / 256) ++ [UInt8.ofNat n]
def enc (n : Nat) : List UInt8 := encF n n
def trim : List UInt8 → List UInt8
  | [] => []
  | b :: l => if b = 0 then trim l else b :: l
def V (s : ByteArray) : Nat := val s.data.toList
def E (n : Nat) : ByteArray := ⟨(enc n).toArray⟩

theorem val_foldl (l : List UInt8) (a : Nat) : l.foldl (fun n b => n * 256 + b.toNat) a = a * 256 ^ l.length + val l := by
  induction l generalizing a with
  | nil => simp [val]
  | cons b l ih =>
    have h1 := ih (a * 256 + b.toNat)
    have h2 := ih (0 * 256 + b.toNat)
    simp only [List.foldl_cons, val, List.length_cons] at *
    rw [h1, h2, Nat.pow_succ]
    simp only [Nat.add_mul, Nat.zero_mul, Nat.zero_add, Nat.mul_assoc, Nat.mul_comm 256]
    omega
theorem val_nil : val [] = 0 := rfl
theorem val_cons (b : UInt8) (l : List UInt8) : val (b :: l) = b.toNat * 256 ^ l.length + val l := by
  have := val_foldl l (0 * 256 + b.toNat)
  simpa [val] using this
theorem val_append (l k : List UInt8) : val (l ++ k) = val l * 256 ^ k.length + val k := by
  have := val_foldl k (val l)
  rw [← this]; simp [val, List.foldl_append]
theorem val_snoc (l : List UInt8) (b : UInt8) : val (l ++ [b]) = val l * 256 + b.toNat := by
  rw [val_append]; simp [val]
theorem val_lt (l : List UInt8) : val l < 256 ^ l.length := by
  induction l with
  | nil => simp [val]
  | cons b l ih =>
    rw [val_cons, List.length_cons, Nat.pow_succ]
    have hb : b.toNat < 256 := b.toNat_lt
    have : b.toNat * 256 ^ l.length ≤ 255 * 256 ^ l.length := Nat.mul_le_mul_right _ (by omega)
    omega
theorem encF_eq (n : Nat) : ∀ f g : Nat, n ≤ f → n ≤ g → encF f n = encF g n := by
  induction n using Nat.strongRecOn with
  | ind n ih =>
    intro f g hf hg
    by_cases h0 : n = 0
    · subst h0
      cases f <;> cases g <;> simp [encF]
    · obtain ⟨f', rfl⟩ : ∃ f', f = f' + 1 := ⟨f - 1, by omega⟩
      obtain ⟨g', rfl⟩ : ∃ g', g = g' + 1 := ⟨g - 1, by omega⟩
      simp only [encF, if_neg h0]
      rw [ih (n / 256) (by omega) f' g' (by omega) (by omega)]
theorem enc_zero : enc 0 = [] := rfl
theorem enc_pos {n : Nat} (h : n ≠ 0) : enc n = enc (n / 256) ++ [UInt8.ofNat n] := by
  obtain ⟨m, rfl⟩ : ∃ m, n = m + 1 := ⟨n - 1, by omega⟩
  unfold enc
  rw [show encF (m + 1) (m + 1) = encF m ((m + 1) / 256) ++ [UInt8.ofNat (m + 1)] from by simp [encF]]
  rw [encF_eq ((m + 1) / 256) m ((m + 1) / 256) (by omega) (by omega)]
theorem val_enc (n : Nat) : val (enc n) = n := by
  induction n using Nat.strongRecOn with
  | ind n ih =>
    by_cases h0 : n = 0
    · subst h0; rfl
    · rw [enc_pos h0, val_snoc, ih (n / 256) (by omega)]
      have : (UInt8.ofNat n).toNat = n % 256 := by simp
      rw [this]; omega
theorem trim_snoc (l : List UInt8) (b : UInt8) : trim (l ++ [b]) = if trim l = [] then (if b = 0 then [] else [b]) else trim l ++ [b] := by
  induction l with
  | nil => simp [trim]
  | cons c l ih =>
    simp only [List.cons_append, trim]
    by_cases hc : c = 0
    · simp only [hc, if_true]; exact ih
    · simp [hc]
theorem trim_eq_nil_iff (l : List UInt8) : trim l = [] ↔ val l = 0 := by
  induction l with
  | nil => simp [trim, val]
  | cons c l ih =>
    rw [val_cons]
    simp only [trim]
    by_cases hc : c = 0
    · simp [hc, ih]
    · have h1 : c.toNat ≠ 0 := fun h => hc (UInt8.toNat_inj.1 (by simpa using h))
      have h2 : 0 < 256 ^ l.length := Nat.pow_pos (by omega)
      have h3 : 0 < c.toNat * 256 ^ l.length := Nat.mul_pos (by omega) h2
      simp [hc]; omega
theorem trim_rev (r : List UInt8) : trim r.reverse = enc (val r.reverse) := by
  induction r with
  | nil => rfl
  | cons b r ih =>
    rw [List.reverse_cons, trim_snoc, val_snoc]
    by_cases h0 : val r.reverse = 0
    · have ht := (trim_eq_nil_iff _).2 h0
      rw [if_pos ht, h0]
      by_cases hb : b = 0
      · subst hb; rfl
      · have h1 : b.toNat ≠ 0 := fun h => hb (UInt8.toNat_inj.1 (by simpa using h))
        rw [if_neg hb, enc_pos (by omega)]
        have hlt := b.toNat_lt
        rw [show (0 * 256 + b.toNat) / 256 = 0 from by omega, enc_zero, Nat.zero_mul, Nat.zero_add]
        simp
    · have ht : ¬ trim r.reverse = [] := fun h => h0 ((trim_eq_nil_iff _).1 h)
      rw [if_neg ht, enc_pos (by omega), ih]
      have hlt := b.toNat_lt
      rw [show (val r.reverse * 256 + b.toNat) / 256 = val r.reverse from by omega]
      congr 2
      apply UInt8.toNat_inj.1
      simp
theorem trim_eq (l : List UInt8) : trim l = enc (val l) := by
  have := trim_rev l.reverse
  simpa using this
theorem V_E (n : Nat) : V (E n) = n := val_enc n
theorem E_inj {n m : Nat} (h : E n = E m) : n = m := by rw [← V_E n, h, V_E]
theorem trim_enc (n : Nat) : trim (enc n) = enc n := by rw [trim_eq, val_enc]
/-- no byte 0 ahead -/
theorem enc_head (n : Nat) (l : List UInt8) : enc n ≠ 0 :: l := by
  intro h
  have h1 := trim_enc n
  rw [h] at h1
  simp only [trim, if_true] at h1
  have h2 : (trim l).length ≤ l.length := by
    clear h h1
    induction l with
    | nil => simp [trim]
    | cons c l ih =>
      simp only [trim]
      split
      · simp; omega
      · simp
  rw [h1] at h2
  simp at h2
  omega
theorem enc_length_le {n m : Nat} (h : n < 256 ^ m) : (enc n).length ≤ m := by
  induction m generalizing n with
  | zero => simp at h; subst h; simp [enc_zero]
  | succ m ih =>
    by_cases h0 : n = 0
    · subst h0; simp [enc_zero]
    · rw [enc_pos h0]
      rw [Nat.pow_succ] at h
      have := ih (n := n / 256) (by omega)
      simp; omega
theorem enc_lt (n : Nat) : n < 256 ^ (enc n).length := by
  have := val_lt (enc n)
  rwa [val_enc] at this
theorem enc_ge {n : Nat} (h : n ≠ 0) : 256 ^ ((enc n).length - 1) ≤ n := by
  rcases Nat.lt_or_ge n (256 ^ ((enc n).length - 1)) with hlt | hge
  · have h1 := enc_length_le hlt
    have h2 : 0 < (enc n).length := by rw [enc_pos h]; simp
    omega
  · exact hge
theorem enc_length_mono {n m : Nat} (h : n ≤ m) : (enc n).length ≤ (enc m).length := enc_length_le (Nat.lt_of_le_of_lt h (enc_lt m))
theorem E_size (n : Nat) : (E n).size = (enc n).length := rfl
theorem E_toList (n : Nat) : (E n).data.toList = enc n := by simp [E]
theorem V_lt (s : ByteArray) : V s < 256 ^ s.size := by
  exact val_lt s.data.toList
theorem E_size_V (s : ByteArray) : (E (V s)).size ≤ s.size := by
  rw [E_size]; exact enc_length_le (V_lt s)

/-! digits by place -/
def dig (n i : Nat) : Nat := n / 256 ^ i % 256
theorem dig_lt (n i : Nat) : dig n i < 256 := Nat.mod_lt _ (by omega)
/-- the m lowest digits as numbers, the highest first -/
def digs (n : Nat) : Nat → List Nat
  | 0 => []
  | m + 1 => dig n m :: digs n m
/-- the m lowest digits, the highest first -/
def be (n : Nat) : Nat → List UInt8
  | 0 => []
  | m + 1 => UInt8.ofNat (dig n m) :: be n m
theorem be_length (n m : Nat) : (be n m).length = m := by
  induction m with
  | zero => rfl
  | succ m ih => simp [be, ih]
theorem val_be (n m : Nat) : val (be n m) = n % 256 ^ m := by
  induction m with
  | zero => simp [be, val_nil, Nat.mod_one]
  | succ m ih =>
    rw [be, val_cons, ih, be_length]
    have h1 : (UInt8.ofNat (dig n m)).toNat = dig n m := by
      have := dig_lt n m
      simp; omega
    rw [h1, dig, Nat.pow_succ, Nat.mod_mul, Nat.mul_comm, Nat.add_comm]
theorem digs_be (n m : Nat) : (digs n m).map UInt8.ofNat = be n m := by
  induction m with
  | zero => rfl
  | succ m ih => simp [digs, be, ih]
theorem digs_length (n m : Nat) : (digs n m).length = m := by
  induction m with
  | zero => rfl
  | succ m ih => simp [digs, ih]
theorem V_digs (n m : Nat) : V ⟨((digs n m).map UInt8.ofNat).toArray⟩ = n % 256 ^ m := by
  rw [digs_be]; exact val_be n m
theorem V_digs_lt {n m : Nat} (h : n < 256 ^ m) : V ⟨((digs n m).map UInt8.ofNat).toArray⟩ = n := by
  rw [V_digs]; exact Nat.mod_eq_of_lt h
/-- zeros ahead, and one more digit in the last zero's place -/
theorem zeros_set (n k m d : Nat) (h : k < m) (hd : d = dig n k) : (List.replicate (m - k) 0 ++ digs n k).set (m - 1 - k) d = List.replicate (m - (k + 1)) 0 ++ digs n (k + 1) := by
  obtain ⟨j, rfl⟩ : ∃ j, m = k + 1 + j := ⟨m - (k + 1), by omega⟩
  have e1 : k + 1 + j - k = j + 1 := by omega
  have e2 : k + 1 + j - 1 - k = j := by omega
  have e3 : k + 1 + j - (k + 1) = j := by omega
  rw [e1, e2, e3, List.replicate_succ', List.append_assoc, List.set_append_right _ _ (by simp)]
  simp [digs, hd]
theorem be_get (n m i : Nat) (h : i < m) : (be n m)[i]? = some (UInt8.ofNat (dig n (m - 1 - i))) := by
  induction m generalizing i with
  | zero => omega
  | succ m ih =>
    cases i with
    | zero => simp [be]
    | succ i =>
      rw [be, List.getElem?_cons_succ, ih i (by omega)]
      congr 3
      omega
theorem val_dig (l : List UInt8) (i : Nat) (h : i < l.length) : (l[l.length - 1 - i]'(by omega)).toNat = dig (val l) i := by
  induction l generalizing i with
  | nil => simp at h
  | cons b l ih =>
    rw [val_cons]
    by_cases hi : i = l.length
    · subst hi
      have : (b :: l).length - 1 - l.length = 0 := by simp
      simp only [this, List.getElem_cons_zero, dig]
      have h1 := val_lt l
      rw [Nat.add_comm, Nat.add_mul_div_right _ _ (Nat.pow_pos (by omega)), Nat.div_eq_of_lt h1, Nat.zero_add]
      have := b.toNat_lt
      omega
    · simp only [List.length_cons] at h ⊢
      have h2 : l.length + 1 - 1 - i = (l.length - 1 - i) + 1 := by omega
      simp only [h2, List.getElem_cons_succ]
      rw [ih i (by omega)]
      unfold dig
      obtain ⟨d, hd⟩ : ∃ d, l.length = i + 1 + d := ⟨l.length - i - 1, by omega⟩
      rw [hd, Nat.pow_add, Nat.pow_succ]
      rw [show b.toNat * (256 ^ i * 256 * 256 ^ d) = 256 ^ i * (256 * (b.toNat * 256 ^ d)) from by
        simp only [Nat.mul_assoc, Nat.mul_left_comm, Nat.mul_comm]]
      rw [Nat.mul_add_div (Nat.pow_pos (by omega)), Nat.mul_add_mod]
theorem dig_eq (n i : Nat) : n / 256 ^ i % 256 = dig n i := rfl
theorem mod_full {n m : Nat} (h : n < 256 ^ m) : n % 256 ^ m = n := Nat.mod_eq_of_lt h
theorem dig_zero {n i : Nat} (h : n < 256 ^ i) : dig n i = 0 := by simp [dig, Nat.div_eq_of_lt h]
theorem dig_zero_le {n i m : Nat} (h : n < 256 ^ m) (hm : m ≤ i) : dig n i = 0 := dig_zero (Nat.lt_of_lt_of_le h (Nat.pow_le_pow_right (by omega) hm))
/-- a sum of the first places, and the next one -/
theorem mod_succ (n k : Nat) : n % 256 ^ (k + 1) = n % 256 ^ k + 256 ^ k * dig n k := by
  rw [Nat.pow_succ, Nat.mod_mul, dig]

/-! texts as arrays of bytes -/
theorem V_cons (s : ByteArray) (h : 0 < s.size) : V s = (s[0]'h).toNat * 256 ^ (s.size - 1) + V (s.extract 1 s.size) := by
  obtain ⟨⟨l⟩⟩ := s
  cases l with
  | nil => exact absurd h (by decide)
  | cons b l =>
    have e : (ByteArray.extract ⟨⟨b :: l⟩⟩ 1 (ByteArray.size ⟨⟨b :: l⟩⟩)).data.toList = l := by
      rw [ByteArray.data_extract]
      show (Array.extract (⟨b :: l⟩ : Array UInt8) 1 (l.length + 1)).toList = l
      rw [Array.toList_extract]
      simp [List.extract]
    unfold V
    rw [e]
    show val (b :: l) = b.toNat * 256 ^ (l.length + 1 - 1) + val l
    rw [val_cons]
    rfl
theorem V_tail (s : ByteArray) (h : 0 < s.size) (h0 : (s[0]'h).toNat = 0) : V (s.extract 1 s.size) = V s := by
  rw [V_cons s h, h0]; simp
theorem V_dig (s : ByteArray) (i : Nat) (h : i < s.size) : (s[s.size - 1 - i]'(by omega)).toNat = dig (V s) i := val_dig s.data.toList i h
theorem E_V_nil (s : ByteArray) (h : ¬ 0 < s.size) : E (V s) = s := by
  obtain ⟨⟨l⟩⟩ := s
  cases l with
  | nil => rfl
  | cons b l => exact absurd (show 0 < l.length + 1 by omega) h
theorem E_V_head (s : ByteArray) (h : 0 < s.size) (h0 : (s[0]'h).toNat ≠ 0) : E (V s) = s := by
  obtain ⟨⟨l⟩⟩ := s
  cases l with
  | nil => exact absurd h (by decide)
  | cons b l =>
    have hb : ¬ b = 0 := fun e => h0 (by subst e; rfl)
    unfold E V
    have := trim_eq (b :: l)
    rw [trim, if_neg hb] at this
    rw [← this]
/-- a number that is below 2^64, or 0 -/
def sm (n : Nat) : Nat := if n < 18446744073709551616 then n else 0
def smB (n : Nat) : Bool := decide (n < 18446744073709551616)
theorem pow8 : (256 : Nat) ^ 8 = 18446744073709551616 := by decide
theorem E_small {n : Nat} (h : (E n).size ≤ 8) : n < 18446744073709551616 := by
  have h1 := enc_lt n
  have h2 : 256 ^ (enc n).length ≤ 256 ^ 8 := Nat.pow_le_pow_right (by omega) h
  rw [pow8] at h2
  omega
theorem E_big {n : Nat} (h : ¬ (E n).size ≤ 8) : ¬ n < 18446744073709551616 := by
  intro hn
  rw [← pow8] at hn
  exact h (enc_length_le hn)
/-- the number of the first k digits -/
def top (s : ByteArray) (k : Nat) : Nat := V s / 256 ^ (s.size - k)
theorem top_step (s : ByteArray) (k : Nat) (h : k < s.size) : top s (k + 1) = top s k * 256 + (s[k]'h).toNat := by
  have h1 := V_dig s (s.size - 1 - k) (by omega)
  have e : s.size - 1 - (s.size - 1 - k) = k := by omega
  simp only [e] at h1
  unfold top
  rw [h1, dig, show s.size - k = (s.size - 1 - k) + 1 from by omega, show s.size - (k + 1) = s.size - 1 - k from by omega, Nat.pow_succ, ← Nat.div_div_eq_div_mul]
  omega
theorem top_zero (s : ByteArray) : top s 0 = 0 := Nat.div_eq_of_lt (V_lt s)
theorem top_all (s : ByteArray) : top s s.size = V s := by simp [top]
theorem top_lt (s : ByteArray) (k : Nat) (h : k ≤ s.size) : top s k < 256 ^ k := by
  unfold top
  rw [Nat.div_lt_iff_lt_mul (Nat.pow_pos (by omega)), ← Nat.pow_add, show k + (s.size - k) = s.size from by omega]
  exact V_lt s
/-- what is left above the k lowest digits -/
def sh (n k : Nat) : Nat := n / 256 ^ k
theorem sh_zero (n : Nat) : sh n 0 = n := by simp [sh]
theorem sh_succ (n k : Nat) : sh n (k + 1) = sh n k / 256 := by unfold sh; rw [Nat.pow_succ, ← Nat.div_div_eq_div_mul]
theorem sh_le (n k : Nat) : sh n k ≤ n := Nat.div_le_self _ _
theorem sh_dig (n k : Nat) : sh n k % 256 = dig n k := rfl
/-- how many bits a number has -/
def blen (n : Nat) : Nat := if n = 0 then 0 else Nat.log2 n + 1
theorem blen_join (d m r : Nat) (hd : d ≠ 0) (hr : r < 256 ^ m) : blen (d * 256 ^ m + r) = 8 * m + blen d := by
  have hp : (256 : Nat) ^ m = 2 ^ (8 * m) := by rw [Nat.pow_mul]
  rw [hp] at hr ⊢
  have h1 : d * 2 ^ (8 * m) ≠ 0 := Nat.mul_ne_zero hd (Nat.pos_iff_ne_zero.1 (Nat.two_pow_pos _))
  have h2 : d * 2 ^ (8 * m) + r ≠ 0 := by omega
  unfold blen
  rw [if_neg h2, if_neg hd]
  have hlo : 8 * m + Nat.log2 d ≤ Nat.log2 (d * 2 ^ (8 * m) + r) := by
    rw [Nat.le_log2 h2, Nat.pow_add, Nat.mul_comm]
    exact Nat.le_trans (Nat.mul_le_mul_right _ (Nat.log2_self_le hd)) (Nat.le_add_right _ _)
  have hhi : Nat.log2 (d * 2 ^ (8 * m) + r) < 8 * m + Nat.log2 d + 1 := by
    rw [Nat.log2_lt h2]
    have h3 : d < 2 ^ (Nat.log2 d + 1) := Nat.lt_log2_self
    have h4 : (d + 1) * 2 ^ (8 * m) ≤ 2 ^ (Nat.log2 d + 1) * 2 ^ (8 * m) := Nat.mul_le_mul_right _ h3
    rw [show 8 * m + Nat.log2 d + 1 = (Nat.log2 d + 1) + 8 * m from by omega, Nat.pow_add]
    rw [Nat.add_mul] at h4
    omega
  omega
theorem E_head (n : Nat) (h : 0 < (E n).size) : ((E n)[0]'h).toNat ≠ 0 := by
  intro h0
  have h1 : enc n = 0 :: (enc n).tail := by
    have h2 : 0 < (enc n).length := h
    cases he : enc n with
    | nil => rw [he] at h2; simp at h2
    | cons b l =>
      have h3 : ((E n)[0]'h) = b := by
        show (E n).data[0]'h = b
        have : (E n).data = (b :: l).toArray := by unfold E; rw [he]
        simp [this]
      rw [h3] at h0
      have : b = 0 := UInt8.toNat_inj.1 (by simpa using h0)
      simp [this]
  exact enc_head n _ h1
theorem blen_top (n : Nat) (h : 0 < (E n).size) : blen n = 8 * ((E n).size - 1) + blen ((E n)[0]'h).toNat := by
  have h1 := V_cons (E n) h
  rw [V_E] at h1
  have h2 := V_lt ((E n).extract 1 (E n).size)
  have h3 : ((E n).extract 1 (E n).size).size = (E n).size - 1 := by simp
  rw [h3] at h2
  conv => lhs; rw [h1]
  exact blen_join _ _ _ (E_head n h) h2
theorem blen_zero : blen 0 = 0 := rfl
theorem E_nil (n : Nat) (h : ¬ 0 < (E n).size) : n = 0 := by
  have h1 := V_lt (E n)
  rw [V_E, show (E n).size = 0 from by omega] at h1
  simpa using h1
/-- one bit less behind a half -/
theorem blen_half {n : Nat} (h : n ≠ 0) : blen n = blen (n / 2) + 1 := by
  unfold blen
  rw [if_neg h]
  by_cases h2 : n / 2 = 0
  · have : n = 1 := by omega
    subst this; decide
  · rw [if_neg h2, Nat.log2_def, if_pos (by omega)]
end Go.Proofs.YtolbbmnhcgoooaaDoor.Nt
