/-
  PLAIN MATHEMATICS OF DECIMAL DIGITS: dcs (so many digits of a number), dec (its digits without a 0 ahead), dv (the number of digits).
-/
import Derived.Test.YtjbpipbmcicjiaaGreatDoorRef1
namespace Go.Proofs.YtjbpipbmcicjiaaGreatDoor

/-- m decimal digits of n, as bytes' numbers, the highest first. -/
def Nt.dcs (n : Nat) : Nat → List Nat
  | 0 => []
  | m + 1 => Nt.dcs (n / 10) m ++ [48 + n % 10]
/-- n's decimal digits, without a 0 ahead; of 0 one. -/
def Nt.decF : Nat → Nat → List Nat
  | 0, _ => []
  | f + 1, n => if n < 10 then [48 + n] else Nt.decF f (n / 10) ++ [48 + n % 10]
def Nt.dec (n : Nat) : List Nat := Nt.decF (n + 1) n
theorem Nt.decF_eq (n : Nat) : ∀ f g : Nat, n < f → n < g → Nt.decF f n = Nt.decF g n := by
  induction n using Nat.strongRecOn with
  | _ n ih =>
    intro f g hf hg
    obtain ⟨f, rfl⟩ : ∃ k, f = k + 1 := ⟨f - 1, by omega⟩
    obtain ⟨g, rfl⟩ : ∃ k, g = k + 1 := ⟨g - 1, by omega⟩
    unfold Nt.decF
    by_cases h : n < 10
    · rw [if_pos h, if_pos h]
    · rw [if_neg h, if_neg h, ih (n / 10) (by omega) f g (by omega) (by omega)]
theorem Nt.dec_small {n : Nat} (h : n < 10) : Nt.dec n = [48 + n] := by
  unfold Nt.dec Nt.decF; rw [if_pos h]
theorem Nt.dec_big {n : Nat} (h : ¬ n < 10) : Nt.dec n = Nt.dec (n / 10) ++ [48 + n % 10] := by
  have e : Nt.dec n = Nt.decF (n + 1) n := rfl
  rw [e, Nt.decF, if_neg h, Nt.decF_eq (n / 10) n (n / 10 + 1) (by omega) (by omega)]; rfl
theorem Nt.dcs_length (n m : Nat) : (Nt.dcs n m).length = m := by
  induction m generalizing n with
  | zero => rfl
  | succ m ih => rw [Nt.dcs, List.length_append, ih]; rfl
theorem Nt.dcs_add (n a b : Nat) : Nt.dcs n (a + b) = Nt.dcs (n / 10 ^ b) a ++ Nt.dcs n b := by
  induction b generalizing n with
  | zero => simp [Nt.dcs]
  | succ b ih =>
    have e : Nt.dcs n (a + (b + 1)) = Nt.dcs (n / 10) (a + b) ++ [48 + n % 10] := rfl
    rw [e, ih, Nat.div_div_eq_div_mul, Nat.pow_succ, Nat.mul_comm 10, List.append_assoc]; rfl
theorem Nt.dcs_one (n i : Nat) : Nt.dcs n (i + 1) = (48 + n / 10 ^ i % 10) :: Nt.dcs n i := by
  rw [Nat.add_comm, Nt.dcs_add]; rfl
theorem Nt.dcs_mod (n m : Nat) : Nt.dcs (n % 10 ^ m) m = Nt.dcs n m := by
  induction m generalizing n with
  | zero => rfl
  | succ m ih =>
    have h1 : n % 10 ^ (m + 1) % 10 = n % 10 := by
      rw [Nat.pow_succ, Nat.mul_comm]
      rw [Nat.mod_mul]
      omega
    have h2 : n % 10 ^ (m + 1) / 10 = n / 10 % 10 ^ m := by
      rw [Nat.pow_succ, Nat.mul_comm, Nat.mod_mul]
      omega
    rw [Nt.dcs, Nt.dcs, h1, h2, ih]
theorem Nt.dcs_lt (n m : Nat) : ∀ x ∈ Nt.dcs n m, 48 ≤ x ∧ x < 58 := by
  induction m generalizing n with
  | zero => intro x hx; cases hx
  | succ m ih =>
    intro x hx
    rw [Nt.dcs, List.mem_append] at hx
    rcases hx with hx | hx
    · exact ih _ _ hx
    · rw [List.mem_singleton] at hx; omega
/-- as many digits as it has. -/
theorem Nt.dcs_dec {n i : Nat} (hn : n < 10 ^ (i + 1)) (h : i = 0 ∨ 10 ^ i ≤ n) : Nt.dcs n (i + 1) = Nt.dec n := by
  induction i generalizing n with
  | zero =>
    have h1 : n < 10 := by simpa using hn
    rw [Nt.dec_small h1, Nt.dcs, Nt.dcs, Nat.mod_eq_of_lt h1]; rfl
  | succ i ih =>
    have h1 : 10 ^ (i + 1) ≤ n := by
      rcases h with h | h
      · omega
      · exact h
    have hp : 0 < 10 ^ i := Nat.pow_pos (by omega)
    have h2 : 10 * 10 ^ i ≤ n := by rw [Nat.mul_comm, ← Nat.pow_succ]; exact h1
    have h3 : ¬ n < 10 := by
      have := Nat.mul_le_mul_left 10 hp
      omega
    have h4 : n / 10 < 10 ^ (i + 1) := by rw [Nat.div_lt_iff_lt_mul (by omega), ← Nat.pow_succ]; exact hn
    have h5 : 10 ^ i ≤ n / 10 := by rw [Nat.le_div_iff_mul_le (by omega), ← Nat.pow_succ]; exact h1
    rw [Nt.dec_big h3, Nt.dcs, ih h4 (Or.inr h5)]
theorem Nt.dec_ne (n : Nat) : Nt.dec n ≠ [] := by
  by_cases h : n < 10
  · rw [Nt.dec_small h]; simp
  · rw [Nt.dec_big h]; simp
/-- without zeros ahead. -/
theorem Nt.dcs_trim {n m : Nat} (h : n < 10 ^ m) : (Nt.dcs n m).dropWhile (· == 48) = if n = 0 then [] else Nt.dec n := by
  induction m generalizing n with
  | zero =>
    have : n = 0 := by simpa using h
    rw [if_pos this]; rfl
  | succ m ih =>
    have h4 : n / 10 < 10 ^ m := by rw [Nat.div_lt_iff_lt_mul (by omega), ← Nat.pow_succ]; exact h
    have hi := ih h4
    rw [Nt.dcs, List.dropWhile_append, hi]
    by_cases h0 : n / 10 = 0
    · have h10 : n < 10 := by omega
      rw [if_pos h0]
      by_cases hz : n = 0
      · subst hz; simp
      · rw [if_neg hz, Nt.dec_small h10, Nat.mod_eq_of_lt h10]
        rw [List.isEmpty_nil, if_pos rfl, List.dropWhile_cons_of_neg (by simp; omega)]
    · have hn0 : ¬ n = 0 := by omega
      have hne : (Nt.dec (n / 10)).isEmpty = false := by
        cases he : Nt.dec (n / 10) with
        | nil => exact absurd he (Nt.dec_ne _)
        | cons => rfl
      rw [if_neg h0, hne, if_neg hn0, Nt.dec_big (show ¬ n < 10 by omega), if_neg (by decide)]
/-- how many digits. -/
theorem Nt.dec_length_le {n m : Nat} (h : n < 10 ^ (m + 1)) : (Nt.dec n).length ≤ m + 1 := by
  induction m generalizing n with
  | zero =>
    have : n < 10 := by simpa using h
    rw [Nt.dec_small this]; simp
  | succ m ih =>
    by_cases h1 : n < 10
    · rw [Nt.dec_small h1]; simp
    · have h4 : n / 10 < 10 ^ (m + 1) := by rw [Nat.div_lt_iff_lt_mul (by omega), ← Nat.pow_succ]; exact h
      rw [Nt.dec_big h1, List.length_append]
      have := ih h4
      simp; omega
theorem Nt.dec_lt (n : Nat) : ∀ x ∈ Nt.dec n, 48 ≤ x ∧ x < 58 := by
  induction n using Nat.strongRecOn with
  | _ n ih =>
    by_cases h : n < 10
    · rw [Nt.dec_small h]; intro x hx; rw [List.mem_singleton] at hx; omega
    · rw [Nt.dec_big h]
      intro x hx
      rw [List.mem_append] at hx
      rcases hx with hx | hx
      · exact ih _ (by omega) _ hx
      · rw [List.mem_singleton] at hx; omega
/-- numbers as a text. -/
def Nt.S (l : List Nat) : ByteArray := ⟨(l.map UInt8.ofNat).toArray⟩
def Nt.D (n : Nat) : ByteArray := Nt.S (Nt.dec n)
theorem Nt.S_toList (l : List Nat) : (Nt.S l).data.toList = l.map UInt8.ofNat := by simp [Nt.S]
theorem Nt.S_size (l : List Nat) : (Nt.S l).size = l.length := by show (l.map UInt8.ofNat).toArray.size = _; simp
theorem Nt.S_append (a b : List Nat) : Nt.S a ++ Nt.S b = Nt.S (a ++ b) := by
  unfold Nt.S
  rw [str_append, List.map_append]
theorem Nt.S_get (l : List Nat) (hl : ∀ x ∈ l, x < 256) (i : Nat) (h : i < (Nt.S l).size) : ((Nt.S l)[i]'h).toNat = l[i]'(by rw [Nt.S_size] at h; exact h) := by
  have e : (Nt.S l)[i]'h = UInt8.ofNat (l[i]'(by rw [Nt.S_size] at h; exact h)) := by
    have h2 : i < (l.map UInt8.ofNat).toArray.size := h
    exact (show ((l.map UInt8.ofNat).toArray)[i]'h2 = _ from by rw [List.getElem_toArray, List.getElem_map])
  rw [e, UInt8.toNat_ofNat']
  exact Nat.mod_eq_of_lt (hl _ (List.getElem_mem _))
/-- the number of a list of digits. -/
def Nt.dv (l : List UInt8) : Nat := l.foldl (fun n b => n * 10 + (b.toNat - 48)) 0
theorem Nt.dv_foldl (l : List UInt8) (a : Nat) : l.foldl (fun n b => n * 10 + (b.toNat - 48)) a = a * 10 ^ l.length + Nt.dv l := by
  induction l generalizing a with
  | nil => simp [Nt.dv]
  | cons b l ih =>
    have e : Nt.dv (b :: l) = l.foldl (fun n b => n * 10 + (b.toNat - 48)) (0 * 10 + (b.toNat - 48)) := rfl
    rw [List.foldl_cons, ih, e, ih, List.length_cons, Nat.pow_succ, Nat.add_mul, Nat.zero_mul, Nat.zero_add, Nat.mul_assoc, Nat.mul_comm (10 ^ l.length) 10]
    omega
theorem Nt.dv_append (a b : List UInt8) : Nt.dv (a ++ b) = Nt.dv a * 10 ^ b.length + Nt.dv b := by
  rw [Nt.dv, List.foldl_append, Nt.dv_foldl]; rfl
theorem Nt.dv_snoc (a : List UInt8) (b : UInt8) : Nt.dv (a ++ [b]) = Nt.dv a * 10 + (b.toNat - 48) := by
  rw [Nt.dv_append]; simp [Nt.dv]
/-- are all of these digits? -/
def Nt.isDig (b : UInt8) : Bool := decide (48 ≤ b.toNat ∧ b.toNat ≤ 57)
theorem Nt.dv_lt (l : List UInt8) (h : ∀ b ∈ l, Nt.isDig b = true) : Nt.dv l < 10 ^ l.length := by
  induction l with
  | nil => simp [Nt.dv]
  | cons b l ih =>
    have hb : 48 ≤ b.toNat ∧ b.toNat ≤ 57 := by simpa [Nt.isDig] using h b List.mem_cons_self
    have hl := ih fun x hx => h x (List.mem_cons_of_mem _ hx)
    rw [show b :: l = [b] ++ l from rfl, Nt.dv_append, List.length_append, List.length_singleton, Nat.pow_add, Nat.pow_one]
    have e : Nt.dv [b] = b.toNat - 48 := by simp [Nt.dv]
    rw [e]
    have h1 : (b.toNat - 48 + 1) * 10 ^ l.length ≤ 10 * 10 ^ l.length := Nat.mul_le_mul_right _ (by omega)
    rw [Nat.add_mul, Nat.one_mul] at h1
    omega
/-- digits are the digits of their number. -/
theorem Nt.dcs_dv (l : List UInt8) (h : ∀ b ∈ l, Nt.isDig b = true) : (Nt.dcs (Nt.dv l) l.length).map UInt8.ofNat = l := by
  induction l with
  | nil => rfl
  | cons b l ih =>
    have hb : 48 ≤ b.toNat ∧ b.toNat ≤ 57 := by simpa [Nt.isDig] using h b List.mem_cons_self
    have hr := fun x hx => h x (List.mem_cons_of_mem _ hx)
    have hl := ih hr
    have hlt := Nt.dv_lt l hr
    have e : Nt.dv (b :: l) = (b.toNat - 48) * 10 ^ l.length + Nt.dv l := by
      rw [show b :: l = [b] ++ l from rfl, Nt.dv_append]; simp [Nt.dv]
    have hp : 0 < 10 ^ l.length := Nat.pow_pos (by omega)
    rw [List.length_cons, Nt.dcs_one, e]
    have e1 : ((b.toNat - 48) * 10 ^ l.length + Nt.dv l) / 10 ^ l.length = b.toNat - 48 := by
      rw [Nat.add_comm, Nat.add_mul_div_right _ _ hp, Nat.div_eq_of_lt hlt, Nat.zero_add]
    have e2 : Nt.dcs ((b.toNat - 48) * 10 ^ l.length + Nt.dv l) l.length = Nt.dcs (Nt.dv l) l.length := by
      rw [← Nt.dcs_mod, Nat.add_comm, Nat.add_mul_mod_self_right, Nt.dcs_mod]
    rw [e1, e2, List.map_cons, hl]
    congr 1
    rw [show 48 + (b.toNat - 48) % 10 = b.toNat from by omega]
    exact UInt8.ofNat_toNat
theorem Nt.dv_dcs (n m : Nat) : Nt.dv ((Nt.dcs n m).map UInt8.ofNat) = n % 10 ^ m := by
  induction m generalizing n with
  | zero => simp [Nt.dcs, Nt.dv, Nat.mod_one]
  | succ m ih =>
    rw [Nt.dcs, List.map_append, List.map_cons, List.map_nil, Nt.dv_snoc, ih]
    have e : (UInt8.ofNat (48 + n % 10)).toNat = 48 + n % 10 := by rw [UInt8.toNat_ofNat']; exact Nat.mod_eq_of_lt (by omega)
    rw [e, Nat.pow_succ, Nat.mul_comm (10 ^ m) 10, Nat.mod_mul]
    omega
theorem Nt.dv_dec (n : Nat) : Nt.dv ((Nt.dec n).map UInt8.ofNat) = n := by
  induction n using Nat.strongRecOn with
  | _ n ih =>
    by_cases h : n < 10
    · rw [Nt.dec_small h]
      have e : (UInt8.ofNat (48 + n)).toNat = 48 + n := by rw [UInt8.toNat_ofNat']; exact Nat.mod_eq_of_lt (by omega)
      simp only [List.map_cons, List.map_nil, Nt.dv, List.foldl_cons, List.foldl_nil, e]
      omega
    · rw [Nt.dec_big h, List.map_append, List.map_cons, List.map_nil, Nt.dv_snoc, ih _ (by omega)]
      have e : (UInt8.ofNat (48 + n % 10)).toNat = 48 + n % 10 := by rw [UInt8.toNat_ofNat']; exact Nat.mod_eq_of_lt (by omega)
      rw [e]; omega
theorem Nt.isDig_of {l : List Nat} (h : ∀ x ∈ l, 48 ≤ x ∧ x < 58) : ∀ b ∈ l.map UInt8.ofNat, Nt.isDig b = true := by
  intro b hb
  rw [List.mem_map] at hb
  obtain ⟨x, hx, rfl⟩ := hb
  have := h x hx
  have e : (UInt8.ofNat x).toNat = x := by rw [UInt8.toNat_ofNat']; exact Nat.mod_eq_of_lt (by omega)
  simp [Nt.isDig, e]; omega
theorem Nt.ten_le (k : Nat) : (256 : Nat) ^ (2 * k) ≤ 10 ^ (5 * k) := by
  rw [Nat.pow_mul, Nat.pow_mul]
  exact Nat.pow_le_pow_left (by decide) k
/-- a number of so many bytes has not more digits than so. -/
theorem Nt.lt_ten {n s k : Nat} (h : (Nt.E n).size ≤ s) (hk : s ≤ 2 * k) : n < 10 ^ (5 * k) := by
  have h1 := Nt.V_lt (Nt.E n)
  rw [Nt.V_E] at h1
  exact Nat.lt_of_lt_of_le h1 (Nat.le_trans (Nat.pow_le_pow_right (by omega) (Nat.le_trans h hk)) (Nt.ten_le k))
end Go.Proofs.YtjbpipbmcicjiaaGreatDoor
