/-
  PLAIN MATHEMATICS OF DECIMAL DIGITS: dcs (so many digits of a number), dec (its digits without a 0 ahead), dv (the number of digits).
  TEXTS AS NUMBERS: the document's Parse, and the program's.
  TEXTS AS NUMBERS: the program's Parse.
  NUMBERS IN DIGITS: the program's Text.
  NUMBERS IN DIGITS: the program's Text, how many digits.
  HOW OFTEN A NUMBER DIVIDES: the program's takeOut, Twos.
  HOW OFTEN 2 AND 5 DIVIDE A NUMBER: the program's Twos.
  NUMBERS IN DIGITS, AND HOW OFTEN 2 AND 5 DIVIDE THEM: the document's answers.
  LAYER 3's STATEMENTS, WALKED: texts as numbers.
-/
import Derived.Test.YtbgmnpabclfjaaaGreatDoorMath
import Derived.Test.YtbgmnpabclfjaaaGreatDoorShelf2
import Derived.Test.YtbgmnpabclfjaaaGreatDoorLong1
import Derived.Deep.RegionWith
namespace Go.Proofs.YtbgmnpabclfjaaaGreatDoor

/-- m decimal digits of n, as bytes' numbers, the highest first. -/
def Nt.dcs (n : Nat) : Nat → List Nat
  | 0 => []
  | m + 1 => Nt.dcs (n / 10) m ++ [48 + n % 10]
/-- n's decimal digits, without a 0 ahead; of 0 one. -/
def Nt.decF : Nat → Nat → List Nat
  | 0, _ => []
  | f + 1, n => if n < 10 then [48 + n] else Nt.decF f (n / 10) ++ [48 + n % 10]
def Nt.dec (n : Nat) : List Nat := Nt.decF (n + 1) n
theorem Nt.decF_eq (n : Nat) : ∀ f g : Nat, n < f → n < g → Nt.decF f n = Nt.decF g n := by
  induction n using Nat.strongRecOn with
  | _ n ih =>
    intro f g hf hg
    obtain ⟨f, rfl⟩ : ∃ k, f = k + 1 := ⟨f - 1, by omega⟩
    obtain ⟨g, rfl⟩ : ∃ k, g = k + 1 := ⟨g - 1, by omega⟩
    unfold Nt.decF
    by_cases h : n < 10
    · rw [if_pos h, if_pos h]
    · rw [if_neg h, if_neg h, ih (n / 10) (by omega) f g (by omega) (by omega)]
theorem Nt.dec_small {n : Nat} (h : n < 10) : Nt.dec n = [48 + n] := by
  unfold Nt.dec Nt.decF; rw [if_pos h]
theorem Nt.dec_big {n : Nat} (h : ¬ n < 10) : Nt.dec n = Nt.dec (n / 10) ++ [48 + n % 10] := by
  have e : Nt.dec n = Nt.decF (n + 1) n := rfl
  rw [e, Nt.decF, if_neg h, Nt.decF_eq (n / 10) n (n / 10 + 1) (by omega) (by omega)]; rfl
theorem Nt.dcs_length (n m : Nat) : (Nt.dcs n m).length = m := by
  induction m generalizing n with
  | zero => rfl
  | succ m ih => rw [Nt.dcs, List.length_append, ih]; rfl
theorem Nt.dcs_add (n a b : Nat) : Nt.dcs n (a + b) = Nt.dcs (n / 10 ^ b) a ++ Nt.dcs n b := by
  induction b generalizing n with
  | zero => simp [Nt.dcs]
  | succ b ih =>
    have e : Nt.dcs n (a + (b + 1)) = Nt.dcs (n / 10) (a + b) ++ [48 + n % 10] := rfl
    rw [e, ih, Nat.div_div_eq_div_mul, Nat.pow_succ, Nat.mul_comm 10, List.append_assoc]; rfl
theorem Nt.dcs_one (n i : Nat) : Nt.dcs n (i + 1) = (48 + n / 10 ^ i % 10) :: Nt.dcs n i := by
  rw [Nat.add_comm, Nt.dcs_add]; rfl
theorem Nt.dcs_mod (n m : Nat) : Nt.dcs (n % 10 ^ m) m = Nt.dcs n m := by
  induction m generalizing n with
  | zero => rfl
  | succ m ih =>
    have h1 : n % 10 ^ (m + 1) % 10 = n % 10 := by
      rw [Nat.pow_succ, Nat.mul_comm]
      rw [Nat.mod_mul]
      omega
    have h2 : n % 10 ^ (m + 1) / 10 = n / 10 % 10 ^ m := by
      rw [Nat.pow_succ, Nat.mul_comm, Nat.mod_mul]
      omega
    rw [Nt.dcs, Nt.dcs, h1, h2, ih]
theorem Nt.dcs_lt (n m : Nat) : ∀ x ∈ Nt.dcs n m, 48 ≤ x ∧ x < 58 := by
  induction m generalizing n with
  | zero => intro x hx; cases hx
  | succ m ih =>
    intro x hx
    rw [Nt.dcs, List.mem_append] at hx
    rcases hx with hx | hx
    · exact ih _ _ hx
    · rw [List.mem_singleton] at hx; omega
/-- as many digits as it has. -/
theorem Nt.dcs_dec {n i : Nat} (hn : n < 10 ^ (i + 1)) (h : i = 0 ∨ 10 ^ i ≤ n) : Nt.dcs n (i + 1) = Nt.dec n := by
  induction i generalizing n with
  | zero =>
    have h1 : n < 10 := by simpa using hn
    rw [Nt.dec_small h1, Nt.dcs, Nt.dcs, Nat.mod_eq_of_lt h1]; rfl
  | succ i ih =>
    have h1 : 10 ^ (i + 1) ≤ n := by
      rcases h with h | h
      · omega
      · exact h
    have hp : 0 < 10 ^ i := Nat.pow_pos (by omega)
    have h2 : 10 * 10 ^ i ≤ n := by rw [Nat.mul_comm, ← Nat.pow_succ]; exact h1
    have h3 : ¬ n < 10 := by
      have := Nat.mul_le_mul_left 10 hp
      omega
    have h4 : n / 10 < 10 ^ (i + 1) := by rw [Nat.div_lt_iff_lt_mul (by omega), ← Nat.pow_succ]; exact hn
    have h5 : 10 ^ i ≤ n / 10 := by rw [Nat.le_div_iff_mul_le (by omega), ← Nat.pow_succ]; exact h1
    rw [Nt.dec_big h3, Nt.dcs, ih h4 (Or.inr h5)]
theorem Nt.dec_ne (n : Nat) : Nt.dec n ≠ [] := by
  by_cases h : n < 10
  · rw [Nt.dec_small h]; simp
  · rw [Nt.dec_big h]; simp
/-- without zeros ahead. -/
theorem Nt.dcs_trim {n m : Nat} (h : n < 10 ^ m) : (Nt.dcs n m).dropWhile (· == 48) = if n = 0 then [] else Nt.dec n := by
  induction m generalizing n with
  | zero =>
    have : n = 0 := by simpa using h
    rw [if_pos this]; rfl
  | succ m ih =>
    have h4 : n / 10 < 10 ^ m := by rw [Nat.div_lt_iff_lt_mul (by omega), ← Nat.pow_succ]; exact h
    have hi := ih h4
    rw [Nt.dcs, List.dropWhile_append, hi]
    by_cases h0 : n / 10 = 0
    · have h10 : n < 10 := by omega
      rw [if_pos h0]
      by_cases hz : n = 0
      · subst hz; simp
      · rw [if_neg hz, Nt.dec_small h10, Nat.mod_eq_of_lt h10]
        rw [List.isEmpty_nil, if_pos rfl, List.dropWhile_cons_of_neg (by simp; omega)]
    · have hn0 : ¬ n = 0 := by omega
      have hne : (Nt.dec (n / 10)).isEmpty = false := by
        cases he : Nt.dec (n / 10) with
        | nil => exact absurd he (Nt.dec_ne _)
        | cons => rfl
      rw [if_neg h0, hne, if_neg hn0, Nt.dec_big (show ¬ n < 10 by omega), if_neg (by decide)]
/-- how many digits. -/
theorem Nt.dec_length_le {n m : Nat} (h : n < 10 ^ (m + 1)) : (Nt.dec n).length ≤ m + 1 := by
  induction m generalizing n with
  | zero =>
    have : n < 10 := by simpa using h
    rw [Nt.dec_small this]; simp
  | succ m ih =>
    by_cases h1 : n < 10
    · rw [Nt.dec_small h1]; simp
    · have h4 : n / 10 < 10 ^ (m + 1) := by rw [Nat.div_lt_iff_lt_mul (by omega), ← Nat.pow_succ]; exact h
      rw [Nt.dec_big h1, List.length_append]
      have := ih h4
      simp; omega
theorem Nt.dec_lt (n : Nat) : ∀ x ∈ Nt.dec n, 48 ≤ x ∧ x < 58 := by
  induction n using Nat.strongRecOn with
  | _ n ih =>
    by_cases h : n < 10
    · rw [Nt.dec_small h]; intro x hx; rw [List.mem_singleton] at hx; omega
    · rw [Nt.dec_big h]
      intro x hx
      rw [List.mem_append] at hx
      rcases hx with hx | hx
      · exact ih _ (by omega) _ hx
      · rw [List.mem_singleton] at hx; omega
/-- numbers as a text. -/
def Nt.S (l : List Nat) : ByteArray := ⟨(l.map UInt8.ofNat).toArray⟩
def Nt.D (n : Nat) : ByteArray := Nt.S (Nt.dec n)
theorem Nt.S_toList (l : List Nat) : (Nt.S l).data.toList = l.map UInt8.ofNat := by simp [Nt.S]
theorem Nt.S_size (l : List Nat) : (Nt.S l).size = l.length := by show (l.map UInt8.ofNat).toArray.size = _; simp
theorem Nt.S_append (a b : List Nat) : Nt.S a ++ Nt.S b = Nt.S (a ++ b) := by
  unfold Nt.S
  rw [str_append, List.map_append]
theorem Nt.S_get (l : List Nat) (hl : ∀ x ∈ l, x < 256) (i : Nat) (h : i < (Nt.S l).size) : ((Nt.S l)[i]'h).toNat = l[i]'(by rw [Nt.S_size] at h; exact h) := by
  have e : (Nt.S l)[i]'h = UInt8.ofNat (l[i]'(by rw [Nt.S_size] at h; exact h)) := by
    have h2 : i < (l.map UInt8.ofNat).toArray.size := h
    exact (show ((l.map UInt8.ofNat).toArray)[i]'h2 = _ from by rw [List.getElem_toArray, List.getElem_map])
  rw [e, UInt8.toNat_ofNat']
  exact Nat.mod_eq_of_lt (hl _ (List.getElem_mem _))
/-- the number of a list of digits. -/
def Nt.dv (l : List UInt8) : Nat := l.foldl (fun n b => n * 10 + (b.toNat - 48)) 0
theorem Nt.dv_foldl (l : List UInt8) (a : Nat) : l.foldl (fun n b => n * 10 + (b.toNat - 48)) a = a * 10 ^ l.length + Nt.dv l := by
  induction l generalizing a with
  | nil => simp [Nt.dv]
  | cons b l ih =>
    have e : Nt.dv (b :: l) = l.foldl (fun n b => n * 10 + (b.toNat - 48)) (0 * 10 + (b.toNat - 48)) := rfl
    rw [List.foldl_cons, ih, e, ih, List.length_cons, Nat.pow_succ, Nat.add_mul, Nat.zero_mul, Nat.zero_add, Nat.mul_assoc, Nat.mul_comm (10 ^ l.length) 10]
    omega
theorem Nt.dv_append (a b : List UInt8) : Nt.dv (a ++ b) = Nt.dv a * 10 ^ b.length + Nt.dv b := by
  rw [Nt.dv, List.foldl_append, Nt.dv_foldl]; rfl
theorem Nt.dv_snoc (a : List UInt8) (b : UInt8) : Nt.dv (a ++ [b]) = Nt.dv a * 10 + (b.toNat - 48) := by
  rw [Nt.dv_append]; simp [Nt.dv]
/-- are all of these digits? -/
def Nt.isDig (b : UInt8) : Bool := decide (48 ≤ b.toNat ∧ b.toNat ≤ 57)
theorem Nt.dv_lt (l : List UInt8) (h : ∀ b ∈ l, Nt.isDig b = true) : Nt.dv l < 10 ^ l.length := by
  induction l with
  | nil => simp [Nt.dv]
  | cons b l ih =>
    have hb : 48 ≤ b.toNat ∧ b.toNat ≤ 57 := by simpa [Nt.isDig] using h b List.mem_cons_self
    have hl := ih fun x hx => h x (List.mem_cons_of_mem _ hx)
    rw [show b :: l = [b] ++ l from rfl, Nt.dv_append, List.length_append, List.length_singleton, Nat.pow_add, Nat.pow_one]
    have e : Nt.dv [b] = b.toNat - 48 := by simp [Nt.dv]
    rw [e]
    have h1 : (b.toNat - 48 + 1) * 10 ^ l.length ≤ 10 * 10 ^ l.length := Nat.mul_le_mul_right _ (by omega)
    rw [Nat.add_mul, Nat.one_mul] at h1
    omega
/-- digits are the digits of their number. -/
theorem Nt.dcs_dv (l : List UInt8) (h : ∀ b ∈ l, Nt.isDig b = true) : (Nt.dcs (Nt.dv l) l.length).map UInt8.ofNat = l := by
  induction l with
  | nil => rfl
  | cons b l ih =>
    have hb : 48 ≤ b.toNat ∧ b.toNat ≤ 57 := by simpa [Nt.isDig] using h b List.mem_cons_self
    have hr := fun x hx => h x (List.mem_cons_of_mem _ hx)
    have hl := ih hr
    have hlt := Nt.dv_lt l hr
    have e : Nt.dv (b :: l) = (b.toNat - 48) * 10 ^ l.length + Nt.dv l := by
      rw [show b :: l = [b] ++ l from rfl, Nt.dv_append]; simp [Nt.dv]
    have hp : 0 < 10 ^ l.length := Nat.pow_pos (by omega)
    rw [List.length_cons, Nt.dcs_one, e]
    have e1 : ((b.toNat - 48) * 10 ^ l.length + Nt.dv l) / 10 ^ l.length = b.toNat - 48 := by
      rw [Nat.add_comm, Nat.add_mul_div_right _ _ hp, Nat.div_eq_of_lt hlt, Nat.zero_add]
    have e2 : Nt.dcs ((b.toNat - 48) * 10 ^ l.length + Nt.dv l) l.length = Nt.dcs (Nt.dv l) l.length := by
      rw [← Nt.dcs_mod, Nat.add_comm, Nat.add_mul_mod_self_right, Nt.dcs_mod]
    rw [e1, e2, List.map_cons, hl]
    congr 1
    rw [show 48 + (b.toNat - 48) % 10 = b.toNat from by omega]
    exact UInt8.ofNat_toNat
theorem Nt.dv_dcs (n m : Nat) : Nt.dv ((Nt.dcs n m).map UInt8.ofNat) = n % 10 ^ m := by
  induction m generalizing n with
  | zero => simp [Nt.dcs, Nt.dv, Nat.mod_one]
  | succ m ih =>
    rw [Nt.dcs, List.map_append, List.map_cons, List.map_nil, Nt.dv_snoc, ih]
    have e : (UInt8.ofNat (48 + n % 10)).toNat = 48 + n % 10 := by rw [UInt8.toNat_ofNat']; exact Nat.mod_eq_of_lt (by omega)
    rw [e, Nat.pow_succ, Nat.mul_comm (10 ^ m) 10, Nat.mod_mul]
    omega
theorem Nt.dv_dec (n : Nat) : Nt.dv ((Nt.dec n).map UInt8.ofNat) = n := by
  induction n using Nat.strongRecOn with
  | _ n ih =>
    by_cases h : n < 10
    · rw [Nt.dec_small h]
      have e : (UInt8.ofNat (48 + n)).toNat = 48 + n := by rw [UInt8.toNat_ofNat']; exact Nat.mod_eq_of_lt (by omega)
      simp only [List.map_cons, List.map_nil, Nt.dv, List.foldl_cons, List.foldl_nil, e]
      omega
    · rw [Nt.dec_big h, List.map_append, List.map_cons, List.map_nil, Nt.dv_snoc, ih _ (by omega)]
      have e : (UInt8.ofNat (48 + n % 10)).toNat = 48 + n % 10 := by rw [UInt8.toNat_ofNat']; exact Nat.mod_eq_of_lt (by omega)
      rw [e]; omega
theorem Nt.isDig_of {l : List Nat} (h : ∀ x ∈ l, 48 ≤ x ∧ x < 58) : ∀ b ∈ l.map UInt8.ofNat, Nt.isDig b = true := by
  intro b hb
  rw [List.mem_map] at hb
  obtain ⟨x, hx, rfl⟩ := hb
  have := h x hx
  have e : (UInt8.ofNat x).toNat = x := by rw [UInt8.toNat_ofNat']; exact Nat.mod_eq_of_lt (by omega)
  simp [Nt.isDig, e]; omega
theorem Nt.ten_le (k : Nat) : (256 : Nat) ^ (2 * k) ≤ 10 ^ (5 * k) := by
  rw [Nat.pow_mul, Nat.pow_mul]
  exact Nat.pow_le_pow_left (by decide) k
/-- a number of so many bytes has not more digits than so. -/
theorem Nt.lt_ten {n s k : Nat} (h : (Nt.E n).size ≤ s) (hk : s ≤ 2 * k) : n < 10 ^ (5 * k) := by
  have h1 := Nt.V_lt (Nt.E n)
  rw [Nt.V_E] at h1
  exact Nat.lt_of_lt_of_le h1 (Nat.le_trans (Nat.pow_le_pow_right (by omega) (Nat.le_trans h hk)) (Nt.ten_le k))
end Go.Proofs.YtbgmnpabclfjaaaGreatDoor
namespace Go.Proofs.YtbgmnpabclfjaaaGreatDoor
open Go.RowKit Go.Shelf

/-- what a text is as a number, or why it is none. -/
def parseOut (s : ByteArray) : Value :=
  if s.data.toList.all Nt.isDig = false ∨ s.size = 0 then .tuple #[.string ⟨#[]⟩, .int .i64 3]
  else if 400 < s.size then .tuple #[.string ⟨#[]⟩, .int .i64 9]
  else .tuple #[.string (Nt.E (Nt.dv s.data.toList)), .int .i64 0]
theorem parseOut_bad (s : ByteArray) (h : s.data.toList.all Nt.isDig = false ∨ s.size = 0) : parseOut s = .tuple #[.string ⟨#[]⟩, .int .i64 3] := if_pos h
theorem parseOut_long (s : ByteArray) (h : s.data.toList.all Nt.isDig = true) (h4 : 400 < s.size) : parseOut s = .tuple #[.string ⟨#[]⟩, .int .i64 9] := by
  rw [parseOut, if_neg (by rw [h]; exact fun h1 => h1.elim (fun h2 => by cases h2) (fun h2 => by omega)), if_pos h4]
theorem parseOut_ok (s : ByteArray) (h : s.data.toList.all Nt.isDig = true) (h0 : 0 < s.size) (h4 : s.size ≤ 400) : parseOut s = .tuple #[.string (Nt.E (Nt.dv s.data.toList)), .int .i64 0] := by
  rw [parseOut, if_neg (by rw [h]; exact fun h1 => h1.elim (fun h2 => by cases h2) (fun h2 => by omega)), if_neg (by omega)]
theorem Nt.all_false (s : ByteArray) (k : Nat) (h : k < s.size) (hb : Nt.isDig (s[k]'h) = false) : s.data.toList.all Nt.isDig = false := by
  rw [List.all_eq_false]
  exact ⟨s[k], by simp [ByteArray.getElem_eq_getElem_data], by simp [hb]⟩
theorem Nt.all_true (s : ByteArray) (h : ∀ k (hk : k < s.size), Nt.isDig (s[k]'hk) = true) : s.data.toList.all Nt.isDig = true := by
  rw [List.all_eq_true]
  intro b hb
  obtain ⟨i, hi, rfl⟩ := List.getElem_of_mem hb
  have := h i (by simpa using hi)
  simpa [ByteArray.getElem_eq_getElem_data] using this
theorem Nt.dv_take (s : ByteArray) (k : Nat) (h : k < s.size) : Nt.dv (s.data.toList.take (k + 1)) = Nt.dv (s.data.toList.take k) * 10 + ((s[k]'h).toNat - 48) := by
  rw [List.take_succ_eq_append_getElem (by simpa using h), Nt.dv_snoc]; rfl
theorem Nt.dv_size {l : List UInt8} (h : ∀ b ∈ l, Nt.isDig b = true) (hl : l.length ≤ 400) : (Nt.E (Nt.dv l)).size ≤ 170 := by
  refine Nt.E_size_lt (Nat.lt_of_lt_of_le (Nt.dv_lt l h) (Nat.le_trans (Nat.pow_le_pow_right (by omega) hl) ?_))
  have h1 : (10 : Nat) ^ 400 ≤ 256 ^ 170 := by decide +kernel
  exact h1
theorem Nt.dv_mul_size {n : Nat} (h : (Nt.E n).size ≤ 170) (m : Nat) (hm : m < 256 ^ 4) : (Nt.E (n * m)).size ≤ 174 := by
  have h1 := Nt.V_lt (Nt.E n)
  rw [Nt.V_E] at h1
  exact E_le (mul_lt (Nat.lt_of_lt_of_le h1 (Nat.pow_le_pow_right (by omega) h)) hm)

/-- the digits that were read, and their number. -/
def ReadRel (w : World) (s : ByteArray) (a i : Value) (wr : World) : Prop := ∃ k : Nat, k ≤ s.size ∧ i = .int .i64 (k : Int) ∧ a = .string (Nt.E (Nt.dv (s.data.toList.take k))) ∧ Below w.heap.size w wr
end Go.Proofs.YtbgmnpabclfjaaaGreatDoor
namespace Go.Proofs.YtbgmnpabclfjaaaGreatDoor
open Go.RowKit Go.Shelf

def digitSet : List UInt8 := [48, 49, 50, 51, 52, 53, 54, 55, 56, 57]
theorem digitSet_has (b : UInt8) : digitSet.contains b = Nt.isDig b := by
  have h : ∀ n : Fin 256, digitSet.contains (UInt8.ofNat n.val) = Nt.isDig (UInt8.ofNat n.val) := by decide +kernel
  have := h ⟨b.toNat, UInt8.toNat_lt b⟩
  rwa [show UInt8.ofNat (⟨b.toNat, UInt8.toNat_lt b⟩ : Fin 256).val = b from UInt8.ofNat_toNat] at this
theorem drop_nil_iff (p : UInt8 → Bool) : ∀ l : List UInt8, l.dropWhile p = [] ↔ ∀ x ∈ l, p x = true
  | [] => by simp
  | b :: r => by
    have ih := drop_nil_iff p r
    by_cases h : p b = true
    · rw [List.dropWhile_cons_of_pos h, ih]
      constructor
      · intro hr x hx
        rcases List.mem_cons.1 hx with rfl | hx
        · exact h
        · exact hr x hx
      · exact fun hr x hx => hr x (List.mem_cons_of_mem _ hx)
    · rw [List.dropWhile_cons_of_neg h]
      constructor
      · intro hr; cases hr
      · intro hr; exact absurd (hr b List.mem_cons_self) h
theorem trimS_nil {l : List UInt8} (h : l.all Nt.isDig = true) : Lib.trimS l digitSet = [] := by
  have h1 : Lib.trimRightS l digitSet = [] := by
    unfold Lib.trimRightS
    rw [List.reverse_eq_nil_iff, drop_nil_iff]
    intro x hx
    rw [List.mem_reverse] at hx
    rw [digitSet_has]
    exact List.all_eq_true.1 h x hx
  unfold Lib.trimS
  rw [h1]; rfl
theorem trimS_some {l : List UInt8} (h : l.all Nt.isDig = false) : Lib.trimS l digitSet ≠ [] := by
  intro hn
  rw [List.all_eq_false] at h
  obtain ⟨x, hx, hb⟩ := h
  have h1 : ∀ y ∈ Lib.trimRightS l digitSet, digitSet.contains y = true := by
    unfold Lib.trimS Lib.trimLeftS at hn
    exact (drop_nil_iff _ _).1 hn
  have h2 : ∀ y ∈ l, digitSet.contains y = true := by
    intro y hy
    have e := List.takeWhile_append_dropWhile (p := (digitSet.contains ·)) (l := l.reverse)
    have hy2 : y ∈ l.reverse := List.mem_reverse.2 hy
    rw [← e, List.mem_append] at hy2
    rcases hy2 with hy2 | hy2
    · have := List.all_takeWhile (p := (digitSet.contains ·)) (l := l.reverse)
      exact List.all_eq_true.1 this y hy2
    · exact h1 y (by unfold Lib.trimRightS; exact List.mem_reverse.2 hy2)
  have := h2 x hx
  rw [digitSet_has] at this
  exact hb this
theorem parseUint_digits {l : List UInt8} (h : ∀ b ∈ l, Nt.isDig b = true) (h0 : l ≠ []) (h9 : l.length ≤ 9) : Lib.parseUintB 64 l = .ok (Nt.dv l) := by
  have key : ∀ (k : List UInt8) (acc : Nat), (∀ b ∈ k, Nt.isDig b = true) → acc * 10 ^ k.length + Nt.dv k < 1000000000 * 10 → Lib.parseUintM (2 ^ 64 - 1) acc k = .ok (acc * 10 ^ k.length + Nt.dv k) := by
    intro k
    induction k with
    | nil => intro acc _ _; simp [Lib.parseUintM, Nt.dv]
    | cons b r ih =>
      intro acc hk hlt
      have hb : 48 ≤ b.toNat ∧ b.toNat ≤ 57 := by simpa [Nt.isDig] using hk b List.mem_cons_self
      have e : acc * 10 ^ (b :: r).length + Nt.dv (b :: r) = (acc * 10 + (b.toNat - 48)) * 10 ^ r.length + Nt.dv r := by
        rw [show b :: r = [b] ++ r from rfl, Nt.dv_append, List.length_append, List.length_singleton, Nat.pow_add, Nat.pow_one, Nat.add_mul, Nat.mul_assoc]
        have : Nt.dv [b] = b.toNat - 48 := by simp [Nt.dv]
        rw [this]; omega
      have hp : 0 < 10 ^ r.length := Nat.pow_pos (by omega)
      have hacc : acc * 10 + (b.toNat - 48) < 1000000000 * 10 := by
        rw [e] at hlt
        have := Nat.mul_le_mul_left (acc * 10 + (b.toNat - 48)) hp
        omega
      rw [e] at hlt ⊢
      rw [Lib.parseUintM, if_pos hb, if_neg (by omega), if_neg (by omega)]
      exact ih _ (fun x hx => hk x (List.mem_cons_of_mem _ hx)) hlt
  have h1 := key l 0 h (by
    rw [Nat.zero_mul, Nat.zero_add]
    refine Nat.lt_of_lt_of_le (Nt.dv_lt l h) (Nat.le_trans (Nat.pow_le_pow_right (by omega) h9) (by decide)))
  rw [Nat.zero_mul, Nat.zero_add] at h1
  rw [Lib.parseUintB, if_neg h0]; exact h1
theorem below_bytesWorld (w : World) (e : TypeId) (s : ByteArray) : Below w.heap.size w (Lib.bytesWorld w e s) := ⟨rfl, rfl, rfl, by rw [Lib.bytesWorld_size]; omega, fun j hj => Lib.bytesWorld_at_old w e s j hj⟩
theorem toArray_toList (l : List UInt8) : (⟨l.toArray⟩ : ByteArray).toList = l := by rw [ByteArray.toList_eq]

/-- what was read of the digits, nine at a time. -/
def NineRel (w : World) (l : List UInt8) (a b : Value) (wr : World) : Prop := ∃ (p : Nat) (cur : ByteArray), cur.data.toList = l.drop p ∧ p ≤ l.length ∧ a = .string cur ∧ b = .string (Nt.E (Nt.dv (l.take p))) ∧ (p = 0 ∨ (l.length - p) % 9 = 0) ∧ Below w.heap.size w wr
def strLen : Value → Nat
  | .string s => s.size
  | _ => 0
end Go.Proofs.YtbgmnpabclfjaaaGreatDoor
namespace Go.Proofs.YtbgmnpabclfjaaaGreatDoor
open Go.RowKit Go.Shelf

theorem Nt.dcs_get (n m i : Nat) (h : i < (Nt.dcs n m).length) : (Nt.dcs n m)[i] = 48 + n / 10 ^ (m - 1 - i) % 10 := by
  induction m generalizing i with
  | zero => simp [Nt.dcs] at h
  | succ m ih =>
    have e := Nt.dcs_one n m
    rcases i with _ | i
    · simp only [e, List.getElem_cons_zero]; rfl
    · have h2 : i < (Nt.dcs n m).length := by rw [Nt.dcs_length] at *; omega
      simp only [e, List.getElem_cons_succ]
      rw [ih i h2, show m + 1 - 1 - (i + 1) = m - 1 - i from by omega]
theorem Nt.dcs_fn (n m : Nat) : Nt.dcs n m = fnL (fun i => 48 + n / 10 ^ (m - 1 - i) % 10) m := by
  apply List.ext_getElem (by rw [Nt.dcs_length, fnL_length])
  intro i h1 h2
  rw [Nt.dcs_get, fnL_get]
/-- nine places from p on, of which the last k are x's digits; the others are f's. -/
def Nt.nine (f : Nat → Nat) (p x k i : Nat) : Nat := if p + 9 ≤ i + k ∧ i < p + 9 then 48 + x / 10 ^ (p + 8 - i) % 10 else f i
theorem Nt.nine_set (f : Nat → Nat) (p x k m : Nat) (hk : k < 9) : (fnL (Nt.nine f p x k) m).set (p + (8 - k)) (48 + x / 10 ^ k % 10) = fnL (Nt.nine f p x (k + 1)) m := by
  apply fnL_set
  · unfold Nt.nine
    rw [if_pos (by omega), show p + 8 - (p + (8 - k)) = k from by omega]
  · intro i _ hi
    unfold Nt.nine
    by_cases h : p + 9 ≤ i + k ∧ i < p + 9
    · rw [if_pos h, if_pos (by omega)]
    · rw [if_neg h, if_neg (by omega)]
/-- the places from behind, as far as j times nine, are n's digits; those ahead are 0. -/
def Nt.tail (n m j i : Nat) : Nat := if m ≤ i + 9 * j then 48 + n / 10 ^ (m - 1 - i) % 10 else 0
theorem Nt.tail_next (n m j p : Nat) (hp : p + 9 + 9 * j = m) : fnL (Nt.nine (Nt.tail n m j) p (n / 10 ^ (9 * j) % 1000000000) 9) m = fnL (Nt.tail n m (j + 1)) m := by
  refine fnL_ext fun i hi => ?_
  unfold Nt.nine Nt.tail
  by_cases h : p + 9 ≤ i + 9 ∧ i < p + 9
  · rw [if_pos h, if_pos (by omega)]
    obtain ⟨t, ht⟩ : ∃ t, t = p + 8 - i := ⟨_, rfl⟩
    rw [← ht, show m - 1 - i = 9 * j + t from by omega, Nat.pow_add, ← Nat.div_div_eq_div_mul]
    generalize n / 10 ^ (9 * j) = y
    obtain ⟨s, hs⟩ : ∃ s, t + s + 1 = 9 := ⟨8 - t, by omega⟩
    have e : (1000000000 : Nat) = 10 ^ t * (10 * 10 ^ s) := by
      rw [show (1000000000 : Nat) = 10 ^ 9 from by decide, ← hs, Nat.pow_succ, Nat.pow_add]
      rw [Nat.mul_assoc, Nat.mul_comm (10 ^ s)]
    have hp10 : 0 < 10 ^ t := Nat.pow_pos (by omega)
    rw [e, Nat.mod_mul, Nat.add_mul_div_left _ _ hp10, Nat.div_eq_of_lt (Nat.mod_lt _ hp10), Nat.zero_add, Nat.mod_mul]
    omega
  · rw [if_neg h]
    by_cases h2 : m ≤ i + 9 * j
    · rw [if_pos h2, if_pos (by omega)]
    · rw [if_neg h2, if_neg (by omega)]
theorem Nt.tail_zero (n m : Nat) : fnL (Nt.tail n m 0) m = List.replicate m 0 := by
  apply List.ext_getElem (by rw [fnL_length, List.length_replicate])
  intro i h1 h2
  rw [fnL_length] at h1
  rw [fnL_get, List.getElem_replicate, Nt.tail, if_neg (by omega)]
theorem Nt.tail_all (n c : Nat) : fnL (Nt.tail n (9 * c) c) (9 * c) = Nt.dcs n (9 * c) := by
  rw [Nt.dcs_fn]
  exact fnL_ext fun i _ => by unfold Nt.tail; rw [if_pos (by omega)]
theorem Nt.drop_zeros : ∀ (l : List Nat), (∀ x ∈ l, 48 ≤ x ∧ x < 58) → (l.map UInt8.ofNat).dropWhile (· == 48) = (l.dropWhile (· == 48)).map UInt8.ofNat
  | [], _ => rfl
  | x :: r, h => by
    have hx := h x List.mem_cons_self
    have e : (UInt8.ofNat x == 48) = (x == 48) := by
      have h1 : (UInt8.ofNat x).toNat = x := by rw [UInt8.toNat_ofNat']; exact Nat.mod_eq_of_lt (by omega)
      rw [Bool.eq_iff_iff, beq_iff_eq, beq_iff_eq]
      constructor
      · intro hh; rw [← h1, hh]; rfl
      · intro hh; rw [hh]; rfl
    by_cases h0 : (x == 48) = true
    · rw [List.map_cons, List.dropWhile_cons_of_pos (p := (· == 48)) (by rw [e]; exact h0), List.dropWhile_cons_of_pos (p := (· == 48)) h0]
      exact Nt.drop_zeros r fun y hy => h y (List.mem_cons_of_mem _ hy)
    · rw [List.map_cons, List.dropWhile_cons_of_neg (p := (· == 48)) (by rw [e]; exact h0), List.dropWhile_cons_of_neg (p := (· == 48)) h0, List.map_cons]

end Go.Proofs.YtbgmnpabclfjaaaGreatDoor
namespace Go.Proofs.YtbgmnpabclfjaaaGreatDoor
open Go.RowKit Go.Shelf

theorem Nt.cuts_enough (v : Nat) : v < 10 ^ (9 * (Nt.blen v / 29 + 1)) := by
  have h := Nt.lt_blen v
  refine Nat.lt_of_lt_of_le h (Nat.le_trans (Nat.pow_le_pow_right (by omega) (show Nt.blen v ≤ 29 * (Nt.blen v / 29 + 1) by omega)) ?_)
  rw [Nat.pow_mul, Nat.pow_mul]
  exact Nat.pow_le_pow_left (by decide) _
def TextRel (w : World) (n m c G : Nat) (a i : Value) (wr : World) : Prop := ∃ (j : Nat) (t : ByteArray), j ≤ c ∧ i = .int .i64 (j : Int) ∧ a = .string t ∧ Nt.V t = n / 10 ^ (9 * j) ∧ t.size ≤ 2000 ∧
  Blk wr G 5 (kV .u8 (fnL (Nt.tail n m j) m)) ∧ Below w.heap.size w wr
theorem D_zero : Nt.D 0 = ⟨#[48]⟩ := by decide
end Go.Proofs.YtbgmnpabclfjaaaGreatDoor
namespace Go.Proofs.YtbgmnpabclfjaaaGreatDoor
open Go.RowKit Go.Shelf

/-- p divides n just k times. -/
def Nt.IsVl (p n k : Nat) : Prop := p ^ k ∣ n ∧ ¬ p ^ (k + 1) ∣ n
theorem Nt.IsVl.le {p n k l : Nat} (h : Nt.IsVl p n k) (h' : Nt.IsVl p n l) : k ≤ l := by
  rcases Nat.lt_or_ge l k with hlt | hge
  · exact absurd (Nat.dvd_trans (Nat.pow_dvd_pow p hlt) h.1) h'.2
  · exact hge
theorem Nt.IsVl.eq {p n k l : Nat} (h : Nt.IsVl p n k) (h' : Nt.IsVl p n l) : k = l := Nat.le_antisymm (h.le h') (h'.le h)
theorem Nt.vl_none {p n : Nat} (h : n % p ≠ 0) : Nt.IsVl p n 0 := ⟨by rw [Nat.pow_zero]; exact Nat.one_dvd _, by rw [Nat.zero_add, Nat.pow_one]; exact fun hd => h (Nat.mod_eq_zero_of_dvd hd)⟩
/-- t times d is in n, r is left. -/
def Nt.Out (n d t r : Nat) : Prop := n = d ^ t * r ∧ r % d ≠ 0
theorem Nt.Out.vl {n d t r : Nat} (hd : 0 < d) (h : Nt.Out n d t r) : Nt.IsVl d n t := by
  obtain ⟨rfl, hr⟩ := h
  refine ⟨Nat.dvd_mul_right _ _, fun hh => hr ?_⟩
  rw [Nat.pow_succ] at hh
  exact Nat.mod_eq_zero_of_dvd (Nat.dvd_of_mul_dvd_mul_left (Nat.pow_pos hd) hh)
theorem Nt.out_more {n d s r : Nat} (h0 : n % d = 0) (h : Nt.Out (n / d) (d * d) s r) (hr : r % d = 0) : Nt.Out n d (1 + 2 * s + 1) (r / d) := by
  obtain ⟨h1, h2⟩ := h
  have e1 : n = d * (n / d) := (Nat.mul_div_cancel' (Nat.dvd_of_mod_eq_zero h0)).symm
  have e2 : r = d * (r / d) := (Nat.mul_div_cancel' (Nat.dvd_of_mod_eq_zero hr)).symm
  refine ⟨?_, fun h3 => h2 ?_⟩
  · rw [e1, h1, Nat.pow_add, Nat.pow_one, Nat.pow_add, Nat.pow_one, Nat.pow_mul]
    conv => lhs; rw [e2]
    rw [show d ^ 2 = d * d from by rw [Nat.pow_succ, Nat.pow_one]]
    rw [Nat.mul_assoc, Nat.mul_assoc]
  · rw [e2]
    exact Nat.mod_eq_zero_of_dvd (Nat.mul_dvd_mul_left d (Nat.dvd_of_mod_eq_zero h3))
theorem Nt.out_same {n d s r : Nat} (h0 : n % d = 0) (h : Nt.Out (n / d) (d * d) s r) (hr : r % d ≠ 0) : Nt.Out n d (1 + 2 * s) r := by
  obtain ⟨h1, h2⟩ := h
  have e1 : n = d * (n / d) := (Nat.mul_div_cancel' (Nat.dvd_of_mod_eq_zero h0)).symm
  refine ⟨?_, hr⟩
  rw [e1, h1, Nat.pow_add, Nat.pow_one, Nat.pow_mul, show d ^ 2 = d * d from by rw [Nat.pow_succ, Nat.pow_one], Nat.mul_assoc]
def TookRel (n d : Nat) (e : Ending) : Prop := ∃ t r : Nat, e = .returned (.tuple #[.int .i64 (t : Int), .string (Nt.E r)]) ∧ Nt.Out n d t r
theorem Nt.out_few {n d t r K : Nat} (hn : 0 < n) (hd : 2 ≤ d) (hs : n < 2 ^ K) (h : Nt.Out n d t r) : t < K ∧ r ≤ n ∧ 0 < r := by
  obtain ⟨h1, h2⟩ := h
  have hr : 0 < r := by
    rcases Nat.eq_zero_or_pos r with h | h
    · rw [h, Nat.mul_zero] at h1; omega
    · exact h
  have hp : 0 < d ^ t := Nat.pow_pos (by omega)
  have h3 : d ^ t ≤ n := by rw [h1]; exact Nat.le_mul_of_pos_right _ hr
  refine ⟨?_, by rw [h1]; exact Nat.le_mul_of_pos_left _ hp, hr⟩
  exact (Nat.pow_lt_pow_iff_right (a := 2) (by omega)).1 (Nat.lt_of_le_of_lt (Nat.le_trans (Nat.pow_le_pow_left hd t) h3) hs)
theorem Nt.lt_bits (n : Nat) : n < 2 ^ (8 * (Nt.E n).size) := by
  have h1 := Nt.V_lt (Nt.E n)
  rwa [Nt.V_E, Nt.pow256] at h1

end Go.Proofs.YtbgmnpabclfjaaaGreatDoor
namespace Go.Proofs.YtbgmnpabclfjaaaGreatDoor
open Go.RowKit Go.Shelf

theorem trimRight_split (l : List UInt8) : ∃ z, l = Lib.trimRightB l 0 ++ List.replicate z 0 ∧ (Lib.trimRightB l 0 = [] ∨ ∃ q b, Lib.trimRightB l 0 = q ++ [b] ∧ b ≠ 0) := by
  unfold Lib.trimRightB
  have e := List.takeWhile_append_dropWhile (p := (· == (0 : UInt8))) (l := l.reverse)
  have ha := List.all_takeWhile (p := (· == (0 : UInt8))) (l := l.reverse)
  obtain ⟨tw, htw⟩ : ∃ tw, tw = l.reverse.takeWhile (· == 0) := ⟨_, rfl⟩
  obtain ⟨d, hd⟩ : ∃ d, d = l.reverse.dropWhile (· == 0) := ⟨_, rfl⟩
  rw [← htw] at ha
  rw [← htw, ← hd] at e
  rw [← hd]
  have h1 : tw = List.replicate tw.length 0 := by
    rw [List.eq_replicate_iff]
    exact ⟨rfl, fun b hb => by simpa using List.all_eq_true.1 ha b hb⟩
  refine ⟨tw.length, ?_, ?_⟩
  · have e2 := congrArg List.reverse e
    rw [List.reverse_reverse, List.reverse_append] at e2
    conv => lhs; rw [← e2]
    congr 1
    rw [h1, List.reverse_replicate, List.length_replicate]
  · cases hdd : d with
    | nil => exact Or.inl rfl
    | cons b q =>
      refine Or.inr ⟨q.reverse, b, by rw [List.reverse_cons], fun hb => ?_⟩
      have h2 := List.head?_dropWhile_not (p := (· == (0 : UInt8))) (l := l.reverse)
      rw [← hd, hdd] at h2
      simp [hb] at h2
theorem val_more_zeros (l : List UInt8) (z : Nat) : Nt.val (l ++ List.replicate z 0) = Nt.val l * 256 ^ z := by
  induction z with
  | zero => simp
  | succ z ih =>
    rw [List.replicate_succ', ← List.append_assoc, Nt.val_snoc, ih, Nat.pow_succ, Nat.mul_assoc]; rfl
theorem ntz8_facts : ∀ b : Fin 256, b.val ≠ 0 → b.val % 2 ^ Lib.trailingZeros8 b.val = 0 ∧ b.val / 2 ^ Lib.trailingZeros8 b.val % 2 = 1 ∧ Lib.trailingZeros8 b.val < 8 := by decide +kernel
/-- a number's twos: those of its last byte that is not 0, and eight for each byte behind it. -/
theorem twos_of (x b z s : Nat) (h1 : b % 2 ^ s = 0) (h2 : b / 2 ^ s % 2 = 1) (h3 : s < 8) : Nt.Out ((x * 256 + b) * 256 ^ z) 2 (8 * z + s) (x * 2 ^ (8 - s) + b / 2 ^ s) := by
  refine ⟨?_, ?_⟩
  · have e1 : b = 2 ^ s * (b / 2 ^ s) := (Nat.mul_div_cancel' (Nat.dvd_of_mod_eq_zero h1)).symm
    have e2 : (256 : Nat) = 2 ^ s * 2 ^ (8 - s) := by rw [← Nat.pow_add, show s + (8 - s) = 8 from by omega]
    have e3 : x * 256 + b = 2 ^ s * (x * 2 ^ (8 - s) + b / 2 ^ s) := by
      rw [Nat.mul_add, ← e1]
      congr 1
      rw [← Nat.mul_assoc, Nat.mul_comm (2 ^ s) x, Nat.mul_assoc, ← e2]
    rw [e3, Nt.pow256, Nat.pow_add, Nat.mul_comm _ (2 ^ (8 * z)), Nat.mul_assoc]
  · obtain ⟨t, ht⟩ : ∃ t, 8 - s = t + 1 := ⟨7 - s, by omega⟩
    rw [ht, Nat.pow_succ]
    generalize b / 2 ^ s = y at *
    have : x * (2 ^ t * 2) = 2 * (x * 2 ^ t) := by rw [← Nat.mul_assoc, Nat.mul_comm]
    omega
theorem fives_of {n t o f : Nat} (h : n = 2 ^ t * o) (hf : Nt.IsVl 5 o f) : Nt.IsVl 5 n f := by
  refine ⟨by rw [h]; exact Nat.dvd_trans hf.1 (Nat.dvd_mul_left _ _), fun hd => hf.2 ?_⟩
  rw [h] at hd
  exact Nat.Coprime.dvd_of_dvd_mul_left (Nat.Coprime.pow _ _ (by decide)) hd
def TwosRel (n : Nat) (e : Ending) : Prop := (n = 0 ∧ e = .returned (.tuple #[.int .i64 0, .int .i64 0])) ∨
  (n ≠ 0 ∧ ∃ t f : Nat, e = .returned (.tuple #[.int .i64 (t : Int), .int .i64 (f : Int)]) ∧ Nt.IsVl 2 n t ∧ Nt.IsVl 5 n f)
end Go.Proofs.YtbgmnpabclfjaaaGreatDoor
namespace Go.Proofs.YtbgmnpabclfjaaaGreatDoor
open Go.RowKit Go.Shelf

def DigRel10 (w : World) (n : Nat) (a s i : Value) (wr : World) : Prop := ∃ k : Nat, i = .int .i64 (k : Int) ∧ a = .string (Nt.E (n / 10 ^ k)) ∧ s = .string (Nt.S (Nt.dcs n k)) ∧ (k = 0 ∨ k = 1 ∨ 10 ^ (k - 1) ≤ n) ∧ Below w.heap.size w wr
theorem digit_text (d : Nat) (h : d < 10) : (⟨#[48, 49, 50, 51, 52, 53, 54, 55, 56, 57]⟩ : ByteArray).extract d (d + 1) = Nt.S [48 + d] := by
  have : ∀ d : Fin 10, (⟨#[48, 49, 50, 51, 52, 53, 54, 55, 56, 57]⟩ : ByteArray).extract d.val (d.val + 1) = Nt.S [48 + d.val] := by decide
  exact this ⟨d, h⟩
theorem Nt.lt_ten_few {n k K : Nat} (h : n < 10 ^ K) (hk : 10 ^ k ≤ n) : k < K := (Nat.pow_lt_pow_iff_right (a := 10) (by omega)).1 (Nat.lt_of_le_of_lt hk h)
def OftRel (w : World) (p n : Nat) (a k i : Value) (wr : World) : Prop := ∃ j : Nat, i = .int .i64 (j : Int) ∧ k = .int .i64 (j : Int) ∧ a = .string (Nt.E (n / p ^ j)) ∧ p ^ j ∣ n ∧ Below w.heap.size w wr
end Go.Proofs.YtbgmnpabclfjaaaGreatDoor
namespace Go.Proofs.YtbgmnpabclfjaaaGreatDoor
open Go.RowKit Go.Shelf

/-- what is left of digits when zeros ahead are taken off. -/
def StripRel (x : Nat) (a : Value) : Prop := ∃ (k : Nat) (t : ByteArray), k < 400 ∧ a = .string t ∧ t = Nt.S (Nt.dcs x (k + 1)) ∧ x < 10 ^ (k + 1)
theorem strip_facts (x k : Nat) (hx : x < 10 ^ (k + 1)) : (Nt.S (Nt.dcs x (k + 1))).size = k + 1 ∧ (∀ h, ((Nt.S (Nt.dcs x (k + 1)))[0]'h).toNat = 48 + x / 10 ^ k) ∧
    (Nt.S (Nt.dcs x (k + 1))).extract 1 (Nt.S (Nt.dcs x (k + 1))).size = Nt.S (Nt.dcs x k) := by
  have hl : (Nt.dcs x (k + 1)).length = k + 1 := Nt.dcs_length _ _
  have hsz : (Nt.S (Nt.dcs x (k + 1))).size = k + 1 := by rw [Nt.S_size, hl]
  have hp : 0 < 10 ^ k := Nat.pow_pos (by omega)
  have hq : x / 10 ^ k < 10 := by rw [Nat.div_lt_iff_lt_mul hp, Nat.mul_comm, ← Nat.pow_succ]; exact hx
  refine ⟨hsz, fun h => ?_, ?_⟩
  · rw [Nt.S_get _ (fun y hy => by have := Nt.dcs_lt x (k + 1) y hy; omega), Nt.dcs_get, show k + 1 - 1 - 0 = k from by omega, Nat.mod_eq_of_lt hq]
  · rw [hsz]
    have e3 : ∀ (a b : ByteArray), a.data.toList = b.data.toList → a = b := fun a b hab => by
      obtain ⟨⟨x⟩⟩ := a; obtain ⟨⟨y⟩⟩ := b; simpa using hab
    apply e3
    rw [Lib.extract_data, Nt.S_toList, Nt.S_toList, Nt.dcs_one, List.map_cons, List.drop_one, List.tail_cons]
    exact List.take_of_length_le (by rw [List.length_map, Nt.dcs_length]; omega)
end Go.Proofs.YtbgmnpabclfjaaaGreatDoor
