/-
  PLAIN MATHEMATICS OF DECIMAL DIGITS: dcs (so many digits of a number), dec (its digits without a 0 ahead), dv (the number of digits).
  TEXTS AS NUMBERS: the document's Parse, and the program's.
  TEXTS AS NUMBERS: the program's Parse.
  NUMBERS IN DIGITS: the program's Text.
  NUMBERS IN DIGITS: the program's Text, how many digits.
  HOW OFTEN A NUMBER DIVIDES: the program's takeOut, Twos.
  HOW OFTEN 2 AND 5 DIVIDE A NUMBER: the program's Twos.
  NUMBERS IN DIGITS, AND HOW OFTEN 2 AND 5 DIVIDE THEM: the document's answers.
-/
import Derived.Test.YtkgkgdgbkkhblaaDoorMath
import Derived.Test.YtkgkgdgbkkhblaaDoorShelf2
import Derived.Test.YtkgkgdgbkkhblaaDoorLong1
import Derived.Deep.RegionWith
namespace Go.Proofs.YtkgkgdgbkkhblaaDoor
set_option linter.unusedSimpArgs false
set_option linter.unusedVariables false

/-- m decimal digits of n, as bytes' numbers, the highest first. -/
def Nt.dcs (n : Nat) : Nat → List Nat
  | 0 => []
  | m + 1 => Nt.dcs (n / 10) m ++ [48 + n % 10]
/-- n's decimal digits, without a 0 ahead; of 0 one. -/
def Nt.decF : Nat → Nat → List Nat
  | 0, _ => []
  | f + 1, n => if n < 10 then [48 + n] else Nt.decF f (n / 10) ++ [48 + n % 10]
def Nt.dec (n : Nat) : List Nat := Nt.decF (n + 1) n
theorem Nt.decF_eq (n : Nat) : ∀ f g : Nat, n < f → n < g → Nt.decF f n = Nt.decF g n := by
  induction n using Nat.strongRecOn with
  | _ n ih =>
    intro f g hf hg
    obtain ⟨f, rfl⟩ : ∃ k, f = k + 1 := ⟨f - 1, by omega⟩
    obtain ⟨g, rfl⟩ : ∃ k, g = k + 1 := ⟨g - 1, by omega⟩
    unfold Nt.decF
    by_cases h : n < 10
    · rw [if_pos h, if_pos h]
    · rw [if_neg h, if_neg h, ih (n / 10) (by omega) f g (by omega) (by omega)]
theorem Nt.dec_small {n : Nat} (h : n < 10) : Nt.dec n = [48 + n] := by
  unfold Nt.dec Nt.decF; rw [if_pos h]
theorem Nt.dec_big {n : Nat} (h : ¬ n < 10) : Nt.dec n = Nt.dec (n / 10) ++ [48 + n % 10] := by
  have e : Nt.dec n = Nt.decF (n + 1) n := rfl
  rw [e, Nt.decF, if_neg h, Nt.decF_eq (n / 10) n (n / 10 + 1) (by omega) (by omega)]; rfl
theorem Nt.dcs_length (n m : Nat) : (Nt.dcs n m).length = m := by
  induction m generalizing n with
  | zero => rfl
  | succ m ih => rw [Nt.dcs, List.length_append, ih]; rfl
theorem Nt.dcs_add (n a b : Nat) : Nt.dcs n (a + b) = Nt.dcs (n / 10 ^ b) a ++ Nt.dcs n b := by
  induction b generalizing n with
  | zero => simp [Nt.dcs]
  | succ b ih =>
    have e : Nt.dcs n (a + (b + 1)) = Nt.dcs (n / 10) (a + b) ++ [48 + n % 10] := rfl
    rw [e, ih, Nat.div_div_eq_div_mul, Nat.pow_succ, Nat.mul_comm 10, List.append_assoc]; rfl
theorem Nt.dcs_one (n i : Nat) : Nt.dcs n (i + 1) = (48 + n / 10 ^ i % 10) :: Nt.dcs n i := by
  rw [Nat.add_comm, Nt.dcs_add]; rfl
theorem Nt.dcs_mod (n m : Nat) : Nt.dcs (n % 10 ^ m) m = Nt.dcs n m := by
  induction m generalizing n with
  | zero => rfl
  | succ m ih =>
    have h1 : n % 10 ^ (m + 1) % 10 = n % 10 := by
      rw [Nat.pow_succ, Nat.mul_comm]
      rw [Nat.mod_mul]
      omega
    have h2 : n % 10 ^ (m + 1) / 10 = n / 10 % 10 ^ m := by
      rw [Nat.pow_succ, Nat.mul_comm, Nat.mod_mul]
      omega
    rw [Nt.dcs, Nt.dcs, h1, h2, ih]
theorem Nt.dcs_lt (n m : Nat) : ∀ x ∈ Nt.dcs n m, 48 ≤ x ∧ x < 58 := by
  induction m generalizing n with
  | zero => intro x hx; cases hx
  | succ m ih =>
    intro x hx
    rw [Nt.dcs, List.mem_append] at hx
    rcases hx with hx | hx
    · exact ih _ _ hx
    · rw [List.mem_singleton] at hx; omega
/-- as many digits as it has. -/
theorem Nt.dcs_dec {n i : Nat} (hn : n < 10 ^ (i + 1)) (h : i = 0 ∨ 10 ^ i ≤ n) : Nt.dcs n (i + 1) = Nt.dec n := by
  induction i generalizing n with
  | zero =>
    have h1 : n < 10 := by simpa using hn
    rw [Nt.dec_small h1, Nt.dcs, Nt.dcs, Nat.mod_eq_of_lt h1]; rfl
  | succ i ih =>
    have h1 : 10 ^ (i + 1) ≤ n := by
      rcases h with h | h
      · omega
      · exact h
    have hp : 0 < 10 ^ i := Nat.pow_pos (by omega)
    have h2 : 10 * 10 ^ i ≤ n := by rw [Nat.mul_comm, ← Nat.pow_succ]; exact h1
    have h3 : ¬ n < 10 := by
      have := Nat.mul_le_mul_left 10 hp
      omega
    have h4 : n / 10 < 10 ^ (i + 1) := by rw [Nat.div_lt_iff_lt_mul (by omega), ← Nat.pow_succ]; exact hn
    have h5 : 10 ^ i ≤ n / 10 := by rw [Nat.le_div_iff_mul_le (by omega), ← Nat.pow_succ]; exact h1
    rw [Nt.dec_big h3, Nt.dcs, ih h4 (Or.inr h5)]
theorem Nt.dec_ne (n : Nat) : Nt.dec n ≠ [] := by
  by_cases h : n < 10
  · rw [Nt.dec_small h]; simp
  · rw [Nt.dec_big h]; simp
/-- without zeros ahead. -/
theorem Nt.dcs_trim {n m : Nat} (h : n < 10 ^ m) : (Nt.dcs n m).dropWhile (· == 48) = if n = 0 then [] else Nt.dec n := by
  induction m generalizing n with
  | zero =>
    have : n = 0 := by simpa using h
    rw [if_pos this]; rfl
  | succ m ih =>
    have h4 : n / 10 < 10 ^ m := by rw [Nat.div_lt_iff_lt_mul (by omega), ← Nat.pow_succ]; exact h
    have hi := ih h4
    rw [Nt.dcs, List.dropWhile_append, hi]
    by_cases h0 : n / 10 = 0
    · have h10 : n < 10 := by omega
      rw [if_pos h0]
      by_cases hz : n = 0
      · subst hz; simp
      · rw [if_neg hz, Nt.dec_small h10, Nat.mod_eq_of_lt h10]
        rw [List.isEmpty_nil, if_pos rfl, List.dropWhile_cons_of_neg (by simp; omega)]
    · have hn0 : ¬ n = 0 := by omega
      have hne : (Nt.dec (n / 10)).isEmpty = false := by
        cases he : Nt.dec (n / 10) with
        | nil => exact absurd he (Nt.dec_ne _)
        | cons => rfl
      rw [if_neg h0, hne, if_neg hn0, Nt.dec_big (show ¬ n < 10 by omega), if_neg (by decide)]
/-- how many digits. -/
theorem Nt.dec_length_le {n m : Nat} (h : n < 10 ^ (m + 1)) : (Nt.dec n).length ≤ m + 1 := by
  induction m generalizing n with
  | zero =>
    have : n < 10 := by simpa using h
    rw [Nt.dec_small this]; simp
  | succ m ih =>
    by_cases h1 : n < 10
    · rw [Nt.dec_small h1]; simp
    · have h4 : n / 10 < 10 ^ (m + 1) := by rw [Nat.div_lt_iff_lt_mul (by omega), ← Nat.pow_succ]; exact h
      rw [Nt.dec_big h1, List.length_append]
      have := ih h4
      simp; omega
/-- numbers as a text. -/
def Nt.S (l : List Nat) : ByteArray := ⟨(l.map UInt8.ofNat).toArray⟩
def Nt.D (n : Nat) : ByteArray := Nt.S (Nt.dec n)
theorem Nt.S_size (l : List Nat) : (Nt.S l).size = l.length := by show (l.map UInt8.ofNat).toArray.size = _; simp
theorem Nt.S_append (a b : List Nat) : Nt.S a ++ Nt.S b = Nt.S (a ++ b) := by
  unfold Nt.S
  rw [str_append, List.map_append]
/-- the number of a list of digits. -/
def Nt.dv (l : List UInt8) : Nat := l.foldl (fun n b => n * 10 + (b.toNat - 48)) 0
theorem Nt.dv_foldl (l : List UInt8) (a : Nat) : l.foldl (fun n b => n * 10 + (b.toNat - 48)) a = a * 10 ^ l.length + Nt.dv l := by
  induction l generalizing a with
  | nil => simp [Nt.dv]
  | cons b l ih =>
    have e : Nt.dv (b :: l) = l.foldl (fun n b => n * 10 + (b.toNat - 48)) (0 * 10 + (b.toNat - 48)) := rfl
    rw [List.foldl_cons, ih, e, ih, List.length_cons, Nat.pow_succ, Nat.add_mul, Nat.zero_mul, Nat.zero_add, Nat.mul_assoc, Nat.mul_comm (10 ^ l.length) 10]
    omega
theorem Nt.dv_append (a b : List UInt8) : Nt.dv (a ++ b) = Nt.dv a * 10 ^ b.length + Nt.dv b := by
  rw [Nt.dv, List.foldl_append, Nt.dv_foldl]; rfl
theorem Nt.dv_snoc (a : List UInt8) (b : UInt8) : Nt.dv (a ++ [b]) = Nt.dv a * 10 + (b.toNat - 48) := by
  rw [Nt.dv_append]; simp [Nt.dv]
/-- are all of these digits? -/
def Nt.isDig (b : UInt8) : Bool := decide (48 ≤ b.toNat ∧ b.toNat ≤ 57)
theorem Nt.dv_lt (l : List UInt8) (h : ∀ b ∈ l, Nt.isDig b = true) : Nt.dv l < 10 ^ l.length := by
  induction l with
  | nil => simp [Nt.dv]
  | cons b l ih =>
    have hb : 48 ≤ b.toNat ∧ b.toNat ≤ 57 := by simpa [Nt.isDig] using h b List.mem_cons_self
    have hl := ih fun x hx => h x (List.mem_cons_of_mem _ hx)
    rw [show b :: l = [b] ++ l from rfl, Nt.dv_append, List.length_append, List.length_singleton, Nat.pow_add, Nat.pow_one]
    have e : Nt.dv [b] = b.toNat - 48 := by simp [Nt.dv]
    rw [e]
    have h1 : (b.toNat - 48 + 1) * 10 ^ l.length ≤ 10 * 10 ^ l.length := Nat.mul_le_mul_right _ (by omega)
    rw [Nat.add_mul, Nat.one_mul] at h1
    omega
/-- digits are the digits of their number. -/
theorem Nt.dcs_dv (l : List UInt8) (h : ∀ b ∈ l, Nt.isDig b = true) : (Nt.dcs (Nt.dv l) l.length).map UInt8.ofNat = l := by
  induction l with
  | nil => rfl
  | cons b l ih =>
    have hb : 48 ≤ b.toNat ∧ b.toNat ≤ 57 := by simpa [Nt.isDig] using h b List.mem_cons_self
    have hr := fun x hx => h x (List.mem_cons_of_mem _ hx)
    have hl := ih hr
    have hlt := Nt.dv_lt l hr
    have e : Nt.dv (b :: l) = (b.toNat - 48) * 10 ^ l.length + Nt.dv l := by
      rw [show b :: l = [b] ++ l from rfl, Nt.dv_append]; simp [Nt.dv]
    have hp : 0 < 10 ^ l.length := Nat.pow_pos (by omega)
    rw [List.length_cons, Nt.dcs_one, e]
    have e1 : ((b.toNat - 48) * 10 ^ l.length + Nt.dv l) / 10 ^ l.length = b.toNat - 48 := by
      rw [Nat.add_comm, Nat.add_mul_div_right _ _ hp, Nat.div_eq_of_lt hlt, Nat.zero_add]
    have e2 : Nt.dcs ((b.toNat - 48) * 10 ^ l.length + Nt.dv l) l.length = Nt.dcs (Nt.dv l) l.length := by
      rw [← Nt.dcs_mod, Nat.add_comm, Nat.add_mul_mod_self_right, Nt.dcs_mod]
    rw [e1, e2, List.map_cons, hl]
    congr 1
    rw [show 48 + (b.toNat - 48) % 10 = b.toNat from by omega]
    exact UInt8.ofNat_toNat
theorem Nt.dv_dec (n : Nat) : Nt.dv ((Nt.dec n).map UInt8.ofNat) = n := by
  induction n using Nat.strongRecOn with
  | _ n ih =>
    by_cases h : n < 10
    · rw [Nt.dec_small h]
      have e : (UInt8.ofNat (48 + n)).toNat = 48 + n := by rw [UInt8.toNat_ofNat']; exact Nat.mod_eq_of_lt (by omega)
      simp only [List.map_cons, List.map_nil, Nt.dv, List.foldl_cons, List.foldl_nil, e]
      omega
    · rw [Nt.dec_big h, List.map_append, List.map_cons, List.map_nil, Nt.dv_snoc, ih _ (by omega)]
      have e : (UInt8.ofNat (48 + n % 10)).toNat = 48 + n % 10 := by rw [UInt8.toNat_ofNat']; exact Nat.mod_eq_of_lt (by omega)
      rw [e]; omega
theorem Nt.ten_le (k : Nat) : (256 : Nat) ^ (2 * k) ≤ 10 ^ (5 * k) := by
  rw [Nat.pow_mul, Nat.pow_mul]
  exact Nat.pow_le_pow_left (by decide) k
/-- a number of so many bytes has not more digits than so. -/
theorem Nt.lt_ten {n s k : Nat} (h : (Nt.E n).size ≤ s) (hk : s ≤ 2 * k) : n < 10 ^ (5 * k) := by
  have h1 := Nt.V_lt (Nt.E n)
  rw [Nt.V_E] at h1
  exact Nat.lt_of_lt_of_le h1 (Nat.le_trans (Nat.pow_le_pow_right (by omega) (Nat.le_trans h hk)) (Nt.ten_le k))
end Go.Proofs.YtkgkgdgbkkhblaaDoor
namespace Go.Proofs.YtkgkgdgbkkhblaaDoor
open Go.RowKit Go.Shelf

theorem Nt.dv_take (s : ByteArray) (k : Nat) (h : k < s.size) : Nt.dv (s.data.toList.take (k + 1)) = Nt.dv (s.data.toList.take k) * 10 + ((s[k]'h).toNat - 48) := by
  rw [List.take_succ_eq_append_getElem (by simpa using h), Nt.dv_snoc]; rfl
end Go.Proofs.YtkgkgdgbkkhblaaDoor
namespace Go.Proofs.YtkgkgdgbkkhblaaDoor
open Go.RowKit Go.Shelf

def digitSet : List UInt8 := [48, 49, 50, 51, 52, 53, 54, 55, 56, 57]
theorem digitSet_has (b : UInt8) : digitSet.contains b = Nt.isDig b := by
  have h : ∀ n : Fin 256, digitSet.contains (UInt8.ofNat n.val) = Nt.isDig (UInt8.ofNat n.val) := by decide +kernel
  have := h ⟨b.toNat, UInt8.toNat_lt b⟩
  rwa [show UInt8.ofNat (⟨b.toNat, UInt8.toNat_lt b⟩ : Fin 256).val = b from UInt8.ofNat_toNat] at this
theorem drop_nil_iff (p : UInt8 → Bool) : ∀ l : List UInt8, l.dropWhile p = [] ↔ ∀ x ∈ l, p x = true
  | [] => by simp
  | b :: r => by
    have ih := drop_nil_iff p r
    by_cases h : p b = true
    · rw [List.dropWhile_cons_of_pos h, ih]
      constructor
      · intro hr x hx
        rcases List.mem_cons.1 hx with rfl | hx
        · exact h
        · exact hr x hx
      · exact fun hr x hx => hr x (List.mem_cons_of_mem _ hx)
    · rw [List.dropWhile_cons_of_neg h]
      constructor
      · intro hr; cases hr
      · intro hr; exact absurd (hr b List.mem_cons_self) h
theorem trimS_nil {l : List UInt8} (h : l.all Nt.isDig = true) : Lib.trimS l digitSet = [] := by
  have h1 : Lib.trimRightS l digitSet = [] := by
    unfold Lib.trimRightS
    rw [List.reverse_eq_nil_iff, drop_nil_iff]
    intro x hx
    rw [List.mem_reverse] at hx
    rw [digitSet_has]
    exact List.all_eq_true.1 h x hx
  unfold Lib.trimS
  rw [h1]; rfl
theorem trimS_some {l : List UInt8} (h : l.all Nt.isDig = false) : Lib.trimS l digitSet ≠ [] := by
  intro hn
  rw [List.all_eq_false] at h
  obtain ⟨x, hx, hb⟩ := h
  have h1 : ∀ y ∈ Lib.trimRightS l digitSet, digitSet.contains y = true := by
    unfold Lib.trimS Lib.trimLeftS at hn
    exact (drop_nil_iff _ _).1 hn
  have h2 : ∀ y ∈ l, digitSet.contains y = true := by
    intro y hy
    have e := List.takeWhile_append_dropWhile (p := (digitSet.contains ·)) (l := l.reverse)
    have hy2 : y ∈ l.reverse := List.mem_reverse.2 hy
    rw [← e, List.mem_append] at hy2
    rcases hy2 with hy2 | hy2
    · have := List.all_takeWhile (p := (digitSet.contains ·)) (l := l.reverse)
      exact List.all_eq_true.1 this y hy2
    · exact h1 y (by unfold Lib.trimRightS; exact List.mem_reverse.2 hy2)
  have := h2 x hx
  rw [digitSet_has] at this
  exact hb this
theorem below_bytesWorld (w : World) (e : TypeId) (s : ByteArray) : Below w.heap.size w (Lib.bytesWorld w e s) := ⟨rfl, rfl, rfl, by rw [Lib.bytesWorld_size]; omega, fun j hj => Lib.bytesWorld_at_old w e s j hj⟩
theorem trim_digits (s : ByteArray) (w : World) (hs : s.size ≤ 9223372036854775807) :
    Calls Tryd.prog 40 #[.string s, .string ⟨#[48, 49, 50, 51, 52, 53, 54, 55, 56, 57]⟩] w fun e w' => e = .returned (.string ⟨(Lib.trimS s.data.toList digitSet).toArray⟩) ∧ Below w.heap.size w w' :=
  Any.strings_Trim_laid Tryd.l160 (by kernel_rfl) s ⟨#[48, 49, 50, 51, 52, 53, 54, 55, 56, 57]⟩ w hs (by decide) (ascii_of_all (by decide))
end Go.Proofs.YtkgkgdgbkkhblaaDoor
namespace Go.Proofs.YtkgkgdgbkkhblaaDoor
open Go.RowKit Go.Shelf

/-- the places from behind, as far as j times nine, are n's digits; those ahead are 0. -/
def Nt.tail (n m j i : Nat) : Nat := if m ≤ i + 9 * j then 48 + n / 10 ^ (m - 1 - i) % 10 else 0
end Go.Proofs.YtkgkgdgbkkhblaaDoor
namespace Go.Proofs.YtkgkgdgbkkhblaaDoor
open Go.RowKit Go.Shelf

end Go.Proofs.YtkgkgdgbkkhblaaDoor
namespace Go.Proofs.YtkgkgdgbkkhblaaDoor
open Go.RowKit Go.Shelf

/-- p divides n just k times. -/
def Nt.IsVl (p n k : Nat) : Prop := p ^ k ∣ n ∧ ¬ p ^ (k + 1) ∣ n
theorem Nt.IsVl.le {p n k l : Nat} (h : Nt.IsVl p n k) (h' : Nt.IsVl p n l) : k ≤ l := by
  rcases Nat.lt_or_ge l k with hlt | hge
  · exact absurd (Nat.dvd_trans (Nat.pow_dvd_pow p hlt) h.1) h'.2
  · exact hge
end Go.Proofs.YtkgkgdgbkkhblaaDoor
namespace Go.Proofs.YtkgkgdgbkkhblaaDoor
open Go.RowKit Go.Shelf

end Go.Proofs.YtkgkgdgbkkhblaaDoor
namespace Go.Proofs.YtkgkgdgbkkhblaaDoor
open Go.RowKit Go.Shelf

def DigRel10 (w : World) (n : Nat) (a s i : Value) (wr : World) : Prop := ∃ k : Nat, i = .int .i64 (k : Int) ∧ a = .string (Nt.E (n / 10 ^ k)) ∧ s = .string (Nt.S (Nt.dcs n k)) ∧ (k = 0 ∨ k = 1 ∨ 10 ^ (k - 1) ≤ n) ∧ Below w.heap.size w wr
theorem digit_text (d : Nat) (h : d < 10) : (⟨#[48, 49, 50, 51, 52, 53, 54, 55, 56, 57]⟩ : ByteArray).extract d (d + 1) = Nt.S [48 + d] := by
  have : ∀ d : Fin 10, (⟨#[48, 49, 50, 51, 52, 53, 54, 55, 56, 57]⟩ : ByteArray).extract d.val (d.val + 1) = Nt.S [48 + d.val] := by decide
  exact this ⟨d, h⟩
theorem Nt.lt_ten_few {n k K : Nat} (h : n < 10 ^ K) (hk : 10 ^ k ≤ n) : k < K := (Nat.pow_lt_pow_iff_right (a := 10) (by omega)).1 (Nat.lt_of_le_of_lt hk h)
set_option maxRecDepth 100000 in
set_option maxHeartbeats 2000000 in
theorem refText_of (a : ByteArray) (w : World) (ha : a.size ≤ 2000) :
    Calls Tryd.prog 44 #[.string a] w fun e w' => e = .returned (.string (Nt.D (Nt.V a))) ∧ Below w.heap.size w w' := by
  have HT := Lib.hid (fun w => refTrim_any a w)
  have hes := Nat.le_trans (Nt.E_size_V a) ha
  obtain ⟨n, hn⟩ : ∃ n, n = Nt.V a := ⟨_, rfl⟩
  rw [← hn] at HT hes ⊢
  obtain ⟨k0, hk0⟩ : ∃ k, k = 1000 := ⟨_, rfl⟩
  obtain ⟨K, hK⟩ : ∃ K, K = 5 * k0 := ⟨_, rfl⟩
  have h10 : n < 10 ^ K := by rw [hK]; exact Nt.lt_ten hes (by omega)
  have hK5 : K ≤ 5000 := by omega
  have H10 := Lib.hid h10
  obtain ⟨R, hR⟩ : ∃ R, R = Nt.D n := ⟨_, rfl⟩
  rw [← hR]
  have HR := Lib.hid hR
  clear h10 hn hK hR hk0
  go_enter Tryd.func44, Tryd.ntmps44
  go_wp2_with (go_at_call 60; refine (HT.out _).mono ?_; rintro e w1 ⟨rfl, rfl⟩)
  go_loopw [0, 3, 4] (DigRel10 w n) (fun _ _ i _ => 5000 - (intOf i).toNat)
  case atStart => exact ⟨0, rfl, by rw [Nat.pow_zero, Nat.div_one], rfl, Or.inl rfl, Below.refl _ _⟩
  case round =>
    obtain ⟨k, rfl, rfl, rfl, hk, hW⟩ := hrel
    by_cases hgo : k = 0 ∨ n / 10 ^ k ≠ 0
    · have hk5 : k < 5000 := by
        rcases hgo with h | h
        · omega
        · have hp : 0 < 10 ^ k := Nat.pow_pos (by omega)
          have : 10 ^ k ≤ n := by
            rcases Nat.lt_or_ge n (10 ^ k) with h2 | h2
            · exact absurd (Nat.div_eq_of_lt h2) h
            · exact h2
          exact Nat.lt_of_lt_of_le (Nt.lt_ten_few H10.out this) hK5
      have hk2 : Hid (k + 1 = 0 ∨ k + 1 = 1 ∨ 10 ^ (k + 1 - 1) ≤ n) := by
        rcases hgo with h | h
        · exact Or.inr (Or.inl (by omega))
        · right; right
          rw [Nat.add_sub_cancel]
          rcases Nat.lt_or_ge n (10 ^ k) with h2 | h2
          · exact absurd (Nat.div_eq_of_lt h2) h
          · exact h2
      have hcond : (((k : Int) == 0) = true) ∨ ((((k : Int) == 0) = false) ∧ ¬ (Nt.E (n / 10 ^ k)).toList = [] ∧ (Nt.E (n / 10 ^ k)).toList.isEmpty = false) := by
        by_cases h0 : k = 0
        · left; simp [h0]
        · right
          have h1 : n / 10 ^ k ≠ 0 := by rcases hgo with h | h; exact absurd h h0; exact h
          exact ⟨by simp; omega, E_toList_ne _ h1, by rw [isEmpty_E]; simpa using h1⟩
      have hms := Nat.le_trans (Nt.E_size_le (Nat.div_le_self n (10 ^ k))) hes
      have hdm := fun W => refDivMod_any (Nt.E (n / 10 ^ k)) ⟨#[10]⟩ W (by omega) (by decide)
      have e1 : Nt.V ⟨#[10]⟩ = 10 := by decide
      rw [Nt.V_E, e1, divOut, if_neg (by decide)] at hdm
      have hq : n / 10 ^ k / 10 = n / 10 ^ (k + 1) := by rw [Nat.div_div_eq_div_mul, Nat.pow_succ]
      rw [hq] at hdm
      have hdc := Nt.dcs_one n k
      obtain ⟨d, hd⟩ : ∃ d, d = n / 10 ^ k % 10 := ⟨_, rfl⟩
      have hd10 : d < 10 := by omega
      rw [← hd] at hdm hdc
      have hsm := fun W => refSmall_any (Nt.E d) W
      rw [Nt.V_E, show Nt.sm d = d from by rw [Nt.sm, if_pos (by omega)], show Nt.smB d = true from by rw [Nt.smB]; simp; omega] at hsm
      have hdt := digit_text d hd10
      have happ : Hid (Nt.S [48 + d] ++ Nt.S (Nt.dcs n k) = Nt.S (Nt.dcs n (k + 1))) := by rw [Hid, Nt.S_append, hdc]; rfl
      have hss : (Nt.S [48 + d]).size = 1 := by rw [Nt.S_size]; rfl
      have hss2 : (Nt.S (Nt.dcs n k)).size = k := by rw [Nt.S_size, Nt.dcs_length]
      have HDM := Lib.hid hdm
      have HSM := Lib.hid hsm
      have HW := Lib.hid hW
      generalize Nt.S [48 + d] = D1 at *
      generalize Nt.S (Nt.dcs n k) = Sk at *
      have hD1 : D1.size ≤ 1 := by omega
      have hSk : Sk.size ≤ 5000 := by omega
      generalize Nt.E (n / 10 ^ k) = m at *
      clear hdm hsm hW hd hdc hq e1 hms hk hgo hss hss2
      rcases hcond with hc1 | ⟨hc1, hc2, hc3⟩
      all_goals
        go_wp2_with (first
          | (go_at_call 61; refine (HDM.out _).mono ?_; rintro e w1 ⟨rfl, hb1⟩)
          | (go_at_call 62; refine (HSM.out _).mono ?_; rintro e w2 ⟨rfl, rfl⟩))
        refine ⟨⟨k + 1, by go_num, rfl, by rw [← happ.out], hk2.out, ?_⟩, by simp [intOf]; omega⟩
        exact HW.out.trans (hb1.mono HW.out.size)
    · have hk0 : k ≠ 0 := fun h => hgo (Or.inl h)
      have hz : n / 10 ^ k = 0 := by
        rcases Nat.eq_zero_or_pos (n / 10 ^ k) with h | h
        · exact h
        · exact absurd (Or.inr (by omega)) hgo
      have hp : 0 < 10 ^ k := Nat.pow_pos (by omega)
      have hnk : n < 10 ^ k := by
        rcases Nat.lt_or_ge n (10 ^ k) with h | h
        · exact h
        · have := Nat.div_pos h hp; omega
      have hde : Nt.dcs n k = Nt.dec n := by
        obtain ⟨j, rfl⟩ : ∃ j, k = j + 1 := ⟨k - 1, by omega⟩
        exact Nt.dcs_dec hnk (by rw [Nat.add_sub_cancel] at hk; omega)
      have hSR : Nt.S (Nt.dcs n k) = R := by rw [hde, HR.out]; rfl
      have hze : (Nt.E (n / 10 ^ k)).toList = [] := by rw [hz, ByteArray.toList_eq]; rfl
      have hc1 : ((k : Int) == 0) = false := by simp; omega
      generalize Nt.S (Nt.dcs n k) = Sk at *
      generalize Nt.E (n / 10 ^ k) = m at *
      subst hSR
      clear hk hgo hz hp hnk hde
      go_wp2
      all_goals first
        | (go_ret; exact ⟨rfl, hW⟩)
        | (exfalso; omega)

end Go.Proofs.YtkgkgdgbkkhblaaDoor
