/-
  PLAIN MATHEMATICS OF NATURALS AS TEXTS OF BYTES: val (the number of a list of bytes, the highest first), enc (its shortest list), trim. No program is named here.
  PLAIN MATHEMATICS, FURTHER: words of 32 bits; digits laid one by one.
  PLAIN MATHEMATICS OF PRODUCTS: a digit that is set; words out of bytes; a step of a product.
  PLAIN MATHEMATICS OF PRODUCTS, DIGIT BY DIGIT, IN ANY BASE.
  THE WALKS OF TRIMMING: bytes 0 ahead are taken off, in the program and in the document's answer.
  A REGION THAT DRAWS ITS ORDER, IN A ROUND OF A RANGE OVER A FUNCTION: reads and quiet calls ahead of a tail that is in order.
  THE ITERATOR OVER A TEXT'S DIGITS FROM BEHIND: its contract, for every loop body.
  MEMORY THAT A CALL MAKES: blocks that are known whole, of numbers of one kind; a text made of bytes.
  SMALL NUMBERS: a text below 2^64 as a number, and back.
  THE DOCUMENT'S ANSWERS FOR SMALL NUMBERS: Small, Byte, Of, Bits; the program's Of and Bits.
  WORDS OF 32 BITS AS A TEXT; a small number as a text.
  THE DOCUMENT'S ANSWERS FOR SUMS AND DIFFERENCES: at, turned, Add, Cmp, Sub.
  NUMBERS HELD AGAINST EACH OTHER: in the program, and in the document's answer.
  THE DOCUMENT'S ANSWER FOR DIFFERENCES.
  A RANGE OVER A TEXT'S DIGITS FROM BEHIND, FOR ITS CALLERS: what is owed is what holds between two rounds, and one round.
  A TEXT's DIGITS, FOUR BY FOUR.
  SUMS IN THE PROGRAM.
  DIFFERENCES IN THE PROGRAM.
-/
import Derived.Test.YtkgkgdgbkkhblaaDoorRows
import Derived.WalkKit
import Derived.WalkSpells
import Derived.WalkLawsBesides
import Derived.BigQuiet
import Derived.Deep.QuietTactic
import Derived.Lib.Hide
import Derived.RangeFuncNested
import Derived.StillTailTactics
import Derived.Shelf.Abstract
import Derived.OwnWalkIn
import Derived.TacticsInMore
import Derived.RangeFuncBound
import Derived.RangeFuncCalls
import Derived.RangeFuncLeaves
import Derived.RangeFuncBox
import Derived.Shelf.RegionOpen
import Derived.LoopNIn
import Derived.LoopIn
import Derived.Below
import Derived.Laws.OwnMore
import Derived.Deep.Draws
import Derived.Deep.OwnRows
import Derived.Laws.Rows
import Derived.Laws.BytesArg
import Derived.Maps.AppendAt
import Derived.Deep.AppendLies
import Derived.IntWalk
import Derived.Deep.RegionWith
import Derived.Lib.Small
import Derived.Lib.BitFns


namespace Go.Proofs.YtkgkgdgbkkhblaaDoor.Nt

def val : List UInt8 → Nat := List.foldl (fun n b => n * 256 + b.toNat) 0
def encF : Nat → Nat → List UInt8
  | 0, _ => []
  | f + 1, n => if n = 0 then [] else encF f (n / 256) ++ [UInt8.ofNat n]
def enc (n : Nat) : List UInt8 := encF n n
def trim : List UInt8 → List UInt8
  | [] => []
  | b :: l => if b = 0 then trim l else b :: l
def V (s : ByteArray) : Nat := val s.data.toList
def E (n : Nat) : ByteArray := ⟨(enc n).toArray⟩

theorem val_foldl (l : List UInt8) (a : Nat) : l.foldl (fun n b => n * 256 + b.toNat) a = a * 256 ^ l.length + val l := by
  induction l generalizing a with
  | nil => simp [val]
  | cons b l ih =>
    have h1 := ih (a * 256 + b.toNat)
    have h2 := ih (0 * 256 + b.toNat)
    simp only [List.foldl_cons, val, List.length_cons] at *
    rw [h1, h2, Nat.pow_succ]
    simp only [Nat.add_mul, Nat.zero_mul, Nat.zero_add, Nat.mul_assoc, Nat.mul_comm 256]
    omega
theorem val_nil : val [] = 0 := rfl
theorem val_cons (b : UInt8) (l : List UInt8) : val (b :: l) = b.toNat * 256 ^ l.length + val l := by
  have := val_foldl l (0 * 256 + b.toNat)
  simpa [val] using this
theorem val_append (l k : List UInt8) : val (l ++ k) = val l * 256 ^ k.length + val k := by
  have := val_foldl k (val l)
  rw [← this]; simp [val, List.foldl_append]
theorem val_snoc (l : List UInt8) (b : UInt8) : val (l ++ [b]) = val l * 256 + b.toNat := by
  rw [val_append]; simp [val]
theorem val_lt (l : List UInt8) : val l < 256 ^ l.length := by
  induction l with
  | nil => simp [val]
  | cons b l ih =>
    rw [val_cons, List.length_cons, Nat.pow_succ]
    have hb : b.toNat < 256 := b.toNat_lt
    have : b.toNat * 256 ^ l.length ≤ 255 * 256 ^ l.length := Nat.mul_le_mul_right _ (by omega)
    omega
theorem encF_eq (n : Nat) : ∀ f g : Nat, n ≤ f → n ≤ g → encF f n = encF g n := by
  induction n using Nat.strongRecOn with
  | ind n ih =>
    intro f g hf hg
    by_cases h0 : n = 0
    · subst h0
      cases f <;> cases g <;> simp [encF]
    · obtain ⟨f', rfl⟩ : ∃ f', f = f' + 1 := ⟨f - 1, by omega⟩
      obtain ⟨g', rfl⟩ : ∃ g', g = g' + 1 := ⟨g - 1, by omega⟩
      simp only [encF, if_neg h0]
      rw [ih (n / 256) (by omega) f' g' (by omega) (by omega)]
theorem enc_zero : enc 0 = [] := rfl
theorem enc_pos {n : Nat} (h : n ≠ 0) : enc n = enc (n / 256) ++ [UInt8.ofNat n] := by
  obtain ⟨m, rfl⟩ : ∃ m, n = m + 1 := ⟨n - 1, by omega⟩
  unfold enc
  rw [show encF (m + 1) (m + 1) = encF m ((m + 1) / 256) ++ [UInt8.ofNat (m + 1)] from by simp [encF]]
  rw [encF_eq ((m + 1) / 256) m ((m + 1) / 256) (by omega) (by omega)]
theorem val_enc (n : Nat) : val (enc n) = n := by
  induction n using Nat.strongRecOn with
  | ind n ih =>
    by_cases h0 : n = 0
    · subst h0; rfl
    · rw [enc_pos h0, val_snoc, ih (n / 256) (by omega)]
      have : (UInt8.ofNat n).toNat = n % 256 := by simp
      rw [this]; omega
theorem trim_snoc (l : List UInt8) (b : UInt8) : trim (l ++ [b]) = if trim l = [] then (if b = 0 then [] else [b]) else trim l ++ [b] := by
  induction l with
  | nil => simp [trim]
  | cons c l ih =>
    simp only [List.cons_append, trim]
    by_cases hc : c = 0
    · simp only [hc, if_true]; exact ih
    · simp [hc]
theorem trim_eq_nil_iff (l : List UInt8) : trim l = [] ↔ val l = 0 := by
  induction l with
  | nil => simp [trim, val]
  | cons c l ih =>
    rw [val_cons]
    simp only [trim]
    by_cases hc : c = 0
    · simp [hc, ih]
    · have h1 : c.toNat ≠ 0 := fun h => hc (UInt8.toNat_inj.1 (by simpa using h))
      have h2 : 0 < 256 ^ l.length := Nat.pow_pos (by omega)
      have h3 : 0 < c.toNat * 256 ^ l.length := Nat.mul_pos (by omega) h2
      simp [hc]; omega
theorem trim_rev (r : List UInt8) : trim r.reverse = enc (val r.reverse) := by
  induction r with
  | nil => rfl
  | cons b r ih =>
    rw [List.reverse_cons, trim_snoc, val_snoc]
    by_cases h0 : val r.reverse = 0
    · have ht := (trim_eq_nil_iff _).2 h0
      rw [if_pos ht, h0]
      by_cases hb : b = 0
      · subst hb; rfl
      · have h1 : b.toNat ≠ 0 := fun h => hb (UInt8.toNat_inj.1 (by simpa using h))
        rw [if_neg hb, enc_pos (by omega)]
        have hlt := b.toNat_lt
        rw [show (0 * 256 + b.toNat) / 256 = 0 from by omega, enc_zero, Nat.zero_mul, Nat.zero_add]
        simp
    · have ht : ¬ trim r.reverse = [] := fun h => h0 ((trim_eq_nil_iff _).1 h)
      rw [if_neg ht, enc_pos (by omega), ih]
      have hlt := b.toNat_lt
      rw [show (val r.reverse * 256 + b.toNat) / 256 = val r.reverse from by omega]
      congr 2
      apply UInt8.toNat_inj.1
      simp
theorem trim_eq (l : List UInt8) : trim l = enc (val l) := by
  have := trim_rev l.reverse
  simpa using this
theorem V_E (n : Nat) : V (E n) = n := val_enc n
theorem enc_length_le {n m : Nat} (h : n < 256 ^ m) : (enc n).length ≤ m := by
  induction m generalizing n with
  | zero => simp at h; subst h; simp [enc_zero]
  | succ m ih =>
    by_cases h0 : n = 0
    · subst h0; simp [enc_zero]
    · rw [enc_pos h0]
      rw [Nat.pow_succ] at h
      have := ih (n := n / 256) (by omega)
      simp; omega
theorem enc_lt (n : Nat) : n < 256 ^ (enc n).length := by
  have := val_lt (enc n)
  rwa [val_enc] at this
theorem enc_length_mono {n m : Nat} (h : n ≤ m) : (enc n).length ≤ (enc m).length := enc_length_le (Nat.lt_of_le_of_lt h (enc_lt m))
theorem E_size (n : Nat) : (E n).size = (enc n).length := rfl
theorem E_toList (n : Nat) : (E n).data.toList = enc n := by simp [E]
theorem V_lt (s : ByteArray) : V s < 256 ^ s.size := by
  exact val_lt s.data.toList
theorem E_size_V (s : ByteArray) : (E (V s)).size ≤ s.size := by
  rw [E_size]; exact enc_length_le (V_lt s)

/-! digits by place -/
def dig (n i : Nat) : Nat := n / 256 ^ i % 256
theorem dig_lt (n i : Nat) : dig n i < 256 := Nat.mod_lt _ (by omega)
/-- the m lowest digits as numbers, the highest first -/
def digs (n : Nat) : Nat → List Nat
  | 0 => []
  | m + 1 => dig n m :: digs n m
/-- the m lowest digits, the highest first -/
def be (n : Nat) : Nat → List UInt8
  | 0 => []
  | m + 1 => UInt8.ofNat (dig n m) :: be n m
theorem be_length (n m : Nat) : (be n m).length = m := by
  induction m with
  | zero => rfl
  | succ m ih => simp [be, ih]
theorem val_be (n m : Nat) : val (be n m) = n % 256 ^ m := by
  induction m with
  | zero => simp [be, val_nil, Nat.mod_one]
  | succ m ih =>
    rw [be, val_cons, ih, be_length]
    have h1 : (UInt8.ofNat (dig n m)).toNat = dig n m := by
      have := dig_lt n m
      simp; omega
    rw [h1, dig, Nat.pow_succ, Nat.mod_mul, Nat.mul_comm, Nat.add_comm]
theorem digs_be (n m : Nat) : (digs n m).map UInt8.ofNat = be n m := by
  induction m with
  | zero => rfl
  | succ m ih => simp [digs, be, ih]
theorem digs_length (n m : Nat) : (digs n m).length = m := by
  induction m with
  | zero => rfl
  | succ m ih => simp [digs, ih]
theorem V_digs (n m : Nat) : V ⟨((digs n m).map UInt8.ofNat).toArray⟩ = n % 256 ^ m := by
  rw [digs_be]; exact val_be n m
theorem V_digs_lt {n m : Nat} (h : n < 256 ^ m) : V ⟨((digs n m).map UInt8.ofNat).toArray⟩ = n := by
  rw [V_digs]; exact Nat.mod_eq_of_lt h
/-- zeros ahead, and one more digit in the last zero's place -/
theorem zeros_set (n k m d : Nat) (h : k < m) (hd : d = dig n k) : (List.replicate (m - k) 0 ++ digs n k).set (m - 1 - k) d = List.replicate (m - (k + 1)) 0 ++ digs n (k + 1) := by
  obtain ⟨j, rfl⟩ : ∃ j, m = k + 1 + j := ⟨m - (k + 1), by omega⟩
  have e1 : k + 1 + j - k = j + 1 := by omega
  have e2 : k + 1 + j - 1 - k = j := by omega
  have e3 : k + 1 + j - (k + 1) = j := by omega
  rw [e1, e2, e3, List.replicate_succ', List.append_assoc, List.set_append_right _ _ (by simp)]
  simp [digs, hd]
theorem val_dig (l : List UInt8) (i : Nat) (h : i < l.length) : (l[l.length - 1 - i]'(by omega)).toNat = dig (val l) i := by
  induction l generalizing i with
  | nil => simp at h
  | cons b l ih =>
    rw [val_cons]
    by_cases hi : i = l.length
    · subst hi
      have : (b :: l).length - 1 - l.length = 0 := by simp
      simp only [this, List.getElem_cons_zero, dig]
      have h1 := val_lt l
      rw [Nat.add_comm, Nat.add_mul_div_right _ _ (Nat.pow_pos (by omega)), Nat.div_eq_of_lt h1, Nat.zero_add]
      have := b.toNat_lt
      omega
    · simp only [List.length_cons] at h ⊢
      have h2 : l.length + 1 - 1 - i = (l.length - 1 - i) + 1 := by omega
      simp only [h2, List.getElem_cons_succ]
      rw [ih i (by omega)]
      unfold dig
      obtain ⟨d, hd⟩ : ∃ d, l.length = i + 1 + d := ⟨l.length - i - 1, by omega⟩
      rw [hd, Nat.pow_add, Nat.pow_succ]
      rw [show b.toNat * (256 ^ i * 256 * 256 ^ d) = 256 ^ i * (256 * (b.toNat * 256 ^ d)) from by
        simp only [Nat.mul_assoc, Nat.mul_left_comm, Nat.mul_comm]]
      rw [Nat.mul_add_div (Nat.pow_pos (by omega)), Nat.mul_add_mod]
theorem dig_zero {n i : Nat} (h : n < 256 ^ i) : dig n i = 0 := by simp [dig, Nat.div_eq_of_lt h]
theorem dig_zero_le {n i m : Nat} (h : n < 256 ^ m) (hm : m ≤ i) : dig n i = 0 := dig_zero (Nat.lt_of_lt_of_le h (Nat.pow_le_pow_right (by omega) hm))
/-- a sum of the first places, and the next one -/
theorem mod_succ (n k : Nat) : n % 256 ^ (k + 1) = n % 256 ^ k + 256 ^ k * dig n k := by
  rw [Nat.pow_succ, Nat.mod_mul, dig]

/-! texts as arrays of bytes -/
theorem V_cons (s : ByteArray) (h : 0 < s.size) : V s = (s[0]'h).toNat * 256 ^ (s.size - 1) + V (s.extract 1 s.size) := by
  obtain ⟨⟨l⟩⟩ := s
  cases l with
  | nil => exact absurd h (by decide)
  | cons b l =>
    have e : (ByteArray.extract ⟨⟨b :: l⟩⟩ 1 (ByteArray.size ⟨⟨b :: l⟩⟩)).data.toList = l := by
      rw [ByteArray.data_extract]
      show (Array.extract (⟨b :: l⟩ : Array UInt8) 1 (l.length + 1)).toList = l
      rw [Array.toList_extract]
      simp [List.extract]
    unfold V
    rw [e]
    show val (b :: l) = b.toNat * 256 ^ (l.length + 1 - 1) + val l
    rw [val_cons]
    rfl
theorem V_tail (s : ByteArray) (h : 0 < s.size) (h0 : (s[0]'h).toNat = 0) : V (s.extract 1 s.size) = V s := by
  rw [V_cons s h, h0]; simp
theorem V_dig (s : ByteArray) (i : Nat) (h : i < s.size) : (s[s.size - 1 - i]'(by omega)).toNat = dig (V s) i := val_dig s.data.toList i h
theorem E_V_nil (s : ByteArray) (h : ¬ 0 < s.size) : E (V s) = s := by
  obtain ⟨⟨l⟩⟩ := s
  cases l with
  | nil => rfl
  | cons b l => exact absurd (show 0 < l.length + 1 by omega) h
theorem E_V_head (s : ByteArray) (h : 0 < s.size) (h0 : (s[0]'h).toNat ≠ 0) : E (V s) = s := by
  obtain ⟨⟨l⟩⟩ := s
  cases l with
  | nil => exact absurd h (by decide)
  | cons b l =>
    have hb : ¬ b = 0 := fun e => h0 (by subst e; rfl)
    unfold E V
    have := trim_eq (b :: l)
    rw [trim, if_neg hb] at this
    rw [← this]
/-- a number that is below 2^64, or 0 -/
def sm (n : Nat) : Nat := if n < 18446744073709551616 then n else 0
def smB (n : Nat) : Bool := decide (n < 18446744073709551616)
theorem pow8 : (256 : Nat) ^ 8 = 18446744073709551616 := by decide
theorem E_small {n : Nat} (h : (E n).size ≤ 8) : n < 18446744073709551616 := by
  have h1 := enc_lt n
  have h2 : 256 ^ (enc n).length ≤ 256 ^ 8 := Nat.pow_le_pow_right (by omega) h
  rw [pow8] at h2
  omega
theorem E_big {n : Nat} (h : ¬ (E n).size ≤ 8) : ¬ n < 18446744073709551616 := by
  intro hn
  rw [← pow8] at hn
  exact h (enc_length_le hn)
/-- the number of the first k digits -/
def top (s : ByteArray) (k : Nat) : Nat := V s / 256 ^ (s.size - k)
theorem top_step (s : ByteArray) (k : Nat) (h : k < s.size) : top s (k + 1) = top s k * 256 + (s[k]'h).toNat := by
  have h1 := V_dig s (s.size - 1 - k) (by omega)
  have e : s.size - 1 - (s.size - 1 - k) = k := by omega
  simp only [e] at h1
  unfold top
  rw [h1, dig, show s.size - k = (s.size - 1 - k) + 1 from by omega, show s.size - (k + 1) = s.size - 1 - k from by omega, Nat.pow_succ, ← Nat.div_div_eq_div_mul]
  omega
theorem top_zero (s : ByteArray) : top s 0 = 0 := Nat.div_eq_of_lt (V_lt s)
theorem top_all (s : ByteArray) : top s s.size = V s := by simp [top]
theorem top_lt (s : ByteArray) (k : Nat) (h : k ≤ s.size) : top s k < 256 ^ k := by
  unfold top
  rw [Nat.div_lt_iff_lt_mul (Nat.pow_pos (by omega)), ← Nat.pow_add, show k + (s.size - k) = s.size from by omega]
  exact V_lt s
/-- what is left above the k lowest digits -/
def sh (n k : Nat) : Nat := n / 256 ^ k
theorem sh_zero (n : Nat) : sh n 0 = n := by simp [sh]
theorem sh_succ (n k : Nat) : sh n (k + 1) = sh n k / 256 := by unfold sh; rw [Nat.pow_succ, ← Nat.div_div_eq_div_mul]
theorem sh_le (n k : Nat) : sh n k ≤ n := Nat.div_le_self _ _
theorem sh_dig (n k : Nat) : sh n k % 256 = dig n k := rfl
theorem E_nil (n : Nat) (h : ¬ 0 < (E n).size) : n = 0 := by
  have h1 := V_lt (E n)
  rw [V_E, show (E n).size = 0 from by omega] at h1
  simpa using h1
end Go.Proofs.YtkgkgdgbkkhblaaDoor.Nt
namespace Go.Proofs.YtkgkgdgbkkhblaaDoor.Nt
/-! words of 32 bits, the lowest first -/
/-! digits, the lowest first -/
def lb : List Nat → Nat
  | [] => 0
  | x :: l => x + 256 * lb l
theorem lb_append (a b : List Nat) : lb (a ++ b) = lb a + 256 ^ a.length * lb b := by
  induction a with
  | nil => simp [lb]
  | cons x a ih => simp only [List.cons_append, lb, ih, List.length_cons, Nat.pow_succ, Nat.mul_add, Nat.mul_assoc, Nat.mul_left_comm 256]; omega
theorem lb_lt (l : List Nat) (h : ∀ x ∈ l, x < 256) : lb l < 256 ^ l.length := by
  induction l with
  | nil => simp [lb]
  | cons x l ih =>
    have h1 := h x (by simp)
    have h2 := ih (fun y hy => h y (by simp [hy]))
    rw [List.length_cons, Nat.pow_succ, lb]
    omega
theorem lb_dig (l : List Nat) (h : ∀ x ∈ l, x < 256) (p : Nat) (hp : p < l.length) : dig (lb l) p = l[p] := by
  induction l generalizing p with
  | nil => simp at hp
  | cons x l ih =>
    have h1 := h x (by simp)
    cases p with
    | zero => simp [dig, lb]; omega
    | succ p =>
      simp only [List.getElem_cons_succ, List.length_cons] at hp ⊢
      rw [← ih (fun y hy => h y (by simp [hy])) p (by omega)]
      simp only [dig, lb]
      rw [Nat.pow_succ, Nat.mul_comm (256 ^ p), ← Nat.div_div_eq_div_mul, show (x + 256 * lb l) / 256 = lb l from by omega]
/-- the k lowest digits, the lowest first -/
def low (n k : Nat) : List Nat := (List.range k).map (dig n)
theorem low_succ (n k : Nat) : low n (k + 1) = low n k ++ [dig n k] := by simp [low, List.range_succ]
theorem low_length (n k : Nat) : (low n k).length = k := by simp [low]
theorem low_lt (n k : Nat) : ∀ x ∈ low n k, x < 256 := by
  intro x hx
  simp only [low, List.mem_map] at hx
  obtain ⟨i, _, rfl⟩ := hx
  exact dig_lt _ _
theorem lb_low (n k : Nat) : lb (low n k) = n % 256 ^ k := by
  induction k with
  | zero => simp [low, lb, Nat.mod_one]
  | succ k ih => rw [low_succ, lb_append, ih, low_length, mod_succ]; simp [lb]
/-- what a sum carries over its k lowest digits -/
def cy (a b k : Nat) : Nat := (a % 256 ^ k + b % 256 ^ k) / 256 ^ k
theorem cy_step (a b k : Nat) : dig a k + dig b k + cy a b k = dig (a + b) k + 256 * cy a b (k + 1) := by
  have hp : 0 < 256 ^ k := Nat.pow_pos (by omega)
  have ha := mod_succ a k
  have hb := mod_succ b k
  have hA := dig_lt a k
  have hB := dig_lt b k
  unfold cy
  -- everything over 256 ^ k
  have e1 : (a % 256 ^ (k + 1) + b % 256 ^ (k + 1)) / 256 ^ (k + 1) = ((a % 256 ^ k + b % 256 ^ k) / 256 ^ k + (dig a k + dig b k)) / 256 := by
    rw [ha, hb, Nat.pow_succ, ← Nat.div_div_eq_div_mul]
    rw [show a % 256 ^ k + 256 ^ k * dig a k + (b % 256 ^ k + 256 ^ k * dig b k) = a % 256 ^ k + b % 256 ^ k + 256 ^ k * (dig a k + dig b k) from by rw [Nat.mul_add]; omega]
    rw [Nat.add_mul_div_left _ _ hp]
  have e2 : dig (a + b) k = ((a % 256 ^ k + b % 256 ^ k) / 256 ^ k + (dig a k + dig b k)) % 256 := by
    unfold dig
    have h1 : a = a % 256 ^ k + 256 ^ k * (a / 256 ^ k) := (Nat.mod_add_div a (256 ^ k)).symm
    have h2 : b = b % 256 ^ k + 256 ^ k * (b / 256 ^ k) := (Nat.mod_add_div b (256 ^ k)).symm
    have h3 : (a + b) / 256 ^ k = (a % 256 ^ k + b % 256 ^ k) / 256 ^ k + (a / 256 ^ k + b / 256 ^ k) := by
      conv => lhs; rw [h1, h2]
      rw [show a % 256 ^ k + 256 ^ k * (a / 256 ^ k) + (b % 256 ^ k + 256 ^ k * (b / 256 ^ k)) = a % 256 ^ k + b % 256 ^ k + 256 ^ k * (a / 256 ^ k + b / 256 ^ k) from by rw [Nat.mul_add]; omega]
      rw [Nat.add_mul_div_left _ _ hp]
    rw [h3]
    omega
  rw [e1, e2]
  omega
/-- what a difference owes above its k lowest digits -/
def bw (a b k : Nat) : Nat := if a % 256 ^ k < b % 256 ^ k then 1 else 0
theorem bw_zero (a b : Nat) : bw a b 0 = 0 := by simp [bw, Nat.mod_one]
theorem bw_le (a b k : Nat) : bw a b k ≤ 1 := by unfold bw; split <;> omega
theorem bw_step {a b : Nat} (h : b ≤ a) (k : Nat) : dig a k + 256 * bw a b (k + 1) = dig (a - b) k + dig b k + bw a b k := by
  obtain ⟨c, rfl⟩ : ∃ c, a = b + c := ⟨a - b, by omega⟩
  rw [Nat.add_sub_cancel_left]
  have hs := cy_step b c k
  have hk : ∀ j, bw (b + c) b j = cy b c j := fun j => by
    have hp : 0 < 256 ^ j := Nat.pow_pos (by omega)
    have h1 := Nat.mod_lt b hp
    have h2 := Nat.mod_lt c hp
    unfold bw cy
    rw [Nat.add_mod]
    by_cases hlt : b % 256 ^ j + c % 256 ^ j < 256 ^ j
    · rw [Nat.mod_eq_of_lt hlt, if_neg (by omega), Nat.div_eq_of_lt hlt]
    · have e : (b % 256 ^ j + c % 256 ^ j) % 256 ^ j = b % 256 ^ j + c % 256 ^ j - 256 ^ j := by
        rw [Nat.mod_eq_sub_mod (by omega), Nat.mod_eq_of_lt (by omega)]
      have e2 : (b % 256 ^ j + c % 256 ^ j) / 256 ^ j = 1 := by
        rw [Nat.div_eq_iff hp]; omega
      rw [e, e2, if_pos (by omega)]
  rw [hk, hk]
  have := dig_lt c k
  omega
end Go.Proofs.YtkgkgdgbkkhblaaDoor.Nt
namespace Go.Proofs.YtkgkgdgbkkhblaaDoor.Nt

/-- one place of a product, base b: what is set, and what is carried on. -/
theorem place_step (L L' p t c P d e b : Nat) (h : L' + p * P = L + t % b * P) (ht : t = d * e + p + c) : L' + t / b * (P * b) = L + (d * e + c) * P := by
  have h1 : t % b + b * (t / b) = t := Nat.mod_add_div t b
  have h2 : t / b * (P * b) = b * (t / b) * P := by rw [Nat.mul_comm P b, ← Nat.mul_assoc, Nat.mul_comm (t / b) b]
  have h3 : t % b * P + b * (t / b) * P = t * P := by rw [← Nat.add_mul, h1]
  have h4 : t * P = d * e * P + p * P + c * P := by rw [ht, Nat.add_mul, Nat.add_mul]
  rw [h2, Nat.add_mul]
  omega
/-! words of 32 bits out of bytes -/
def wd (n j : Nat) : Nat := n / 4294967296 ^ j % 4294967296
def wds (n m : Nat) : List Nat := (List.range m).map (wd n)
end Go.Proofs.YtkgkgdgbkkhblaaDoor.Nt
namespace Go.Proofs.YtkgkgdgbkkhblaaDoor.Nt

/-- digits of base b, the lowest first. -/
def le (b : Nat) : List Nat → Nat
  | [] => 0
  | x :: l => x + b * le b l
theorem le_lb (l : List Nat) : le 256 l = lb l := by
  induction l with
  | nil => rfl
  | cons x l ih => simp only [le, lb, ih]
theorem le_append (b : Nat) (x y : List Nat) : le b (x ++ y) = le b x + b ^ x.length * le b y := by
  induction x with
  | nil => simp [le]
  | cons a x ih => simp only [List.cons_append, le, ih, List.length_cons, Nat.pow_succ, Nat.mul_add, Nat.mul_assoc, Nat.mul_left_comm b]; omega
theorem le_zeros (b n : Nat) : le b (List.replicate n 0) = 0 := by
  induction n with
  | zero => rfl
  | succ n ih => simp [List.replicate_succ, le, ih]
theorem le_set (b : Nat) (l : List Nat) (p v : Nat) (h : p < l.length) : le b (l.set p v) + l[p] * b ^ p = le b l + v * b ^ p := by
  induction l generalizing p with
  | nil => simp at h
  | cons x l ih =>
    cases p with
    | zero => simp [le]; omega
    | succ p =>
      have hp : p < l.length := by simpa using h
      have := ih p hp
      simp only [List.set_cons_succ, le, List.getElem_cons_succ, Nat.pow_succ]
      have e1 : l[p]'hp * (b ^ p * b) = b * (l[p]'hp * b ^ p) := by rw [← Nat.mul_assoc, Nat.mul_comm]
      have e2 : v * (b ^ p * b) = b * (v * b ^ p) := by rw [← Nat.mul_assoc, Nat.mul_comm]
      have e3 : b * (le b (l.set p v)) + b * (l[p]'hp * b ^ p) = b * le b l + b * (v * b ^ p) := by rw [← Nat.mul_add, this, Nat.mul_add]
      rw [e1, e2]
      omega
theorem le_take_succ (b : Nat) (l : List Nat) (k : Nat) (h : k < l.length) : le b (l.take (k + 1)) = le b (l.take k) + l[k] * b ^ k := by
  rw [List.take_succ_eq_append_getElem h, le_append]
  simp only [le, List.length_take, Nat.min_eq_left (Nat.le_of_lt h), Nat.mul_zero, Nat.add_zero]
  rw [Nat.mul_comm]

/-- a product behind i rounds. -/
structure MulOut (b : Nat) (xs ys : List Nat) (i : Nat) (ls : List Nat) : Prop where
  len : ls.length = xs.length + ys.length
  lt : ∀ x ∈ ls, x < b
  zero : ∀ p (h : p < ls.length), i + ys.length ≤ p → ls[p] = 0
  val : le b ls = le b (xs.take i) * le b ys
/-- a product behind i rounds, and j places of one more, whose digit is d. -/
structure MulIn (b : Nat) (xs ys : List Nat) (i d j c : Nat) (ls : List Nat) : Prop where
  len : ls.length = xs.length + ys.length
  lt : ∀ x ∈ ls, x < b
  zero : ∀ p (h : p < ls.length), i + ys.length ≤ p → ls[p] = 0
  cb : c < b
  val : le b ls + c * b ^ (i + j) = le b (xs.take i) * le b ys + d * le b (ys.take j) * b ^ i
theorem mul_start (b : Nat) (hb : 0 < b) (xs ys : List Nat) : MulOut b xs ys 0 (List.replicate (xs.length + ys.length) 0) :=
  ⟨by simp, fun x hx => by simp at hx; omega, fun p h _ => by simp, by rw [le_zeros]; simp [le]⟩
theorem mul_in {b : Nat} (hb : 0 < b) {xs ys ls : List Nat} {i : Nat} (d : Nat) (h : MulOut b xs ys i ls) : MulIn b xs ys i d 0 0 ls :=
  ⟨h.len, h.lt, h.zero, hb, by simp [le, h.val]⟩
theorem mul_step {b : Nat} {xs ys ls : List Nat} {i d j c t : Nat} (h : MulIn b xs ys i d j c ls) (hd : d < b) (hi : i < xs.length) (hj : j < ys.length) (hy : ys[j] < b)
    (ht : t = d * ys[j] + ls[i + j]'(by rw [h.len]; omega) + c) : MulIn b xs ys i d (j + 1) (t / b) (ls.set (i + j) (t % b)) := by
  have hb : 0 < b := by omega
  have hp : i + j < ls.length := by rw [h.len]; omega
  have hl := h.lt _ (List.getElem_mem hp)
  have hc := h.cb
  refine ⟨by simp [h.len], fun x hx => ?_, fun p hp' hge => ?_, ?_, ?_⟩
  · rcases List.mem_or_eq_of_mem_set hx with hx | rfl
    · exact h.lt x hx
    · exact Nat.mod_lt _ hb
  · rw [List.getElem_set_ne (by omega)]
    exact h.zero p (by simpa using hp') hge
  · rw [Nat.div_lt_iff_lt_mul hb, ht]
    have h1 : d * ys[j] ≤ (b - 1) * (b - 1) := Nat.mul_le_mul (by omega) (by omega)
    obtain ⟨m, rfl⟩ : ∃ m, b = m + 1 := ⟨b - 1, by omega⟩
    simp only [Nat.add_sub_cancel] at h1
    have h2 : (m + 1) * (m + 1) = m * m + m + m + 1 := by rw [Nat.add_mul, Nat.mul_add]; omega
    omega
  · have h1 := le_set b ls (i + j) (t % b) hp
    have h2 := place_step (le b ls) (le b (ls.set (i + j) (t % b))) (ls[i + j]'hp) t c (b ^ (i + j)) d ys[j] b h1 ht
    rw [show i + (j + 1) = (i + j) + 1 from rfl, Nat.pow_succ, h2, le_take_succ b ys j hj]
    have h3 := h.val
    have h4 : (d * ys[j] + c) * b ^ (i + j) = d * ys[j] * b ^ (i + j) + c * b ^ (i + j) := Nat.add_mul _ _ _
    have h5 : d * (le b (ys.take j) + ys[j] * b ^ j) * b ^ i = d * le b (ys.take j) * b ^ i + d * ys[j] * b ^ (i + j) := by
      rw [Nat.mul_add, Nat.add_mul, Nat.pow_add]
      congr 1
      rw [Nat.mul_comm (b ^ i), ← Nat.mul_assoc, ← Nat.mul_assoc]
    omega
theorem mul_sum {b : Nat} {d e l c : Nat} (hd : d < b) (he : e < b) (hl : l < b) (hc : c < b) : d * e + l + c < b * b := by
  have h1 : d * e ≤ (b - 1) * (b - 1) := Nat.mul_le_mul (by omega) (by omega)
  obtain ⟨m, rfl⟩ : ∃ m, b = m + 1 := ⟨b - 1, by omega⟩
  simp only [Nat.add_sub_cancel] at h1
  have h2 : (m + 1) * (m + 1) = m * m + m + m + 1 := by rw [Nat.add_mul, Nat.mul_add]; omega
  omega
theorem mul_out {b : Nat} {xs ys ls : List Nat} {i d c : Nat} (h : MulIn b xs ys i d ys.length c ls) (hi : i < xs.length) (hd : d = xs[i]) : MulOut b xs ys (i + 1) (ls.set (i + ys.length) c) := by
  have hp : i + ys.length < ls.length := by rw [h.len]; omega
  have h0 := h.zero _ hp (Nat.le_refl _)
  refine ⟨by simp [h.len], fun x hx => ?_, fun p hp' hge => ?_, ?_⟩
  · rcases List.mem_or_eq_of_mem_set hx with hx | rfl
    · exact h.lt x hx
    · exact h.cb
  · rw [List.getElem_set_ne (by omega)]
    exact h.zero p (by simpa using hp') (by omega)
  · have h1 := le_set b ls (i + ys.length) c hp
    rw [h0, Nat.zero_mul, Nat.add_zero] at h1
    rw [h1, h.val, List.take_length, le_take_succ b xs i hi, Nat.add_mul, ← hd]
    congr 1
    rw [Nat.mul_assoc, Nat.mul_assoc, Nat.mul_comm (b ^ i)]
theorem mul_end {b : Nat} {xs ys ls : List Nat} (h : MulOut b xs ys xs.length ls) : le b ls = le b xs * le b ys := by
  rw [h.val, List.take_length]
end Go.Proofs.YtkgkgdgbkkhblaaDoor.Nt
namespace Go.Proofs.YtkgkgdgbkkhblaaDoor
set_option linter.unusedSimpArgs false
set_option linter.unusedVariables false
open Go.RowKit

theorem ret_str {a b : ByteArray} (h : a = b) : Ending.returned (.string a) = .returned (.string b) := by rw [h]
theorem ret_int {k : IntKind} {a b : Int} (h : a = b) : Ending.returned (.int k a) = .returned (.int k b) := by rw [h]
theorem ret_bool {a b : Bool} (h : a = b) : Ending.returned (.bool a) = .returned (.bool b) := by rw [h]

set_option maxHeartbeats 400000 in
theorem refTrim_any (s : ByteArray) (w : World) :
    Calls Tryd.prog 60 #[.string s] w fun e w' => e = .returned (.string (Nt.E (Nt.V s))) ∧ w = w' := by
  go_enter Tryd.func60, Tryd.ntmps60
  go_wp2
  go_loop [0] (fun v => ∃ t : ByteArray, v = .string t ∧ t.size ≤ s.size ∧ Nt.V t = Nt.V s) (fun v => match v with | .string t => t.size | _ => 0)
  case atStart => exact ⟨s, rfl, Nat.le_refl _, rfl⟩
  case round =>
    obtain ⟨t, rfl, ht, hv⟩ := hrel
    have hV := Lib.hid hv
    clear hv
    by_cases h : 0 < t.size
    · by_cases h0 : (t[0]'h).toNat = 0
      · have hb : (((t[0]'h).toNat : Int) == 0) = true := by simp [h0]
        have hx := Lib.hid (Nt.V_tail t h h0)
        clear h0
        go_wp2
        refine ⟨⟨_, rfl, ?_, ?_⟩, ?_⟩
        · simp; omega
        · rw [hx.out, hV.out]
        · simp; omega
      · have hb : (((t[0]'h).toNat : Int) == 0) = false := by simp [h0]
        have hx := Lib.hid (Nt.E_V_head t h h0)
        clear h0
        go_wp2
        go_ret
        exact ⟨ret_str (by rw [← hV.out, hx.out]), rfl⟩
    · have hx := Lib.hid (Nt.E_V_nil t h)
      go_wp2
      go_ret
      exact ⟨ret_str (by rw [← hV.out, hx.out]), rfl⟩

end Go.Proofs.YtkgkgdgbkkhblaaDoor
namespace Go.Proofs.YtkgkgdgbkkhblaaDoor
open Go.RowKit

section
variable {P : Program} {md : Region.Mode} {ops : Array Oper} {Q : Exit → Act → World → Prop} {lr m : Nat}

end
end Go.Proofs.YtkgkgdgbkkhblaaDoor
namespace Go.Proofs.YtkgkgdgbkkhblaaDoor
open Go.RowKit Go.Shelf
attribute [local go_sem] Oper.semAt_some

/-- what a round keeps: the box that holds the text. -/
def KeepsBox (Bs : Nat) (A B : World) : Prop := ∀ v, A.cell? ⟨Bs, 0, none⟩ = some v → B.cell? ⟨Bs, 0, none⟩ = some v
theorem KeepsBox.refl (Bs : Nat) (A : World) : KeepsBox Bs A A := fun _ h => h
theorem KeepsBox.trans {Bs : Nat} {A B C : World} (h : KeepsBox Bs A B) (k : KeepsBox Bs B C) : KeepsBox Bs A C := fun v hv => k v (h v hv)
theorem KeepsBox.drew {Bs : Nat} {A B : World} (h : KeepsBox Bs A B) : KeepsBox Bs A B.drew := h
theorem KeepsBox.setCell {Bs : Nat} {A B : World} (h : KeepsBox Bs A B) {p : Addr} (hp : p.block ≠ Bs) (u : Value) : KeepsBox Bs A (B.setCell p u) :=
  fun v hv => (World.cell?_setCell_other B p ⟨Bs, 0, none⟩ u (fun e => hp (by rw [e]))).trans (h v hv)
end Go.Proofs.YtkgkgdgbkkhblaaDoor
namespace Go.Proofs.YtkgkgdgbkkhblaaDoor
open Go.RowKit

/-- block g holds just the cells cs, of element type t. -/
def Blk (w : World) (g : Nat) (t : TypeId) (cs : Array Value) : Prop := w.heap[g]? = some (.cells cs t (0, 0))
/-- numbers of one kind, as cells. -/
def kV (k : IntKind) (l : List Nat) : Array Value := (l.map fun n : Nat => Value.int k (n : Int)).toArray

section
variable {w w' : World} {g : Nat} {t : TypeId} {cs : Array Value}
theorem Blk.lt (h : Blk w g t cs) : g < w.heap.size := by
  rcases Nat.lt_or_ge g w.heap.size with hlt | hge
  · exact hlt
  · unfold Blk at h; rw [Array.getElem?_eq_none hge] at h; cases h
theorem Blk.cell (h : Blk w g t cs) (i : Nat) : w.cell? ⟨g, i, none⟩ = cs[i]? := cell_of_row w g i cs t (0, 0) h
theorem Blk.frozen (h : Blk w g t cs) (i : Nat) : w.frozen? ⟨g, i, none⟩ = false := by
  unfold Blk at h
  simp [World.frozen?, h]
theorem Blk.new (w : World) (t : TypeId) (cs : Array Value) : Blk (w.alloc (.cells cs t)) w.heap.size t cs := by
  show (w.heap.push _)[w.heap.size]? = _
  simp
theorem Blk.drew (h : Blk w g t cs) : Blk w.drew g t cs := h
theorem Blk.alloc (h : Blk w g t cs) (o : Obj) : Blk (w.alloc o) g t cs := (Below.heap_alloc w o g h.lt).trans h
theorem Blk.put (h : Blk w g t cs) (i : Nat) (u : Value) : Blk (w.setCell ⟨g, i, none⟩ u) g t (cs.setIfInBounds i u) := by
  unfold Blk at h ⊢
  simp [World.setCell, Array.getElem?_modify, h]
theorem Blk.far (h : Blk w g t cs) {p : Addr} (hp : g ≠ p.block) (u : Value) : Blk (w.setCell p u) g t cs := (Below.heap_setCell w p u g hp).trans h
theorem Blk.below {B : Nat} (h : Blk w g t cs) (hb : Below B w w') (hg : g < B) : Blk w' g t cs := (hb.block g hg).trans h
theorem Blk.grown {row : Option Nat} (h : Blk w g t cs) (hb : w.grownBy w' row) (hg : some g ≠ row) : Blk w' g t cs := (hb.block g h.lt hg).trans h
theorem Blk.turned (h : Blk w g t cs) {row : Option Nat} (hg : w.grownBy w' row) (hr : ∀ r, row = some r → ∃ o : Obj, w.heap[r]? = some o ∧ o.isCells = false) : Blk w' g t cs :=
  h.grown hg (fun e => by
    obtain ⟨o, ho, hc⟩ := hr g e.symm
    unfold Blk at h
    rw [h] at ho; cases ho; cases hc)
end

theorem kV_get (k : IntKind) (l : List Nat) (i : Nat) : (kV k l)[i]? = l[i]?.map fun n : Nat => Value.int k (n : Int) := by simp [kV]
theorem kV_get_lt (k : IntKind) (l : List Nat) (i : Nat) (h : i < l.length) : (kV k l)[i]? = some (.int k ((l[i]'h : Nat) : Int)) := by
  rw [kV_get, List.getElem?_eq_getElem h]; rfl
theorem kV_set (k : IntKind) (l : List Nat) (i n : Nat) : (kV k l).setIfInBounds i (.int k (n : Int)) = kV k (l.set i n) := by
  simp [kV, List.map_set]
theorem kV_zeros (k : IntKind) (n : Nat) : madeCells #[Value.int k 0] n = kV k (List.replicate n 0) := by
  apply Array.ext
  · simp [madeCells, kV]
  · intro i h1 h2
    simp [madeCells, kV, Nat.mod_one]

/-- a slice that has just been made, of zeros. -/
theorem run_zeros {P : Program} (t e : TypeId) (k : IntKind) (bytes : Nat) (ht : P.underlying t = some (.slice e)) (hinfo : (P.info? e).map (fun i => (i.zero, i.size, i.bytes)) = some (some (.int k 0), 1, bytes))
    (n : Nat) (hbytes : bytes * n ≤ 281474976710656) (h63 : n ≤ 9223372036854775807) (w : World) :
    (Instr.makeSlice t (.int .i64 (n : Int)) (.int .i64 (n : Int))).run P w = .ok (.slice (some ⟨w.heap.size, 0, none⟩) n n) (w.alloc (.cells (kV k (List.replicate n 0)) e)) := by
  rw [← kV_zeros]
  exact run_make_row' t e (.int k 0) bytes ht hinfo rfl .i64 .i64 n hbytes h63 w

/-- a text out of bytes. -/
theorem run_text {P : Program} (src dst e : TypeId) (hs : P.underlying src = some (.slice e)) (he : P.underlying e = some (.int .u8)) (hd : P.underlying dst = some .string)
    (g n cap : Nat) (l : List Nat) (hl : l.length = n) (w : World) (h : Blk w g e (kV .u8 l)) :
    (convert src dst (.slice (some ⟨g, 0, none⟩) n cap)).run P w = .ok (.string ⟨(l.map UInt8.ofNat).toArray⟩) w := by
  have hx := run_convert_bytes_arg (P := P) w src e hs he g 0 n cap (l.map fun m : Nat => (m : Int)) (by simpa using hl) (fun i hi => by
    rw [Nat.zero_add, h.cell, kV_get_lt _ _ _ (by omega)]
    simp [List.getD, List.getElem?_eq_getElem (show i < l.length by omega)]) dst hd
  rw [hx]
  have e2 : strOfNums (l.map fun m : Nat => (m : Int)) = ⟨(l.map UInt8.ofNat).toArray⟩ := by
    have := strOfNums_data (l.map fun m : Nat => (m : Int))
    have e3 : ∀ (a b : ByteArray), a.data.toList = b.data.toList → a = b := fun a b hab => by
      obtain ⟨⟨x⟩⟩ := a; obtain ⟨⟨y⟩⟩ := b; simpa using hab
    apply e3
    rw [this]
    simp
  rw [e2]

theorem Tryd.infoU8 : (Tryd.prog.info? 5).map (fun i => (i.zero, i.size, i.bytes)) = some (some (.int .u8 0), 1, 1) := by kernel_rfl
theorem Tryd.infoInt : (Tryd.prog.info? 3).map (fun i => (i.zero, i.size, i.bytes)) = some (some (.int .i64 0), 1, 8) := by kernel_rfl
end Go.Proofs.YtkgkgdgbkkhblaaDoor
namespace Go.Proofs.YtkgkgdgbkkhblaaDoor
open Go.RowKit Go.Shelf
attribute [local go_sem] Oper.semAt_some

theorem u64w {n : Int} (h0 : 0 ≤ n) (h1 : n < 18446744073709551616) : IntKind.u64.wrap n = n := by
  rw [IntKind.wrap_u64]; omega
theorem or_low (n d : Nat) (hn : n < 72057594037927936) (hd : d < 256) :
    bits .or .u64 (IntKind.u64.wrap ((n : Int) * 256)) (d : Int) = ((n * 256 + d : Nat) : Int) := by
  rw [u64w (by omega) (by omega)]
  have e : ((n : Int) * 256) = ((n * 256 : Nat) : Int) := by omega
  rw [e, u64_or_nat _ _ (by omega) (by omega)]
  have h := Nat.two_pow_add_eq_or_of_lt (b := d) (i := 8) (by omega) n
  rw [show n * 256 = 2 ^ 8 * n from by omega, h]
theorem ret_small2 {a b : Int} {c d : Bool} (h : a = b) (h' : c = d) : Ending.returned (.tuple #[.int .u64 a, .bool c]) = .returned (.tuple #[.int .u64 b, .bool d]) := by rw [h, h']
end Go.Proofs.YtkgkgdgbkkhblaaDoor
namespace Go.Proofs.YtkgkgdgbkkhblaaDoor
open Go.RowKit Go.Shelf

set_option maxRecDepth 100000 in
set_option maxHeartbeats 1000000 in
theorem refSmall_any (s : ByteArray) (w : World) :
    Calls Tryd.prog 62 #[.string s] w fun e w' => e = .returned (.tuple #[.int .u64 (Nt.sm (Nt.V s) : Int), .bool (Nt.smB (Nt.V s))]) ∧ w = w' := by
  obtain ⟨t, ht⟩ : ∃ t, t = Nt.E (Nt.V s) := ⟨_, rfl⟩
  have hV : Nt.V t = Nt.V s := by rw [ht, Nt.V_E]
  have HT := Lib.hid (fun w => (ht ▸ refTrim_any s w : Calls Tryd.prog 60 #[.string s] w fun e w' => e = .returned (.string t) ∧ w = w'))
  by_cases h8 : t.size ≤ 8
  · have h1 := Nt.E_small (ht ▸ h8)
    have hr : Hid (Ending.returned (.tuple #[.int .u64 ((Nt.top t t.size : Nat) : Int), .bool true]) = .returned (.tuple #[.int .u64 (Nt.sm (Nt.V s) : Int), .bool (Nt.smB (Nt.V s))])) :=
      ret_small2 (by rw [Nt.sm, if_pos h1, Nt.top_all, hV]) (by rw [Nt.smB]; simp [h1])
    clear ht hV
    go_enter Tryd.func62, Tryd.ntmps62
    go_wp2_with (go_at_call 60; refine (HT.out _).mono ?_; rintro e w' ⟨rfl, rfl⟩)
    go_loop [4, 5] (fun n i => ∃ k : Nat, k ≤ t.size ∧ i = .int .i64 k ∧ n = .int .u64 ((Nt.top t k : Nat) : Int)) (fun _ i => t.size - (intOf i).toNat)
    case atStart => exact ⟨0, Nat.zero_le _, rfl, by rw [Nt.top_zero]; rfl⟩
    case round =>
      obtain ⟨k, hk, rfl, rfl⟩ := hrel
      by_cases hlt : k < t.size
      · have hs1 := Lib.hid (Nt.top_step t k hlt)
        have hl1 := Nt.top_lt t k hk
        generalize Nt.top t k = n at hs1 hl1
        have hd := UInt8.toNat_lt (t[k]'hlt)
        have hn : n < 72057594037927936 := by
          have : 256 ^ k ≤ 256 ^ 7 := Nat.pow_le_pow_right (by omega) (by omega)
          have h7 : (256 : Nat) ^ 7 = 72057594037927936 := by decide
          omega
        have ho := Lib.hid (or_low n (t[k]'hlt).toNat hn hd)
        clear hn hl1
        go_wp2
        go_round
        case rel => exact ⟨k + 1, by omega, by go_num, by rw [ho.out, hs1.out]⟩
        case measure => simp [intOf]; omega
      · obtain rfl : k = t.size := by omega
        go_wp2
        go_ret2
        exact ⟨hr, rfl⟩
  · have h1 := Nt.E_big (ht ▸ h8)
    have hr := Lib.hid (show Ending.returned (.tuple #[.int .u64 0, .bool false]) = .returned (.tuple #[.int .u64 (Nt.sm (Nt.V s) : Int), .bool (Nt.smB (Nt.V s))]) from ret_small2 (by rw [Nt.sm, if_neg h1]; rfl) (by rw [Nt.smB]; simp [h1]))
    clear ht hV
    go_enter Tryd.func62, Tryd.ntmps62
    go_wp2_with (go_at_call 60; refine (HT.out _).mono ?_; rintro e w' ⟨rfl, rfl⟩)
    go_ret2
    exact ⟨hr.out, rfl⟩

set_option maxRecDepth 100000 in
set_option maxHeartbeats 400000 in
theorem refByte_any (c : Int) (w : World) (h0 : 0 ≤ c) (h1 : c < 256) :
    Calls Tryd.prog 29 #[.int .i64 c] w fun e w' => e = .returned (.string ⟨#[UInt8.ofNat c.toNat]⟩) ∧ Below w.heap.size w w' := by
  have hx := run_text (P := Tryd.prog) 64 9 5 Tryd.underlying64 Tryd.underlying5 Tryd.underlying9 w.heap.size 1 1 [c.toNat] rfl (w.alloc (.cells #[.int .u8 c] 5)) (by
    have e : kV .u8 [c.toNat] = #[.int .u8 c] := by simp [kV]; omega
    rw [e]; exact Blk.new _ _ _)
  simp only [List.map_cons, List.map_nil] at hx
  go_enter Tryd.func29, Tryd.ntmps29
  go_wp2
  go_ret
  exact ⟨rfl, (Below.refl _ _).alloc (Nat.le_refl _) _⟩

theorem and_255 (n : Nat) (hn : n < 18446744073709551616) : bits .and .u64 (n : Int) 255 = ((n % 256 : Nat) : Int) := by
  rw [show (255 : Int) = ((255 : Nat) : Int) from rfl, u64_and_nat _ _ (by omega) (by omega)]
  rw [show 255 = 2 ^ 8 - 1 from rfl, Nat.and_two_pow_sub_one_eq_mod]
theorem str_append (a b : List UInt8) : (⟨a.toArray⟩ : ByteArray) ++ ⟨b.toArray⟩ = ⟨(a ++ b).toArray⟩ := by
  apply ByteArray.ext
  simp
set_option maxRecDepth 100000 in
set_option maxHeartbeats 1000000 in
theorem refOf_any (n : Nat) (w : World) (hn : n < 18446744073709551616) :
    Calls Tryd.prog 45 #[.int .u64 (n : Int)] w fun e w' => e = .returned (.string (Nt.E n)) ∧ Below w.heap.size w w' := by
  have HN := Lib.hid hn
  have hV : Hid (Nt.V ⟨(Nt.be n 8).toArray⟩ = n) := by show Nt.val _ = n; rw [Nt.val_be, Nt.pow8]; exact Nat.mod_eq_of_lt hn
  clear hn
  go_enter Tryd.func45, Tryd.ntmps45
  go_wp2
  go_loopw [0, 3, 4] (fun x s i wr => ∃ k : Nat, k ≤ 8 ∧ i = .int .i64 k ∧ x = .int .u64 (Nt.sh n k : Int) ∧ s = .string ⟨(Nt.be n k).toArray⟩ ∧ Below w.heap.size w wr) (fun _ _ i _ => 8 - (intOf i).toNat)
  case atStart => exact ⟨0, by omega, rfl, by rw [Nt.sh_zero], rfl, Below.refl _ _⟩
  case round =>
    obtain ⟨k, hk, rfl, rfl, rfl, hB⟩ := hrel
    by_cases hlt : k < 8
    · have hA := and_255 (Nt.sh n k) (by have := HN.out; have := Nt.sh_le n k; omega)
      rw [Nt.sh_dig] at hA
      have hd := Nt.dig_lt n k
      have HS := Lib.hid (Nt.sh_succ n k)
      have HB : Hid (Nt.be n (k + 1) = UInt8.ofNat (Nt.dig n k) :: Nt.be n k) := rfl
      generalize Nt.dig n k = d at hd hA HB
      generalize Nt.sh n k = x at hA HS
      have hL : (Nt.be n k).length ≤ 8 := by rw [Nt.be_length]; omega
      go_wp2_with (go_at_call 29; refine (refByte_any _ _ (by omega) (by omega)).mono ?_; rintro e w' ⟨rfl, hb1⟩)
      refine ⟨⟨k + 1, by omega, by go_num, by rw [HS.out]; go_num, ?_, hB.trans (hb1.mono hB.size)⟩, by simp [intOf]; omega⟩
      rw [HB.out, show (⟨#[UInt8.ofNat d]⟩ : ByteArray) = ⟨[UInt8.ofNat d].toArray⟩ from rfl, str_append]
      rfl
    · obtain rfl : k = 8 := by omega
      go_wp2_with (go_at_call 60; refine (refTrim_any _ _).mono ?_; rintro e w' ⟨rfl, rfl⟩)
      go_ret
      exact ⟨ret_str (by rw [hV.out]), hB⟩

theorem isEmpty_false {t : ByteArray} (h : 0 < t.size) : t.toList.isEmpty = false := by
  rw [ByteArray.toList_eq]
  obtain ⟨⟨l⟩⟩ := t
  cases l with
  | nil => exact absurd h (by decide)
  | cons b l => rfl
theorem isEmpty_true {t : ByteArray} (h : ¬ 0 < t.size) : t.toList.isEmpty = true := by
  rw [ByteArray.toList_eq]
  obtain ⟨⟨l⟩⟩ := t
  cases l with
  | nil => rfl
  | cons b l => exact absurd (show 0 < l.length + 1 by omega) h
end Go.Proofs.YtkgkgdgbkkhblaaDoor
namespace Go.Proofs.YtkgkgdgbkkhblaaDoor
open Go.RowKit Go.Shelf

end Go.Proofs.YtkgkgdgbkkhblaaDoor
namespace Go.Proofs.YtkgkgdgbkkhblaaDoor
open Go.RowKit Go.Shelf

set_option maxHeartbeats 400000 in
theorem refAt_any (s : ByteArray) (i : Nat) (w : World) (hs : s.size ≤ maxLen) :
    Calls Tryd.prog 92 #[.string s, .int .i64 (i : Int)] w fun e w' => e = .returned (.int .i64 (Nt.dig (Nt.V s) i : Int)) ∧ w = w' := by
  unfold maxLen at hs
  by_cases h : i < s.size
  · have hd := Lib.hid (Nt.V_dig s i h)
    go_enter Tryd.func92, Tryd.ntmps92
    go_wp2
    go_ret
    exact ⟨ret_int (a := wrap64 ((s[s.size - 1 - i]'(by omega)).toNat : Int)) (by
      rw [← hd.out]
      have := UInt8.toNat_lt (s[s.size - 1 - i]'(by omega))
      unfold wrap64; omega), rfl⟩
  · have hd := Lib.hid (Nt.dig_zero_le (Nt.V_lt s) (show s.size ≤ i by omega))
    go_enter Tryd.func92, Tryd.ntmps92
    go_wp2
    go_ret
    exact ⟨ret_int (a := 0) (by rw [hd.out]; rfl), rfl⟩
theorem and_255i (n : Nat) (hn : n < 9223372036854775808) : bits .and .i64 (n : Int) 255 = ((n % 256 : Nat) : Int) := by
  have h := bits_mask .i64 63 (by decide) (fun m h0 h1 => by rw [IntKind.wrap_i64]; omega) 8 (by decide) (n : Int) (by omega) (by omega)
  have e : ((2 : Int) ^ 8 - 1) = 255 := by decide
  rw [e] at h
  rw [h]; omega

set_option maxRecDepth 100000 in
set_option maxHeartbeats 1000000 in
theorem refTurned_some (g n cap : Nat) (l : List Nat) (w : World) (hl : l.length = n) (hn : n ≤ 1000000) (hx : ∀ x ∈ l, x < 256) (hg : g < w.heap.size) (hc : ∀ k (h : k < l.length), w.cell? ⟨g, k, none⟩ = some (.int .i64 ((l[k]'h : Nat) : Int))) :
    Calls Tryd.prog 93 #[.slice (some ⟨g, 0, none⟩) n cap] w fun e w' => e = .returned (.string (Nt.E (Nt.lb l))) ∧ Below w.heap.size w w' := by
  have hmk := fun W => run_zeros (P := Tryd.prog) 64 5 .u8 1 Tryd.underlying64 Tryd.infoU8 n (by omega) (by omega) W
  have HL := Lib.hid hl
  obtain ⟨N, hN⟩ : ∃ N, N = Nt.lb l := ⟨_, rfl⟩
  have hV : Hid (Nt.V ⟨((Nt.digs N n).map UInt8.ofNat).toArray⟩ = N) := Nt.V_digs_lt (by rw [hN, ← hl]; exact Nt.lb_lt l hx)
  rw [← hN]
  have HN := Lib.hid hN
  have HX := Lib.hid hx
  have HC := Lib.hid hc
  clear hN hl hx hc
  go_enter Tryd.func93, Tryd.ntmps93
  go_wp2
  go_loopw [4] (fun i wr => ∃ k : Nat, k ≤ n ∧ i = .int .i64 k ∧ Blk wr w.heap.size 5 (kV .u8 (List.replicate (n - k) 0 ++ Nt.digs N k)) ∧ Below w.heap.size w wr) (fun i _ => n - (intOf i).toNat)
  case atStart => exact ⟨0, by omega, rfl, by simp only [Nat.sub_zero, Nt.digs, List.append_nil]; exact Blk.new _ _ _, (Below.refl _ _).alloc (Nat.le_refl _) _⟩
  case round =>
    obtain ⟨k, hk, rfl, hB, hW⟩ := hrel
    by_cases hlt : k < n
    · have hkl : k < l.length := by have := HL.out; omega
      have hc1 : wr.cell? ⟨g, k, none⟩ = some (.int .i64 ((l[k]'hkl : Nat) : Int)) := (hW.cell (p := ⟨g, _, none⟩) hg).trans (HC.out k hkl)
      have hxb := HX.out _ (List.getElem_mem hkl)
      have hD := Lib.hid (Nt.lb_dig l HX.out k hkl)
      generalize l[k]'hkl = x at hc1 hxb hD
      have hlen : n - 1 - k < (List.replicate (n - k) 0 ++ Nt.digs N k).length := by simp [Nt.digs_length]; omega
      have hc2 : wr.cell? ⟨w.heap.size, n - 1 - k, none⟩ = some (.int .u8 (((List.replicate (n - k) 0 ++ Nt.digs N k)[n - 1 - k]'hlen : Nat) : Int)) := (hB.cell _).trans (kV_get_lt _ _ _ hlen)
      have hf2 : wr.frozen? ⟨w.heap.size, n - 1 - k, none⟩ = false := hB.frozen _
      go_wp2
      refine ⟨⟨k + 1, by omega, by go_num, ?_, hW.setCell (p := ⟨w.heap.size, n - 1 - k, none⟩) (Nat.le_refl _) _⟩, by simp [intOf]; omega⟩
      rw [← Nt.zeros_set N k n x hlt (by rw [← hD.out, HN.out]), ← kV_set]
      exact hB.put _ _
    · obtain rfl : k = n := by omega
      rw [Nat.sub_self, List.replicate_zero, List.nil_append] at hB
      have hT := run_text (P := Tryd.prog) 64 9 5 Tryd.underlying64 Tryd.underlying5 Tryd.underlying9 w.heap.size k k _ (Nt.digs_length N k) wr hB
      go_wp2_with (go_at_call 60; refine (refTrim_any _ _).mono ?_; rintro e w' ⟨rfl, rfl⟩)
      go_ret
      exact ⟨ret_str (by rw [hV.out]), hW⟩
set_option maxRecDepth 100000 in
set_option maxHeartbeats 1000000 in
theorem refTurned_nil (w : World) :
    Calls Tryd.prog 93 #[.slice none 0 0] w fun e w' => e = .returned (.string (Nt.E 0)) ∧ Below w.heap.size w w' := by
  have hmk : ∀ W : World, (Instr.makeSlice 64 (.int .i64 0) (.int .i64 0)).run Tryd.prog W = .ok (.slice (some ⟨W.heap.size, 0, none⟩) 0 0) (W.alloc (.cells (kV .u8 []) 5)) :=
    fun W => run_zeros (P := Tryd.prog) 64 5 .u8 1 Tryd.underlying64 Tryd.infoU8 0 (by omega) (by omega) W
  have hT := run_text (P := Tryd.prog) 64 9 5 Tryd.underlying64 Tryd.underlying5 Tryd.underlying9 w.heap.size 0 0 [] rfl (w.alloc (.cells (kV .u8 []) 5)) (Blk.new _ _ _)
  go_enter Tryd.func93, Tryd.ntmps93
  go_wp2
  go_loop [4] (fun i => i = .int .i64 0) (fun _ => 0)
  case atStart => rfl
  case round =>
    subst hrel
    go_wp2_with (go_at_call 60; refine (refTrim_any _ _).mono ?_; rintro e w' ⟨rfl, rfl⟩)
    go_ret
    exact ⟨rfl, (Below.refl _ _).alloc (Nat.le_refl _) _⟩
/-- numbers, as ints in memory. -/
def ints (l : List Nat) : List Value := l.map fun n : Nat => Value.int .i64 (n : Int)
theorem ints_snoc (l : List Nat) (n : Nat) : ints l ++ [.int .i64 (n : Int)] = ints (l ++ [n]) := by simp [ints]
theorem refTurned_own (l : List Nat) (base n : Nat) (v : Value) (w : World) (hl : l.length = n) (hn : n ≤ 1000000) (hx : ∀ x ∈ l, x < 256) (ho : w.ownsRow base 3 1 v n (ints l)) :
    Calls Tryd.prog 93 #[v] w fun e w' => e = .returned (.string (Nt.E (Nt.lb l))) ∧ Below w.heap.size w w' := by
  rcases ho.2 with ⟨rfl, rfl⟩ | ⟨g, cap, cur, rfl, _, hg, _⟩
  · obtain rfl : l = [] := List.eq_nil_of_length_eq_zero hl
    exact refTurned_nil w
  · refine refTurned_some g n cap l w hl hn hx (Array.getElem?_eq_some_iff.1 hg).1 (fun k h => ?_)
    have hcell := ho.cells (g := g) rfl k (.int .i64 ((l[k]'h : Nat) : Int)) (by unfold ints; rw [List.getElem?_map, List.getElem?_eq_getElem h]; rfl)
    have hadd : (⟨g, 0, none⟩ : Addr).add k = ⟨g, k, none⟩ := by unfold Addr.add; split <;> simp_all
    rwa [hadd] at hcell

end Go.Proofs.YtkgkgdgbkkhblaaDoor
namespace Go.Proofs.YtkgkgdgbkkhblaaDoor
open Go.RowKit Go.Shelf

namespace Nt
/-- -1, 0 or 1. -/
def cmpZ (n m : Nat) : Int := if n < m then -1 else if n = m then 0 else 1
theorem less_val : ∀ (l k : List UInt8), l.length = k.length → Op.bytesLess l k = decide (val l < val k)
  | [], [], _ => by simp [Op.bytesLess]
  | a :: l, b :: k, h => by
    have hl : l.length = k.length := by simpa using h
    have h1 := val_lt l
    have h2 := val_lt k
    have h3 : a < b ↔ a.toNat < b.toNat := UInt8.lt_iff_toNat_lt
    rw [Op.bytesLess, less_val l k hl, val_cons, val_cons, hl]
    rw [hl] at h1
    rw [Bool.eq_iff_iff]
    simp only [Bool.or_eq_true, Bool.and_eq_true, decide_eq_true_eq, beq_iff_eq]
    constructor
    · rintro (hab | ⟨rfl, hlk⟩)
      · have : (a.toNat + 1) * 256 ^ k.length ≤ b.toNat * 256 ^ k.length := Nat.mul_le_mul_right _ (h3.1 hab)
        rw [Nat.add_mul, Nat.one_mul] at this
        generalize 256 ^ k.length = P at *
        omega
      · omega
    · intro hlt
      by_cases hab : a < b
      · exact .inl hab
      · right
        have hba : b.toNat ≤ a.toNat := Nat.le_of_not_lt (fun h => hab (h3.2 h))
        by_cases he : a.toNat = b.toNat
        · rw [he] at hlt
          exact ⟨UInt8.toNat_inj.1 he, by omega⟩
        · have : (b.toNat + 1) * 256 ^ k.length ≤ a.toNat * 256 ^ k.length := Nat.mul_le_mul_right _ (by omega)
          rw [Nat.add_mul, Nat.one_mul] at this
          generalize 256 ^ k.length = P at *
          omega
theorem enc_inj {n m : Nat} (h : enc n = enc m) : n = m := by rw [← val_enc n, h, val_enc]
theorem enc_less {n m : Nat} (h : (enc n).length = (enc m).length) : Op.bytesLess (enc n) (enc m) = decide (n < m) := by
  rw [less_val _ _ h, val_enc, val_enc]
end Nt
theorem less_self (l : List UInt8) : Op.bytesLess l l = false := by rw [Nt.less_val l l rfl]; simp
theorem E_list (n : Nat) : (Nt.E n).toList = Nt.enc n := by rw [ByteArray.toList_eq]; exact Nt.E_toList n
/-- all that a comparison of two shortest texts may meet. -/
theorem cmp_ways (n m : Nat) :
    (Nt.cmpZ n m = -1 ∧ n < m ∧ ((Nt.E n).size < (Nt.E m).size ∨ ((Nt.E n).size = (Nt.E m).size ∧ Op.bytesLess (Nt.E n).toList (Nt.E m).toList = true))) ∨
    (Nt.cmpZ n m = 0 ∧ n = m) ∨
    (Nt.cmpZ n m = 1 ∧ m < n ∧ ((Nt.E n).toList == (Nt.E m).toList) = false ∧ ((Nt.E m).size < (Nt.E n).size ∨ ((Nt.E n).size = (Nt.E m).size ∧ Op.bytesLess (Nt.E n).toList (Nt.E m).toList = false))) := by
  simp only [E_list, Nt.E_size]
  rcases Nat.lt_trichotomy n m with h | h | h
  · left
    refine ⟨by simp [Nt.cmpZ, h], h, ?_⟩
    have := Nt.enc_length_mono (Nat.le_of_lt h)
    by_cases hl : (Nt.enc n).length < (Nt.enc m).length
    · exact .inl hl
    · exact .inr ⟨by omega, by rw [Nt.enc_less (by omega)]; simpa using h⟩
  · exact .inr (.inl ⟨by simp [Nt.cmpZ, h], h⟩)
  · right; right
    refine ⟨by unfold Nt.cmpZ; rw [if_neg (by omega), if_neg (by omega)], h, ?_, ?_⟩
    · rw [beq_eq_false_iff_ne]
      intro he
      have := Nt.enc_inj he
      omega
    · have := Nt.enc_length_mono (Nat.le_of_lt h)
      by_cases hl : (Nt.enc m).length < (Nt.enc n).length
      · exact .inl hl
      · exact .inr ⟨by omega, by rw [Nt.enc_less (by omega)]; simp; omega⟩

set_option maxRecDepth 100000 in
set_option maxHeartbeats 1000000 in
theorem refCmp_any (a b : ByteArray) (w : World) (ha : a.size ≤ 140737488351232) (hb : b.size ≤ 140737488351232) :
    Calls Tryd.prog 86 #[.string a, .string b] w fun e w' => e = .returned (.int .i64 (Nt.cmpZ (Nt.V a) (Nt.V b))) ∧ w = w' := by
  have hw := cmp_ways (Nt.V a) (Nt.V b)
  have hta := Nat.le_trans (Nt.E_size_V a) ha
  have htb := Nat.le_trans (Nt.E_size_V b) hb
  have HTA := Lib.hid (fun w => refTrim_any a w)
  have HTB := Lib.hid (fun w => refTrim_any b w)
  generalize Nt.V a = n at *
  generalize Nt.V b = m at *
  rcases hw with ⟨h1, _, h3⟩ | ⟨h1, rfl⟩ | ⟨h1, _, h3, h4⟩
  · have H1 := Lib.hid h1
    generalize Nt.cmpZ n m = z at *
    clear h1
    generalize Nt.E n = t at *
    generalize Nt.E m = u at *
    rcases h3 with h3 | ⟨h3, h4⟩
    · go_enter Tryd.func86, Tryd.ntmps86
      go_wp2_with (first
        | (go_at_call_of 60 a; refine (HTA.out _).mono ?_; rintro e w1 ⟨rfl, rfl⟩)
        | (go_at_call_of 60 b; refine (HTB.out _).mono ?_; rintro e w1 ⟨rfl, rfl⟩))
      go_ret
      exact ⟨ret_int H1.out.symm, rfl⟩
    · have h5 : t.size ≤ u.size := by omega
      have h6 : u.size ≤ t.size := by omega
      clear h3
      go_enter Tryd.func86, Tryd.ntmps86
      go_wp2_with (first
        | (go_at_call_of 60 a; refine (HTA.out _).mono ?_; rintro e w1 ⟨rfl, rfl⟩)
        | (go_at_call_of 60 b; refine (HTB.out _).mono ?_; rintro e w1 ⟨rfl, rfl⟩))
      go_ret
      exact ⟨ret_int H1.out.symm, rfl⟩
  · have H1 := Lib.hid h1
    generalize Nt.cmpZ n n = z at *
    clear h1
    have hbl := less_self (Nt.E n).toList
    generalize Nt.E n = t at *
    all_goals
      go_enter Tryd.func86, Tryd.ntmps86
      go_wp2_with (first
        | (go_at_call_of 60 a; refine (HTA.out _).mono ?_; rintro e w1 ⟨rfl, rfl⟩)
        | (go_at_call_of 60 b; refine (HTB.out _).mono ?_; rintro e w1 ⟨rfl, rfl⟩))
      go_ret
      exact ⟨ret_int H1.out.symm, rfl⟩
  · have H1 := Lib.hid h1
    generalize Nt.cmpZ n m = z at *
    clear h1
    generalize Nt.E n = t at *
    generalize Nt.E m = u at *
    rcases h4 with h4 | ⟨h4, h5⟩
    · go_enter Tryd.func86, Tryd.ntmps86
      go_wp2_with (first
        | (go_at_call_of 60 a; refine (HTA.out _).mono ?_; rintro e w1 ⟨rfl, rfl⟩)
        | (go_at_call_of 60 b; refine (HTB.out _).mono ?_; rintro e w1 ⟨rfl, rfl⟩))
      go_ret
      exact ⟨ret_int H1.out.symm, rfl⟩
    · have h6 : t.size ≤ u.size := by omega
      have h7 : u.size ≤ t.size := by omega
      clear h4
      go_enter Tryd.func86, Tryd.ntmps86
      go_wp2_with (first
        | (go_at_call_of 60 a; refine (HTA.out _).mono ?_; rintro e w1 ⟨rfl, rfl⟩)
        | (go_at_call_of 60 b; refine (HTB.out _).mono ?_; rintro e w1 ⟨rfl, rfl⟩))
      go_ret
      exact ⟨ret_int H1.out.symm, rfl⟩

end Go.Proofs.YtkgkgdgbkkhblaaDoor
namespace Go.Proofs.YtkgkgdgbkkhblaaDoor
open Go.RowKit Go.Shelf

set_option maxRecDepth 100000 in
set_option maxHeartbeats 2000000 in
theorem refSub_pos (a b : ByteArray) (w : World) (ha : a.size ≤ 100000) (hb : b.size ≤ 100000) (hle : Nt.V b ≤ Nt.V a) :
    Calls Tryd.prog 88 #[.string a, .string b] w fun e w' => e = .returned (.string (Nt.E (Nt.V a - Nt.V b))) ∧ Below w.heap.size w w' := by
  obtain ⟨i0, hi, hz0, hz1, hz2⟩ := info_parts Tryd.infoInt
  have ha' : a.size ≤ maxLen := by unfold maxLen; omega
  have hb' : b.size ≤ maxLen := by unfold maxLen; omega
  have HA := Lib.hid (Nt.V_lt a)
  have HBb := Lib.hid (Nt.V_lt b)
  have HLE := Lib.hid hle
  have HC := Lib.hid (fun w => refCmp_any a b w (by omega) (by omega))
  have hz : 0 ≤ Nt.cmpZ (Nt.V a) (Nt.V b) := by unfold Nt.cmpZ; rw [if_neg (by omega)]; split <;> omega
  generalize Nt.cmpZ (Nt.V a) (Nt.V b) = z at *
  clear hle
  go_enter Tryd.func88, Tryd.ntmps88
  go_wp2_with (go_at_call 86; refine (HC.out _).mono ?_; rintro e w1 ⟨rfl, rfl⟩)
  go_loopw [5, 6, 7] (fun v c i wr => ∃ k : Nat, k ≤ max a.size b.size ∧ i = .int .i64 k ∧ c = .int .i64 (Nt.bw (Nt.V a) (Nt.V b) k : Int) ∧ wr.ownsRow w.heap.size 3 1 v k (ints (Nt.low (Nt.V a - Nt.V b) k)) ∧ Below w.heap.size w wr) (fun _ _ i _ => max a.size b.size - (intOf i).toNat)
  case atStart => exact ⟨0, by omega, rfl, by rw [Nt.bw_zero]; rfl, World.ownsRow_nil _ _ _ _, Below.refl _ _⟩
  case round =>
    obtain ⟨k, hk, rfl, rfl, hO, hW⟩ := hrel
    have hbw := Nt.bw_le (Nt.V a) (Nt.V b) k
    by_cases hgo : k < a.size ∨ k < b.size
    · have hkM : k < max a.size b.size := by omega
      have hst := Nt.bw_step HLE.out k
      have hda := Nt.dig_lt (Nt.V a) k
      have hdb := Nt.dig_lt (Nt.V b) k
      have hds := Nt.dig_lt (Nt.V a - Nt.V b) k
      have hRA := Lib.hid (fun W => refAt_any a k W ha')
      have hRB := Lib.hid (fun W => refAt_any b k W hb')
      have HL := Lib.hid (Nt.low_succ (Nt.V a - Nt.V b) k)
      have hc1 := Nt.bw_le (Nt.V a) (Nt.V b) (k + 1)
      generalize Nt.bw (Nt.V a) (Nt.V b) k = c at hbw hst
      obtain ⟨c', hc'⟩ : ∃ c', c' = Nt.bw (Nt.V a) (Nt.V b) (k + 1) := ⟨_, rfl⟩
      rw [← hc'] at hst hc1
      have HC' := Lib.hid hc'
      clear hc'
      generalize Nt.dig (Nt.V a) k = x at hst hda hRA
      generalize Nt.dig (Nt.V b) k = y at hst hdb hRB
      generalize Nt.dig (Nt.V a - Nt.V b) k = d at hst hds HL
      have Hst := Lib.hid hst
      have hk1 : k + 1 ≤ maxLen := by unfold maxLen; omega
      have hk2 : (k + 1) * 8 ≤ 140737488355328 := by omega
      have HWS := Lib.hid (fun o : Obj => show w.heap.size ≤ (wr.alloc o).heap.size by simp; have := hW.size; omega)
      by_cases hneg : (x : Int) - y - c < 0
      · have e1 : c' = 1 := by omega
        have hd : Hid ((x : Int) - y - c + 256 = (d : Int)) := by show _ = _; omega
        subst e1
        clear hst
        go_wp2_with (first
          | (go_at_call_of 92 a; refine (hRA.out _).mono ?_; rintro e w1 ⟨rfl, rfl⟩)
          | (go_at_call_of 92 b; refine (hRB.out _).mono ?_; rintro e w1 ⟨rfl, rfl⟩)
          | (at_builtin; refine wpList_append_own _ rfl _ _ 118 rfl w.heap.size 3 i0 (.int .i64 0) 1 8 Tryd.underlying118 hi hz0 hz1 hz2 rfl (by decide) _ _ _ rfl (hO.alloc _) ⟨wr.heap.size, 0, none⟩ 1 1 [.int .i64 ((x : Int) - y - c + 256)] rfl rfl (cell_one_new _ _ _) (by simp [Value.oneCell']) hk1 hk2 (HWS.out _) ?_; intro v1 w2 hown1 hgrow1 _))
        all_goals first
          | (exfalso; omega)
          | (refine ⟨⟨k + 1, by omega, by go_num, ?_, ?_, ?_⟩, by simp [intOf]; omega⟩
             · rw [← HC'.out]; rfl
             · rw [hd.out] at hown1; rw [HL.out, ← ints_snoc]; exact hown1
             · exact (hW.alloc hW.size _).grown hgrow1 (HWS.out _) (fun j hj => (hO.lt j hj).1))
      · have e1 : c' = 0 := by omega
        have hd : Hid ((x : Int) - y - c = (d : Int)) := by show _ = _; omega
        subst e1
        clear hst
        go_wp2_with (first
          | (go_at_call_of 92 a; refine (hRA.out _).mono ?_; rintro e w1 ⟨rfl, rfl⟩)
          | (go_at_call_of 92 b; refine (hRB.out _).mono ?_; rintro e w1 ⟨rfl, rfl⟩)
          | (at_builtin; refine wpList_append_own _ rfl _ _ 118 rfl w.heap.size 3 i0 (.int .i64 0) 1 8 Tryd.underlying118 hi hz0 hz1 hz2 rfl (by decide) _ _ _ rfl (hO.alloc _) ⟨wr.heap.size, 0, none⟩ 1 1 [.int .i64 ((x : Int) - y - c)] rfl rfl (cell_one_new _ _ _) (by simp [Value.oneCell']) hk1 hk2 (HWS.out _) ?_; intro v1 w2 hown1 hgrow1 _))
        all_goals first
          | (exfalso; omega)
          | (refine ⟨⟨k + 1, by omega, by go_num, ?_, ?_, ?_⟩, by simp [intOf]; omega⟩
             · rw [← HC'.out]; rfl
             · rw [hd.out] at hown1; rw [HL.out, ← ints_snoc]; exact hown1
             · exact (hW.alloc hW.size _).grown hgrow1 (HWS.out _) (fun j hj => (hO.lt j hj).1))
    · have hend : Hid (Nt.lb (Nt.low (Nt.V a - Nt.V b) k) = Nt.V a - Nt.V b) := by
        rw [Hid, Nt.lb_low]
        have h1 : Nt.V a < 256 ^ k := Nat.lt_of_lt_of_le HA.out (Nat.pow_le_pow_right (by omega) (by omega))
        exact Nat.mod_eq_of_lt (by omega)
      have hT := Lib.hid (refTurned_own (Nt.low (Nt.V a - Nt.V b) k) _ k _ wr (Nt.low_length _ _) (by omega) (Nt.low_lt _ _) hO)
      generalize Nt.bw (Nt.V a) (Nt.V b) k = c at hbw
      go_wp2_with (go_at_call 93; refine hT.out.mono ?_; rintro e w1 ⟨rfl, hb1⟩)
      go_ret
      exact ⟨ret_str (by rw [hend.out]), hW.trans (hb1.mono hW.size)⟩
set_option maxRecDepth 100000 in
set_option maxHeartbeats 2000000 in
theorem refSub_any (a b : ByteArray) (w : World) (ha : a.size ≤ 100000) (hb : b.size ≤ 100000) :
    Calls Tryd.prog 88 #[.string a, .string b] w fun e w' => e = .returned (.string (Nt.E (Nt.V a - Nt.V b))) ∧ Below w.heap.size w w' := by
  by_cases hle : Nt.V b ≤ Nt.V a
  · exact refSub_pos a b w ha hb hle
  · have hr : Hid (Nt.E (Nt.V a - Nt.V b) = ⟨#[]⟩) := by rw [Hid, show Nt.V a - Nt.V b = 0 from by omega]; rfl
    have HC := Lib.hid (fun w => refCmp_any a b w (by omega) (by omega))
    have hz : Nt.cmpZ (Nt.V a) (Nt.V b) < 0 := by unfold Nt.cmpZ; rw [if_pos (by omega)]; omega
    generalize Nt.cmpZ (Nt.V a) (Nt.V b) = z at *
    clear hle
    go_enter Tryd.func88, Tryd.ntmps88
    go_wp2_with (go_at_call 86; refine (HC.out _).mono ?_; rintro e w1 ⟨rfl, rfl⟩)
    go_ret
    exact ⟨ret_str hr.out.symm, Below.refl _ _⟩
end Go.Proofs.YtkgkgdgbkkhblaaDoor
namespace Go.Proofs.YtkgkgdgbkkhblaaDoor
open Go.RowKit Go.Shelf

end Go.Proofs.YtkgkgdgbkkhblaaDoor
namespace Go.Proofs.YtkgkgdgbkkhblaaDoor
open Go.RowKit Go.Shelf
attribute [local go_sem] Oper.semAt_some

end Go.Proofs.YtkgkgdgbkkhblaaDoor
namespace Go.Proofs.YtkgkgdgbkkhblaaDoor
open Go.RowKit Go.Shelf
attribute [local go_sem] Oper.semAt_some

/-- the memory of a sum between two rounds. -/
structure AddMem (x y : ByteArray) (B : Nat) (s : Nat × List Nat) (W : World) : Prop where
  bx : Blk W B 9 #[.string x]
  by_ : Blk W (B + 1) 9 #[.string y]
  dat : Blk W (B + 1 + 1) 5 (kV .u8 s.2)
  sl : Blk W (B + 1 + 1 + 1) 64 #[.slice (some ⟨B + 1 + 1, 0, none⟩) (x.size + 1) (x.size + 1)]
  cr : Blk W (B + 1 + 1 + 1 + 1) 84 #[.int .u64 (s.1 : Int)]
theorem AddMem.own (x y : ByteArray) (B : Nat) (f : List (Fin x.size) → Nat × List Nat) : Own (fun pre W => AddMem x y B (f pre) W) :=
  fun _ _ _ _ hs hg hr => ⟨hs.bx.turned hg hr, hs.by_.turned hg hr, hs.dat.turned hg hr, hs.sl.turned hg hr, hs.cr.turned hg hr⟩

end Go.Proofs.YtkgkgdgbkkhblaaDoor
namespace Go.Proofs.YtkgkgdgbkkhblaaDoor
open Go.RowKit Go.Shelf
attribute [local go_sem] Oper.semAt_some

structure SubMem (x y : ByteArray) (A B : Nat) (s : Nat × List Nat) (W : World) : Prop where
  bx : Blk W A 9 #[.string x]
  by_ : Blk W (A + 1) 9 #[.string y]
  dat : Blk W B 5 (kV .u8 s.2)
  sl : Blk W (B + 1) 64 #[.slice (some ⟨B, 0, none⟩) x.size x.size]
  br : Blk W (B + 1 + 1) 3 #[.int .i64 (s.1 : Int)]
theorem SubMem.own (x y : ByteArray) (A B : Nat) (f : List (Fin x.size) → Nat × List Nat) : Own (fun pre W => SubMem x y A B (f pre) W) :=
  fun _ _ _ _ hs hg hr => ⟨hs.bx.turned hg hr, hs.by_.turned hg hr, hs.dat.turned hg hr, hs.sl.turned hg hr, hs.br.turned hg hr⟩

end Go.Proofs.YtkgkgdgbkkhblaaDoor
