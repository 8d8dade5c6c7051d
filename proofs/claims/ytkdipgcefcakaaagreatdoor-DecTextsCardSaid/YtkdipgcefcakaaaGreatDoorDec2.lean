/-
  TEXTS AS NUMBERS: the document's Parse, and the program's.
-/
import Derived.Test.YtkdipgcefcakaaaGreatDoorDec1
import Derived.Test.YtkdipgcefcakaaaGreatDoorShelf2
import Derived.Test.YtkdipgcefcakaaaGreatDoorLaw2
import Derived.Deep.RegionWith
namespace Go.Proofs.YtkdipgcefcakaaaGreatDoor
open Go.RowKit Go.Shelf

/-- what a text is as a number, or why it is none. -/
def parseOut (s : ByteArray) : Value :=
  if s.data.toList.all Nt.isDig = false ∨ s.size = 0 then .tuple #[.string ⟨#[]⟩, .int .i64 3]
  else if 400 < s.size then .tuple #[.string ⟨#[]⟩, .int .i64 9]
  else .tuple #[.string (Nt.E (Nt.dv s.data.toList)), .int .i64 0]
theorem parseOut_bad (s : ByteArray) (h : s.data.toList.all Nt.isDig = false ∨ s.size = 0) : parseOut s = .tuple #[.string ⟨#[]⟩, .int .i64 3] := if_pos h
theorem parseOut_long (s : ByteArray) (h : s.data.toList.all Nt.isDig = true) (h4 : 400 < s.size) : parseOut s = .tuple #[.string ⟨#[]⟩, .int .i64 9] := by
  rw [parseOut, if_neg (by rw [h]; exact fun h1 => h1.elim (fun h2 => by cases h2) (fun h2 => by omega)), if_pos h4]
theorem parseOut_ok (s : ByteArray) (h : s.data.toList.all Nt.isDig = true) (h0 : 0 < s.size) (h4 : s.size ≤ 400) : parseOut s = .tuple #[.string (Nt.E (Nt.dv s.data.toList)), .int .i64 0] := by
  rw [parseOut, if_neg (by rw [h]; exact fun h1 => h1.elim (fun h2 => by cases h2) (fun h2 => by omega)), if_neg (by omega)]
theorem Nt.all_false (s : ByteArray) (k : Nat) (h : k < s.size) (hb : Nt.isDig (s[k]'h) = false) : s.data.toList.all Nt.isDig = false := by
  rw [List.all_eq_false]
  exact ⟨s[k], by simp [ByteArray.getElem_eq_getElem_data], by simp [hb]⟩
theorem Nt.all_true (s : ByteArray) (h : ∀ k (hk : k < s.size), Nt.isDig (s[k]'hk) = true) : s.data.toList.all Nt.isDig = true := by
  rw [List.all_eq_true]
  intro b hb
  obtain ⟨i, hi, rfl⟩ := List.getElem_of_mem hb
  have := h i (by simpa using hi)
  simpa [ByteArray.getElem_eq_getElem_data] using this
theorem Nt.dv_take (s : ByteArray) (k : Nat) (h : k < s.size) : Nt.dv (s.data.toList.take (k + 1)) = Nt.dv (s.data.toList.take k) * 10 + ((s[k]'h).toNat - 48) := by
  rw [List.take_succ_eq_append_getElem (by simpa using h), Nt.dv_snoc]; rfl
theorem Nt.dv_size {l : List UInt8} (h : ∀ b ∈ l, Nt.isDig b = true) (hl : l.length ≤ 400) : (Nt.E (Nt.dv l)).size ≤ 170 := by
  refine Nt.E_size_lt (Nat.lt_of_lt_of_le (Nt.dv_lt l h) (Nat.le_trans (Nat.pow_le_pow_right (by omega) hl) ?_))
  have h1 : (10 : Nat) ^ 400 ≤ 256 ^ 170 := by decide +kernel
  exact h1
theorem Nt.dv_mul_size {n : Nat} (h : (Nt.E n).size ≤ 170) (m : Nat) (hm : m < 256 ^ 4) : (Nt.E (n * m)).size ≤ 174 := by
  have h1 := Nt.V_lt (Nt.E n)
  rw [Nt.V_E] at h1
  exact E_le (mul_lt (Nat.lt_of_lt_of_le h1 (Nat.pow_le_pow_right (by omega) h)) hm)

/-- the digits that were read, and their number. -/
def ReadRel (w : World) (s : ByteArray) (a i : Value) (wr : World) : Prop := ∃ k : Nat, k ≤ s.size ∧ i = .int .i64 (k : Int) ∧ a = .string (Nt.E (Nt.dv (s.data.toList.take k))) ∧ Below w.heap.size w wr
end Go.Proofs.YtkdipgcefcakaaaGreatDoor
