/-
  PLAIN MATHEMATICS OF DECIMAL DIGITS: dcs (so many digits of a number), dec (its digits without a 0 ahead), dv (the number of digits).
  TEXTS AS NUMBERS: the document's Parse, and the program's.
  TEXTS AS NUMBERS: the program's Parse.
  NUMBERS IN DIGITS: the program's Text.
  NUMBERS IN DIGITS: the program's Text, how many digits.
  HOW OFTEN A NUMBER DIVIDES: the program's takeOut, Twos.
  HOW OFTEN 2 AND 5 DIVIDE A NUMBER: the program's Twos.
  NUMBERS IN DIGITS, AND HOW OFTEN 2 AND 5 DIVIDE THEM: the document's answers.
-/
import Derived.Test.YtlpjaflolnggnaaGreatDoorMath
import Derived.Test.YtlpjaflolnggnaaGreatDoorShelf2
import Derived.Test.YtlpjaflolnggnaaGreatDoorLong1
import Derived.Deep.RegionWith
namespace Go.Proofs.YtlpjaflolnggnaaGreatDoor
set_option linter.unusedSimpArgs false
set_option linter.unusedVariables false

/-- m decimal digits of n, as bytes' numbers, the highest first. -/
def Nt.dcs (n : Nat) : Nat → List Nat
  | 0 => []
  | m + 1 => Nt.dcs (n / 10) m ++ [48 + n % 10]
/-- n's decimal digits, without a 0 ahead; of 0 one. -/
def Nt.decF : Nat → Nat → List Nat
  | 0, _ => []
  | f + 1, n => if n < 10 then [48 + n] else Nt.decF f (n / 10) ++ [48 + n % 10]
def Nt.dec (n : Nat) : List Nat := Nt.decF (n + 1) n
theorem Nt.decF_eq (n : Nat) : ∀ f g : Nat, n < f → n < g → Nt.decF f n = Nt.decF g n := by
  induction n using Nat.strongRecOn with
  | _ n ih =>
    intro f g hf hg
    obtain ⟨f, rfl⟩ : ∃ k, f = k + 1 := ⟨f - 1, by omega⟩
    obtain ⟨g, rfl⟩ : ∃ k, g = k + 1 := ⟨g - 1, by omega⟩
    unfold Nt.decF
    by_cases h : n < 10
    · rw [if_pos h, if_pos h]
    · rw [if_neg h, if_neg h, ih (n / 10) (by omega) f g (by omega) (by omega)]
theorem Nt.dec_small {n : Nat} (h : n < 10) : Nt.dec n = [48 + n] := by
  unfold Nt.dec Nt.decF; rw [if_pos h]
theorem Nt.dec_big {n : Nat} (h : ¬ n < 10) : Nt.dec n = Nt.dec (n / 10) ++ [48 + n % 10] := by
  have e : Nt.dec n = Nt.decF (n + 1) n := rfl
  rw [e, Nt.decF, if_neg h, Nt.decF_eq (n / 10) n (n / 10 + 1) (by omega) (by omega)]; rfl
/-- numbers as a text. -/
def Nt.S (l : List Nat) : ByteArray := ⟨(l.map UInt8.ofNat).toArray⟩
def Nt.D (n : Nat) : ByteArray := Nt.S (Nt.dec n)
/-- the number of a list of digits. -/
def Nt.dv (l : List UInt8) : Nat := l.foldl (fun n b => n * 10 + (b.toNat - 48)) 0
/-- are all of these digits? -/
def Nt.isDig (b : UInt8) : Bool := decide (48 ≤ b.toNat ∧ b.toNat ≤ 57)
end Go.Proofs.YtlpjaflolnggnaaGreatDoor
namespace Go.Proofs.YtlpjaflolnggnaaGreatDoor
open Go.RowKit Go.Shelf

end Go.Proofs.YtlpjaflolnggnaaGreatDoor
namespace Go.Proofs.YtlpjaflolnggnaaGreatDoor
open Go.RowKit Go.Shelf

def digitSet : List UInt8 := [48, 49, 50, 51, 52, 53, 54, 55, 56, 57]
theorem digitSet_has (b : UInt8) : digitSet.contains b = Nt.isDig b := by
  have h : ∀ n : Fin 256, digitSet.contains (UInt8.ofNat n.val) = Nt.isDig (UInt8.ofNat n.val) := by decide +kernel
  have := h ⟨b.toNat, UInt8.toNat_lt b⟩
  rwa [show UInt8.ofNat (⟨b.toNat, UInt8.toNat_lt b⟩ : Fin 256).val = b from UInt8.ofNat_toNat] at this
theorem drop_nil_iff (p : UInt8 → Bool) : ∀ l : List UInt8, l.dropWhile p = [] ↔ ∀ x ∈ l, p x = true
  | [] => by simp
  | b :: r => by
    have ih := drop_nil_iff p r
    by_cases h : p b = true
    · rw [List.dropWhile_cons_of_pos h, ih]
      constructor
      · intro hr x hx
        rcases List.mem_cons.1 hx with rfl | hx
        · exact h
        · exact hr x hx
      · exact fun hr x hx => hr x (List.mem_cons_of_mem _ hx)
    · rw [List.dropWhile_cons_of_neg h]
      constructor
      · intro hr; cases hr
      · intro hr; exact absurd (hr b List.mem_cons_self) h
theorem trimS_nil {l : List UInt8} (h : l.all Nt.isDig = true) : Lib.trimS l digitSet = [] := by
  have h1 : Lib.trimRightS l digitSet = [] := by
    unfold Lib.trimRightS
    rw [List.reverse_eq_nil_iff, drop_nil_iff]
    intro x hx
    rw [List.mem_reverse] at hx
    rw [digitSet_has]
    exact List.all_eq_true.1 h x hx
  unfold Lib.trimS
  rw [h1]; rfl
theorem trimS_some {l : List UInt8} (h : l.all Nt.isDig = false) : Lib.trimS l digitSet ≠ [] := by
  intro hn
  rw [List.all_eq_false] at h
  obtain ⟨x, hx, hb⟩ := h
  have h1 : ∀ y ∈ Lib.trimRightS l digitSet, digitSet.contains y = true := by
    unfold Lib.trimS Lib.trimLeftS at hn
    exact (drop_nil_iff _ _).1 hn
  have h2 : ∀ y ∈ l, digitSet.contains y = true := by
    intro y hy
    have e := List.takeWhile_append_dropWhile (p := (digitSet.contains ·)) (l := l.reverse)
    have hy2 : y ∈ l.reverse := List.mem_reverse.2 hy
    rw [← e, List.mem_append] at hy2
    rcases hy2 with hy2 | hy2
    · have := List.all_takeWhile (p := (digitSet.contains ·)) (l := l.reverse)
      exact List.all_eq_true.1 this y hy2
    · exact h1 y (by unfold Lib.trimRightS; exact List.mem_reverse.2 hy2)
  have := h2 x hx
  rw [digitSet_has] at this
  exact hb this
theorem below_bytesWorld (w : World) (e : TypeId) (s : ByteArray) : Below w.heap.size w (Lib.bytesWorld w e s) := ⟨rfl, rfl, rfl, by rw [Lib.bytesWorld_size]; omega, fun j hj => Lib.bytesWorld_at_old w e s j hj⟩
theorem trim_digits (s : ByteArray) (w : World) (hs : s.size ≤ 9223372036854775807) :
    Calls Tryz.prog 65 #[.string s, .string ⟨#[48, 49, 50, 51, 52, 53, 54, 55, 56, 57]⟩] w fun e w' => e = .returned (.string ⟨(Lib.trimS s.data.toList digitSet).toArray⟩) ∧ Below w.heap.size w w' :=
  Any.strings_Trim_laid Tryz.l160 (by kernel_rfl) s ⟨#[48, 49, 50, 51, 52, 53, 54, 55, 56, 57]⟩ w hs (by decide) (ascii_of_all (by decide))
end Go.Proofs.YtlpjaflolnggnaaGreatDoor
namespace Go.Proofs.YtlpjaflolnggnaaGreatDoor
open Go.RowKit Go.Shelf

/-- the places from behind, as far as j times nine, are n's digits; those ahead are 0. -/
def Nt.tail (n m j i : Nat) : Nat := if m ≤ i + 9 * j then 48 + n / 10 ^ (m - 1 - i) % 10 else 0
end Go.Proofs.YtlpjaflolnggnaaGreatDoor
namespace Go.Proofs.YtlpjaflolnggnaaGreatDoor
open Go.RowKit Go.Shelf

end Go.Proofs.YtlpjaflolnggnaaGreatDoor
namespace Go.Proofs.YtlpjaflolnggnaaGreatDoor
open Go.RowKit Go.Shelf

end Go.Proofs.YtlpjaflolnggnaaGreatDoor
namespace Go.Proofs.YtlpjaflolnggnaaGreatDoor
open Go.RowKit Go.Shelf

end Go.Proofs.YtlpjaflolnggnaaGreatDoor
namespace Go.Proofs.YtlpjaflolnggnaaGreatDoor
open Go.RowKit Go.Shelf

end Go.Proofs.YtlpjaflolnggnaaGreatDoor
