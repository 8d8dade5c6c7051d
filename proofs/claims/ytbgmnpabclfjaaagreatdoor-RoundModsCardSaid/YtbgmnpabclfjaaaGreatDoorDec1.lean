/-
  PLAIN MATHEMATICS OF DECIMAL DIGITS: dcs (so many digits of a number), dec (its digits without a 0 ahead), dv (the number of digits).
  TEXTS AS NUMBERS: the document's Parse, and the program's.
  TEXTS AS NUMBERS: the program's Parse.
  NUMBERS IN DIGITS: the program's Text.
  NUMBERS IN DIGITS: the program's Text, how many digits.
  HOW OFTEN A NUMBER DIVIDES: the program's takeOut, Twos.
  HOW OFTEN 2 AND 5 DIVIDE A NUMBER: the program's Twos.
  NUMBERS IN DIGITS, AND HOW OFTEN 2 AND 5 DIVIDE THEM: the document's answers.
  LAYER 3's STATEMENTS, WALKED: texts as numbers.
-/
import Derived.Test.YtbgmnpabclfjaaaGreatDoorMath
import Derived.Test.YtbgmnpabclfjaaaGreatDoorShelf2
import Derived.Test.YtbgmnpabclfjaaaGreatDoorLong1
import Derived.Deep.RegionWith
namespace Go.Proofs.YtbgmnpabclfjaaaGreatDoor

/-- m decimal digits of n, as bytes' numbers, the highest first. -/
def Nt.dcs (n : Nat) : Nat → List Nat
  | 0 => []
  | m + 1 => Nt.dcs (n / 10) m ++ [48 + n % 10]
/-- n's decimal digits, without a 0 ahead; of 0 one. -/
def Nt.decF : Nat → Nat → List Nat
  | 0, _ => []
  | f + 1, n => if n < 10 then [48 + n] else Nt.decF f (n / 10) ++ [48 + n % 10]
def Nt.dec (n : Nat) : List Nat := Nt.decF (n + 1) n
/-- numbers as a text. -/
def Nt.S (l : List Nat) : ByteArray := ⟨(l.map UInt8.ofNat).toArray⟩
def Nt.D (n : Nat) : ByteArray := Nt.S (Nt.dec n)
/-- the number of a list of digits. -/
def Nt.dv (l : List UInt8) : Nat := l.foldl (fun n b => n * 10 + (b.toNat - 48)) 0
end Go.Proofs.YtbgmnpabclfjaaaGreatDoor
namespace Go.Proofs.YtbgmnpabclfjaaaGreatDoor
open Go.RowKit Go.Shelf

end Go.Proofs.YtbgmnpabclfjaaaGreatDoor
namespace Go.Proofs.YtbgmnpabclfjaaaGreatDoor
open Go.RowKit Go.Shelf

end Go.Proofs.YtbgmnpabclfjaaaGreatDoor
namespace Go.Proofs.YtbgmnpabclfjaaaGreatDoor
open Go.RowKit Go.Shelf

/-- the places from behind, as far as j times nine, are n's digits; those ahead are 0. -/
def Nt.tail (n m j i : Nat) : Nat := if m ≤ i + 9 * j then 48 + n / 10 ^ (m - 1 - i) % 10 else 0
end Go.Proofs.YtbgmnpabclfjaaaGreatDoor
namespace Go.Proofs.YtbgmnpabclfjaaaGreatDoor
open Go.RowKit Go.Shelf

end Go.Proofs.YtbgmnpabclfjaaaGreatDoor
namespace Go.Proofs.YtbgmnpabclfjaaaGreatDoor
open Go.RowKit Go.Shelf

/-- p divides n just k times. -/
def Nt.IsVl (p n k : Nat) : Prop := p ^ k ∣ n ∧ ¬ p ^ (k + 1) ∣ n
theorem Nt.IsVl.le {p n k l : Nat} (h : Nt.IsVl p n k) (h' : Nt.IsVl p n l) : k ≤ l := by
  rcases Nat.lt_or_ge l k with hlt | hge
  · exact absurd (Nat.dvd_trans (Nat.pow_dvd_pow p hlt) h.1) h'.2
  · exact hge
theorem Nt.IsVl.eq {p n k l : Nat} (h : Nt.IsVl p n k) (h' : Nt.IsVl p n l) : k = l := Nat.le_antisymm (h.le h') (h'.le h)
end Go.Proofs.YtbgmnpabclfjaaaGreatDoor
namespace Go.Proofs.YtbgmnpabclfjaaaGreatDoor
open Go.RowKit Go.Shelf

end Go.Proofs.YtbgmnpabclfjaaaGreatDoor
namespace Go.Proofs.YtbgmnpabclfjaaaGreatDoor
open Go.RowKit Go.Shelf

end Go.Proofs.YtbgmnpabclfjaaaGreatDoor
namespace Go.Proofs.YtbgmnpabclfjaaaGreatDoor
open Go.RowKit Go.Shelf

end Go.Proofs.YtbgmnpabclfjaaaGreatDoor
