/-
  LAYER 10, ADDRESSES: the plain mathematics: what is in the grid, columns' letters, addresses and back.
-/
import Derived.Test.YtlpjaflolnggnaaGreatDoorDec1
namespace Go.Proofs.YtlpjaflolnggnaaGreatDoor
set_option linter.unusedSimpArgs false
set_option linter.unusedVariables false
open Go.RowKit Go.Shelf

/-- is a cell in the grid? -/
def inG (c r : Int) : Bool := decide (1 ≤ c) && decide (c ≤ 52) && decide (1 ≤ r) && decide (r ≤ 99)
theorem inG_iff (c r : Int) : inG c r = true ↔ 1 ≤ c ∧ c ≤ 52 ∧ 1 ≤ r ∧ r ≤ 99 := by
  unfold inG; simp only [Bool.and_eq_true, decide_eq_true_eq, and_assoc]
/-- a column's letters. -/
def colL (n : Nat) : List UInt8 := if n = 0 ∨ 52 < n then [] else if n ≤ 26 then [UInt8.ofNat (64 + n)] else [65, UInt8.ofNat (38 + n)]
def colT (n : Nat) : ByteArray := ⟨(colL n).toArray⟩
/-- the column that has these letters, from n on; 0: none. -/
def colFrom (s : ByteArray) : Nat → Nat → Nat
  | 0, _ => 0
  | f + 1, n => if colT n = s then n else colFrom s f (n + 1)
def colF (s : ByteArray) : Nat := colFrom s 52 1
def isUp (b : UInt8) : Bool := decide (65 ≤ b.toNat ∧ b.toNat ≤ 90)
/-- does it look like a row? -/
def rowOk (l : List UInt8) : Bool := decide (1 ≤ l.length) && decide (l.length ≤ 3) && !(l.headD 0 == 48) && l.all Nt.isDig
/-- column, row, error. -/
def adrP (s : ByteArray) : Nat × Nat × Nat :=
  let a := s.data.toList.takeWhile isUp
  let d := s.data.toList.dropWhile isUp
  if 1 ≤ a.length ∧ a.length ≤ 2 ∧ rowOk d = true then (if inG (colF ⟨a.toArray⟩ : Nat) (Nt.dv d : Nat) then (colF ⟨a.toArray⟩, Nt.dv d, 0) else (0, 0, 6)) else (0, 0, 10)

theorem colT_neg {n : Nat} (h : n = 0 ∨ 52 < n) : colT n = ⟨#[]⟩ := by unfold colT colL; rw [if_pos h]
end Go.Proofs.YtlpjaflolnggnaaGreatDoor
