/-
  LAYER 1's STATEMENTS, WALKED: each returns true, and nothing that lay has turned.
  LAYER 1's THIRD STATEMENT, WALKED.
-/
import Derived.Test.YtjbpipbmcicjiaaGreatDoorAdd
import Derived.Test.YtjbpipbmcicjiaaGreatDoorMul
import Derived.Test.YtjbpipbmcicjiaaGreatDoorCmp
namespace Go.Proofs.YtjbpipbmcicjiaaGreatDoor
open Go.RowKit Go.Shelf

theorem chain {P : Program} {f : FuncId} {args : Array Value} {w0 w : World} {r : Ending} (hB : Below w0.heap.size w0 w) (h : Calls P f args w fun e w' => e = r ∧ Below w.heap.size w w') :
    Calls P f args w fun e w' => e = r ∧ Below w0.heap.size w0 w' :=
  h.mono fun _ _ ⟨he, hb⟩ => ⟨he, hB.trans (hb.mono hB.size)⟩

end Go.Proofs.YtjbpipbmcicjiaaGreatDoor
namespace Go.Proofs.YtjbpipbmcicjiaaGreatDoor
open Go.RowKit Go.Shelf

theorem E_le {n k : Nat} (h : n < 256 ^ k) : (Nt.E n).size ≤ k := Nt.enc_length_le h
theorem V_lt_of {a : ByteArray} {k : Nat} (h : a.size ≤ k) : Nt.V a < 256 ^ k := Nat.lt_of_lt_of_le (Nt.V_lt a) (Nat.pow_le_pow_right (by omega) h)
theorem add_lt {x y k : Nat} (hx : x < 256 ^ k) (hy : y < 256 ^ k) : x + y < 256 ^ (k + 1) := by rw [Nat.pow_succ]; omega
theorem mul_lt {x y k l : Nat} (hx : x < 256 ^ k) (hy : y < 256 ^ l) : x * y < 256 ^ (k + l) := by
  rw [Nat.pow_add]
  exact Nat.mul_lt_mul_of_le_of_lt (Nat.le_of_lt hx) hy (Nat.pow_pos (by omega))
end Go.Proofs.YtjbpipbmcicjiaaGreatDoor
