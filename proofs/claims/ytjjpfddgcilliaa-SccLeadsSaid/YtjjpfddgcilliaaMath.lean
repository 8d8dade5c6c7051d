/-
  PLAIN MATHEMATICS OF NATURALS AS TEXTS OF BYTES: val (the number of a list of bytes, the highest first), enc (its shortest list), trim. No program is named here.
  PLAIN MATHEMATICS, FURTHER: words of 32 bits; digits laid one by one.
  PLAIN MATHEMATICS OF PRODUCTS: a digit that is set; words out of bytes; a step of a product.
  PLAIN MATHEMATICS OF PRODUCTS, DIGIT BY DIGIT, IN ANY BASE.
-/

namespace Go.Proofs.Ytjjpfddgcilliaa.Nt

def val : List UInt8 → Nat := List.foldl (fun n b => n * 256 + b.toNat) 0
def encF : Nat → Nat → List UInt8
  | 0, _ => []
  | f + 1, n => if n = 0 then [] else encF f (n / 256) ++ [UInt8.ofNat n]
def enc (n : Nat) : List UInt8 := encF n n
def trim : List UInt8 → List UInt8
  | [] => []
  | b :: l => if b = 0 then trim l else b :: l
def V (s : ByteArray) : Nat := val s.data.toList
def E (n : Nat) : ByteArray := ⟨(enc n).toArray⟩

/-! digits by place -/
def dig (n i : Nat) : Nat := n / 256 ^ i % 256
/-! texts as arrays of bytes -/
end Go.Proofs.Ytjjpfddgcilliaa.Nt
namespace Go.Proofs.Ytjjpfddgcilliaa.Nt
/-! words of 32 bits, the lowest first -/
/-! digits, the lowest first -/
def lb : List Nat → Nat
  | [] => 0
  | x :: l => x + 256 * lb l
/-- the k lowest digits, the lowest first -/
def low (n k : Nat) : List Nat := (List.range k).map (dig n)
end Go.Proofs.Ytjjpfddgcilliaa.Nt
namespace Go.Proofs.Ytjjpfddgcilliaa.Nt

/-! words of 32 bits out of bytes -/
def wd (n j : Nat) : Nat := n / 4294967296 ^ j % 4294967296
end Go.Proofs.Ytjjpfddgcilliaa.Nt
namespace Go.Proofs.Ytjjpfddgcilliaa.Nt

/-- digits of base b, the lowest first. -/
def le (b : Nat) : List Nat → Nat
  | [] => 0
  | x :: l => x + b * le b l
end Go.Proofs.Ytjjpfddgcilliaa.Nt
