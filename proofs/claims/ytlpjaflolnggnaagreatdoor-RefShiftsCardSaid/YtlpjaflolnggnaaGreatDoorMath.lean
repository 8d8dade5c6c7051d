/-
  PLAIN MATHEMATICS OF NATURALS AS TEXTS OF BYTES: val (the number of a list of bytes, the highest first), enc (its shortest list), trim. No program is named here.
  PLAIN MATHEMATICS, FURTHER: words of 32 bits; digits laid one by one.
  PLAIN MATHEMATICS OF PRODUCTS: a digit that is set; words out of bytes; a step of a product.
  PLAIN MATHEMATICS OF PRODUCTS, DIGIT BY DIGIT, IN ANY BASE.
  THE WALKS OF TRIMMING: bytes 0 ahead are taken off, in the program and in the document's answer.
  A REGION THAT DRAWS ITS ORDER, IN A ROUND OF A RANGE OVER A FUNCTION: reads and quiet calls ahead of a tail that is in order.
  THE ITERATOR OVER A TEXT'S DIGITS FROM BEHIND: its contract, for every loop body.
  MEMORY THAT A CALL MAKES: blocks that are known whole, of numbers of one kind; a text made of bytes.
  SMALL NUMBERS: a text below 2^64 as a number, and back.
  THE DOCUMENT'S ANSWERS FOR SMALL NUMBERS: Small, Byte, Of, Bits; the program's Of and Bits.
  WORDS OF 32 BITS AS A TEXT; a small number as a text.
  THE DOCUMENT'S ANSWERS FOR SUMS AND DIFFERENCES: at, turned, Add, Cmp, Sub.
  NUMBERS HELD AGAINST EACH OTHER: in the program, and in the document's answer.
  THE DOCUMENT'S ANSWER FOR DIFFERENCES.
  A RANGE OVER A TEXT'S DIGITS FROM BEHIND, FOR ITS CALLERS: what is owed is what holds between two rounds, and one round.
  A TEXT's DIGITS, FOUR BY FOUR.
  SUMS IN THE PROGRAM.
  DIFFERENCES IN THE PROGRAM.
-/
import Derived.Test.YtlpjaflolnggnaaGreatDoorRows
import Derived.WalkKit
import Derived.WalkSpells
import Derived.WalkLawsBesides
import Derived.BigQuiet
import Derived.Deep.QuietTactic
import Derived.Lib.Hide
import Derived.RangeFuncNested
import Derived.StillTailTactics
import Derived.Shelf.Abstract
import Derived.OwnWalkIn
import Derived.TacticsInMore
import Derived.RangeFuncBound
import Derived.RangeFuncCalls
import Derived.RangeFuncLeaves
import Derived.RangeFuncBox
import Derived.Shelf.RegionOpen
import Derived.LoopNIn
import Derived.LoopIn
import Derived.Below
import Derived.Laws.OwnMore
import Derived.Deep.Draws
import Derived.Deep.OwnRows
import Derived.Laws.Rows
import Derived.Laws.BytesArg
import Derived.Maps.AppendAt
import Derived.Deep.AppendLies
import Derived.IntWalk
import Derived.Deep.RegionWith
import Derived.Lib.Small
import Derived.Lib.BitFns


namespace Go.Proofs.YtlpjaflolnggnaaGreatDoor.Nt

def val : List UInt8 → Nat := List.foldl (fun n b => n * 256 + b.toNat) 0
def encF : Nat → Nat → List UInt8
  | 0, _ => []
  | f + 1, n => if n = 0 then [] else encF f (n / 256) ++ [UInt8.ofNat n]
def enc (n : Nat) : List UInt8 := encF n n
def trim : List UInt8 → List UInt8
  | [] => []
  | b :: l => if b = 0 then trim l else b :: l
def V (s : ByteArray) : Nat := val s.data.toList
def E (n : Nat) : ByteArray := ⟨(enc n).toArray⟩

/-! digits by place -/
def dig (n i : Nat) : Nat := n / 256 ^ i % 256
/-- the m lowest digits, the highest first -/
def be (n : Nat) : Nat → List UInt8
  | 0 => []
  | m + 1 => UInt8.ofNat (dig n m) :: be n m
/-! texts as arrays of bytes -/
/-- what is left above the k lowest digits -/
def sh (n k : Nat) : Nat := n / 256 ^ k
end Go.Proofs.YtlpjaflolnggnaaGreatDoor.Nt
namespace Go.Proofs.YtlpjaflolnggnaaGreatDoor.Nt
/-! words of 32 bits, the lowest first -/
/-! digits, the lowest first -/
end Go.Proofs.YtlpjaflolnggnaaGreatDoor.Nt
namespace Go.Proofs.YtlpjaflolnggnaaGreatDoor.Nt

/-! words of 32 bits out of bytes -/
def wd (n j : Nat) : Nat := n / 4294967296 ^ j % 4294967296
def wds (n m : Nat) : List Nat := (List.range m).map (wd n)
end Go.Proofs.YtlpjaflolnggnaaGreatDoor.Nt
namespace Go.Proofs.YtlpjaflolnggnaaGreatDoor.Nt

end Go.Proofs.YtlpjaflolnggnaaGreatDoor.Nt
namespace Go.Proofs.YtlpjaflolnggnaaGreatDoor
set_option linter.unusedSimpArgs false
set_option linter.unusedVariables false
open Go.RowKit

theorem ret_str {a b : ByteArray} (h : a = b) : Ending.returned (.string a) = .returned (.string b) := by rw [h]
theorem ret_int {k : IntKind} {a b : Int} (h : a = b) : Ending.returned (.int k a) = .returned (.int k b) := by rw [h]
theorem ret_bool {a b : Bool} (h : a = b) : Ending.returned (.bool a) = .returned (.bool b) := by rw [h]

end Go.Proofs.YtlpjaflolnggnaaGreatDoor
namespace Go.Proofs.YtlpjaflolnggnaaGreatDoor
open Go.RowKit

section
variable {P : Program} {md : Region.Mode} {ops : Array Oper} {Q : Exit → Act → World → Prop} {lr m : Nat}

end
end Go.Proofs.YtlpjaflolnggnaaGreatDoor
namespace Go.Proofs.YtlpjaflolnggnaaGreatDoor
open Go.RowKit Go.Shelf
attribute [local go_sem] Oper.semAt_some

/-- what a round keeps: the box that holds the text. -/
def KeepsBox (Bs : Nat) (A B : World) : Prop := ∀ v, A.cell? ⟨Bs, 0, none⟩ = some v → B.cell? ⟨Bs, 0, none⟩ = some v
theorem KeepsBox.refl (Bs : Nat) (A : World) : KeepsBox Bs A A := fun _ h => h
theorem KeepsBox.trans {Bs : Nat} {A B C : World} (h : KeepsBox Bs A B) (k : KeepsBox Bs B C) : KeepsBox Bs A C := fun v hv => k v (h v hv)
theorem KeepsBox.drew {Bs : Nat} {A B : World} (h : KeepsBox Bs A B) : KeepsBox Bs A B.drew := h
theorem KeepsBox.setCell {Bs : Nat} {A B : World} (h : KeepsBox Bs A B) {p : Addr} (hp : p.block ≠ Bs) (u : Value) : KeepsBox Bs A (B.setCell p u) :=
  fun v hv => (World.cell?_setCell_other B p ⟨Bs, 0, none⟩ u (fun e => hp (by rw [e]))).trans (h v hv)
end Go.Proofs.YtlpjaflolnggnaaGreatDoor
namespace Go.Proofs.YtlpjaflolnggnaaGreatDoor
open Go.RowKit

/-- block g holds just the cells cs, of element type t. -/
def Blk (w : World) (g : Nat) (t : TypeId) (cs : Array Value) : Prop := w.heap[g]? = some (.cells cs t (0, 0))
/-- numbers of one kind, as cells. -/
def kV (k : IntKind) (l : List Nat) : Array Value := (l.map fun n : Nat => Value.int k (n : Int)).toArray

section
variable {w w' : World} {g : Nat} {t : TypeId} {cs : Array Value}
theorem Blk.lt (h : Blk w g t cs) : g < w.heap.size := by
  rcases Nat.lt_or_ge g w.heap.size with hlt | hge
  · exact hlt
  · unfold Blk at h; rw [Array.getElem?_eq_none hge] at h; cases h
theorem Blk.cell (h : Blk w g t cs) (i : Nat) : w.cell? ⟨g, i, none⟩ = cs[i]? := cell_of_row w g i cs t (0, 0) h
theorem Blk.frozen (h : Blk w g t cs) (i : Nat) : w.frozen? ⟨g, i, none⟩ = false := by
  unfold Blk at h
  simp [World.frozen?, h]
theorem Blk.drew (h : Blk w g t cs) : Blk w.drew g t cs := h
theorem Blk.drewN (h : Blk w g t cs) (n : Nat) : Blk (w.drewN n) g t cs := h
theorem Blk.alloc (h : Blk w g t cs) (o : Obj) : Blk (w.alloc o) g t cs := (Below.heap_alloc w o g h.lt).trans h
theorem Blk.put (h : Blk w g t cs) (i : Nat) (u : Value) : Blk (w.setCell ⟨g, i, none⟩ u) g t (cs.setIfInBounds i u) := by
  unfold Blk at h ⊢
  simp [World.setCell, Array.getElem?_modify, h]
theorem Blk.below {B : Nat} (h : Blk w g t cs) (hb : Below B w w') (hg : g < B) : Blk w' g t cs := (hb.block g hg).trans h
theorem Blk.grown {row : Option Nat} (h : Blk w g t cs) (hb : w.grownBy w' row) (hg : some g ≠ row) : Blk w' g t cs := (hb.block g h.lt hg).trans h
theorem Blk.turned (h : Blk w g t cs) {row : Option Nat} (hg : w.grownBy w' row) (hr : ∀ r, row = some r → ∃ o : Obj, w.heap[r]? = some o ∧ o.isCells = false) : Blk w' g t cs :=
  h.grown hg (fun e => by
    obtain ⟨o, ho, hc⟩ := hr g e.symm
    unfold Blk at h
    rw [h] at ho; cases ho; cases hc)
end

end Go.Proofs.YtlpjaflolnggnaaGreatDoor
namespace Go.Proofs.YtlpjaflolnggnaaGreatDoor
open Go.RowKit Go.Shelf
attribute [local go_sem] Oper.semAt_some

end Go.Proofs.YtlpjaflolnggnaaGreatDoor
namespace Go.Proofs.YtlpjaflolnggnaaGreatDoor
open Go.RowKit Go.Shelf

end Go.Proofs.YtlpjaflolnggnaaGreatDoor
namespace Go.Proofs.YtlpjaflolnggnaaGreatDoor
open Go.RowKit Go.Shelf

end Go.Proofs.YtlpjaflolnggnaaGreatDoor
namespace Go.Proofs.YtlpjaflolnggnaaGreatDoor
open Go.RowKit Go.Shelf

end Go.Proofs.YtlpjaflolnggnaaGreatDoor
namespace Go.Proofs.YtlpjaflolnggnaaGreatDoor
open Go.RowKit Go.Shelf

namespace Nt
end Nt
end Go.Proofs.YtlpjaflolnggnaaGreatDoor
namespace Go.Proofs.YtlpjaflolnggnaaGreatDoor
open Go.RowKit Go.Shelf

end Go.Proofs.YtlpjaflolnggnaaGreatDoor
namespace Go.Proofs.YtlpjaflolnggnaaGreatDoor
open Go.RowKit Go.Shelf

end Go.Proofs.YtlpjaflolnggnaaGreatDoor
namespace Go.Proofs.YtlpjaflolnggnaaGreatDoor
open Go.RowKit Go.Shelf
attribute [local go_sem] Oper.semAt_some

end Go.Proofs.YtlpjaflolnggnaaGreatDoor
namespace Go.Proofs.YtlpjaflolnggnaaGreatDoor
open Go.RowKit Go.Shelf
attribute [local go_sem] Oper.semAt_some

/-- the memory of a sum between two rounds. -/
structure AddMem (x y : ByteArray) (B : Nat) (s : Nat × List Nat) (W : World) : Prop where
  bx : Blk W B 9 #[.string x]
  by_ : Blk W (B + 1) 9 #[.string y]
  dat : Blk W (B + 1 + 1) 5 (kV .u8 s.2)
  sl : Blk W (B + 1 + 1 + 1) 62 #[.slice (some ⟨B + 1 + 1, 0, none⟩) (x.size + 1) (x.size + 1)]
  cr : Blk W (B + 1 + 1 + 1 + 1) 95 #[.int .u64 (s.1 : Int)]
theorem AddMem.own (x y : ByteArray) (B : Nat) (f : List (Fin x.size) → Nat × List Nat) : Own (fun pre W => AddMem x y B (f pre) W) :=
  fun _ _ _ _ hs hg hr => ⟨hs.bx.turned hg hr, hs.by_.turned hg hr, hs.dat.turned hg hr, hs.sl.turned hg hr, hs.cr.turned hg hr⟩

end Go.Proofs.YtlpjaflolnggnaaGreatDoor
namespace Go.Proofs.YtlpjaflolnggnaaGreatDoor
open Go.RowKit Go.Shelf
attribute [local go_sem] Oper.semAt_some

structure SubMem (x y : ByteArray) (A B : Nat) (s : Nat × List Nat) (W : World) : Prop where
  bx : Blk W A 9 #[.string x]
  by_ : Blk W (A + 1) 9 #[.string y]
  dat : Blk W B 5 (kV .u8 s.2)
  sl : Blk W (B + 1) 62 #[.slice (some ⟨B, 0, none⟩) x.size x.size]
  br : Blk W (B + 1 + 1) 3 #[.int .i64 (s.1 : Int)]
theorem SubMem.own (x y : ByteArray) (A B : Nat) (f : List (Fin x.size) → Nat × List Nat) : Own (fun pre W => SubMem x y A B (f pre) W) :=
  fun _ _ _ _ hs hg hr => ⟨hs.bx.turned hg hr, hs.by_.turned hg hr, hs.dat.turned hg hr, hs.sl.turned hg hr, hs.br.turned hg hr⟩

end Go.Proofs.YtlpjaflolnggnaaGreatDoor
