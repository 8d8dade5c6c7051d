/-
  THE PROGRAM: twoTo, Shl.
  THE PROGRAM: Root, out of what DivMod answers.
  LIMBS: trim.
  PLAIN MATHS FOR A DIVISION BY ONE LIMB.
  LIMBS AS NUMBERS.
  A DIVISION BY ONE LIMB.
  THE PROGRAM: DivMod, Gcd, out of what the limbs' functions answer.
  THE PROGRAM: Gcd, out of what the limbs' functions answer.
  PLAIN MATHS: four digits of a text are a word; the list of words grows.
  A TEXT's LIMBS.
  FOUR DIGITS AT A TIME.
  LIMBS AS A TEXT.
  PLAIN MATHS FOR A LONG DIVISION: windows of words, carries, borrows, a guessed digit.
  PLAIN MATHS FOR A LONG DIVISION: a borrow's bit, shifts of words, what is left round by round.
  WORDS IN THE PROGRAM: a difference and a sum of two with what is owed, and limbs that are shifted up and down.
  LIMBS IN THE PROGRAM: a number that is taken away from a window so many times, and one that is put back.
  LIMBS IN THE PROGRAM: a digit that is guessed.
  LIMBS IN THE PROGRAM: a digit that is guessed, out of limbs.
-/
import Derived.Test.YtlpjaflolnggnaaGreatDoorShelf
import Derived.Test.YtlpjaflolnggnaaGreatDoorMul
import Derived.Deep.RegionWith
import Derived.Test.YtlpjaflolnggnaaGreatDoorMath
import Derived.Laws.MakeOwn
import Derived.Laws.BitsAllLaws
import Derived.Deep.QuietTactic
import Derived.BigQuiet
namespace Go.Proofs.YtlpjaflolnggnaaGreatDoor
set_option linter.unusedSimpArgs false
set_option linter.unusedVariables false
open Go.RowKit Go.Shelf

end Go.Proofs.YtlpjaflolnggnaaGreatDoor
namespace Go.Proofs.YtlpjaflolnggnaaGreatDoor
open Go.RowKit Go.Shelf

end Go.Proofs.YtlpjaflolnggnaaGreatDoor
namespace Go.Proofs.YtlpjaflolnggnaaGreatDoor
open Go.RowKit Go.Shelf

/-- a block's first cells hold the limbs l. -/
def Lm (w : World) (g : Nat) (l : List Nat) : Prop := ∀ i (h : i < l.length), w.cell? ⟨g, i, none⟩ = some (.int .u32 ((l[i]'h : Nat) : Int))
theorem Lm.take {w : World} {g : Nat} {l : List Nat} (h : Lm w g l) (k : Nat) : Lm w g (l.take k) := fun i hi => by
  have hi' : i < l.length := by rw [List.length_take] at hi; omega
  rw [h i hi', List.getElem_take]
end Go.Proofs.YtlpjaflolnggnaaGreatDoor
namespace Go.Proofs.YtlpjaflolnggnaaGreatDoor
open Go.RowKit Go.Shelf

end Go.Proofs.YtlpjaflolnggnaaGreatDoor
namespace Go.Proofs.YtlpjaflolnggnaaGreatDoor
open Go.RowKit Go.Shelf

/-- a limbs' value is the number N: none at all, or a block's first cells, no 0 at the end. -/
def Lim (w : World) (v : Value) (N : Nat) : Prop := (v = .slice none 0 0 ∧ N = 0) ∨
  ∃ g k cap, v = .slice (some ⟨g, 0, none⟩) k cap ∧ k ≤ cap ∧ g < w.heap.size ∧ Lm w g (Nt.wds N k) ∧ N < 4294967296 ^ k ∧ (k = 0 ∨ 4294967296 ^ (k - 1) ≤ N)
theorem Lm.below {w w' : World} {B g : Nat} {l : List Nat} (h : Lm w g l) (hb : Below B w w') (hg : g < B) : Lm w' g l := fun i hi => (hb.cell (p := ⟨g, i, none⟩) hg).trans (h i hi)
theorem Lim.below {w w' : World} {B : Nat} {v : Value} {N : Nat} (h : Lim w v N) (hb : Below B w w') (hB : w.heap.size ≤ B) : Lim w' v N := by
  rcases h with h | ⟨g, k, cap, h1, h2, h3, h4, h5⟩
  · exact Or.inl h
  · exact Or.inr ⟨g, k, cap, h1, h2, by have := hb.size; omega, h4.below hb (by omega), h5⟩

end Go.Proofs.YtlpjaflolnggnaaGreatDoor
namespace Go.Proofs.YtlpjaflolnggnaaGreatDoor
open Go.RowKit Go.Shelf
end Go.Proofs.YtlpjaflolnggnaaGreatDoor
namespace Go.Proofs.YtlpjaflolnggnaaGreatDoor
open Go.RowKit Go.Shelf

end Go.Proofs.YtlpjaflolnggnaaGreatDoor
namespace Go.Proofs.YtlpjaflolnggnaaGreatDoor
open Go.RowKit Go.Shelf

end Go.Proofs.YtlpjaflolnggnaaGreatDoor
namespace Go.Proofs.YtlpjaflolnggnaaGreatDoor
open Go.RowKit Go.Shelf

end Go.Proofs.YtlpjaflolnggnaaGreatDoor
namespace Go.Proofs.YtlpjaflolnggnaaGreatDoor
open Go.RowKit Go.Shelf

end Go.Proofs.YtlpjaflolnggnaaGreatDoor
namespace Go.Proofs.YtlpjaflolnggnaaGreatDoor
open Go.RowKit Go.Shelf

end Go.Proofs.YtlpjaflolnggnaaGreatDoor
namespace Go.Proofs.YtlpjaflolnggnaaGreatDoor
open Go.RowKit Go.Shelf

end Go.Proofs.YtlpjaflolnggnaaGreatDoor
namespace Go.Proofs.YtlpjaflolnggnaaGreatDoor
open Go.RowKit Go.Shelf

/-! shifts of words. -/
end Go.Proofs.YtlpjaflolnggnaaGreatDoor
namespace Go.Proofs.YtlpjaflolnggnaaGreatDoor
open Go.RowKit Go.Shelf

end Go.Proofs.YtlpjaflolnggnaaGreatDoor
namespace Go.Proofs.YtlpjaflolnggnaaGreatDoor
open Go.RowKit Go.Shelf

end Go.Proofs.YtlpjaflolnggnaaGreatDoor
namespace Go.Proofs.YtlpjaflolnggnaaGreatDoor
open Go.RowKit Go.Shelf

/-- all but the block G is as it was, and there is no new one. -/
structure Only (G : Nat) (w w' : World) : Prop where
  os : w'.os = w.os
  tape : w'.tape = w.tape
  output : w'.output = w.output
  size : w'.heap.size = w.heap.size
  block : ∀ k, k ≠ G → w'.heap[k]? = w.heap[k]?
theorem Only.refl (G : Nat) (w : World) : Only G w w := ⟨rfl, rfl, rfl, rfl, fun _ _ => rfl⟩
theorem Only.setCell {G : Nat} {a w : World} (h : Only G a w) (i : Nat) (u : Value) : Only G a (w.setCell ⟨G, i, none⟩ u) :=
  ⟨h.os, h.tape, h.output, (by simp [World.setCell]; exact h.size), fun k hk => (Below.heap_setCell w ⟨G, i, none⟩ u k hk).trans (h.block k hk)⟩
theorem Only.trans {G : Nat} {a b c : World} (h : Only G a b) (k : Only G b c) : Only G a c :=
  ⟨k.os.trans h.os, k.tape.trans h.tape, k.output.trans h.output, k.size.trans h.size, fun i hi => (k.block i hi).trans (h.block i hi)⟩
theorem Only.below {G B : Nat} {a b : World} (h : Only G a b) (hB : B ≤ G) : Below B a b := ⟨h.os, h.tape, h.output, Nat.le_of_eq h.size.symm, fun k hk => h.block k (by omega)⟩
theorem Only.cell {G : Nat} {a b : World} (h : Only G a b) {p : Addr} (hp : p.block ≠ G) : b.cell? p = a.cell? p := World.cell?_of_block (w := a) (h.block p.block hp)
end Go.Proofs.YtlpjaflolnggnaaGreatDoor
namespace Go.Proofs.YtlpjaflolnggnaaGreatDoor
open Go.RowKit Go.Shelf

end Go.Proofs.YtlpjaflolnggnaaGreatDoor
namespace Go.Proofs.YtlpjaflolnggnaaGreatDoor
open Go.RowKit Go.Shelf

end Go.Proofs.YtlpjaflolnggnaaGreatDoor
