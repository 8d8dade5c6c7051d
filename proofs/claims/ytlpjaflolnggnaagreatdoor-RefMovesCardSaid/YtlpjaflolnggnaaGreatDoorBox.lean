/-
  BOXES: what a cell holds behind an alloc, a store elsewhere, a call.
-/
import Derived.Test.YtlpjaflolnggnaaGreatDoorMul
import Derived.Deep.RegionWith
import Derived.Deep.RegionHeld3
import Derived.Lib.SliceRun
import Derived.KernelRfl
namespace Go.Proofs.YtlpjaflolnggnaaGreatDoor
set_option linter.unusedSimpArgs false
set_option linter.unusedVariables false
open Go.RowKit Go.Shelf

theorem bcell {W w1 : World} (hb : Below W.heap.size W w1) : (∀ b o, b < W.heap.size → w1.cell? ⟨b, o, none⟩ = W.cell? ⟨b, o, none⟩) ∧ (∀ b o, b < W.heap.size → w1.frozen? ⟨b, o, none⟩ = W.frozen? ⟨b, o, none⟩) :=
  ⟨fun b o h => hb.cell (p := ⟨b, o, none⟩) h, fun b o h => hb.frozen (p := ⟨b, o, none⟩) h⟩
theorem alK {W : World} {o : Obj} {a : Addr} {v : Value} (h : W.cell? a = some v) : (W.alloc o).cell? a = some v := by rw [World.cell?_alloc_some _ _ _ (by rw [h]; rfl), h]
theorem alF {W : World} {o : Obj} {b j : Nat} (z : b < W.heap.size) (h : W.frozen? ⟨b, j, none⟩ = false) : (W.alloc o).frozen? ⟨b, j, none⟩ = false := by simp [go_sem, z, h]
theorem stK {W : World} {p : Addr} {b o : Nat} {u v : Value} (h : W.cell? ⟨b, o, none⟩ = some v) (hp : p.block ≠ b) : (W.setCell p u).cell? ⟨b, o, none⟩ = some v := by rw [World.cell?_setCell_far _ _ _ _ hp, h]
theorem belK {a w : World} {p : Addr} {v : Value} (hb : Below a.heap.size a w) (h : a.cell? p = some v) (z : p.block < a.heap.size) : w.cell? p = some v := (hb.cell z).trans h
theorem belF {a w : World} {p : Addr} {v : Bool} (hb : Below a.heap.size a w) (h : a.frozen? p = v) (z : p.block < a.heap.size) : w.frozen? p = v := (hb.frozen z).trans h
theorem al_below {s W : World} {o : Obj} (h : Below s.heap.size s W) : Below s.heap.size s (W.alloc o) := h.alloc h.size o
theorem set_below {s W : World} {p : Addr} {v : Value} (h : Below s.heap.size s W) (hp : s.heap.size ≤ p.block) : Below s.heap.size s (W.setCell p v) := h.setCell hp v
end Go.Proofs.YtlpjaflolnggnaaGreatDoor
