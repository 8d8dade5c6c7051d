/-
  GRAPHS: lists of acts; whatever is set, in whatever order.
-/
import Derived.Test.YtjjpfddgcilliaaGra20
set_option linter.unusedSimpArgs false
set_option linter.unusedVariables false
namespace Go.Proofs.Ytjjpfddgcilliaa
open Go.RowKit Go.Shelf Go.Sort Go.Lib Go.Maps
set_option maxRecDepth 100000

/-- an act: its kind, its cell, its list. -/
abbrev Ac := Int × Ce × List Ce
/-- a list that came in: a slice of nothing may point anywhere. -/
def LstAt (W : World) (v : Value) (l : List Ce) : Prop := CsAt W v l ∨ ∃ a, v = .slice (some a) 0 0 ∧ l = []
theorem LstAt.shape {W : World} {v : Value} {l : List Ce} (h : LstAt W v l) : ∃ a cap, v = .slice a l.length cap := by
  rcases h with h | ⟨a, rfl, rfl⟩
  · obtain ⟨a, cap, h1, _⟩ := h.shape; exact ⟨a, cap, h1⟩
  · exact ⟨some a, 0, rfl⟩
theorem LstAt.once {W : World} {v : Value} {l : List Ce} (h : LstAt W v l) (hn : l.length * 24 ≤ 140737488355328) {w : World} (hb : Below W.heap.size W w) : Calls Try.prog 43 #[v] w (OncePost w l) := by
  rcases h with h | ⟨a, rfl, rfl⟩
  · exact onceC_any v l w (h.below hb) hn
  · exact onceC_zero a w
theorem set_lst (p n : Nat) (S : Nat → Prop) (G : Ce → Option (List Ce)) (x : Ce) (hx : okC x) (v : Value) (l : List Ce) (W w : World) (h : GrAt w S p n G) (hS : ∀ k, S k → k < w.heap.size) (hL : LstAt W v l) (hb : Below W.heap.size W w) (hv : ∀ k, S k → W.heap.size ≤ k) (hl : ∀ y ∈ l, okC y) (hn : (n + 1 + l.length) * 24 ≤ 140737488355328) :
    Calls Try.prog 13 #[.pointer (some ⟨p, 0, none⟩), mkC x, v] w fun e w' => e = .returned (.int .i64 0) ∧ GrAt w' (fun k => S k ∨ w.heap.size ≤ k) p (n + 1 + l.length) (putG G x (onc l)) ∧ Trn S w w' :=
  set_gen p n S G x hx v l w h hS (fun w' ht => hL.once (by omega) (hb.trans (ht.below hb.size hv))) hl hn
/-- the acts of a list, in memory. -/
def ActsAt (W : World) (v : Value) (N : List Ac) : Prop := ∃ (a : Option Addr) (cap : Nat), v = .slice a N.length cap ∧ ∀ k (hk : k < N.length), ∃ g o u, a = some ⟨g, o, none⟩ ∧ g < W.heap.size ∧ W.cell? ⟨g, o + k * 5, none⟩ = some (.int .i64 N[k].1) ∧ W.cell? ⟨g, o + k * 5 + 1, none⟩ = some (.int .i64 N[k].2.1.1) ∧ W.cell? ⟨g, o + k * 5 + 2, none⟩ = some (.int .i64 N[k].2.1.2.1) ∧ W.cell? ⟨g, o + k * 5 + 3, none⟩ = some (.int .i64 N[k].2.1.2.2) ∧ W.cell? ⟨g, o + k * 5 + 4, none⟩ = some u ∧ LstAt W u N[k].2.2 ∧ okC N[k].2.1 ∧ ∀ y ∈ N[k].2.2, okC y

/-! ### what is set, in an order, and in the other -/
theorem take_snoc {α : Type} (N : List α) (k : Nat) (h : k < N.length) : N.take (k + 1) = N.take k ++ [N[k]] := by rw [List.take_add_one, List.getElem?_eq_getElem h]; rfl
end Go.Proofs.Ytjjpfddgcilliaa
