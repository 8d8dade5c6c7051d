/-
  A RANGE OVER A TEXT'S DIGITS FROM BEHIND, FOR ITS CALLERS: what is owed is what holds between two rounds, and one round.
-/
import Derived.Test.YtolbbmnhcgoooaaDoorIter
import Derived.Test.YtolbbmnhcgoooaaDoorRound
import Derived.Test.YtolbbmnhcgoooaaDoorMem
import Derived.Test.YtolbbmnhcgoooaaDoorMath2
import Derived.IntWalk
namespace Go.Proofs.YtolbbmnhcgoooaaDoor
open Go.RowKit Go.Shelf

theorem wp_behind {g : Operand} {ps : Array Tmp} {assign body : Code} {Q : Exit → Act → World → Prop} {a : Act} {w : World} (s : ByteArray) (Bs : Nat)
    (hg : a.eval g = .func (.func 60) #[] #[.pointer (some ⟨Bs, 0, none⟩)]) (hs : s.size ≤ maxLen) (hBs : Bs < w.heap.size) (hc : w.cell? ⟨Bs, 0, none⟩ = some (.string s)) (hps : ps.size = 2)
    (I : List (Fin s.size) → World → Prop) (hI : OwnFrom w.heap.size I) (h0 : I [] w)
    (h : ∃ a₁ : Fin s.size → Act, (∀ (l : Nat) (x : Fin s.size) (W : World) (K : Act → World → Prop), K (a₁ x) W →
        assign.wpIn (Fence.wide.inRound l) 1 Tryd.prog (Exit.then K (fun _ _ _ => False)) { tmps := (ps.zip (dgs s x)).foldl (fun t (p, v) => t.setIfInBounds p v) a.tmps, defers := [] } W) ∧
      (∀ (l : Nat) (pre : List (Fin s.size)) (x : Fin s.size) (W : World), I pre W → body.wpIn (Fence.wide.inRound l) 1 Tryd.prog (ownPostK (KeepsBox Bs) I (fun _ _ _ => False) (pre ++ [x]) W) (a₁ x) W))
    (hdone : ∀ (D : Nat) (W : World), w.heap.size ≤ D → I (List.finRange s.size) W → W.heap[D]? = some (.deferred (some [])) → Q .normal { a with defers := { target := .collected D, args := #[] } :: a.defers } W) :
    (Code.rangeFunc g ps assign body).wpIn Fence.wide 3 Tryd.prog Q a w := by
  obtain ⟨a₁, h1, h2⟩ := h
  refine wpIn_rangeFunc_ownF rfl (by omega) (gf := 60) (lb := #[.pointer (some ⟨Bs, 0, none⟩)]) hg trivial (enters_of Tryd.func60 (by kernel_rfl) rfl)
    (behind_stops Fence.wide _ trivial rfl (by omega) Bs s hs w hBs hc) KeepsBox.trans keepsBox_b (Below.refl _ _) (fun _ => by rw [hps]; rfl)
    I (fun _ _ _ => False) hI (fun _ _ _ _ _ hs _ _ => hs) h0 a₁ h1 (fun l pre x W hi _ => h2 l pre x W hi) ?_ ?_
  · rintro D xs W hD rfl hi hK
    exact hdone D W hD hi hK
  · rintro D c pre W _ _ hf _
    exact hf.elim
end Go.Proofs.YtolbbmnhcgoooaaDoor
