/-
  LAYER 28: A GRAPH THAT IS NOT THERE; the fixed calls' answers.
-/
import Derived.Test.YtjjpfddgcilliaaGra17
set_option linter.unusedSimpArgs false
set_option linter.unusedVariables false
namespace Go.Proofs.Ytjjpfddgcilliaa
open Go.RowKit Go.Shelf Go.Sort Go.Lib Go.Maps
set_option maxRecDepth 100000

set_option maxRecDepth 100000 in
set_option maxHeartbeats 1000000 in
theorem cells_nil (w : World) : Calls Try.prog 31 #[.pointer none] w fun e w' => e = .returned (.slice none 0 0) ∧ Below w.heap.size w w' := by
  go_enter Try.func31, Try.ntmps31
  go_wp2
  go_ret
  exact ⟨rfl, Below.refl _ w⟩
theorem GrAt.bound {W : World} {S : Nat → Prop} {p n : Nat} {G : Ce → Option (List Ce)} (h : GrAt W S p n G) : GrAt W (fun k => S k ∧ k < W.heap.size) p n G := h.mono (fun _ hk hs => ⟨hs, hk⟩) (Nat.le_refl _)
theorem Told.is {p : Ce → Bool} {w w' : World} {e : Ending} (h : Told p w e w') {l : List Ce} (hl : Srt l) (hm : ∀ z, z ∈ l ↔ p z = true) : (∃ v, e = .returned v ∧ CsNew w' w.heap.size v l) ∧ Below w.heap.size w w' := by
  obtain ⟨⟨v, m, he, hv, hs, hz⟩, hb⟩ := h
  obtain rfl : m = l := srt_ext hs hl fun z => (hz z).trans (hm z).symm
  exact ⟨⟨v, he, hv⟩, hb⟩
/-- a region that changes blocks of T alone. -/
theorem wrt {id : Nat} {ops : Array Oper} {Q : Exit → Act → World → Prop} {a : Act} {w : World} {T : Nat → Prop} {S : World → Prop} (hm : Try.prog.follows .mixedOrders = true) (hk : ∀ w', Trn T w w' → S w') (h : Hid (∀ w', Trn T w w' → S w') → S w.drew → wpAnyH Try.prog .any ops Q S ops.size (Array.replicate ops.size false) a w.drew) : (Code.region id ops true).wp Try.prog Q a w :=
  wp_region_held_drew hm (hk _ (Trn.of_below (Below.refl _ _).drew)) (h hk)
/-! ### the fixed calls -/
def kA : Ce := (0, 1, 1)
def kB : Ce := (0, 2, 1)
theorem okA : okC kA := ⟨rfl, rfl, rfl⟩
theorem okB : okC kB := ⟨rfl, rfl, rfl⟩
def kG0 : Ce → Option (List Ce) := fun _ => none
end Go.Proofs.Ytjjpfddgcilliaa
