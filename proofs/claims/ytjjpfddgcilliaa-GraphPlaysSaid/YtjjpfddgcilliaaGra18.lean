/-
  LAYER 28: A GRAPH THAT IS NOT THERE; the fixed calls' answers.
-/
import Derived.Test.YtjjpfddgcilliaaGra17
set_option linter.unusedSimpArgs false
set_option linter.unusedVariables false
namespace Go.Proofs.Ytjjpfddgcilliaa
open Go.RowKit Go.Shelf Go.Sort Go.Lib Go.Maps
set_option maxRecDepth 100000

theorem GrAt.bound {W : World} {S : Nat → Prop} {p n : Nat} {G : Ce → Option (List Ce)} (h : GrAt W S p n G) : GrAt W (fun k => S k ∧ k < W.heap.size) p n G := h.mono (fun _ hk hs => ⟨hs, hk⟩) (Nat.le_refl _)
theorem Told.is {p : Ce → Bool} {w w' : World} {e : Ending} (h : Told p w e w') {l : List Ce} (hl : Srt l) (hm : ∀ z, z ∈ l ↔ p z = true) : (∃ v, e = .returned v ∧ CsNew w' w.heap.size v l) ∧ Below w.heap.size w w' := by
  obtain ⟨⟨v, m, he, hv, hs, hz⟩, hb⟩ := h
  obtain rfl : m = l := srt_ext hs hl fun z => (hz z).trans (hm z).symm
  exact ⟨⟨v, he, hv⟩, hb⟩
/-- a region that changes blocks of T alone. -/
theorem wrt {id : Nat} {ops : Array Oper} {Q : Exit → Act → World → Prop} {a : Act} {w : World} {T : Nat → Prop} {S : World → Prop} (hm : Try.prog.follows .mixedOrders = true) (hk : ∀ w', Trn T w w' → S w') (h : Hid (∀ w', Trn T w w' → S w') → S w.drew → wpAnyH Try.prog .any ops Q S ops.size (Array.replicate ops.size false) a w.drew) : (Code.region id ops true).wp Try.prog Q a w :=
  wp_region_held_drew hm (hk _ (Trn.of_below (Below.refl _ _).drew)) (h hk)
theorem Trn.join {T : Nat → Prop} {a b c : World} (h : Trn T a b) (k : Trn T b c) : Trn T a c := h.trans (k.mono fun _ _ h => Or.inl h)
/-! ### the fixed calls -/
def kA : Ce := (0, 1, 1)
def kB : Ce := (0, 2, 1)
theorem okA : okC kA := ⟨rfl, rfl, rfl⟩
theorem okB : okC kB := ⟨rfl, rfl, rfl⟩
def kG0 : Ce → Option (List Ce) := fun _ => none
def kG1 : Ce → Option (List Ce) := putG kG0 kB [kA]
theorem kOnc : onc [kA, kA] = [kA] := by decide
theorem kE1 (z : Ce) : z ∈ [kB] ↔ edge kG1 kA z = true := by
  unfold edge kG1 putG kG0
  by_cases h : z = kB <;> simp [h]
theorem kE0 (z : Ce) : z ∈ ([] : List Ce) ↔ edge (delG (delG kG1 kA) kB) kA z = true := by
  unfold edge delG kG1 putG kG0
  by_cases h : z = kB
  · simp [h]
  · by_cases h' : z = kA <;> simp [h, h']
theorem kNA : kB ≠ kA := by decide
theorem kLB : lOf kG1 kB = [kA] := by simp [lOf, kG1, putG]
theorem kHB : (kG1 kB).isSome = true := by simp [kG1, putG]
theorem kHA : (kG1 kA).isSome = false := by simp [kG1, putG, kG0, Ne.symm kNA]
theorem kDA : dropE kG1 kA = 11 := by unfold dropE; rw [kHA]; rfl
theorem kDB : dropE (delG kG1 kA) kB = 0 := by simp [dropE, delG, kNA, kG1, putG]
/-- a new list of one cell, of none; just how many. -/
theorem one_of {w' : World} {n : Nat} {v : Value} {x : Ce} (h : CsNew w' n v [x]) : ∃ g o cap, v = .slice (some ⟨g, o, none⟩) 1 cap ∧ n ≤ g ∧ g < w'.heap.size ∧ w'.cell? ⟨g, o, none⟩ = some (.int .i64 x.1) ∧ w'.cell? ⟨g, o + 1, none⟩ = some (.int .i64 x.2.1) ∧ w'.cell? ⟨g, o + 2, none⟩ = some (.int .i64 x.2.2) := by
  rcases h.1 with ⟨_, h0⟩ | ⟨g, o, cap, rfl, hg, hc⟩
  · cases h0
  · exact ⟨g, o, cap, rfl, h.2 g rfl, hg, by simpa using hc 0 _ rfl, hc 1 _ rfl, hc 2 _ rfl⟩
theorem len_of {w' : World} {n : Nat} {v : Value} {l : List Ce} (h : CsNew w' n v l) : ∃ a cap, v = .slice a l.length cap := by
  obtain ⟨a, cap, he, _⟩ := h.1.shape
  exact ⟨a, cap, he⟩
end Go.Proofs.Ytjjpfddgcilliaa
