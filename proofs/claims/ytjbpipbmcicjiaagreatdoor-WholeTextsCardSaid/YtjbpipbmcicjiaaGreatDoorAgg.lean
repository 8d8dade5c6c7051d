/-
  ARGUMENTS THAT ARE WHOLE NUMBERS, OPENED AND SHUT.
-/
import Derived.Test.YtjbpipbmcicjiaaGreatDoorRows
import Derived.KernelRfl
import Derived.Lib.SmallJoins
import Derived.OpenShut
namespace Go.Proofs.YtjbpipbmcicjiaaGreatDoor
open Go.ChangeShapes Go.WideShapes Go.ChangeAt Go.RowKit Go.ChangeMaps Go.Joins

section
variable {H : Type} {enc : TypeId × Value → H} {W : World} {base : Nat} {spare : Nat → Bool} {held : Bool}
theorem cells_whole : Tryz.prog.cellsOf 23 = 2 := by kernel_rfl
theorem whole_open_bool {n : Nat} {t : TypeId} {c : Value} {y : DataW H × List MemPlace} (ht : Tryz.prog.underlying t = some .bool) (h : DataW.trod enc Tryz.prog W base spare held n t [c] = some y) : ∃ b : Bool, c = .bool b ∧ y = (.lit (.bool b), []) := by
  obtain ⟨b, h1, hx⟩ := DataW.trod_bool ht h
  simp at h1
  exact ⟨b, h1, hx⟩
theorem whole_open_string {n : Nat} {t : TypeId} {c : Value} {y : DataW H × List MemPlace} (ht : Tryz.prog.underlying t = some .string) (h : DataW.trod enc Tryz.prog W base spare held n t [c] = some y) : ∃ s : ByteArray, c = .string s ∧ y = (.lit (.string s.data.toList), []) ∧ s.size ≤ maxLen := by
  obtain ⟨s, h1, hx, hs⟩ := DataW.trod_string ht h
  simp at h1
  exact ⟨s, h1, hx, hs⟩
set_option maxRecDepth 100000 in
theorem open_whole {r : Reach} {b0 : Nat} {v : Value} {d : DataW H} {p : List MemPlace} (hv : Value.okWide Tryz.prog W r b0 23 v) (h : DataW.Trod enc Tryz.prog W base spare held 23 v d p) :
    ∃ (b : Bool) (s : ByteArray), v = .agg #[.bool b, .string s] ∧ d = .agg [.lit (.bool b), .lit (.string s.data.toList)] ∧ p = [] ∧ s.size ≤ maxLen := by
  obtain ⟨c0, c1, y0, y1, m, rfl, rfl, rfl, hy0, hy1⟩ := open_agg2 Tryz.underlying23 (by kernel_rfl) cells_whole hv h
  obtain ⟨b, rfl, rfl⟩ := whole_open_bool Tryz.underlying4 hy0
  obtain ⟨s, rfl, rfl, hs⟩ := whole_open_string Tryz.underlying9 hy1
  exact ⟨b, s, rfl, rfl, rfl, hs⟩
set_option maxRecDepth 100000 in
theorem shut_whole (b : Bool) {s : ByteArray} (hs : s.size ≤ maxLen) : DataW.Trod enc Tryz.prog W base spare held 23 (.agg #[.bool b, .string s]) (.agg [.lit (.bool b), .lit (.string s.data.toList)]) [] :=
  shut_agg2 (y0 := (.lit (.bool b), [])) (y1 := (.lit (.string s.data.toList), [])) Tryz.underlying23 (by kernel_rfl) cells_whole ⟨1, by simp [DataW.trod, Tryz.underlying4]⟩ ⟨1, by simp [DataW.trod, Tryz.underlying9, hs]⟩
end
end Go.Proofs.YtjbpipbmcicjiaaGreatDoor
