/-
  ARGUMENTS THAT ARE CELLS, OPENED AND SHUT.
-/
import Derived.Test.YtbfifgnookpfdaaRows
import Derived.KernelRfl
import Derived.Lib.SmallJoins
import Derived.OpenShut
namespace Go.Proofs.Ytbfifgnookpfdaa
set_option linter.unusedSimpArgs false
set_option linter.unusedVariables false
open Go.ChangeShapes Go.WideShapes Go.ChangeAt Go.RowKit Go.ChangeMaps Go.Joins

section
variable {H : Type} {enc : TypeId × Value → H} {W : World} {base : Nat} {spare : Nat → Bool} {held : Bool}
theorem cell_open_int {n : Nat} {t : TypeId} {c : Value} {y : DataW H × List MemPlace} (ht : Try.prog.underlying t = some (.int .i64)) (h : DataW.trod enc Try.prog W base spare held n t [c] = some y) : ∃ k : Int, c = .int .i64 k ∧ y = (.lit (.int .i64 k), []) ∧ (Lit.int .i64 k).wf = true := by
  obtain ⟨k, h1, hx, hw⟩ := DataW.trod_int ht h
  simp at h1
  exact ⟨k, h1, hx, hw⟩
theorem cells_cell : Try.prog.cellsOf 32 = 3 := by kernel_rfl
set_option maxRecDepth 100000 in
theorem open_cell {r : Reach} {b0 : Nat} {v : Value} {d : DataW H} {p : List MemPlace} (hv : Value.okWide Try.prog W r b0 32 v) (h : DataW.Trod enc Try.prog W base spare held 32 v d p) :
    ∃ (a b c : Int), v = .agg #[.int .i64 a, .int .i64 b, .int .i64 c] ∧ d = .agg [.lit (.int .i64 a), .lit (.int .i64 b), .lit (.int .i64 c)] ∧ p = [] ∧ (Lit.int .i64 a).wf = true ∧ (Lit.int .i64 b).wf = true ∧ (Lit.int .i64 c).wf = true := by
  obtain ⟨c0, c1, c2, y0, y1, y2, m, rfl, rfl, rfl, hy0, hy1, hy2⟩ := open_agg3 Try.underlying32 (by kernel_rfl) cells_cell hv h
  obtain ⟨a, rfl, rfl, ha⟩ := cell_open_int Try.underlying3 hy0
  obtain ⟨b, rfl, rfl, hb⟩ := cell_open_int Try.underlying3 hy1
  obtain ⟨c, rfl, rfl, hc⟩ := cell_open_int Try.underlying3 hy2
  exact ⟨a, b, c, rfl, rfl, rfl, ha, hb, hc⟩
set_option maxRecDepth 100000 in
theorem shut_cell {a b c : Int} (ha : (Lit.int .i64 a).wf = true) (hb : (Lit.int .i64 b).wf = true) (hc : (Lit.int .i64 c).wf = true) : DataW.Trod enc Try.prog W base spare held 32 (.agg #[.int .i64 a, .int .i64 b, .int .i64 c]) (.agg [.lit (.int .i64 a), .lit (.int .i64 b), .lit (.int .i64 c)]) [] :=
  shut_agg3 (y0 := (.lit (.int .i64 a), [])) (y1 := (.lit (.int .i64 b), [])) (y2 := (.lit (.int .i64 c), [])) Try.underlying32 (by kernel_rfl) cells_cell ⟨1, by simp [DataW.trod, Try.underlying3, ha]⟩ ⟨1, by simp [DataW.trod, Try.underlying3, hb]⟩ ⟨1, by simp [DataW.trod, Try.underlying3, hc]⟩
end
end Go.Proofs.Ytbfifgnookpfdaa
