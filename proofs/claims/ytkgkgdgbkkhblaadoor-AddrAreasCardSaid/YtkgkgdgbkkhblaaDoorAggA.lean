/-
  ARGUMENTS THAT ARE AREAS, OPENED AND SHUT.
-/
import Derived.Test.YtkgkgdgbkkhblaaDoorRows
import Derived.KernelRfl
import Derived.Lib.SmallJoins
import Derived.OpenShut
namespace Go.Proofs.YtkgkgdgbkkhblaaDoor
set_option linter.unusedSimpArgs false
set_option linter.unusedVariables false
open Go.ChangeShapes Go.WideShapes Go.ChangeAt Go.RowKit Go.ChangeMaps Go.Joins

section
variable {H : Type} {enc : TypeId × Value → H} {W : World} {base : Nat} {spare : Nat → Bool} {held : Bool}
theorem cells_area : Tryd.prog.cellsOf 33 = 4 := by kernel_rfl
theorem area_open_int {n : Nat} {t : TypeId} {c : Value} {y : DataW H × List MemPlace} (ht : Tryd.prog.underlying t = some (.int .i64)) (h : DataW.trod enc Tryd.prog W base spare held n t [c] = some y) : ∃ k : Int, c = .int .i64 k ∧ y = (.lit (.int .i64 k), []) ∧ (Lit.int .i64 k).wf = true := by
  obtain ⟨k, h1, hx, hw⟩ := DataW.trod_int ht h
  simp at h1
  exact ⟨k, h1, hx, hw⟩
set_option maxRecDepth 100000 in
theorem open_area {r : Reach} {b0 : Nat} {v : Value} {d : DataW H} {p : List MemPlace} (hv : Value.okWide Tryd.prog W r b0 33 v) (h : DataW.Trod enc Tryd.prog W base spare held 33 v d p) :
    ∃ (a b c e : Int), v = .agg #[.int .i64 a, .int .i64 b, .int .i64 c, .int .i64 e] ∧ d = .agg [.lit (.int .i64 a), .lit (.int .i64 b), .lit (.int .i64 c), .lit (.int .i64 e)] ∧ p = [] ∧ (Lit.int .i64 a).wf = true ∧ (Lit.int .i64 b).wf = true ∧ (Lit.int .i64 c).wf = true ∧ (Lit.int .i64 e).wf = true := by
  obtain ⟨c0, c1, c2, c3, y0, y1, y2, y3, m, rfl, rfl, rfl, hy0, hy1, hy2, hy3⟩ := open_agg4 Tryd.underlying33 (by kernel_rfl) cells_area hv h
  obtain ⟨a, rfl, rfl, ha⟩ := area_open_int Tryd.underlying3 hy0
  obtain ⟨b, rfl, rfl, hb⟩ := area_open_int Tryd.underlying3 hy1
  obtain ⟨c, rfl, rfl, hc⟩ := area_open_int Tryd.underlying3 hy2
  obtain ⟨e, rfl, rfl, he⟩ := area_open_int Tryd.underlying3 hy3
  exact ⟨a, b, c, e, rfl, rfl, rfl, ha, hb, hc, he⟩
set_option maxRecDepth 100000 in
theorem shut_area {a b c e : Int} (ha : (Lit.int .i64 a).wf = true) (hb : (Lit.int .i64 b).wf = true) (hc : (Lit.int .i64 c).wf = true) (he : (Lit.int .i64 e).wf = true) : DataW.Trod enc Tryd.prog W base spare held 33 (.agg #[.int .i64 a, .int .i64 b, .int .i64 c, .int .i64 e]) (.agg [.lit (.int .i64 a), .lit (.int .i64 b), .lit (.int .i64 c), .lit (.int .i64 e)]) [] :=
  shut_agg4 (y0 := (.lit (.int .i64 a), [])) (y1 := (.lit (.int .i64 b), [])) (y2 := (.lit (.int .i64 c), [])) (y3 := (.lit (.int .i64 e), [])) Tryd.underlying33 (by kernel_rfl) cells_area ⟨1, by simp [DataW.trod, Tryd.underlying3, ha]⟩ ⟨1, by simp [DataW.trod, Tryd.underlying3, hb]⟩ ⟨1, by simp [DataW.trod, Tryd.underlying3, hc]⟩ ⟨1, by simp [DataW.trod, Tryd.underlying3, he]⟩
end
end Go.Proofs.YtkgkgdgbkkhblaaDoor
