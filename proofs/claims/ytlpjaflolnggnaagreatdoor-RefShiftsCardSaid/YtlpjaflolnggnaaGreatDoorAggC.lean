/-
  ARGUMENTS THAT ARE REFERENCES, AND CHANGES, OPENED AND SHUT.
-/
import Derived.Test.YtlpjaflolnggnaaGreatDoorRows
import Derived.KernelRfl
import Derived.Lib.SmallJoins
import Derived.OpenShut
namespace Go.Proofs.YtlpjaflolnggnaaGreatDoor
set_option linter.unusedSimpArgs false
set_option linter.unusedVariables false
open Go.ChangeShapes Go.WideShapes Go.ChangeAt Go.RowKit Go.ChangeMaps Go.Joins

section
variable {H : Type} {enc : TypeId × Value → H} {W : World} {base : Nat} {spare : Nat → Bool} {held : Bool}
theorem cells_ref : Tryz.prog.cellsOf 23 = 5 := by kernel_rfl
theorem five_of {α : Type} {l : List α} (h : l.length = 5) : ∃ a b c d e, l = [a, b, c, d, e] := by
  match l, h with
  | [a, b, c, d, e], _ => exact ⟨a, b, c, d, e, rfl⟩
theorem ref_open_bool {n : Nat} {t : TypeId} {c : Value} {y : DataW H × List MemPlace} (ht : Tryz.prog.underlying t = some .bool) (h : DataW.trod enc Tryz.prog W base spare held n t [c] = some y) : ∃ b : Bool, c = .bool b ∧ y = (.lit (.bool b), []) := by
  obtain ⟨b, h1, hx⟩ := DataW.trod_bool ht h
  simp at h1
  exact ⟨b, h1, hx⟩
theorem ref_open_int {n : Nat} {t : TypeId} {c : Value} {y : DataW H × List MemPlace} (ht : Tryz.prog.underlying t = some (.int .i64)) (h : DataW.trod enc Tryz.prog W base spare held n t [c] = some y) : ∃ k : Int, c = .int .i64 k ∧ y = (.lit (.int .i64 k), []) ∧ (Lit.int .i64 k).wf = true := by
  obtain ⟨k, h1, hx, hw⟩ := DataW.trod_int ht h
  simp at h1
  exact ⟨k, h1, hx, hw⟩
theorem ref_open_string {n : Nat} {t : TypeId} {c : Value} {y : DataW H × List MemPlace} (ht : Tryz.prog.underlying t = some .string) (h : DataW.trod enc Tryz.prog W base spare held n t [c] = some y) : ∃ s : ByteArray, c = .string s ∧ y = (.lit (.string s.data.toList), []) ∧ s.size ≤ maxLen := by
  obtain ⟨s, h1, hx, hs⟩ := DataW.trod_string ht h
  simp at h1
  exact ⟨s, h1, hx, hs⟩
set_option maxRecDepth 100000 in
theorem open_ref {r : Reach} {b0 : Nat} {v : Value} {d : DataW H} {p : List MemPlace} (hv : Value.okWide Tryz.prog W r b0 23 v) (h : DataW.Trod enc Tryz.prog W base spare held 23 v d p) :
    ∃ (s : ByteArray) (a b : Int) (x y : Bool), v = .agg #[.string s, .int .i64 a, .int .i64 b, .bool x, .bool y] ∧ d = .agg [.lit (.string s.data.toList), .lit (.int .i64 a), .lit (.int .i64 b), .lit (.bool x), .lit (.bool y)] ∧ p = [] ∧ s.size ≤ maxLen ∧ (Lit.int .i64 a).wf = true ∧ (Lit.int .i64 b).wf = true := by
  obtain ⟨cs, rfl, hsz⟩ := okWide_struct Tryz.underlying23 hv
  obtain ⟨cl⟩ := cs
  obtain ⟨c0, c1, c2, c3, c4, rfl⟩ := five_of (l := cl) (hsz.trans cells_ref)
  obtain ⟨fuel, hf⟩ := h
  obtain ⟨xs, n, _, hx, _, hlen, hg⟩ := DataW.trod_struct Tryz.underlying23 hf
  obtain ⟨y0, y1, y2, y3, y4, rfl⟩ := five_of (l := xs) hlen
  have k1 : Tryz.prog.cellsOf 9 = 1 := by kernel_rfl
  have k2 : Tryz.prog.cellsOf 3 = 1 := by kernel_rfl
  have k3 : Tryz.prog.cellsOf 4 = 1 := by kernel_rfl
  have g0 := hg 0 _ rfl
  have g1 := hg 1 _ rfl
  have g2 := hg 2 _ rfl
  have g3 := hg 3 _ rfl
  have g4 := hg 4 _ rfl
  simp [Value.cells, k1, k2, k3] at g0 g1 g2 g3 g4
  obtain ⟨s, rfl, rfl, hs⟩ := ref_open_string Tryz.underlying9 g0
  obtain ⟨a, rfl, rfl, ha⟩ := ref_open_int Tryz.underlying3 g1
  obtain ⟨b, rfl, rfl, hb⟩ := ref_open_int Tryz.underlying3 g2
  obtain ⟨x, rfl, rfl⟩ := ref_open_bool Tryz.underlying4 g3
  obtain ⟨y, rfl, rfl⟩ := ref_open_bool Tryz.underlying4 g4
  simp at hx
  exact ⟨s, a, b, x, y, rfl, hx.1, hx.2, hs, ha, hb⟩
set_option maxRecDepth 100000 in
theorem shut_ref (x y : Bool) {s : ByteArray} {a b : Int} (hs : s.size ≤ maxLen) (ha : (Lit.int .i64 a).wf = true) (hb : (Lit.int .i64 b).wf = true) :
    DataW.Trod enc Tryz.prog W base spare held 23 (.agg #[.string s, .int .i64 a, .int .i64 b, .bool x, .bool y]) (.agg [.lit (.string s.data.toList), .lit (.int .i64 a), .lit (.int .i64 b), .lit (.bool x), .lit (.bool y)]) [] := by
  have k1 : Tryz.prog.cellsOf 9 = 1 := by kernel_rfl
  have k2 : Tryz.prog.cellsOf 3 = 1 := by kernel_rfl
  have k3 : Tryz.prog.cellsOf 4 = 1 := by kernel_rfl
  have t0 : DataW.trod enc Tryz.prog W base spare held 1 9 [.string s] = some (.lit (.string s.data.toList), []) := by simp [DataW.trod, Tryz.underlying9, hs]
  have t1 : DataW.trod enc Tryz.prog W base spare held 1 3 [.int .i64 a] = some (.lit (.int .i64 a), []) := by simp [DataW.trod, Tryz.underlying3, ha]
  have t2 : DataW.trod enc Tryz.prog W base spare held 1 3 [.int .i64 b] = some (.lit (.int .i64 b), []) := by simp [DataW.trod, Tryz.underlying3, hb]
  have t3 : DataW.trod enc Tryz.prog W base spare held 1 4 [.bool x] = some (.lit (.bool x), []) := by simp [DataW.trod, Tryz.underlying4]
  have t4 : DataW.trod enc Tryz.prog W base spare held 1 4 [.bool y] = some (.lit (.bool y), []) := by simp [DataW.trod, Tryz.underlying4]
  have ts := trod_struct_mk (enc := enc) (w := W) (base := base) (spare := spare) (held := held) (n := 1) (cs := [.string s, .int .i64 a, .int .i64 b, .bool x, .bool y])
    (xs := [(.lit (.string s.data.toList), []), (.lit (.int .i64 a), []), (.lit (.int .i64 b), []), (.lit (.bool x), []), (.lit (.bool y), [])]) Tryz.underlying23 (by simp [cells_ref]) (by simp [k1, k2, k3, t0, t1, t2, t3, t4])
  exact ⟨_, by simpa [Value.cells] using ts⟩
theorem cells_change : Tryz.prog.cellsOf 29 = 3 := by kernel_rfl
set_option maxRecDepth 100000 in
theorem open_change {r : Reach} {b0 : Nat} {v : Value} {d : DataW H} {p : List MemPlace} (hv : Value.okWide Tryz.prog W r b0 29 v) (h : DataW.Trod enc Tryz.prog W base spare held 29 v d p) :
    ∃ (a b c : Int), v = .agg #[.int .i64 a, .int .i64 b, .int .i64 c] ∧ d = .agg [.lit (.int .i64 a), .lit (.int .i64 b), .lit (.int .i64 c)] ∧ p = [] ∧ (Lit.int .i64 a).wf = true ∧ (Lit.int .i64 b).wf = true ∧ (Lit.int .i64 c).wf = true := by
  obtain ⟨c0, c1, c2, y0, y1, y2, m, rfl, rfl, rfl, hy0, hy1, hy2⟩ := open_agg3 Tryz.underlying29 (by kernel_rfl) cells_change hv h
  obtain ⟨a, rfl, rfl, ha⟩ := ref_open_int Tryz.underlying3 hy0
  obtain ⟨b, rfl, rfl, hb⟩ := ref_open_int Tryz.underlying3 hy1
  obtain ⟨c, rfl, rfl, hc⟩ := ref_open_int Tryz.underlying3 hy2
  exact ⟨a, b, c, rfl, rfl, rfl, ha, hb, hc⟩
set_option maxRecDepth 100000 in
theorem shut_change {a b c : Int} (ha : (Lit.int .i64 a).wf = true) (hb : (Lit.int .i64 b).wf = true) (hc : (Lit.int .i64 c).wf = true) : DataW.Trod enc Tryz.prog W base spare held 29 (.agg #[.int .i64 a, .int .i64 b, .int .i64 c]) (.agg [.lit (.int .i64 a), .lit (.int .i64 b), .lit (.int .i64 c)]) [] :=
  shut_agg3 (y0 := (.lit (.int .i64 a), [])) (y1 := (.lit (.int .i64 b), [])) (y2 := (.lit (.int .i64 c), [])) Tryz.underlying29 (by kernel_rfl) cells_change ⟨1, by simp [DataW.trod, Tryz.underlying3, ha]⟩ ⟨1, by simp [DataW.trod, Tryz.underlying3, hb]⟩ ⟨1, by simp [DataW.trod, Tryz.underlying3, hc]⟩
end
end Go.Proofs.YtlpjaflolnggnaaGreatDoor
