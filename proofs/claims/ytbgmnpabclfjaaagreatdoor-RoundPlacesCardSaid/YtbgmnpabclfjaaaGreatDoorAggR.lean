/-
  ARGUMENTS THAT ARE NUMBERS, OPENED, SHUT, AND HOW LONG THEIR TEXTS ARE.
-/
import Derived.Test.YtbgmnpabclfjaaaGreatDoorRows
import Derived.KernelRfl
import Derived.Lib.SmallJoins
import Derived.OpenShut
import Derived.SizedLaws
namespace Go.Proofs.YtbgmnpabclfjaaaGreatDoor
open Go.ChangeShapes Go.WideShapes Go.ChangeAt Go.RowKit Go.ChangeMaps Go.Joins

section
variable {H : Type} {enc : TypeId × Value → H} {W : World} {base : Nat} {spare : Nat → Bool} {held : Bool}
theorem cells_rat : Tryz.prog.cellsOf 23 = 3 := by kernel_rfl
theorem rat_open_bool {n : Nat} {t : TypeId} {c : Value} {y : DataW H × List MemPlace} (ht : Tryz.prog.underlying t = some .bool) (h : DataW.trod enc Tryz.prog W base spare held n t [c] = some y) : ∃ b : Bool, c = .bool b ∧ y = (.lit (.bool b), []) := by
  obtain ⟨b, h1, hx⟩ := DataW.trod_bool ht h
  simp at h1
  exact ⟨b, h1, hx⟩
theorem rat_open_string {n : Nat} {t : TypeId} {c : Value} {y : DataW H × List MemPlace} (ht : Tryz.prog.underlying t = some .string) (h : DataW.trod enc Tryz.prog W base spare held n t [c] = some y) : ∃ s : ByteArray, c = .string s ∧ y = (.lit (.string s.data.toList), []) ∧ s.size ≤ maxLen := by
  obtain ⟨s, h1, hx, hs⟩ := DataW.trod_string ht h
  simp at h1
  exact ⟨s, h1, hx, hs⟩
set_option maxRecDepth 100000 in
theorem open_rat {r : Reach} {b0 : Nat} {v : Value} {d : DataW H} {p : List MemPlace} (hv : Value.okWide Tryz.prog W r b0 23 v) (h : DataW.Trod enc Tryz.prog W base spare held 23 v d p) :
    ∃ (b : Bool) (s u : ByteArray), v = .agg #[.bool b, .string s, .string u] ∧ d = .agg [.lit (.bool b), .lit (.string s.data.toList), .lit (.string u.data.toList)] ∧ p = [] ∧ s.size ≤ maxLen ∧ u.size ≤ maxLen := by
  obtain ⟨c0, c1, c2, y0, y1, y2, m, rfl, rfl, rfl, hy0, hy1, hy2⟩ := open_agg3 Tryz.underlying23 (by kernel_rfl) cells_rat hv h
  obtain ⟨b, rfl, rfl⟩ := rat_open_bool Tryz.underlying4 hy0
  obtain ⟨s, rfl, rfl, hs⟩ := rat_open_string Tryz.underlying9 hy1
  obtain ⟨u, rfl, rfl, hu⟩ := rat_open_string Tryz.underlying9 hy2
  exact ⟨b, s, u, rfl, rfl, rfl, hs, hu⟩
set_option maxRecDepth 100000 in
theorem shut_rat (b : Bool) {s u : ByteArray} (hs : s.size ≤ maxLen) (hu : u.size ≤ maxLen) : DataW.Trod enc Tryz.prog W base spare held 23 (.agg #[.bool b, .string s, .string u]) (.agg [.lit (.bool b), .lit (.string s.data.toList), .lit (.string u.data.toList)]) [] :=
  shut_agg3 (y0 := (.lit (.bool b), [])) (y1 := (.lit (.string s.data.toList), [])) (y2 := (.lit (.string u.data.toList), [])) Tryz.underlying23 (by kernel_rfl) cells_rat ⟨1, by simp [DataW.trod, Tryz.underlying4]⟩ ⟨1, by simp [DataW.trod, Tryz.underlying9, hs]⟩ ⟨1, by simp [DataW.trod, Tryz.underlying9, hu]⟩
theorem sized_rat {ts : List TypeId} {ds : List (DataW H)} (h : (DataW.weightsEach Tryz.prog ts ds).all (· ≤ reachBytes) = true) {j : Nat} {b : Bool} {s u : ByteArray} (ht : ts[j]? = some 23)
    (hd : ds[j]? = some (.agg [.lit (.bool b), .lit (.string s.data.toList), .lit (.string u.data.toList)])) : s.size ≤ 140737488351232 ∧ u.size ≤ 140737488351232 := by
  have e : reachBytes = 140737488351232 := by decide
  have h1 := List.all_eq_true.1 h _ (DataW.weights_mem_each ht hd s.data.toList.length (by simp [DataW.weights, DataW.weightsEach, Tryz.underlying23]))
  have h2 := List.all_eq_true.1 h _ (DataW.weights_mem_each ht hd u.data.toList.length (by simp [DataW.weights, DataW.weightsEach, Tryz.underlying23]))
  rw [e] at h1 h2
  exact ⟨of_decide_eq_true h1, of_decide_eq_true h2⟩
end
end Go.Proofs.YtbgmnpabclfjaaaGreatDoor
