/-
  GRAPHS: what is asked of a graph, told as one list; the cells of a list of acts.
-/
import Derived.Test.YtjjpfddgcilliaaGra22
set_option linter.unusedSimpArgs false
set_option linter.unusedVariables false
namespace Go.Proofs.Ytjjpfddgcilliaa
open Go.RowKit Go.Shelf Go.Sort Go.Lib Go.Maps
set_option maxRecDepth 100000

theorem row_below {w w' : World} {base : Nat} {e : TypeId} {size : Nat} {v : Value} {n : Nat} {xs : List Value} (h : w.ownsRow base e size v n xs) (hb : Below w.heap.size w w') : w'.ownsRow base e size v n xs :=
  h.kept (row := none) ⟨hb.os, hb.tape, hb.output, hb.size, fun k hk _ => hb.block k hk⟩ (by cases v.ownBlock <;> simp)
/-- of these cells, in order, each once, those that p tells. -/
def oncOf (ks : List Ce) (p : Ce → Bool) : List Ce := onc (ks.filter p)
theorem oncOf_len (ks : List Ce) (p : Ce → Bool) : (oncOf ks p).length ≤ ks.length := Nat.le_trans (onc_length _) (List.length_filter_le ..)
section
variable {prog' : Program} {md : Region.Mode} {ops : Array Oper} {Q : Exit → Act → World → Prop} {S : World → Prop}
/-- one of two may come up. -/
theorem rd2 (i j : Nat) {o o' : Oper} {fuel : Nat} {listed : Array Bool} {a : Act} {w : World} (hr : Region.ready md ops listed = [i, j]) (ho : ops[i]? = some o) (ho' : ops[j]? = some o')
    (h : ∀ K' : Act → World → Prop, Shut (∀ a w, S w → (S w → wpAnyH prog' md ops Q S fuel (listed.setIfInBounds i true) a w) → K' a w) → if Region.wanted o (yielded ops a.tmps) = true then Oper.wp prog' o a w K' Q else K' (a.put o.dst undef) w)
    (h' : ∀ K' : Act → World → Prop, Shut (∀ a w, S w → (S w → wpAnyH prog' md ops Q S fuel (listed.setIfInBounds j true) a w) → K' a w) → if Region.wanted o' (yielded ops a.tmps) = true then Oper.wp prog' o' a w K' Q else K' (a.put o'.dst undef) w) : wpAnyH prog' md ops Q S (fuel + 1) listed a w :=
  wpAnyH_ready hr (by simp) (AllReadyH.cons ho h (AllReadyH.cons ho' h' AllReadyH.nil))
end
end Go.Proofs.Ytjjpfddgcilliaa
