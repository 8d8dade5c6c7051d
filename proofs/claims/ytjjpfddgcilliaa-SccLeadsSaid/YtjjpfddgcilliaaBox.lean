/-
  BOXES: what a cell holds behind an alloc, a store elsewhere, a call.
-/
import Derived.Test.YtjjpfddgcilliaaLaw1
import Derived.Deep.RegionWith
import Derived.Deep.RegionHeld3
import Derived.Lib.SliceRun
import Derived.Shelf.SlicesQ.Load
import Derived.Lib.Hide
import Derived.KernelRfl
namespace Go.Proofs.Ytjjpfddgcilliaa
open Go.RowKit Go.Shelf
set_option linter.unusedSimpArgs false
set_option linter.unusedVariables false

theorem alK {W : World} {o : Obj} {a : Addr} {v : Value} (h : W.cell? a = some v) : (W.alloc o).cell? a = some v := by rw [World.cell?_alloc_some _ _ _ (by rw [h]; rfl), h]
theorem belK {a w : World} {p : Addr} {v : Value} (hb : Below a.heap.size a w) (h : a.cell? p = some v) (z : p.block < a.heap.size) : w.cell? p = some v := (hb.cell z).trans h
/-! ### what a box holds that was just made (k boxes behind it), by its cells' list; a cell stored into -/
theorem bx0 {s W : World} {l : List Value} {t : TypeId} {b : Nat} (h : s = W.alloc (.cells l.toArray t)) (hb : b = W.heap.size) : ∀ j u, l[j]? = some u → s.cell? ⟨b, j, none⟩ = some u := fun j u hu => by
  subst h hb
  have hh : (W.alloc (.cells l.toArray t)).heap[W.heap.size]? = some (.cells l.toArray t) := by rw [← World.alloc_eq]; show (W.heap.push _)[W.heap.size]? = _; simp
  unfold World.cell?
  rw [hh]
  simpa using hu
theorem bx1 {s W : World} {l : List Value} {t : TypeId} {b : Nat} {o : Obj} (h : s = (W.alloc (.cells l.toArray t)).alloc o) (hb : b = W.heap.size) : ∀ j u, l[j]? = some u → s.cell? ⟨b, j, none⟩ = some u := fun j u hu => by rw [h]; exact alK (bx0 rfl hb j u hu)
theorem stS {W : World} {b o : Nat} {u v : Value} (h : W.cell? ⟨b, o, none⟩ = some u) : (W.setCell ⟨b, o, none⟩ v).cell? ⟨b, o, none⟩ = some v := by simp [go_sem, h]
theorem stO {W : World} {b o o' : Nat} {u v : Value} (h : W.cell? ⟨b, o, none⟩ = some u) (ho : o' ≠ o) : (W.setCell ⟨b, o', none⟩ v).cell? ⟨b, o, none⟩ = some u := by rw [← h]; simp [go_sem, ho]
theorem stF {W : World} {p q : Addr} {v : Value} {x : Bool} (h : W.frozen? q = x) : (W.setCell p v).frozen? q = x := by rw [← h]; simp [go_sem]
/-! ### a great box, by one equation for all its cells (pre.py: boxes of twelve cells and more) -/
/-! ### worlds with boxes made since -/
/-! ### boxes that are made: their names -/
/-- a frame's slots, laid out. -/
theorem pz : (∀ (a : Act) (t : Nat) (v : Value), a.put (some t) v = { a with tmps := a.tmps.setIfInBounds t v }) ∧ (∀ (a : Act) (v : Value), a.put none v = a) ∧ (∀ (l : List Value) (i : Nat) (v : Value), l.toArray.setIfInBounds i v = (l.set i v).toArray) ∧ (∀ (x y : Value) (l : List Value), (x :: l).set 0 y = y :: l) ∧ (∀ (x y : Value) (l : List Value) (i : Nat), (x :: l).set (i + 1) y = x :: l.set i y) ∧ (∀ (l : List Oper) (i : Nat) (h : i < l.toArray.size), l.toArray[i] = l[i]'(by simpa using h)) ∧ (∀ (x : Oper) (l : List Oper) (i : Nat) (h : i + 1 < (x :: l).length), (x :: l)[i + 1] = l[i]'(by simpa using h)) ∧ (∀ (x : Oper) (l : List Oper) (h : 0 < (x :: l).length), (x :: l)[0] = x) :=
  ⟨fun _ _ _ => rfl, fun _ _ => rfl, fun _ _ _ => by simp, fun _ _ _ => rfl, fun _ _ _ _ => rfl, fun _ _ _ => rfl, fun _ _ _ _ => rfl, fun _ _ _ => rfl⟩
/-! ### the steps of a drawn region, short (pre.py's hwalk) -/
section
variable {P : Program} {ops : Array Oper} {Q : Exit → Act → World → Prop} {md : Region.Mode} {S : World → Prop}
/-- a read or a sum, taken first; the frame's slots laid out. -/
theorem tk (i : Nat) {oi : Oper} {v : Value} {fuel : Nat} {listed L' : Array Bool} {a a' : Act} {w : World} (h : wpAnyH P md ops Q S fuel L' a' w) (hi : ops[i]? = some oi := by rfl) (hs : Region.noSelect ops = true := by kernel_rfl) (hf : Region.free md ops listed i = true := by kernel_rfl) (hr : (Region.ready md ops listed).contains i = true := by kernel_rfl)
    (hy : YieldsIf P ops S oi v a := by exact Or.inl ⟨by rfl, by (intro w hSw; (try dsimp only at hSw); go_simp; first | done | with_reducible rfl)⟩) (hQ : ∀ c a w, Q (.panic c) (a.put oi.dst v) w → Q (.panic c) a w := by exact fun _ _ _ h => h) (hS : S w := by assumption)
    (hL : listed.setIfInBounds i true = L' := by ((try simp only [pz]); first | done | rfl)) (hA : a.put oi.dst v = a' := by ((try simp only [pz]); first | done | rfl)) : wpAnyH P md ops Q S (fuel + 1) listed a w := by
  subst hL hA
  exact wpAnyH_take hi hs hf hr hQ hy hS h
/-- an operation that is not wanted (its guard says no). -/
theorem tSk (i : Nat) {oi : Oper} {fuel : Nat} {listed L' : Array Bool} {a a' : Act} {w : World} (h : wpAnyH P md ops Q S fuel L' a' w) (hi : ops[i]? = some oi := by rfl) (hs : Region.noSelect ops = true := by kernel_rfl) (hf : Region.free md ops listed i = true := by kernel_rfl) (hr : (Region.ready md ops listed).contains i = true := by kernel_rfl)
    (hQ : ∀ c a w, Q (.panic c) (a.put oi.dst undef) w → Q (.panic c) a w := by exact fun _ _ _ h => h) (hS : S w := by assumption) (hy : YieldsIf P ops S oi undef a := by exact Or.inr ⟨by rfl, rfl⟩)
    (hL : listed.setIfInBounds i true = L' := by ((try simp only [pz]); first | done | rfl)) (hA : a.put oi.dst undef = a' := by ((try simp only [pz]); first | done | rfl)) : wpAnyH P md ops Q S (fuel + 1) listed a w := by
  subst hL hA
  exact wpAnyH_take hi hs hf hr hQ hy hS h
/-- a drawn region of reads and calls alone: what S says is shown once, of every world with nothing changed below. -/
theorem wrp {id : Nat} {a : Act} {w : World} (hm : P.follows .mixedOrders = true) (hk : ∀ w', Below w.heap.size w w' → S w') (h : Hid (∀ w', Below w.heap.size w w' → S w') → S w.drew → wpAnyH P .any ops Q S ops.size (Array.replicate ops.size false) a w.drew) : (Code.region id ops true).wp P Q a w :=
  wp_region_held_drew hm (hk _ (Below.refl _ _).drew) (h hk)
/-- one operation alone may come up. -/
theorem rd1 (i : Nat) {o : Oper} {fuel : Nat} {listed : Array Bool} {a : Act} {w : World} (hr : Region.ready md ops listed = [i]) (ho : ops[i]? = some o)
    (h : ∀ K' : Act → World → Prop, Shut (∀ a w, S w → (S w → wpAnyH P md ops Q S fuel (listed.setIfInBounds i true) a w) → K' a w) → if Region.wanted o (yielded ops a.tmps) = true then Oper.wp P o a w K' Q else K' (a.put o.dst undef) w) : wpAnyH P md ops Q S (fuel + 1) listed a w :=
  wpAnyH_ready hr (by simp) (AllReadyH.cons ho h AllReadyH.nil)
end
end Go.Proofs.Ytjjpfddgcilliaa
