/-
  LAYER 28: CELLS IN MEMORY: as three cells one behind the other, as a map's key; lists of cells; maps keyed by cells.
-/
import Derived.Test.YtjjpfddgcilliaaGra1
import Derived.Maps.RangeWalk
import Derived.Maps.OwnIn
import Derived.Sort.MapsRangeIn
import Derived.DeepKeys5
set_option linter.unusedSimpArgs false
set_option linter.unusedVariables false
namespace Go.Proofs.Ytjjpfddgcilliaa
open Go.RowKit Go.Shelf Go.Sort Go.Lib Go.Maps
set_option maxRecDepth 100000

/-- a cell's three numbers, one behind the other; as one value; that they are numbers of 64 bits. -/
def ec (x : Ce) : List Value := [.int .i64 x.1, .int .i64 x.2.1, .int .i64 x.2.2]
def mkC (x : Ce) : Value := .agg #[.int .i64 x.1, .int .i64 x.2.1, .int .i64 x.2.2]
def okC (x : Ce) : Prop := (Lit.int .i64 x.1).wf = true ∧ (Lit.int .i64 x.2.1).wf = true ∧ (Lit.int .i64 x.2.2).wf = true
theorem mkC_inj {x y : Ce} (h : mkC x = mkC y) : x = y := by
  unfold mkC at h
  simp at h
  exact ce_ext h.1 h.2.1 h.2.2
def flC (l : List Ce) : List Value := l.flatMap ec
theorem flC_length : ∀ l : List Ce, (flC l).length = l.length * 3
  | [] => rfl
  | x :: r => by have := flC_length r; unfold flC at *; rw [List.flatMap_cons, List.length_append, this]; simp [ec]; omega
theorem flC_cons (x : Ce) (l : List Ce) : flC (x :: l) = ec x ++ flC l := by unfold flC; rw [List.flatMap_cons]
theorem flC_append (l m : List Ce) : flC (l ++ m) = flC l ++ flC m := by unfold flC; rw [List.flatMap_append]
theorem flC_get : ∀ (l : List Ce) (k : Nat) (h : k < l.length), (flC l)[k * 3]? = some (.int .i64 l[k].1) ∧ (flC l)[k * 3 + 1]? = some (.int .i64 l[k].2.1) ∧ (flC l)[k * 3 + 2]? = some (.int .i64 l[k].2.2)
  | [], k, h => absurd h (by simp)
  | x :: r, 0, h => by rw [flC_cons]; simp [ec]
  | x :: r, k + 1, h => by
    have := flC_get r k (by simpa using h)
    rw [flC_cons]
    have e : ∀ j, (ec x ++ flC r)[(k + 1) * 3 + j]? = (flC r)[k * 3 + j]? := fun j => by
      rw [List.getElem?_append_right (by simp [ec]; omega)]
      congr 1
      simp [ec]; omega
    exact ⟨by have := (e 0).trans this.1; simpa using this, (e 1).trans this.2.1, (e 2).trans this.2.2⟩
theorem flC_one : ∀ (l : List Ce), ∀ u ∈ flC l, u.oneCell' = true := by
  intro l u hu
  unfold flC at hu
  obtain ⟨x, _, hx⟩ := List.mem_flatMap.1 hu
  simp [ec] at hx
  rcases hx with rfl | rfl | rfl <;> rfl
/-! ### lists of cells in memory -/
def CsAt (W : World) (v : Value) (l : List Ce) : Prop :=
  (v = .slice none 0 0 ∧ l = []) ∨ ∃ g o cap : Nat, v = .slice (some ⟨g, o, none⟩) l.length cap ∧ g < W.heap.size ∧ ∀ j u, (flC l)[j]? = some u → W.cell? ⟨g, o + j, none⟩ = some u
def blkOf : Value → Option Nat
  | .slice (some a) _ _ => some a.block
  | _ => none
theorem CsAt.below {W W' : World} {v : Value} {l : List Ce} (h : CsAt W v l) (hb : Below W.heap.size W W') : CsAt W' v l := by
  rcases h with h | ⟨g, o, cap, hv, hg, hc⟩
  · exact Or.inl h
  · exact Or.inr ⟨g, o, cap, hv, Nat.lt_of_lt_of_le hg hb.size, fun j u hj => belK hb (hc j u hj) hg⟩
/-- .. stays while other blocks, and maps, are written. -/
theorem CsAt.kept {W W' : World} {v : Value} {l : List Ce} (h : CsAt W v l) (hs : W.heap.size ≤ W'.heap.size) (hk : ∀ b cs t f, blkOf v = some b → W.heap[b]? = some (.cells cs t f) → W'.heap[b]? = W.heap[b]?) : CsAt W' v l := by
  rcases h with h | ⟨g, o, cap, hv, hg, hc⟩
  · exact Or.inl h
  · refine Or.inr ⟨g, o, cap, hv, Nat.lt_of_lt_of_le hg hs, fun j u hj => ?_⟩
    have hj' := hc j u hj
    have : ∃ cs t f, W.heap[g]? = some (.cells cs t f) := by
      unfold World.cell? at hj'
      cases hh : W.heap[g]? with
      | none => rw [hh] at hj'; simp at hj'
      | some ob => cases ob <;> rw [hh] at hj' <;> simp at hj' <;> exact ⟨_, _, _, rfl⟩
    obtain ⟨cs, t, f, hob⟩ := this
    rw [World.cell?_of_block (a := ⟨g, o + j, none⟩) (hk g cs t f (by rw [hv]; rfl) hob)]
    exact hj'
theorem CsAt.lt {W : World} {v : Value} {l : List Ce} (h : CsAt W v l) {b : Nat} (hb : blkOf v = some b) : b < W.heap.size := by
  rcases h with ⟨rfl, _⟩ | ⟨g, o, cap, rfl, hg, _⟩
  · cases hb
  · cases hb; exact hg
theorem CsAt.of_owns {W : World} {v : Value} {l : List Ce} {base : Nat} {t : TypeId} (h : W.ownsRow base t 3 v l.length (flC l)) : CsAt W v l ∧ ∀ b, blkOf v = some b → base ≤ b := by
  rcases h.2 with ⟨hv, hx⟩ | ⟨g, cap, cur, hv, hbase, hgg, _⟩
  · refine ⟨Or.inl ⟨hv, ?_⟩, fun b hb => by rw [hv] at hb; cases hb⟩
    have := flC_length l
    rw [hx] at this; simp at this; exact List.length_eq_zero_iff.1 (by omega)
  · refine ⟨Or.inr ⟨g, 0, cap, hv, (Array.getElem?_eq_some_iff.1 hgg).1, fun j u hj => ?_⟩, fun b hb => by rw [hv] at hb; cases hb; exact hbase⟩
    have hadd : (⟨g, 0, none⟩ : Addr).add j = ⟨g, 0 + j, none⟩ := by unfold Addr.add; split <;> simp_all
    have := h.cells (g := g) (by rw [hv]; rfl) _ _ hj
    rwa [hadd] at this

/-! ### a cell as a map's key -/
theorem Try.und_cell : Try.prog.underlying 32 = some (.struct #[{ name := "Sheet", type := 3, embedded := false, tag := "", pkgPath := "", offset := 0, byteOffset := 0 }, { name := "Col", type := 3, embedded := false, tag := "", pkgPath := "", offset := 1, byteOffset := 8 }, { name := "Row", type := 3, embedded := false, tag := "", pkgPath := "", offset := 2, byteOffset := 16 }]) := by kernel_rfl
theorem Try.und_int : Try.prog.underlying 3 = some (.int .i64) := by kernel_rfl
theorem Try.cells_cell : Try.prog.cellsOf 32 = 3 := by kernel_rfl
theorem Try.cells_int : Try.prog.cellsOf 3 = 1 := by kernel_rfl
theorem Try.laidOut : laidOutB Try.prog = true := by kernel_rfl
theorem Try.keyd : Keyed Try.prog 32 := Keyed.of_law (deep_law_laid Try.laidOut (m := 2) (by omega) (of_decide_eq_true (by kernel_rfl)) (by kernel_rfl) (by rw [Try.und_cell]))
/-- what a cell reads as, as a key. -/
noncomputable def klC (x : Ce) : Lit := (keyOf Try.prog 32 (mkC x)).getD .nil
theorem lits_cell (n : Nat) (a b c : Value) : Try.prog.keyLits (n + 2) 32 [a, b, c] = (do let p ← Try.prog.keyLits (n + 1) 3 [a]; let q ← Try.prog.keyLits (n + 1) 3 [b]; let r ← Try.prog.keyLits (n + 1) 3 [c]; pure (p ++ (q ++ r))) := by
  conv => lhs; unfold Program.keyLits
  rw [Try.und_cell]
  simp [Try.cells_cell, Try.cells_int, List.mapM_cons]
  cases Try.prog.keyLits (n + 1) 3 [a] <;> cases Try.prog.keyLits (n + 1) 3 [b] <;> cases Try.prog.keyLits (n + 1) 3 [c] <;> simp
theorem lits_int (n : Nat) (a : Int) : Try.prog.keyLits (n + 1) 3 [.int .i64 a] = if (Lit.int .i64 a).wf = true then some [.int .i64 a] else none := by
  unfold Program.keyLits; rw [Try.und_int]; simp
set_option maxRecDepth 100000 in
theorem keyOf_mkC {x : Ce} (h : okC x) : keyOf Try.prog 32 (mkC x) = some (klC x) := by
  have : ∃ l, keyOf Try.prog 32 (mkC x) = some l := by
    unfold keyOf
    rw [Try.und_cell]
    have hk : (Try.prog.keyType 32 && (mkC x).formed Try.prog 32) = true := by
      rw [show Try.prog.keyType 32 = true from by kernel_rfl]
      simp [mkC, Value.formed, Try.und_cell, Try.cells_cell]
    simp only [hk, if_true]
    obtain ⟨n, hn⟩ : ∃ n, Try.prog.types.size + 1 = n + 2 := ⟨Try.prog.types.size - 1, by have : 1 ≤ Try.prog.types.size := of_decide_eq_true (by kernel_rfl); omega⟩
    rw [hn]
    simp only [mkC, Value.cells, lits_cell, lits_int, h.1, h.2.1, h.2.2, if_true]
    exact ⟨_, rfl⟩
  obtain ⟨l, hl⟩ := this
  unfold klC
  rw [hl]; rfl
theorem klC_ne {x y : Ce} (hx : okC x) (hy : okC y) (h : x ≠ y) : klC y ≠ klC x := fun e => h (mkC_inj (Try.keyd.inj (keyOf_mkC hx) (e ▸ keyOf_mkC hy)))
set_option maxRecDepth 100000 in
theorem klC_key {x : Ce} (hx : okC x) : WideAt.IsKeyLit (klC x) := Try.keyd.key (keyOf_mkC hx)
set_option maxRecDepth 100000 in
/-- what reads as a key is a cell. -/
theorem keyOf_inv {v : Value} {l : Lit} (h : keyOf Try.prog 32 v = some l) : ∃ x, v = mkC x ∧ okC x ∧ l = klC x := by
  obtain ⟨xs, L, rfl, hl, rfl⟩ := keyOf_top (P := Try.prog) (by rw [Try.und_cell]) h
  obtain ⟨n, hn⟩ : ∃ n, Try.prog.types.size + 1 = n + 2 := ⟨Try.prog.types.size - 1, by have : 1 ≤ Try.prog.types.size := of_decide_eq_true (by kernel_rfl); omega⟩
  rw [hn] at hl
  have h3 : xs.toList.length = 3 := by
    unfold Program.keyLits at hl
    rw [Try.und_cell] at hl
    simp only [Try.cells_cell] at hl
    split at hl
    · rename_i hc; exact hc.1
    · cases hl
  obtain ⟨a, b, c, hx⟩ : ∃ a b c, xs.toList = [a, b, c] := by
    match hq : xs.toList, h3 with
    | [a, b, c], _ => exact ⟨a, b, c, rfl⟩
  rw [hx, lits_cell] at hl
  have one : ∀ {u : Value} {M : List Lit}, Try.prog.keyLits (n + 1) 3 [u] = some M → ∃ z : Int, u = .int .i64 z ∧ (Lit.int .i64 z).wf = true := by
    intro u M hu
    unfold Program.keyLits at hu
    rw [Try.und_int] at hu
    cases u <;> simp at hu
    obtain ⟨⟨rfl, hw⟩, _⟩ := hu
    exact ⟨_, rfl, hw⟩
  cases ha : Try.prog.keyLits (n + 1) 3 [a] with
  | none => rw [ha] at hl; simp at hl
  | some p =>
    cases hb : Try.prog.keyLits (n + 1) 3 [b] with
    | none => rw [ha, hb] at hl; simp at hl
    | some q =>
      cases hc : Try.prog.keyLits (n + 1) 3 [c] with
      | none => rw [ha, hb, hc] at hl; simp at hl
      | some r =>
        obtain ⟨z1, rfl, w1⟩ := one ha
        obtain ⟨z2, rfl, w2⟩ := one hb
        obtain ⟨z3, rfl, w3⟩ := one hc
        have e : (Value.agg xs) = mkC (z1, z2, z3) := by
          unfold mkC; congr 1; exact Array.toList_inj.1 (by rw [hx])
        refine ⟨(z1, z2, z3), e, ⟨w1, w2, w3⟩, ?_⟩
        rw [e] at h
        exact Option.some.inj (h.symm.trans (keyOf_mkC (x := (z1, z2, z3)) ⟨w1, w2, w3⟩))
end Go.Proofs.Ytjjpfddgcilliaa
