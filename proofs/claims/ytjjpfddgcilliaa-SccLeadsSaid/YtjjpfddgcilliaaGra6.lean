/-
  LAYER 27: LISTS OF CELLS IN ORDER, EACH ONCE: what stands twice, one behind the other, is left out (slices.Compact at cells).
-/
import Derived.Test.YtjjpfddgcilliaaGra5
import Derived.Lib.SliceRun
import Derived.Deep.Upon
import Derived.Shelf.SlSortFuncK.RowK2
set_option linter.unusedSimpArgs false
set_option linter.unusedVariables false
namespace Go.Proofs.Ytjjpfddgcilliaa
open Go.RowKit Go.Shelf Go.Sort Go.Lib
set_option maxRecDepth 100000

/-- the row of a slice that begins at its block's head. -/
def RowC (W : World) (g : Nat) (d : Array Ce) : Prop := ∀ j, j < d.size →
  (W.cell? ⟨g, j * 3, none⟩ = some (.int .i64 d[j]!.1) ∧ W.cell? ⟨g, j * 3 + 1, none⟩ = some (.int .i64 d[j]!.2.1) ∧ W.cell? ⟨g, j * 3 + 2, none⟩ = some (.int .i64 d[j]!.2.2)) ∧
  W.frozen? ⟨g, j * 3, none⟩ = false ∧ W.frozen? ⟨g, j * 3 + 1, none⟩ = false ∧ W.frozen? ⟨g, j * 3 + 2, none⟩ = false
theorem RowC.of_holds {W : World} {g : Nat} {d : Array Ce} (h : HoldsK ec 3 W g 0 d) : RowC W g d := fun j hj => by
  have h0 := h.cell hj (c := 0) (by omega)
  have h1 := h.cell hj (c := 1) (by omega)
  have h2 := h.cell hj (c := 2) (by omega)
  simp only [Nat.zero_add, Nat.add_zero] at h0 h1 h2
  exact ⟨⟨h0.1, h1.1, h2.1⟩, h0.2, h1.2, h2.2⟩
theorem RowC.drew {W : World} {g : Nat} {d : Array Ce} (h : RowC W g d) : RowC W.drew g d := h
theorem RowC.lt {W : World} {g : Nat} {d : Array Ce} (h : RowC W g d) (h0 : 0 < d.size) : g < W.heap.size := by
  have := (h 0 h0).1.1
  unfold World.cell? at this
  by_cases hg : g < W.heap.size
  · exact hg
  · rw [Array.getElem?_eq_none (by simpa using hg)] at this; simp at this
/-- an element stored. -/
def set3 (W : World) (g k : Nat) (x : Ce) : World := ((W.setCell ⟨g, k * 3, none⟩ (.int .i64 x.1)).setCell ⟨g, k * 3 + 1, none⟩ (.int .i64 x.2.1)).setCell ⟨g, k * 3 + 2, none⟩ (.int .i64 x.2.2)
theorem RowC.set {W : World} {g : Nat} {d : Array Ce} (h : RowC W g d) {k : Nat} (hk : k < d.size) (x : Ce) : RowC (set3 W g k x) g (d.setIfInBounds k x) := fun j hj => by
  have hj' : j < d.size := by simpa using hj
  obtain ⟨⟨c0, c1, c2⟩, f0, f1, f2⟩ := h j hj'
  obtain ⟨⟨e0, e1, e2⟩, _⟩ := h k hk
  refine ⟨?_, stF (stF (stF f0)), stF (stF (stF f1)), stF (stF (stF f2))⟩
  unfold set3
  by_cases e : j = k
  · subst e
    rw [getElem!_set_same d j x hj']
    exact ⟨stO (stO (stS e0) (by omega)) (by omega), stO (stS (stO e1 (by omega))) (by omega), stS (stO (stO e2 (by omega)) (by omega))⟩
  · rw [getElem!_set_other d k j x e]
    exact ⟨stO (stO (stO c0 (by omega)) (by omega)) (by omega), stO (stO (stO c1 (by omega)) (by omega)) (by omega), stO (stO (stO c2 (by omega)) (by omega)) (by omega)⟩
theorem grown_set3 {W V : World} {g : Nat} (h : W.grownBy V (some g)) (k : Nat) (x : Ce) : W.grownBy (set3 V g k x) (some g) := by
  have one : ∀ {A : World} (o : Nat) (v : Value), W.grownBy A (some g) → W.grownBy (A.setCell ⟨g, o, none⟩ v) (some g) := fun o v hA =>
    ⟨hA.os, hA.tape, hA.output, Nat.le_trans hA.size (by simp), fun j hj hne => (Below.heap_setCell _ _ _ j (fun e => hne (by rw [e]))).trans (hA.block j hj hne)⟩
  unfold set3
  exact one _ _ (one _ _ (one _ _ h))
theorem run_eqC (op : Bool) (x y : Ce) (w : World) : (binOp (if op then .eql else .neq) 32 (mkC x) (mkC y)).run Try.prog w = .ok (.bool (if op then decide (x = y) else !decide (x = y))) w := by
  obtain ⟨a, b, c⟩ := x
  obtain ⟨a', b', c'⟩ := y
  cases op <;>
  · simp only [mkC, Prod.mk.injEq, if_true, Bool.false_eq_true, if_false]
    simp (maxSteps := 2000000) [go_sem]
    by_cases h0 : a = a' <;> by_cases h1 : b = b' <;> by_cases h2 : c = c' <;> simp [h0, h1, h2]
theorem grown_drew {W V : World} {r : Option Nat} (h : W.grownBy V r) : W.grownBy V.drew r := ⟨h.os, h.tape, h.output, h.size, h.block⟩
theorem size_set3 (W : World) (g k : Nat) (x : Ce) : (set3 W g k x).heap.size = W.heap.size := by unfold set3; simp
theorem run_clearC (w : World) (g o n c : Nat) (hn : 0 < n) (hc : ∀ j, j < n * 3 → (w.cell? ⟨g, o + j, none⟩).isSome = true) (hf : ∀ j, j < n * 3 → w.frozen? ⟨g, o + j, none⟩ = false) :
    ∃ vs : List Value, vs.length = n * 3 ∧ ∀ ty, (Builtin.clear_ #[30] ty #[.slice (some ⟨g, o, none⟩) n c]).run Try.prog w = .ok (.tuple #[]) (w.setCells g o vs) := by
  obtain ⟨vs, hvs⟩ : ∃ vs, vs = (Builtin.zeroCells #[.int .i64 0, .int .i64 0, .int .i64 0] n).toList := ⟨_, rfl⟩
  have hl : vs.length = n * 3 := by rw [hvs]; simp [Builtin.zeroCells]
  have h1 : ∀ v ∈ vs, v.oneCell' = true := by
    intro v hv
    rw [hvs] at hv
    simp only [Builtin.zeroCells, Array.toList_map, List.mem_map] at hv
    obtain ⟨i, _, rfl⟩ := hv
    have : ∀ k, k < 3 → (#[Value.int .i64 0, .int .i64 0, .int .i64 0] : Array Value)[k]!.oneCell' = true := by
      intro k hk
      match k, hk with
      | 0, _ => rfl
      | 1, _ => rfl
      | 2, _ => rfl
    exact this _ (Nat.mod_lt _ (by simp))
  have hst := run_storeCells_cells (P := Try.prog) g o vs 0 w (by rw [hl]; simpa using hc) (by rw [hl]; simpa using hf) h1
  simp only [Nat.add_zero] at hst
  refine ⟨vs, hl, fun ty => ?_⟩
  obtain ⟨m, rfl⟩ : ∃ m, n = m + 1 := ⟨n - 1, by omega⟩
  have hz : ∀ w, (zeroValue 32).run Try.prog w = .ok (.agg #[.int .i64 0, .int .i64 0, .int .i64 0]) w := fun w => by kernel_rfl
  simp [Builtin.clear_, run_underlying Try.underlying30, hz, Value.cells, ← hvs, hst]
/-- what Compact leaves. -/
def CompPost (w : World) (g : Nat) (l : List Ce) (w' : World) : Prop := w.grownBy w' (some g) ∧ w.heap.size = w'.heap.size ∧ ∀ j (h : j < l.length), w'.cell? ⟨g, j * 3, none⟩ = some (.int .i64 l[j].1) ∧ w'.cell? ⟨g, j * 3 + 1, none⟩ = some (.int .i64 l[j].2.1) ∧ w'.cell? ⟨g, j * 3 + 2, none⟩ = some (.int .i64 l[j].2.2)
theorem comp_all {w : World} {g : Nat} {d : Array Ce} (h : RowC w g d) {W : World} (hW : ∃ q, W = w.drewN q) (hall : ∀ j, j < d.size → keeps d j = true) : (compactUpTo d d.size).length = d.size ∧ CompPost w g (compactUpTo d d.size) W := by
  have e : compactUpTo d d.size = d.toList := by rw [compactUpTo_all d _ hall, range_map_get]
  obtain ⟨q, rfl⟩ := hW
  rw [e]
  refine ⟨by simp, ⟨rfl, rfl, rfl, Nat.le_refl _, fun _ _ _ => rfl⟩, rfl, fun j hj => ?_⟩
  have hj' : j < d.size := by simpa using hj
  have := (h j hj').1
  rw [getElem!_pos d j hj'] at this
  simpa using this
theorem comp_done {w W V : World} {g k : Nat} {d dk : Array Ce} (hI : CompInv d d.size k dk) (hR : RowC W g dk) (hg : w.grownBy W (some g)) (hz : w.heap.size = W.heap.size) {vs : List Value} (hV : V = W.setCells g (k * 3) vs) : CompPost w g (compactUpTo d d.size) V := by
  subst hV
  refine ⟨⟨?_, ?_, ?_, ?_, fun j hj hne => ?_⟩, ?_, fun j hj => ?_⟩
  · rw [World.os_setCells]; exact hg.os
  · have : ∀ (vs : List Value) (o : Nat) (W : World), (W.setCells g o vs).tape = W.tape := by
      intro vs; induction vs with
      | nil => intro o W; rfl
      | cons v r ih => intro o W; rw [World.setCells, ih]; rfl
    rw [this]; exact hg.tape
  · rw [World.output_setCells]; exact hg.output
  · rw [size_setCells]; exact hg.size
  · rw [World.heap_setCells_other _ _ _ _ (by omega) (fun e => hne (by rw [e]))]; exact hg.block j hj hne
  · rw [size_setCells]; exact hz
  · have hjk : j < k := by rw [hI.len] at hj; exact hj
    have hlow := hI.low j hjk
    have e : (compactUpTo d d.size)[j] = dk[j]! := by rw [List.getElem?_eq_getElem hj] at hlow; exact Option.some.inj hlow
    have hlt := hI.lt
    have hs := hI.size
    obtain ⟨c0, c1, c2⟩ := (hR j (by omega)).1
    rw [e]
    refine ⟨?_, ?_, ?_⟩
    · rw [World.cell?_setCells_out _ _ _ _ _ (fun _ _ => Or.inl (by dsimp only; omega))]; exact c0
    · rw [World.cell?_setCells_out _ _ _ _ _ (fun _ _ => Or.inl (by dsimp only; omega))]; exact c1
    · rw [World.cell?_setCells_out _ _ _ _ _ (fun _ _ => Or.inl (by dsimp only; omega))]; exact c2
set_option maxHeartbeats 4000000 in
set_option maxRecDepth 1000000 in
theorem compact_any (g cap : Nat) (d : Array Ce) (w : World) (hH : RowC w g d) (hcap : d.size ≤ cap) (hsz : d.size * 24 ≤ 140737488355328) :
    Calls Try.prog 72 #[.slice (some ⟨g, 0, none⟩) d.size cap] w fun e w' => e = .returned (.slice (some ⟨g, 0, none⟩) (compactUpTo d d.size).length cap) ∧ CompPost w g (compactUpTo d d.size) w' := by
  have HS : Hid (∀ W, (∃ q, W = w.drewN q) → (∀ j, j < d.size → keeps d j = true) → (compactUpTo d d.size).length = d.size ∧ CompPost w g (compactUpTo d d.size) W) := Lib.hid fun W hW hall => comp_all hH hW hall
  have HH := Lib.hid hH
  clear hH
  by_cases h2 : d.size < 2
  · go_enter Try.func72, Try.ntmps72
    go_wp2
    go_ret
    obtain ⟨e1, e2⟩ := HS.out _ ⟨0, rfl⟩ (fun j hj => keeps_lt_one d j (by omega))
    exact ⟨by rw [e1]; rfl, e2⟩
  · go_enter Try.func72, Try.ntmps72
    go_wp2
    go_loopg [3] d.size (fun gg s3 wr => ∃ k q : Nat, 1 ≤ k ∧ k ≤ d.size ∧ d.size - k ≤ gg ∧ s3 = .int .i64 k ∧ wr = w.drewN q ∧ ∀ j, j < k → keeps d j = true)
    case atStart => exact ⟨1, 0, Nat.le_refl _, by omega, by omega, rfl, rfl, keeps_lt_one d⟩
    case round =>
      obtain ⟨k, q, hk1, hk, hg, rfl, rfl, hall⟩ := hrel
      by_cases hlt : k < d.size
      · obtain ⟨⟨c0, c1, c2⟩, _⟩ := HH.out k hlt
        obtain ⟨⟨p0, p1, p2⟩, _⟩ := HH.out (k - 1) (by omega)
        have A := Lib.hid hall
        clear hall
        generalize hx : d[k]! = x at c0 c1 c2
        generalize hy : d[k - 1]! = y at p0 p1 p2
        have B := Lib.hid (show d[k]! = x ∧ d[k - 1]! = y from ⟨hx, hy⟩)
        clear hx hy
        have hE := fun w => run_eqC true x y w
        simp only [if_true, mkC] at hE
        by_cases hdup : x = y
        · subst hdup
          go_wp2_with fail
          go_region
          clear c0 c1 c2 p0 p1 p2 hE
          have HI := Lib.hid (CompInv.start A.out (keeps_neg (by omega) (by rw [B.out.1, B.out.2])))
          clear A B
          go_wp2
          go_loopg [3, 5] d.size (fun gg s3 s5 wr => ∃ (kk k2 : Nat) (dk : Array Ce), s3 = .int .i64 kk ∧ s5 = .int .i64 k2 ∧ 1 ≤ k2 ∧ k + k2 ≤ d.size ∧ d.size - (k + k2) ≤ gg ∧ (RowC wr g dk ∧ w.grownBy wr (some g) ∧ w.heap.size = wr.heap.size) ∧ CompInv d (k + k2) kk dk)
          case atStart => exact ⟨k, 1, d, rfl, rfl, Nat.le_refl _, by omega, by omega, ⟨HH.out, ⟨rfl, rfl, rfl, Nat.le_refl _, fun _ _ _ => rfl⟩, rfl⟩, HI.out⟩
          case round =>
            obtain ⟨kk, k2, dk, rfl, rfl, h1, hle, hg2, hW, hI⟩ := hrel
            have hkk := hI.lt
            have hds := hI.size
            have HW := Lib.hid hW
            have I2 := Lib.hid hI
            have HHI := Lib.hid hI.high
            clear hW hI
            by_cases hlt2 : k + k2 < d.size
            · obtain ⟨⟨m0, m1, m2⟩, _⟩ := HW.out.1 (k + k2) (by omega)
              obtain ⟨⟨n0, n1, n2⟩, _⟩ := HW.out.1 (k + k2 - 1) (by omega)
              obtain ⟨⟨t0, t1, t2⟩, f0, f1, f2⟩ := HW.out.1 kk (by omega)
              rw [HHI.out (k + k2) (by omega)] at m0 m1 m2
              rw [HHI.out (k + k2 - 1) (by omega)] at n0 n1 n2
              rw [show (k + k2) * 3 = k * 3 + k2 * 3 by omega] at m0 m1 m2
              rw [show (k + k2 - 1) * 3 = k * 3 + (k2 - 1) * 3 by omega] at n0 n1 n2
              generalize hu : d[k + k2]! = u at m0 m1 m2
              generalize hv : d[k + k2 - 1]! = v at n0 n1 n2
              have C := Lib.hid (show d[k + k2]! = u ∧ d[k + k2 - 1]! = v from ⟨hu, hv⟩)
              clear hu hv
              have hE := fun w => run_eqC false u v w
              simp only [Bool.false_eq_true, if_false, mkC] at hE
              by_cases huv : u = v
              · subst huv
                go_wp2_with fail
                go_region
                clear m0 m1 m2 n0 n1 n2 t0 t1 t2 f0 f1 f2 hE
                go_wp2
                go_roundg (d.size - (k + (k2 + 1)))
                case measure => omega
                case rel => exact ⟨kk, k2 + 1, dk, rfl, by go_num, by omega, by omega, Nat.le_refl _, ⟨HW.out.1, grown_drew HW.out.2.1, HW.out.2.2⟩, I2.out.skip (keeps_neg (by omega) (by rw [C.out.1, C.out.2]))⟩
              · have hbn : (!decide (u = v)) = true := by simp [huv]
                rw [hbn] at hE
                go_wp2_with fail
                go_region
                go_wp2
                go_roundg (d.size - (k + (k2 + 1)))
                case measure => omega
                case rel => exact ⟨kk + 1, k2 + 1, dk.setIfInBounds kk u, by go_num, by go_num, by omega, by omega, Nat.le_refl _, ⟨(HW.out.1.set (by omega) u).drew, grown_drew (grown_set3 HW.out.2.1 kk u), HW.out.2.2.trans (size_set3 wr g kk u).symm⟩, by have := I2.out.keep hlt2 (keeps_pos (by rw [C.out.1, C.out.2]; exact huv)); rwa [C.out.1] at this⟩
            · have hend : k + k2 = d.size := by omega
              obtain ⟨vs, hvl, hcl⟩ := run_clearC wr g (kk * 3) (d.size - kk) (cap - kk) (by omega) (fun j hj => by
                obtain ⟨⟨t0, t1, t2⟩, _⟩ := HW.out.1 (kk + j / 3) (by omega)
                have e : kk * 3 + j = (kk + j / 3) * 3 + j % 3 := by omega
                have h3 : j % 3 < 3 := Nat.mod_lt _ (by omega)
                rw [e]
                match hj3 : j % 3, h3 with
                | 0, _ => rw [Nat.add_zero, t0]; rfl
                | 1, _ => rw [t1]; rfl
                | 2, _ => rw [t2]; rfl) (fun j hj => by
                obtain ⟨_, t0, t1, t2⟩ := HW.out.1 (kk + j / 3) (by omega)
                have e : kk * 3 + j = (kk + j / 3) * 3 + j % 3 := by omega
                have h3 : j % 3 < 3 := Nat.mod_lt _ (by omega)
                rw [e]
                match hj3 : j % 3, h3 with
                | 0, _ => rw [Nat.add_zero]; exact t0
                | 1, _ => exact t1
                | 2, _ => exact t2)
              have HV := Lib.hid hvl
              clear hvl
              go_wp2
              go_ret
              have hI := I2.out
              rw [hend] at hI
              exact ⟨by rw [hI.len]; rfl, comp_done hI HW.out.1 HW.out.2.1 HW.out.2.2 rfl⟩
        · have hbn : decide (x = y) = false := by simp [hdup]
          rw [hbn] at hE
          go_wp2_with fail
          go_region
          clear c0 c1 c2 p0 p1 p2 hE
          go_wp2
          go_roundg (d.size - (k + 1))
          case measure => omega
          case rel =>
            refine ⟨k + 1, q + 1, by omega, by omega, Nat.le_refl _, by go_num, rfl, fun j hj => ?_⟩
            by_cases e : j = k
            · subst e
              exact keeps_pos (by rw [B.out.1, B.out.2]; exact hdup)
            · exact A.out j (by omega)
      · have : k = d.size := by omega
        subst this
        go_wp2
        go_ret
        obtain ⟨e1, e2⟩ := HS.out _ ⟨q, rfl⟩ hall
        exact ⟨by rw [e1]; rfl, e2⟩
end Go.Proofs.Ytjjpfddgcilliaa
