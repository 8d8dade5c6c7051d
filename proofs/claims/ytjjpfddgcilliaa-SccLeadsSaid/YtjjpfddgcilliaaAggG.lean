/-
  ARGUMENTS THAT ARE CELLS, OPENED AND SHUT.
-/
import Derived.Test.YtjjpfddgcilliaaRows
import Derived.KernelRfl
import Derived.Lib.SmallJoins
import Derived.OpenShut
import Derived.Deep.Slices
import Derived.Test.YtjjpfddgcilliaaGra23
namespace Go.Proofs.Ytjjpfddgcilliaa
set_option linter.unusedSimpArgs false
set_option linter.unusedVariables false
open Go.ChangeShapes Go.WideShapes Go.ChangeAt Go.RowKit Go.ChangeMaps Go.Joins Go.Deep

section
variable {H : Type} {enc : TypeId × Value → H} {W : World} {base : Nat} {spare : Nat → Bool} {held : Bool}
theorem cell_open_int {n : Nat} {t : TypeId} {c : Value} {y : DataW H × List MemPlace} (ht : Try.prog.underlying t = some (.int .i64)) (h : DataW.trod enc Try.prog W base spare held n t [c] = some y) : ∃ k : Int, c = .int .i64 k ∧ y = (.lit (.int .i64 k), []) ∧ (Lit.int .i64 k).wf = true := by
  obtain ⟨k, h1, hx, hw⟩ := DataW.trod_int ht h
  simp at h1
  exact ⟨k, h1, hx, hw⟩
theorem cells_cell : Try.prog.cellsOf 32 = 3 := by kernel_rfl
set_option maxRecDepth 100000 in
theorem open_cell {r : Reach} {b0 : Nat} {v : Value} {d : DataW H} {p : List MemPlace} (hv : Value.okWide Try.prog W r b0 32 v) (h : DataW.Trod enc Try.prog W base spare held 32 v d p) :
    ∃ (a b c : Int), v = .agg #[.int .i64 a, .int .i64 b, .int .i64 c] ∧ d = .agg [.lit (.int .i64 a), .lit (.int .i64 b), .lit (.int .i64 c)] ∧ p = [] ∧ (Lit.int .i64 a).wf = true ∧ (Lit.int .i64 b).wf = true ∧ (Lit.int .i64 c).wf = true := by
  obtain ⟨c0, c1, c2, y0, y1, y2, m, rfl, rfl, rfl, hy0, hy1, hy2⟩ := open_agg3 Try.underlying32 (by kernel_rfl) cells_cell hv h
  obtain ⟨a, rfl, rfl, ha⟩ := cell_open_int Try.underlying3 hy0
  obtain ⟨b, rfl, rfl, hb⟩ := cell_open_int Try.underlying3 hy1
  obtain ⟨c, rfl, rfl, hc⟩ := cell_open_int Try.underlying3 hy2
  exact ⟨a, b, c, rfl, rfl, rfl, ha, hb, hc⟩
set_option maxRecDepth 100000 in
theorem shut_cell {a b c : Int} (ha : (Lit.int .i64 a).wf = true) (hb : (Lit.int .i64 b).wf = true) (hc : (Lit.int .i64 c).wf = true) : DataW.Trod enc Try.prog W base spare held 32 (.agg #[.int .i64 a, .int .i64 b, .int .i64 c]) (.agg [.lit (.int .i64 a), .lit (.int .i64 b), .lit (.int .i64 c)]) [] :=
  shut_agg3 (y0 := (.lit (.int .i64 a), [])) (y1 := (.lit (.int .i64 b), [])) (y2 := (.lit (.int .i64 c), [])) Try.underlying32 (by kernel_rfl) cells_cell ⟨1, by simp [DataW.trod, Try.underlying3, ha]⟩ ⟨1, by simp [DataW.trod, Try.underlying3, hb]⟩ ⟨1, by simp [DataW.trod, Try.underlying3, hc]⟩
theorem g_three_of {α : Type} {l : List α} (h : l.length = 3) : ∃ a b c, l = [a, b, c] := by
  match l, h with
  | [a, b, c], _ => exact ⟨a, b, c, rfl⟩
theorem g_five_of {α : Type} {l : List α} (h : l.length = 5) : ∃ a b c d e, l = [a, b, c, d, e] := by
  match l, h with
  | [a, b, c, d, e], _ => exact ⟨a, b, c, d, e, rfl⟩
theorem g_addr {a : Addr} (h : a.spot = none) : a = ⟨a.block, a.off, none⟩ := by
  obtain ⟨b, o, s⟩ := a
  dsimp only at h
  subst h
  rfl
set_option maxRecDepth 100000 in
theorem cell_cells {n : Nat} {cs : List Value} {y : DataW H × List MemPlace} (h : DataW.trod enc Try.prog W base spare held n 32 cs = some y) : ∃ x : Ce, cs = ec x ∧ okC x := by
  obtain ⟨xs, n, _, hx, hl, hlen, hg⟩ := DataW.trod_struct Try.underlying32 h
  obtain ⟨c0, c1, c2, rfl⟩ := g_three_of (l := cs) (hl.trans cells_cell)
  obtain ⟨y0, y1, y2, rfl⟩ := g_three_of (l := xs) hlen
  have k2 : Try.prog.cellsOf 3 = 1 := by kernel_rfl
  have g0 := hg 0 _ rfl
  have g1 := hg 1 _ rfl
  have g2 := hg 2 _ rfl
  simp [k2] at g0 g1 g2
  obtain ⟨a, rfl, _, ha⟩ := cell_open_int Try.underlying3 g0
  obtain ⟨b, rfl, _, hb⟩ := cell_open_int Try.underlying3 g1
  obtain ⟨c, rfl, _, hc⟩ := cell_open_int Try.underlying3 g2
  exact ⟨(a, b, c), rfl, ha, hb, hc⟩
theorem cells_act28 : Try.prog.cellsOf 34 = 5 := by kernel_rfl
set_option maxRecDepth 100000 in
theorem act28_cells {n : Nat} {cs : List Value} {y : DataW H × List MemPlace} (h : DataW.trod enc Try.prog W base spare held n 34 cs = some y) : ∃ (k : Int) (x : Ce) (u : Value) (n' : Nat) (y' : DataW H × List MemPlace), cs = [.int .i64 k, .int .i64 x.1, .int .i64 x.2.1, .int .i64 x.2.2, u] ∧ okC x ∧ DataW.trod enc Try.prog W base spare held n' 30 [u] = some y' := by
  obtain ⟨xs, n, _, hx, hl, hlen, hg⟩ := DataW.trod_struct Try.underlying34 h
  obtain ⟨c0, c1, c2, c3, c4, rfl⟩ := g_five_of (l := cs) (hl.trans cells_act28)
  obtain ⟨y0, y1, y2, rfl⟩ := g_three_of (l := xs) hlen
  have k1 : Try.prog.cellsOf 30 = 1 := by kernel_rfl
  have k2 : Try.prog.cellsOf 3 = 1 := by kernel_rfl
  have g0 := hg 0 _ rfl
  have g1 := hg 1 _ rfl
  have g2 := hg 2 _ rfl
  simp [k1, k2, cells_cell] at g0 g1 g2
  obtain ⟨a, rfl, _, _⟩ := cell_open_int Try.underlying3 g0
  obtain ⟨x, hxc, hok⟩ := cell_cells g1
  simp only [ec, List.cons.injEq, and_true] at hxc
  obtain ⟨rfl, rfl, rfl⟩ := hxc
  exact ⟨a, x, c4, _, _, rfl, hok, g2⟩
end
section
variable {H : Type} {enc : TypeId × Value → H} {W : World} {base : Nat} {held : Bool}
set_option maxRecDepth 100000 in
theorem open_lst {n : Nat} {u : Value} {y : DataW H × List MemPlace} (h : DataW.trod enc Try.prog W base (fun _ => true) held n 30 [u] = some y) : ∃ l, LstAt W u l ∧ ∀ x ∈ l, okC x := by
  rcases open_slice Try.underlying30 h with ⟨hc, _⟩ | ⟨a, len, cap, m, n, D, Pl, hc, _, h1, h2, hm, _, hx⟩
  · obtain rfl : u = .slice none 0 0 := by simpa using hc
    exact ⟨[], Or.inl (Or.inl ⟨rfl, rfl⟩), fun x hx => by cases hx⟩
  · obtain rfl : u = .slice (some a) len cap := by simpa using hc
    simp only [if_true] at hm
    by_cases h0 : cap = 0
    · subst h0
      obtain rfl : len = 0 := by omega
      exact ⟨[], Or.inr ⟨a, rfl, rfl⟩, fun x hx => by cases hx⟩
    have hs : a.spot = none ∧ a.block < W.heap.size := by
      obtain ⟨cs', hc1, _⟩ := hx 0 (by omega)
      rw [cells_cell] at hc1
      obtain ⟨_, _, hcell⟩ := World.cells?_some hc1
      have h3 := hcell 0 (by omega)
      cases hv : cs'[0]? with
      | none => rw [hv] at h3; have := (World.cells?_some hc1).2.1; rw [List.getElem?_eq_none_iff] at hv; omega
      | some v =>
        rw [hv] at h3
        have e1 := World.cell?_spot h3
        have e2 := World.block_lt_of_cell? _ _ h3
        obtain ⟨b, o, s⟩ := a
        refine ⟨by simpa [Addr.add] using e1, ?_⟩
        have e3 : s = none := by simpa [Addr.add] using e1
        subst e3
        simpa [Addr.add] using e2
    obtain ⟨hs, hlt⟩ := hs
    have hs := g_addr hs
    obtain ⟨g, o, hg, ho⟩ : ∃ g o, g = a.block ∧ o = a.off := ⟨_, _, rfl, rfl⟩
    rw [← hg] at hlt
    rw [← hg, ← ho] at hs
    subst hs
    obtain ⟨F, hF⟩ := choose_lt (α := Ce) (n := len) (p := fun i x => (∀ j u, (ec x)[j]? = some u → W.cell? ⟨g, o + i * 3 + j, none⟩ = some u) ∧ okC x) (fun i hi => by
      obtain ⟨cs', hc1, hc2⟩ := hx i (by omega)
      obtain ⟨x, rfl, hok⟩ := cell_cells hc2
      refine ⟨x, fun j u hu => ?_, hok⟩
      rw [cells_cell] at hc1
      obtain ⟨_, _, hcell⟩ := World.cells?_some hc1
      have hj : j < 3 := (List.getElem?_eq_some_iff.1 hu).1
      have h3 := hcell j hj
      rw [hu, Addr.add_lit, Addr.add_lit] at h3
      exact h3)
    have hlen : ((List.range len).map F).length = len := by simp
    have hget : ∀ k (hk : k < len), ((List.range len).map F)[k]? = some (F k) := fun k hk => by rw [List.getElem?_map, List.getElem?_range hk]; rfl
    refine ⟨(List.range len).map F, Or.inl (Or.inr ⟨g, o, cap, by rw [hlen], hlt, fun j u hj => ?_⟩), fun x hx => ?_⟩
    · have hjl : j < (flC ((List.range len).map F)).length := (List.getElem?_eq_some_iff.1 hj).1
      rw [flC_length, hlen] at hjl
      obtain ⟨k, c, hk, hc3, rfl⟩ : ∃ k c, k < len ∧ c < 3 ∧ j = k * 3 + c := ⟨j / 3, j % 3, by omega, by omega, by omega⟩
      have hkk : k < ((List.range len).map F).length := by rw [hlen]; exact hk
      obtain ⟨a0, a1, a2⟩ := flC_get ((List.range len).map F) k hkk
      have e : ((List.range len).map F)[k] = F k := by simp
      have hcell := (hF k hk).1
      rw [e] at a0 a1 a2
      rw [← Nat.add_assoc]
      match c, hc3 with
      | 0, _ => exact hcell 0 u (by rw [Nat.add_zero, a0] at hj; exact hj)
      | 1, _ => exact hcell 1 u (by rw [a1] at hj; exact hj)
      | 2, _ => exact hcell 2 u (by rw [a2] at hj; exact hj)
    · obtain ⟨k, hk, rfl⟩ := List.mem_map.1 hx
      exact (hF k (List.mem_range.1 hk)).2
set_option maxRecDepth 100000 in
theorem open_acts28 {r : Reach} {b0 : Nat} {v : Value} {d : DataW H} {p : List MemPlace} (hv : Value.okWide Try.prog W r b0 22 v) (h : DataW.Trod enc Try.prog W base (fun _ => true) held 22 v d p) : ∃ N, ActsAt W v N ∧ N.length ≤ 9223372036854775807 := by
  have hv2 := hv
  simp only [Value.okWide, Try.underlying22] at hv2
  obtain ⟨fuel, hf⟩ := h
  have hc : v.cells.toList = [v] := by
    cases v <;> first | rfl | (exfalso; simp [Cell.okWide, Cell.ok, Try.underlying22] at hv2)
  rw [hc] at hf
  rcases open_slice Try.underlying22 hf with ⟨hc, _⟩ | ⟨a, len, cap, m, n, D, Pl, hc, _, h1, h2, hm, _, hx⟩
  · obtain rfl : v = .slice none 0 0 := by simpa using hc
    exact ⟨[], ⟨none, 0, rfl, fun k hk => absurd hk (by simp)⟩, by simp⟩
  · obtain rfl : v = .slice (some a) len cap := by simpa using hc
    simp only [Cell.okWide, Try.underlying22, Cell.ok] at hv2
    have hs := g_addr hv2.2.2.2.1
    obtain ⟨g, o, hg, ho⟩ : ∃ g o, g = a.block ∧ o = a.off := ⟨_, _, rfl, rfl⟩
    rw [← hg, ← ho] at hs
    subst hs
    simp only [if_true] at hm
    obtain ⟨F, hF⟩ := choose_lt (α := Ac) (n := len) (p := fun i z => ∃ u, g < W.heap.size ∧ W.cell? ⟨g, o + i * 5, none⟩ = some (.int .i64 z.1) ∧ W.cell? ⟨g, o + i * 5 + 1, none⟩ = some (.int .i64 z.2.1.1) ∧ W.cell? ⟨g, o + i * 5 + 2, none⟩ = some (.int .i64 z.2.1.2.1) ∧ W.cell? ⟨g, o + i * 5 + 3, none⟩ = some (.int .i64 z.2.1.2.2) ∧ W.cell? ⟨g, o + i * 5 + 4, none⟩ = some u ∧ LstAt W u z.2.2 ∧ okC z.2.1 ∧ ∀ y ∈ z.2.2, okC y) (fun i hi => by
      obtain ⟨cs', hc1, hc2⟩ := hx i (by omega)
      obtain ⟨k, x, u, n', y', rfl, hok, hu⟩ := act28_cells hc2
      obtain ⟨l, hl, hlo⟩ := open_lst hu
      rw [cells_act28] at hc1
      obtain ⟨_, _, hcell⟩ := World.cells?_some hc1
      have c0 := hcell 0 (by omega)
      have c1 := hcell 1 (by omega)
      have c2 := hcell 2 (by omega)
      have c3 := hcell 3 (by omega)
      have c4 := hcell 4 (by omega)
      rw [Addr.add_lit, Addr.add_lit] at c0 c1 c2 c3 c4
      exact ⟨(k, x, l), u, World.block_lt_of_cell? _ _ c0, c0, c1, c2, c3, c4, hl, hok, hlo⟩)
    have hlen : ((List.range len).map F).length = len := by simp
    refine ⟨(List.range len).map F, ⟨some ⟨g, o, none⟩, cap, by rw [hlen], fun k hk => ?_⟩, by rw [hlen]; unfold maxLen at h2; omega⟩
    have hk' : k < len := by rw [← hlen]; exact hk
    have e : ((List.range len).map F)[k] = F k := by simp
    obtain ⟨u, h3⟩ := hF k hk'
    rw [e]
    exact ⟨g, o, u, rfl, h3⟩
end
end Go.Proofs.Ytjjpfddgcilliaa
