/-
  LAYER 28: PLAIN MATHEMATICS OF CELLS: their order; lists in order, each once.
  LAYER 28: CELLS IN MEMORY: as three cells one behind the other, as a map's key; lists of cells; maps keyed by cells.
  LAYER 28: MAPS KEYED BY CELLS, as functions of cells: what is looked up, stored, taken out, counted.
-/
import Derived.Test.YtjjpfddgcilliaaBox
import Derived.Shelf.SlSortCmp.Insertion
import Derived.Lib.SlicesCompact
import Derived.Maps.RangeWalk
import Derived.Maps.OwnIn
import Derived.Sort.MapsRangeIn
import Derived.DeepKeys5
set_option linter.unusedSimpArgs false
set_option linter.unusedVariables false
namespace Go.Proofs.Ytjjpfddgcilliaa
open Go.RowKit Go.Shelf Go.Sort Go.Lib
set_option maxRecDepth 100000

/-- a cell: its sheet, column and row. -/
abbrev Ce := Int × Int × Int
/-- a cell is ahead of another one: by sheets, then rows, then columns. -/
def cLt (x y : Ce) : Bool := decide (x.1 < y.1 ∨ x.1 = y.1 ∧ (x.2.2 < y.2.2 ∨ x.2.2 = y.2.2 ∧ x.2.1 < y.2.1))
theorem cLt_iff {x y : Ce} : cLt x y = true ↔ (x.1 < y.1 ∨ x.1 = y.1 ∧ (x.2.2 < y.2.2 ∨ x.2.2 = y.2.2 ∧ x.2.1 < y.2.1)) := by unfold cLt; exact decide_eq_true_iff
theorem cLt_false {x y : Ce} : cLt x y = false ↔ ¬ (x.1 < y.1 ∨ x.1 = y.1 ∧ (x.2.2 < y.2.2 ∨ x.2.2 = y.2.2 ∧ x.2.1 < y.2.1)) := by unfold cLt; exact decide_eq_false_iff_not
theorem cLt_irrefl (x : Ce) : cLt x x = false := by rw [cLt_false]; omega
theorem cLt_trans {x y z : Ce} (h : cLt x y = true) (k : cLt y z = true) : cLt x z = true := by rw [cLt_iff] at *; omega
theorem ce_ext {x y : Ce} (h1 : x.1 = y.1) (h2 : x.2.1 = y.2.1) (h3 : x.2.2 = y.2.2) : x = y := Prod.ext h1 (Prod.ext h2 h3)
theorem cLt_total {x y : Ce} (h : cLt x y = false) (k : cLt y x = false) : x = y := by
  rw [cLt_false] at *
  exact ce_ext (by omega) (by omega) (by omega)
theorem cLt_asymm {x y : Ce} (h : cLt x y = true) : cLt y x = false := by rw [cLt_iff] at h; rw [cLt_false]; omega
/-- what the order's function answers. -/
def cfO (x y : Ce) : Int := if cLt x y then -1 else if cLt y x then 1 else 0
theorem ltOf_cfO (x y : Ce) : ltOf cfO x y = cLt x y := by
  unfold ltOf cfO
  cases h : cLt x y with
  | true => simp
  | false => cases k : cLt y x <;> simp
theorem swo_cfO : SWO (ltOf cfO) where
  irrefl x := by rw [ltOf_cfO]; exact cLt_irrefl x
  trans x y z h1 h2 := by rw [ltOf_cfO] at *; exact cLt_trans h1 h2
  ntrans x y z h1 h2 := by rw [ltOf_cfO] at *; rw [cLt_false] at *; omega
/-- in order, each once. -/
def Srt (l : List Ce) : Prop := l.Pairwise fun x y => cLt x y = true
theorem srt_ext : ∀ {l l' : List Ce}, Srt l → Srt l' → (∀ x, x ∈ l ↔ x ∈ l') → l = l'
  | [], [], _, _, _ => rfl
  | [], y :: r, _, _, h => absurd ((h y).2 (by simp)) (by simp)
  | x :: r, [], _, _, h => absurd ((h x).1 (by simp)) (by simp)
  | x :: r, y :: s, h1, h2, h => by
    obtain ⟨a1, a2⟩ := List.pairwise_cons.1 h1
    obtain ⟨b1, b2⟩ := List.pairwise_cons.1 h2
    have e : x = y := by
      refine cLt_total ?_ ?_
      · cases hc : cLt x y with
        | false => rfl
        | true =>
          rcases List.mem_cons.1 ((h x).1 (by simp)) with e | hm
          · rw [e, cLt_irrefl] at hc; cases hc
          · rw [cLt_asymm (b1 x hm)] at hc; cases hc
      · cases hc : cLt y x with
        | false => rfl
        | true =>
          rcases List.mem_cons.1 ((h y).2 (by simp)) with e | hm
          · rw [e, cLt_irrefl] at hc; cases hc
          · rw [cLt_asymm (a1 y hm)] at hc; cases hc
    subst e
    rw [srt_ext a2 b2 fun z => ?_]
    constructor
    · intro hz
      rcases List.mem_cons.1 ((h z).1 (by simp [hz])) with e | hm
      · subst e; have := a1 z hz; rw [cLt_irrefl] at this; cases this
      · exact hm
    · intro hz
      rcases List.mem_cons.1 ((h z).2 (by simp [hz])) with e | hm
      · subst e; have := b1 z hz; rw [cLt_irrefl] at this; cases this
      · exact hm
/-- a cell put in at its place. -/
def insC (x : Ce) : List Ce → List Ce
  | [] => [x]
  | y :: r => if cLt x y then x :: y :: r else if cLt y x then y :: insC x r else y :: r
theorem mem_insC (x : Ce) : ∀ (l : List Ce) (z : Ce), z ∈ insC x l ↔ z = x ∨ z ∈ l
  | [], z => by simp [insC]
  | y :: r, z => by
    unfold insC
    cases h : cLt x y with
    | true => simp
    | false =>
      cases k : cLt y x with
      | true => simp [mem_insC x r z]; constructor <;> (intro hh; rcases hh with h1 | h1 | h1 <;> simp [h1])
      | false => have e := cLt_total h k; subst e; simp
theorem srt_insC (x : Ce) : ∀ {l : List Ce}, Srt l → Srt (insC x l)
  | [], _ => by simp [insC, Srt]
  | y :: r, hl => by
    obtain ⟨a1, a2⟩ := List.pairwise_cons.1 hl
    unfold insC
    cases h : cLt x y with
    | true =>
      simp only [if_true]
      refine List.pairwise_cons.2 ⟨fun z hz => ?_, hl⟩
      rcases List.mem_cons.1 hz with e | hm
      · rw [e]; exact h
      · exact cLt_trans h (a1 z hm)
    | false =>
      cases k : cLt y x with
      | true =>
        simp only [Bool.false_eq_true, if_false, if_true]
        refine List.pairwise_cons.2 ⟨fun z hz => ?_, srt_insC x a2⟩
        rcases (mem_insC x r z).1 hz with e | hm
        · rw [e]; exact k
        · exact a1 z hm
      | false => simpa using hl
/-- a list in order, each once. -/
def onc (l : List Ce) : List Ce := l.foldl (fun a x => insC x a) []
theorem onc_snoc (l : List Ce) (x : Ce) : onc (l ++ [x]) = insC x (onc l) := by unfold onc; rw [List.foldl_append]; rfl
theorem onc_fold : ∀ (l a : List Ce), Srt a → Srt (l.foldl (fun a x => insC x a) a) ∧ ∀ z, z ∈ l.foldl (fun a x => insC x a) a ↔ z ∈ l ∨ z ∈ a
  | [], a, h => ⟨h, by simp⟩
  | x :: r, a, h => by
    obtain ⟨h1, h2⟩ := onc_fold r (insC x a) (srt_insC x h)
    refine ⟨h1, fun z => ?_⟩
    rw [List.foldl_cons, h2 z, mem_insC]
    simp only [List.mem_cons]
    constructor
    · rintro (a | b | c)
      · exact Or.inl (Or.inr a)
      · exact Or.inl (Or.inl b)
      · exact Or.inr c
    · rintro ((a | b) | c)
      · exact Or.inr (Or.inl a)
      · exact Or.inl b
      · exact Or.inr (Or.inr c)
theorem srt_onc (l : List Ce) : Srt (onc l) := (onc_fold l [] List.Pairwise.nil).1
theorem mem_onc {l : List Ce} {z : Ce} : z ∈ onc l ↔ z ∈ l := by have := (onc_fold l [] List.Pairwise.nil).2 z; simpa [onc] using this
theorem onc_eq {l l' : List Ce} (h : Srt l') (hm : ∀ z, z ∈ l' ↔ z ∈ l) : l' = onc l := srt_ext h (srt_onc l) fun z => (hm z).trans mem_onc.symm
theorem insC_length (x : Ce) : ∀ l : List Ce, (insC x l).length ≤ l.length + 1
  | [] => by simp [insC]
  | y :: r => by
    unfold insC
    split
    · simp
    · split
      · have := insC_length x r; simp; omega
      · simp
theorem onc_length (l : List Ce) : (onc l).length ≤ l.length := by
  have : ∀ (l a : List Ce), (l.foldl (fun a x => insC x a) a).length ≤ l.length + a.length := by
    intro l
    induction l with
    | nil => intro a; simp
    | cons x r ih => intro a; have h1 := ih (insC x a); have h2 := insC_length x a; simp only [List.foldl_cons, List.length_cons]; omega
  simpa [onc] using this l []
/-- what sorts, then leaves out what stands twice, does the same. -/
theorem compact_srt (d : Array Ce) (h : ∀ i j, i < j → j < d.size → cLt d[j]! d[i]! = false) : Srt (compactUpTo d d.size) ∧ ∀ z, z ∈ compactUpTo d d.size ↔ z ∈ d.toList := by
  constructor
  · unfold compactUpTo Srt
    rw [List.pairwise_map]
    have h1 : (List.range d.size).Pairwise (· < ·) := List.pairwise_lt_range
    have h2 := h1.filter (keeps d)
    refine List.Pairwise.imp_of_mem ?_ h2
    intro i j hi hj hij
    have hj1 := (List.mem_filter.1 hj)
    have hj2 : j < d.size := List.mem_range.1 hj1.1
    have hk : j = 0 ∨ d[j]! ≠ d[j - 1]! := by simpa [keeps] using hj1.2
    have hk2 : d[j]! ≠ d[j - 1]! := by rcases hk with h0 | h0; · omega
                                       · exact h0
    have a1 := h (j - 1) j (by omega) hj2
    have a2 : cLt d[j - 1]! d[j]! = true := by
      cases hc : cLt d[j - 1]! d[j]! with
      | true => rfl
      | false => exact absurd (cLt_total a1 hc) hk2
    by_cases e : i = j - 1
    · rw [e]; exact a2
    · have a3 := h i (j - 1) (by omega) (by omega)
      rw [cLt_false] at a3
      rw [cLt_iff] at a2 ⊢
      omega
  · intro z
    unfold compactUpTo
    rw [List.mem_map]
    constructor
    · rintro ⟨i, hi, rfl⟩
      have := List.mem_range.1 (List.mem_filter.1 hi).1
      rw [getElem!_pos d i this]
      exact Array.mem_toList_iff.2 (Array.getElem_mem this)
    · intro hz
      obtain ⟨i, hi, e⟩ := List.getElem_of_mem hz
      have hi' : i < d.size := by simpa using hi
      have e' : d[i]! = z := by rw [getElem!_pos d i hi']; simpa using e
      have : ∀ n i, i ≤ n → i < d.size → d[i]! = z → ∃ j, j ∈ (List.range d.size).filter (keeps d) ∧ d[j]! = z := by
        intro n
        induction n with
        | zero => intro i h1 h2 h3; obtain rfl : i = 0 := by omega
                  exact ⟨0, List.mem_filter.2 ⟨List.mem_range.2 h2, by simp [keeps]⟩, h3⟩
        | succ n ih =>
          intro i h1 h2 h3
          by_cases h0 : i = 0
          · subst h0; exact ⟨0, List.mem_filter.2 ⟨List.mem_range.2 h2, by simp [keeps]⟩, h3⟩
          · by_cases hk : d[i]! = d[i - 1]!
            · exact ih (i - 1) (by omega) (by omega) (by rw [← hk]; exact h3)
            · exact ⟨i, List.mem_filter.2 ⟨List.mem_range.2 h2, by simp [keeps, hk]⟩, h3⟩
      exact this i i (Nat.le_refl _) hi' e'
end Go.Proofs.Ytjjpfddgcilliaa
namespace Go.Proofs.Ytjjpfddgcilliaa
open Go.RowKit Go.Shelf Go.Sort Go.Lib Go.Maps
set_option maxRecDepth 100000

/-- a cell's three numbers, one behind the other; as one value; that they are numbers of 64 bits. -/
def ec (x : Ce) : List Value := [.int .i64 x.1, .int .i64 x.2.1, .int .i64 x.2.2]
def mkC (x : Ce) : Value := .agg #[.int .i64 x.1, .int .i64 x.2.1, .int .i64 x.2.2]
def okC (x : Ce) : Prop := (Lit.int .i64 x.1).wf = true ∧ (Lit.int .i64 x.2.1).wf = true ∧ (Lit.int .i64 x.2.2).wf = true
theorem mkC_inj {x y : Ce} (h : mkC x = mkC y) : x = y := by
  unfold mkC at h
  simp at h
  exact ce_ext h.1 h.2.1 h.2.2
def flC (l : List Ce) : List Value := l.flatMap ec
theorem flC_length : ∀ l : List Ce, (flC l).length = l.length * 3
  | [] => rfl
  | x :: r => by have := flC_length r; unfold flC at *; rw [List.flatMap_cons, List.length_append, this]; simp [ec]; omega
theorem flC_cons (x : Ce) (l : List Ce) : flC (x :: l) = ec x ++ flC l := by unfold flC; rw [List.flatMap_cons]
theorem flC_append (l m : List Ce) : flC (l ++ m) = flC l ++ flC m := by unfold flC; rw [List.flatMap_append]
theorem flC_get : ∀ (l : List Ce) (k : Nat) (h : k < l.length), (flC l)[k * 3]? = some (.int .i64 l[k].1) ∧ (flC l)[k * 3 + 1]? = some (.int .i64 l[k].2.1) ∧ (flC l)[k * 3 + 2]? = some (.int .i64 l[k].2.2)
  | [], k, h => absurd h (by simp)
  | x :: r, 0, h => by rw [flC_cons]; simp [ec]
  | x :: r, k + 1, h => by
    have := flC_get r k (by simpa using h)
    rw [flC_cons]
    have e : ∀ j, (ec x ++ flC r)[(k + 1) * 3 + j]? = (flC r)[k * 3 + j]? := fun j => by
      rw [List.getElem?_append_right (by simp [ec]; omega)]
      congr 1
      simp [ec]; omega
    exact ⟨by have := (e 0).trans this.1; simpa using this, (e 1).trans this.2.1, (e 2).trans this.2.2⟩
theorem flC_one : ∀ (l : List Ce), ∀ u ∈ flC l, u.oneCell' = true := by
  intro l u hu
  unfold flC at hu
  obtain ⟨x, _, hx⟩ := List.mem_flatMap.1 hu
  simp [ec] at hx
  rcases hx with rfl | rfl | rfl <;> rfl
/-! ### lists of cells in memory -/
def CsAt (W : World) (v : Value) (l : List Ce) : Prop :=
  (v = .slice none 0 0 ∧ l = []) ∨ ∃ g o cap : Nat, v = .slice (some ⟨g, o, none⟩) l.length cap ∧ g < W.heap.size ∧ ∀ j u, (flC l)[j]? = some u → W.cell? ⟨g, o + j, none⟩ = some u
def blkOf : Value → Option Nat
  | .slice (some a) _ _ => some a.block
  | _ => none
theorem CsAt.below {W W' : World} {v : Value} {l : List Ce} (h : CsAt W v l) (hb : Below W.heap.size W W') : CsAt W' v l := by
  rcases h with h | ⟨g, o, cap, hv, hg, hc⟩
  · exact Or.inl h
  · exact Or.inr ⟨g, o, cap, hv, Nat.lt_of_lt_of_le hg hb.size, fun j u hj => belK hb (hc j u hj) hg⟩
/-- .. stays while other blocks, and maps, are written. -/
theorem CsAt.kept {W W' : World} {v : Value} {l : List Ce} (h : CsAt W v l) (hs : W.heap.size ≤ W'.heap.size) (hk : ∀ b cs t f, blkOf v = some b → W.heap[b]? = some (.cells cs t f) → W'.heap[b]? = W.heap[b]?) : CsAt W' v l := by
  rcases h with h | ⟨g, o, cap, hv, hg, hc⟩
  · exact Or.inl h
  · refine Or.inr ⟨g, o, cap, hv, Nat.lt_of_lt_of_le hg hs, fun j u hj => ?_⟩
    have hj' := hc j u hj
    have : ∃ cs t f, W.heap[g]? = some (.cells cs t f) := by
      unfold World.cell? at hj'
      cases hh : W.heap[g]? with
      | none => rw [hh] at hj'; simp at hj'
      | some ob => cases ob <;> rw [hh] at hj' <;> simp at hj' <;> exact ⟨_, _, _, rfl⟩
    obtain ⟨cs, t, f, hob⟩ := this
    rw [World.cell?_of_block (a := ⟨g, o + j, none⟩) (hk g cs t f (by rw [hv]; rfl) hob)]
    exact hj'
theorem CsAt.lt {W : World} {v : Value} {l : List Ce} (h : CsAt W v l) {b : Nat} (hb : blkOf v = some b) : b < W.heap.size := by
  rcases h with ⟨rfl, _⟩ | ⟨g, o, cap, rfl, hg, _⟩
  · cases hb
  · cases hb; exact hg
theorem CsAt.of_owns {W : World} {v : Value} {l : List Ce} {base : Nat} {t : TypeId} (h : W.ownsRow base t 3 v l.length (flC l)) : CsAt W v l ∧ ∀ b, blkOf v = some b → base ≤ b := by
  rcases h.2 with ⟨hv, hx⟩ | ⟨g, cap, cur, hv, hbase, hgg, _⟩
  · refine ⟨Or.inl ⟨hv, ?_⟩, fun b hb => by rw [hv] at hb; cases hb⟩
    have := flC_length l
    rw [hx] at this; simp at this; exact List.length_eq_zero_iff.1 (by omega)
  · refine ⟨Or.inr ⟨g, 0, cap, hv, (Array.getElem?_eq_some_iff.1 hgg).1, fun j u hj => ?_⟩, fun b hb => by rw [hv] at hb; cases hb; exact hbase⟩
    have hadd : (⟨g, 0, none⟩ : Addr).add j = ⟨g, 0 + j, none⟩ := by unfold Addr.add; split <;> simp_all
    have := h.cells (g := g) (by rw [hv]; rfl) _ _ hj
    rwa [hadd] at this

/-! ### a cell as a map's key -/
theorem Try.und_cell : Try.prog.underlying 32 = some (.struct #[{ name := "Sheet", type := 3, embedded := false, tag := "", pkgPath := "", offset := 0, byteOffset := 0 }, { name := "Col", type := 3, embedded := false, tag := "", pkgPath := "", offset := 1, byteOffset := 8 }, { name := "Row", type := 3, embedded := false, tag := "", pkgPath := "", offset := 2, byteOffset := 16 }]) := by kernel_rfl
theorem Try.und_int : Try.prog.underlying 3 = some (.int .i64) := by kernel_rfl
theorem Try.cells_cell : Try.prog.cellsOf 32 = 3 := by kernel_rfl
theorem Try.cells_int : Try.prog.cellsOf 3 = 1 := by kernel_rfl
theorem Try.laidOut : laidOutB Try.prog = true := by kernel_rfl
theorem Try.keyd : Keyed Try.prog 32 := Keyed.of_law (deep_law_laid Try.laidOut (m := 2) (by omega) (of_decide_eq_true (by kernel_rfl)) (by kernel_rfl) (by rw [Try.und_cell]))
/-- what a cell reads as, as a key. -/
noncomputable def klC (x : Ce) : Lit := (keyOf Try.prog 32 (mkC x)).getD .nil
theorem lits_cell (n : Nat) (a b c : Value) : Try.prog.keyLits (n + 2) 32 [a, b, c] = (do let p ← Try.prog.keyLits (n + 1) 3 [a]; let q ← Try.prog.keyLits (n + 1) 3 [b]; let r ← Try.prog.keyLits (n + 1) 3 [c]; pure (p ++ (q ++ r))) := by
  conv => lhs; unfold Program.keyLits
  rw [Try.und_cell]
  simp [Try.cells_cell, Try.cells_int, List.mapM_cons]
  cases Try.prog.keyLits (n + 1) 3 [a] <;> cases Try.prog.keyLits (n + 1) 3 [b] <;> cases Try.prog.keyLits (n + 1) 3 [c] <;> simp
theorem lits_int (n : Nat) (a : Int) : Try.prog.keyLits (n + 1) 3 [.int .i64 a] = if (Lit.int .i64 a).wf = true then some [.int .i64 a] else none := by
  unfold Program.keyLits; rw [Try.und_int]; simp
set_option maxRecDepth 100000 in
theorem keyOf_mkC {x : Ce} (h : okC x) : keyOf Try.prog 32 (mkC x) = some (klC x) := by
  have : ∃ l, keyOf Try.prog 32 (mkC x) = some l := by
    unfold keyOf
    rw [Try.und_cell]
    have hk : (Try.prog.keyType 32 && (mkC x).formed Try.prog 32) = true := by
      rw [show Try.prog.keyType 32 = true from by kernel_rfl]
      simp [mkC, Value.formed, Try.und_cell, Try.cells_cell]
    simp only [hk, if_true]
    obtain ⟨n, hn⟩ : ∃ n, Try.prog.types.size + 1 = n + 2 := ⟨Try.prog.types.size - 1, by have : 1 ≤ Try.prog.types.size := of_decide_eq_true (by kernel_rfl); omega⟩
    rw [hn]
    simp only [mkC, Value.cells, lits_cell, lits_int, h.1, h.2.1, h.2.2, if_true]
    exact ⟨_, rfl⟩
  obtain ⟨l, hl⟩ := this
  unfold klC
  rw [hl]; rfl
theorem klC_ne {x y : Ce} (hx : okC x) (hy : okC y) (h : x ≠ y) : klC y ≠ klC x := fun e => h (mkC_inj (Try.keyd.inj (keyOf_mkC hx) (e ▸ keyOf_mkC hy)))
set_option maxRecDepth 100000 in
theorem klC_key {x : Ce} (hx : okC x) : WideAt.IsKeyLit (klC x) := Try.keyd.key (keyOf_mkC hx)
set_option maxRecDepth 100000 in
/-- what reads as a key is a cell. -/
theorem keyOf_inv {v : Value} {l : Lit} (h : keyOf Try.prog 32 v = some l) : ∃ x, v = mkC x ∧ okC x ∧ l = klC x := by
  obtain ⟨xs, L, rfl, hl, rfl⟩ := keyOf_top (P := Try.prog) (by rw [Try.und_cell]) h
  obtain ⟨n, hn⟩ : ∃ n, Try.prog.types.size + 1 = n + 2 := ⟨Try.prog.types.size - 1, by have : 1 ≤ Try.prog.types.size := of_decide_eq_true (by kernel_rfl); omega⟩
  rw [hn] at hl
  have h3 : xs.toList.length = 3 := by
    unfold Program.keyLits at hl
    rw [Try.und_cell] at hl
    simp only [Try.cells_cell] at hl
    split at hl
    · rename_i hc; exact hc.1
    · cases hl
  obtain ⟨a, b, c, hx⟩ : ∃ a b c, xs.toList = [a, b, c] := by
    match hq : xs.toList, h3 with
    | [a, b, c], _ => exact ⟨a, b, c, rfl⟩
  rw [hx, lits_cell] at hl
  have one : ∀ {u : Value} {M : List Lit}, Try.prog.keyLits (n + 1) 3 [u] = some M → ∃ z : Int, u = .int .i64 z ∧ (Lit.int .i64 z).wf = true := by
    intro u M hu
    unfold Program.keyLits at hu
    rw [Try.und_int] at hu
    cases u <;> simp at hu
    obtain ⟨⟨rfl, hw⟩, _⟩ := hu
    exact ⟨_, rfl, hw⟩
  cases ha : Try.prog.keyLits (n + 1) 3 [a] with
  | none => rw [ha] at hl; simp at hl
  | some p =>
    cases hb : Try.prog.keyLits (n + 1) 3 [b] with
    | none => rw [ha, hb] at hl; simp at hl
    | some q =>
      cases hc : Try.prog.keyLits (n + 1) 3 [c] with
      | none => rw [ha, hb, hc] at hl; simp at hl
      | some r =>
        obtain ⟨z1, rfl, w1⟩ := one ha
        obtain ⟨z2, rfl, w2⟩ := one hb
        obtain ⟨z3, rfl, w3⟩ := one hc
        have e : (Value.agg xs) = mkC (z1, z2, z3) := by
          unfold mkC; congr 1; exact Array.toList_inj.1 (by rw [hx])
        refine ⟨(z1, z2, z3), e, ⟨w1, w2, w3⟩, ?_⟩
        rw [e] at h
        exact Option.some.inj (h.symm.trans (keyOf_mkC (x := (z1, z2, z3)) ⟨w1, w2, w3⟩))
end Go.Proofs.Ytjjpfddgcilliaa
namespace Go.Proofs.Ytjjpfddgcilliaa
open Go.RowKit Go.Shelf Go.Sort Go.Lib Go.Maps
set_option maxRecDepth 100000

/-- an element as it stands. -/
def rawR (v : Value) : Option (DataW Value × List MemPlace) := some (.held v, [])
/-- block b is a map of at most n entries, which holds f. -/
def MapAt (W : World) (b n : Nat) (f : Ce → Option Value) : Prop :=
  (∃ D : DataW Value, W.ownsMap Try.prog 32 rawR b n D ∧ ∀ x, okC x → ∀ z, D.atKey (klC x) z = (match f x with | some v => .held v | none => z)) ∧ ∀ x v, f x = some v → okC x
theorem MapAt.mono {W : World} {b n n' : Nat} {f : Ce → Option Value} (h : MapAt W b n f) (hn : n ≤ n') : MapAt W b n' f := by
  obtain ⟨⟨D, h1, h2⟩, h3⟩ := h; exact ⟨⟨D, h1.mono hn, h2⟩, h3⟩
theorem MapAt.lt {W : World} {b n : Nat} {f : Ce → Option Value} (h : MapAt W b n f) : b < W.heap.size := by obtain ⟨⟨D, h1, _⟩, _⟩ := h; exact h1.lt
theorem MapAt.isMap {W : World} {b n : Nat} {f : Ce → Option Value} (h : MapAt W b n f) : ∃ es c, W.heap[b]? = some (.map es c) := by obtain ⟨⟨D, ⟨es, c, hb, _⟩, _⟩, _⟩ := h; exact ⟨es, c, hb⟩
theorem MapAt.blk {W W' : World} {b n : Nat} {f : Ce → Option Value} (h : MapAt W b n f) (hb : W'.heap[b]? = W.heap[b]?) : MapAt W' b n f := by
  obtain ⟨⟨D, ⟨es, c, h0, r⟩, h2⟩, h3⟩ := h; exact ⟨⟨D, ⟨es, c, hb.trans h0, r⟩, h2⟩, h3⟩
theorem MapAt.kept {W W' : World} {row : Option Nat} {b n : Nat} {f : Ce → Option Value} (h : MapAt W b n f) (hg : W.grownBy W' row) (hne : some b ≠ row) : MapAt W' b n f := h.blk (hg.block b h.lt hne)
theorem MapAt.below {W W' : World} {b n : Nat} {f : Ce → Option Value} (h : MapAt W b n f) (hb : Below W.heap.size W W') : MapAt W' b n f := h.blk (hb.block b h.lt)
theorem MapAt.congr {W : World} {b n : Nat} {f g : Ce → Option Value} (h : MapAt W b n f) (e : ∀ x, f x = g x) : MapAt W b n g := by rwa [show g = f from funext fun x => (e x).symm]
theorem MapAt.made (W : World) : MapAt (W.alloc (.map #[] 0)) W.heap.size 0 fun _ => none :=
  ⟨⟨_, World.ownsMap_made W _ _ _, fun x _ z => rfl⟩, fun _ _ h => by cases h⟩
theorem MapAt.val {D : DataW Value} {f : Ce → Option Value} {x : Ce} {y : DataW Value} (h : ∀ z, D.atKey (klC x) z = (match f x with | some v => .held v | none => z)) (hy : ∀ z, D.atKey (klC x) z = y) : ∃ v, f x = some v ∧ y = .held v := by
  cases hf : f x with
  | some v => exact ⟨v, rfl, by rw [← hy .nil, h .nil, hf]⟩
  | none =>
    rw [hf] at h
    have h1 := (h .nil).symm.trans (hy .nil)
    have h2 := (h (.agg [])).symm.trans (hy (.agg []))
    simp at h1 h2
    rw [← h1] at h2; cases h2
/-- m[x], with and without the second answer. -/
theorem MapAt.look {W : World} {b n : Nat} {f : Ce → Option Value} (h : MapAt W b n f) (c : Bool) {t e : TypeId} (ht : Try.prog.underlying t = some (.map 32 e)) {z : Value} (hz : (zeroValue e).run Try.prog W = .ok z W) {x : Ce} (hx : okC x) :
    (Instr.lookup t (.map (some b)) (mkC x) c).run Try.prog W = .ok (if c then .tuple #[(f x).getD z, .bool (f x).isSome] else (f x).getD z) W := by
  obtain ⟨⟨D, ⟨es, clock, hb, F, hs, rfl⟩, h2⟩, _⟩ := h
  have hat := h2 x hx
  rcases Maps.fit_look c Try.keyd ht hz hb F (keyOf_mkC hx) with ⟨hrun, _, h3⟩ | ⟨e0, y, _, _, hrun, hR, h3, _⟩
  · have : f x = none := by
      cases hf : f x with
      | none => rfl
      | some v =>
        rw [hf] at hat
        have h4 := (hat .nil).symm.trans (h3 .nil)
        simp at h4
    rw [hrun, this]; rfl
  · obtain ⟨v, hv, hy⟩ := MapAt.val hat h3
    simp [rawR] at hR
    rw [← hR] at hy
    simp at hy
    rw [hrun, hv, hy]; rfl
set_option maxRecDepth 100000 in
/-- m[x] = v. -/
theorem MapAt.store {W : World} {b n : Nat} {f : Ce → Option Value} (h : MapAt W b n f) {t e : TypeId} (ht : Try.prog.underlying t = some (.map 32 e)) (hn : n < maxLen) {x : Ce} (hx : okC x) (v : Value) :
    ∃ W', (Instr.mapUpdate t (.map (some b)) (mkC x) v).run Try.prog W = .ok () W' ∧ MapAt W' b (n + 1) (fun y => if y = x then some v else f y) ∧ W.grownBy W' (some b) := by
  obtain ⟨⟨D, h1, h2⟩, h3⟩ := h
  obtain ⟨W', hr, ho, hg⟩ := h1.update Try.keyd ht hn (keyOf_mkC hx) (val := v) (d := .held v) (ps := []) rfl
  refine ⟨W', hr, ⟨⟨_, ho, fun y hy z => ?_⟩, fun y u hu => ?_⟩, hg⟩
  · by_cases e : y = x
    · subst e; rw [atKey_put_same h1.isMap (klC_key hx)]; simp
    · rw [atKey_put_other (klC_ne hx hy fun h => e h.symm)]; simp only [e, if_false]; exact h2 y hy z
  · by_cases e : y = x
    · subst e; exact hx
    · simp only [e, if_false] at hu; exact h3 y u hu
/-- delete(m, x). -/
theorem MapAt.drop {W : World} {b n : Nat} {f : Ce → Option Value} (h : MapAt W b n f) {t e : TypeId} (ht : Try.prog.underlying t = some (.map 32 e)) {x : Ce} (hx : okC x) (ty : TypeId) :
    ∃ W', (Builtin.delete_ #[t, 32] ty #[.map (some b), mkC x]).run Try.prog W = .ok (.tuple #[]) W' ∧ MapAt W' b n (fun y => if y = x then none else f y) ∧ W.grownBy W' (some b) := by
  obtain ⟨⟨D, h1, h2⟩, h3⟩ := h
  obtain ⟨W', hr, ho, hg⟩ := h1.drop Try.keyd ht (keyOf_mkC hx) ty
  refine ⟨W', hr, ⟨⟨_, ho, fun y hy z => ?_⟩, fun y u hu => ?_⟩, hg.grown⟩
  · by_cases e : y = x
    · subst e; rw [atKey_del_same]; simp
    · rw [atKey_del_other (klC_ne hx hy fun h => e h.symm)]; simp only [e, if_false]; exact h2 y hy z
  · by_cases e : y = x
    · simp only [e, if_true] at hu; cases hu
    · simp only [e, if_false] at hu; exact h3 y u hu
theorem mapKeys {W : World} {b n : Nat} {D : DataW Value} (h : W.ownsMap Try.prog 32 rawR b n D) : ∃ es, D = .map es ∧ ∀ p ∈ es, KeysOf Try.prog 32 p.1 := by
  obtain ⟨es, clock, _, F, _, rfl⟩ := h
  exact ⟨_, rfl, fun p hp => fit_keys F p (mem_sorted.1 hp)⟩
/-- len(m): 0 just where there is nothing. -/
theorem MapAt.len {W : World} {b n : Nat} {f : Ce → Option Value} (h : MapAt W b n f) {t e : TypeId} (ht : Try.prog.underlying t = some (.map 32 e)) (ty : TypeId) :
    ∃ k : Nat, k ≤ n ∧ (Builtin.len_ #[t] ty #[.map (some b)]).run Try.prog W = .ok (.int .i64 k) W ∧ (k = 0 ↔ ∀ x, f x = none) := by
  obtain ⟨⟨D, h1, h2⟩, h3⟩ := h
  refine ⟨_, h1.size_le, h1.len ht ty, ?_⟩
  obtain ⟨es, hD, hk⟩ := mapKeys h1
  constructor
  · intro h0 x
    cases hf : f x with
    | none => rfl
    | some v =>
      have hx := h3 x v hf
      have := h2 x hx .nil
      rw [hf] at this
      have hes : es = [] := by rw [hD, Maps.size_eq] at h0; exact List.length_eq_zero_iff.1 h0
      rw [hD, hes] at this
      simp [DataW.atKey] at this
  · intro hall
    rw [hD, Maps.size_eq]
    cases es with
    | nil => rfl
    | cons p r =>
      obtain ⟨v, hv⟩ := hk p (by simp)
      obtain ⟨x, _, hx, hp⟩ := keyOf_inv hv
      have h4 : has D (klC x) = true := by
        rw [hD, has_eq, ← hp]
        exact List.any_eq_true.2 ⟨p, by simp, WideAt.sameKey_self (Try.keyd.key hv)⟩
      have h5 : has D (klC x) = false := has_false_of_atKey fun z => by rw [h2 x hx z, hall x]
      rw [h4] at h5; cases h5

/-! ### at the operation, for the walk -/
section
variable {w : World} {ops : Array Oper} {rest : List Oper} {o : Oper} {a : Act} {Q : Exit → Act → World → Prop}
theorem wpList_look (hg : o.guard = none) (m x : Operand) (t : TypeId) (c : Bool) (hop : o.op = Op.lookup t m x c) {e : TypeId} (ht : Try.prog.underlying t = some (.map 32 e)) {z : Value} (hz : (zeroValue e).run Try.prog w = .ok z w) {b n : Nat} {f : Ce → Option Value}
    (hm : a.eval m = .map (some b)) (h : MapAt w b n f) {y : Ce} (hx : a.eval x = mkC y) (hy : okC y)
    (hK : wpList Try.prog ops Q rest (a.put o.dst (if c then .tuple #[(f y).getD z, .bool (f y).isSome] else (f y).getD z)) w) : wpList Try.prog ops Q (o :: rest) a w := by
  refine wpList_plain hg fun K' hK' => ?_
  unfold Oper.wp
  simp [execOp, hop, hm, hx, h.look c ht hz hy, Result.andThen]
  exact hK' _ _ hK
theorem wpList_store (hg : o.guard = none) (m x v : Operand) (t : TypeId) (hop : o.op = Op.mapUpdate t m x v) {e : TypeId} (ht : Try.prog.underlying t = some (.map 32 e)) {b n : Nat} {f : Ce → Option Value}
    (hm : a.eval m = .map (some b)) (h : MapAt w b n f) (hn : n < maxLen) {y : Ce} (hx : a.eval x = mkC y) (hy : okC y) {u : Value} (hv : a.eval v = u)
    (hK : ∀ w', MapAt w' b (n + 1) (fun x => if x = y then some u else f x) → w.grownBy w' (some b) → wpList Try.prog ops Q rest (a.put o.dst undef) w') : wpList Try.prog ops Q (o :: rest) a w := by
  refine wpList_plain hg fun K' hK' => ?_
  obtain ⟨w', hr, h1, h2⟩ := h.store ht hn hy u
  unfold Oper.wp
  simp [execOp, hop, hm, hx, hv, hr, Result.andThen]
  exact hK' _ _ (hK w' h1 h2)
end
end Go.Proofs.Ytjjpfddgcilliaa
