/-
  LAYER 28: PLAIN MATHEMATICS OF CELLS: their order; lists in order, each once.
-/
import Derived.Test.YtjjpfddgcilliaaBox
import Derived.Shelf.SlSortCmp.Insertion
import Derived.Lib.SlicesCompact
set_option linter.unusedSimpArgs false
set_option linter.unusedVariables false
namespace Go.Proofs.Ytjjpfddgcilliaa
open Go.RowKit Go.Shelf Go.Sort Go.Lib
set_option maxRecDepth 100000

/-- a cell: its sheet, column and row. -/
abbrev Ce := Int × Int × Int
/-- a cell is ahead of another one: by sheets, then rows, then columns. -/
def cLt (x y : Ce) : Bool := decide (x.1 < y.1 ∨ x.1 = y.1 ∧ (x.2.2 < y.2.2 ∨ x.2.2 = y.2.2 ∧ x.2.1 < y.2.1))
theorem cLt_iff {x y : Ce} : cLt x y = true ↔ (x.1 < y.1 ∨ x.1 = y.1 ∧ (x.2.2 < y.2.2 ∨ x.2.2 = y.2.2 ∧ x.2.1 < y.2.1)) := by unfold cLt; exact decide_eq_true_iff
theorem cLt_false {x y : Ce} : cLt x y = false ↔ ¬ (x.1 < y.1 ∨ x.1 = y.1 ∧ (x.2.2 < y.2.2 ∨ x.2.2 = y.2.2 ∧ x.2.1 < y.2.1)) := by unfold cLt; exact decide_eq_false_iff_not
theorem cLt_irrefl (x : Ce) : cLt x x = false := by rw [cLt_false]; omega
theorem cLt_trans {x y z : Ce} (h : cLt x y = true) (k : cLt y z = true) : cLt x z = true := by rw [cLt_iff] at *; omega
theorem ce_ext {x y : Ce} (h1 : x.1 = y.1) (h2 : x.2.1 = y.2.1) (h3 : x.2.2 = y.2.2) : x = y := Prod.ext h1 (Prod.ext h2 h3)
theorem cLt_total {x y : Ce} (h : cLt x y = false) (k : cLt y x = false) : x = y := by
  rw [cLt_false] at *
  exact ce_ext (by omega) (by omega) (by omega)
theorem cLt_asymm {x y : Ce} (h : cLt x y = true) : cLt y x = false := by rw [cLt_iff] at h; rw [cLt_false]; omega
/-- what the order's function answers. -/
def cfO (x y : Ce) : Int := if cLt x y then -1 else if cLt y x then 1 else 0
theorem ltOf_cfO (x y : Ce) : ltOf cfO x y = cLt x y := by
  unfold ltOf cfO
  cases h : cLt x y with
  | true => simp
  | false => cases k : cLt y x <;> simp
theorem swo_cfO : SWO (ltOf cfO) where
  irrefl x := by rw [ltOf_cfO]; exact cLt_irrefl x
  trans x y z h1 h2 := by rw [ltOf_cfO] at *; exact cLt_trans h1 h2
  ntrans x y z h1 h2 := by rw [ltOf_cfO] at *; rw [cLt_false] at *; omega
/-- in order, each once. -/
def Srt (l : List Ce) : Prop := l.Pairwise fun x y => cLt x y = true
theorem srt_ext : ∀ {l l' : List Ce}, Srt l → Srt l' → (∀ x, x ∈ l ↔ x ∈ l') → l = l'
  | [], [], _, _, _ => rfl
  | [], y :: r, _, _, h => absurd ((h y).2 (by simp)) (by simp)
  | x :: r, [], _, _, h => absurd ((h x).1 (by simp)) (by simp)
  | x :: r, y :: s, h1, h2, h => by
    obtain ⟨a1, a2⟩ := List.pairwise_cons.1 h1
    obtain ⟨b1, b2⟩ := List.pairwise_cons.1 h2
    have e : x = y := by
      refine cLt_total ?_ ?_
      · cases hc : cLt x y with
        | false => rfl
        | true =>
          rcases List.mem_cons.1 ((h x).1 (by simp)) with e | hm
          · rw [e, cLt_irrefl] at hc; cases hc
          · rw [cLt_asymm (b1 x hm)] at hc; cases hc
      · cases hc : cLt y x with
        | false => rfl
        | true =>
          rcases List.mem_cons.1 ((h y).2 (by simp)) with e | hm
          · rw [e, cLt_irrefl] at hc; cases hc
          · rw [cLt_asymm (a1 y hm)] at hc; cases hc
    subst e
    rw [srt_ext a2 b2 fun z => ?_]
    constructor
    · intro hz
      rcases List.mem_cons.1 ((h z).1 (by simp [hz])) with e | hm
      · subst e; have := a1 z hz; rw [cLt_irrefl] at this; cases this
      · exact hm
    · intro hz
      rcases List.mem_cons.1 ((h z).2 (by simp [hz])) with e | hm
      · subst e; have := b1 z hz; rw [cLt_irrefl] at this; cases this
      · exact hm
/-- a cell put in at its place. -/
def insC (x : Ce) : List Ce → List Ce
  | [] => [x]
  | y :: r => if cLt x y then x :: y :: r else if cLt y x then y :: insC x r else y :: r
theorem mem_insC (x : Ce) : ∀ (l : List Ce) (z : Ce), z ∈ insC x l ↔ z = x ∨ z ∈ l
  | [], z => by simp [insC]
  | y :: r, z => by
    unfold insC
    cases h : cLt x y with
    | true => simp
    | false =>
      cases k : cLt y x with
      | true => simp [mem_insC x r z]; constructor <;> (intro hh; rcases hh with h1 | h1 | h1 <;> simp [h1])
      | false => have e := cLt_total h k; subst e; simp
theorem srt_insC (x : Ce) : ∀ {l : List Ce}, Srt l → Srt (insC x l)
  | [], _ => by simp [insC, Srt]
  | y :: r, hl => by
    obtain ⟨a1, a2⟩ := List.pairwise_cons.1 hl
    unfold insC
    cases h : cLt x y with
    | true =>
      simp only [if_true]
      refine List.pairwise_cons.2 ⟨fun z hz => ?_, hl⟩
      rcases List.mem_cons.1 hz with e | hm
      · rw [e]; exact h
      · exact cLt_trans h (a1 z hm)
    | false =>
      cases k : cLt y x with
      | true =>
        simp only [Bool.false_eq_true, if_false, if_true]
        refine List.pairwise_cons.2 ⟨fun z hz => ?_, srt_insC x a2⟩
        rcases (mem_insC x r z).1 hz with e | hm
        · rw [e]; exact k
        · exact a1 z hm
      | false => simpa using hl
/-- a list in order, each once. -/
def onc (l : List Ce) : List Ce := l.foldl (fun a x => insC x a) []
theorem onc_snoc (l : List Ce) (x : Ce) : onc (l ++ [x]) = insC x (onc l) := by unfold onc; rw [List.foldl_append]; rfl
theorem onc_fold : ∀ (l a : List Ce), Srt a → Srt (l.foldl (fun a x => insC x a) a) ∧ ∀ z, z ∈ l.foldl (fun a x => insC x a) a ↔ z ∈ l ∨ z ∈ a
  | [], a, h => ⟨h, by simp⟩
  | x :: r, a, h => by
    obtain ⟨h1, h2⟩ := onc_fold r (insC x a) (srt_insC x h)
    refine ⟨h1, fun z => ?_⟩
    rw [List.foldl_cons, h2 z, mem_insC]
    simp only [List.mem_cons]
    constructor
    · rintro (a | b | c)
      · exact Or.inl (Or.inr a)
      · exact Or.inl (Or.inl b)
      · exact Or.inr c
    · rintro ((a | b) | c)
      · exact Or.inr (Or.inl a)
      · exact Or.inl b
      · exact Or.inr (Or.inr c)
theorem srt_onc (l : List Ce) : Srt (onc l) := (onc_fold l [] List.Pairwise.nil).1
theorem mem_onc {l : List Ce} {z : Ce} : z ∈ onc l ↔ z ∈ l := by have := (onc_fold l [] List.Pairwise.nil).2 z; simpa [onc] using this
theorem onc_eq {l l' : List Ce} (h : Srt l') (hm : ∀ z, z ∈ l' ↔ z ∈ l) : l' = onc l := srt_ext h (srt_onc l) fun z => (hm z).trans mem_onc.symm
theorem insC_length (x : Ce) : ∀ l : List Ce, (insC x l).length ≤ l.length + 1
  | [] => by simp [insC]
  | y :: r => by
    unfold insC
    split
    · simp
    · split
      · have := insC_length x r; simp; omega
      · simp
theorem onc_length (l : List Ce) : (onc l).length ≤ l.length := by
  have : ∀ (l a : List Ce), (l.foldl (fun a x => insC x a) a).length ≤ l.length + a.length := by
    intro l
    induction l with
    | nil => intro a; simp
    | cons x r ih => intro a; have h1 := ih (insC x a); have h2 := insC_length x a; simp only [List.foldl_cons, List.length_cons]; omega
  simpa [onc] using this l []
/-- what sorts, then leaves out what stands twice, does the same. -/
theorem compact_srt (d : Array Ce) (h : ∀ i j, i < j → j < d.size → cLt d[j]! d[i]! = false) : Srt (compactUpTo d d.size) ∧ ∀ z, z ∈ compactUpTo d d.size ↔ z ∈ d.toList := by
  constructor
  · unfold compactUpTo Srt
    rw [List.pairwise_map]
    have h1 : (List.range d.size).Pairwise (· < ·) := List.pairwise_lt_range
    have h2 := h1.filter (keeps d)
    refine List.Pairwise.imp_of_mem ?_ h2
    intro i j hi hj hij
    have hj1 := (List.mem_filter.1 hj)
    have hj2 : j < d.size := List.mem_range.1 hj1.1
    have hk : j = 0 ∨ d[j]! ≠ d[j - 1]! := by simpa [keeps] using hj1.2
    have hk2 : d[j]! ≠ d[j - 1]! := by rcases hk with h0 | h0; · omega
                                       · exact h0
    have a1 := h (j - 1) j (by omega) hj2
    have a2 : cLt d[j - 1]! d[j]! = true := by
      cases hc : cLt d[j - 1]! d[j]! with
      | true => rfl
      | false => exact absurd (cLt_total a1 hc) hk2
    by_cases e : i = j - 1
    · rw [e]; exact a2
    · have a3 := h i (j - 1) (by omega) (by omega)
      rw [cLt_false] at a3
      rw [cLt_iff] at a2 ⊢
      omega
  · intro z
    unfold compactUpTo
    rw [List.mem_map]
    constructor
    · rintro ⟨i, hi, rfl⟩
      have := List.mem_range.1 (List.mem_filter.1 hi).1
      rw [getElem!_pos d i this]
      exact Array.mem_toList_iff.2 (Array.getElem_mem this)
    · intro hz
      obtain ⟨i, hi, e⟩ := List.getElem_of_mem hz
      have hi' : i < d.size := by simpa using hi
      have e' : d[i]! = z := by rw [getElem!_pos d i hi']; simpa using e
      have : ∀ n i, i ≤ n → i < d.size → d[i]! = z → ∃ j, j ∈ (List.range d.size).filter (keeps d) ∧ d[j]! = z := by
        intro n
        induction n with
        | zero => intro i h1 h2 h3; obtain rfl : i = 0 := by omega
                  exact ⟨0, List.mem_filter.2 ⟨List.mem_range.2 h2, by simp [keeps]⟩, h3⟩
        | succ n ih =>
          intro i h1 h2 h3
          by_cases h0 : i = 0
          · subst h0; exact ⟨0, List.mem_filter.2 ⟨List.mem_range.2 h2, by simp [keeps]⟩, h3⟩
          · by_cases hk : d[i]! = d[i - 1]!
            · exact ih (i - 1) (by omega) (by omega) (by rw [← hk]; exact h3)
            · exact ⟨i, List.mem_filter.2 ⟨List.mem_range.2 h2, by simp [keeps, hk]⟩, h3⟩
      exact this i i (Nat.le_refl _) hi' e'
end Go.Proofs.Ytjjpfddgcilliaa
