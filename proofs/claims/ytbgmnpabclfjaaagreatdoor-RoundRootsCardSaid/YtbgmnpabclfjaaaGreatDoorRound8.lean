/-
  ROOTS OF NUMBERS: the program's, the document's.
-/
import Derived.Test.YtbgmnpabclfjaaaGreatDoorRound5
namespace Go.Proofs.YtbgmnpabclfjaaaGreatDoor
open Go.RowKit Go.Shelf
set_option linter.unusedSimpArgs false
set_option linter.unusedVariables false

theorem mk_nat (a b : Nat) (hb : b ≠ 0) (h1 : Nt.blen a ≤ 256) (h2 : Nt.blen b ≤ 256) : mkR (a : Int) (b : Int) = ⟨false, a / Nat.gcd a b, b / Nat.gcd a b⟩ ∧ mkE (a : Int) (b : Int) = 0 := by
  have hN : mkN (a : Int) (b : Int) = a / Nat.gcd a b := by unfold mkN; simp
  have hD : mkD (a : Int) (b : Int) = b / Nat.gcd a b := by unfold mkD; simp
  have b1 := Nat.le_trans (blen_mono (Nat.div_le_self a (Nat.gcd a b))) h1
  have b2 := Nat.le_trans (blen_mono (Nat.div_le_self b (Nat.gcd a b))) h2
  obtain ⟨e1, e2⟩ := mk_fine (x := (a : Int)) (y := (b : Int)) (by omega) (by rw [hN, hD]; omega)
  rw [e1, e2, hN, hD, zb_cast, zb_cast]
  exact ⟨rfl, rfl⟩
theorem div_gcd_one {a b : Nat} (hb : b ≠ 0) : Nat.gcd (a / Nat.gcd a b) (b / Nat.gcd a b) = 1 :=
  Nat.Coprime.gcd_eq_one (Nat.coprime_div_gcd_div_gcd (Nat.gcd_pos_of_pos_right _ (Nat.pos_of_ne_zero hb)))
theorem sq_one {a b : Nat} (h : Nat.gcd a b = 1) : Nat.gcd (a * a) (b * b) = 1 := by
  have h : Nat.Coprime a b := h
  exact Nat.Coprime.gcd_eq_one ((h.mul_right h).mul_left (h.mul_right h))
theorem rt_le (v : Nat) : Nt.rt v ≤ v := by
  have := (Nt.rt_is v).1
  generalize Nt.rt v = r at *
  rcases Nat.eq_zero_or_pos r with h | h
  · omega
  · exact Nat.le_trans (Nat.le_mul_of_pos_left r h) this
theorem rt_ne {v : Nat} (h : v ≠ 0) : Nt.rt v ≠ 0 := fun h0 => by
  have := (Nt.rt_is v).2
  rw [h0] at this
  omega
def rootOkB (q : Rt) : Bool := decide (q.neg = false ∧ Nt.rt q.num * Nt.rt q.num = q.num ∧ Nt.rt q.den * Nt.rt q.den = q.den)
/-- the root, or why there is none. -/
def rootR (q : Rt) : Rt := if rootOkB q then ⟨false, Nt.rt q.num, Nt.rt q.den⟩ else ⟨false, 0, 0⟩
theorem root_yes {q : Rt} (h : rootOkB q = true) : rootR q = ⟨false, Nt.rt q.num, Nt.rt q.den⟩ := by unfold rootR; rw [if_pos h]
theorem root_no {q : Rt} (h : rootOkB q = false) : rootR q = ⟨false, 0, 0⟩ := by unfold rootR; rw [h]; rfl
theorem root_not {q : Rt} (h : ¬ (q.neg = false ∧ Nt.rt q.num * Nt.rt q.num = q.num ∧ Nt.rt q.den * Nt.rt q.den = q.den)) : rootOkB q = false := decide_eq_false h
/-- the document's way: in lowest terms, squared, held against the number. -/
theorem root_doc {q : Rt} (h : RtOk q) (hn : q.neg = false) :
    mkE (Nt.rt q.num : Int) (Nt.rt q.den : Int) = 0 ∧ RtOk (mkR (Nt.rt q.num : Int) (Nt.rt q.den : Int)) ∧
    mkE (topI (mkR (Nt.rt q.num : Int) (Nt.rt q.den : Int)) * topI (mkR (Nt.rt q.num : Int) (Nt.rt q.den : Int))) (lowI (mkR (Nt.rt q.num : Int) (Nt.rt q.den : Int)) * lowI (mkR (Nt.rt q.num : Int) (Nt.rt q.den : Int))) = 0 ∧
    (rootOkB q = true → mkR (Nt.rt q.num : Int) (Nt.rt q.den : Int) = rootR q ∧ mkR (topI (mkR (Nt.rt q.num : Int) (Nt.rt q.den : Int)) * topI (mkR (Nt.rt q.num : Int) (Nt.rt q.den : Int))) (lowI (mkR (Nt.rt q.num : Int) (Nt.rt q.den : Int)) * lowI (mkR (Nt.rt q.num : Int) (Nt.rt q.den : Int))) = q) ∧
    (rootOkB q = false → (mkR (topI (mkR (Nt.rt q.num : Int) (Nt.rt q.den : Int)) * topI (mkR (Nt.rt q.num : Int) (Nt.rt q.den : Int))) (lowI (mkR (Nt.rt q.num : Int) (Nt.rt q.den : Int)) * lowI (mkR (Nt.rt q.num : Int) (Nt.rt q.den : Int)))).neg = false ∧
      ((mkR (topI (mkR (Nt.rt q.num : Int) (Nt.rt q.den : Int)) * topI (mkR (Nt.rt q.num : Int) (Nt.rt q.den : Int))) (lowI (mkR (Nt.rt q.num : Int) (Nt.rt q.den : Int)) * lowI (mkR (Nt.rt q.num : Int) (Nt.rt q.den : Int)))).num ≠ q.num ∨ (mkR (topI (mkR (Nt.rt q.num : Int) (Nt.rt q.den : Int)) * topI (mkR (Nt.rt q.num : Int) (Nt.rt q.den : Int))) (lowI (mkR (Nt.rt q.num : Int) (Nt.rt q.den : Int)) * lowI (mkR (Nt.rt q.num : Int) (Nt.rt q.den : Int)))).den ≠ q.den)) := by
  obtain ⟨neg, N, D⟩ := q
  obtain ⟨h1, h2, h3, h4, _⟩ := h
  have h1 : D ≠ 0 := h1
  have h2 : Nat.gcd N D = 1 := h2
  have h3 : Nt.blen N ≤ 256 := h3
  have h4 : Nt.blen D ≤ 256 := h4
  have hn : neg = false := hn
  subst hn
  show mkE (Nt.rt N : Int) (Nt.rt D : Int) = 0 ∧ _
  have hv := rt_ne h1
  have hu1 := (Nt.rt_is N).1
  have hv1 := (Nt.rt_is D).1
  have hok1 : rootOkB ⟨false, N, D⟩ = true ↔ (Nt.rt N * Nt.rt N = N ∧ Nt.rt D * Nt.rt D = D) := by unfold rootOkB; simp
  have hry : rootOkB ⟨false, N, D⟩ = true → rootR ⟨false, N, D⟩ = ⟨false, Nt.rt N, Nt.rt D⟩ := root_yes
  show mkE (Nt.rt N : Int) (Nt.rt D : Int) = 0 ∧ RtOk (mkR (Nt.rt N : Int) (Nt.rt D : Int)) ∧
    mkE (topI (mkR (Nt.rt N : Int) (Nt.rt D : Int)) * topI (mkR (Nt.rt N : Int) (Nt.rt D : Int))) (lowI (mkR (Nt.rt N : Int) (Nt.rt D : Int)) * lowI (mkR (Nt.rt N : Int) (Nt.rt D : Int))) = 0 ∧ _
  have bu := Nat.le_trans (blen_mono (rt_le N)) h3
  have bv := Nat.le_trans (blen_mono (rt_le D)) h4
  generalize Nt.rt N = u at *
  generalize Nt.rt D = v at *
  obtain ⟨e1, e2⟩ := mk_nat u v hv bu bv
  have hg := div_gcd_one (a := u) (b := v) hv
  have hp := Nat.div_le_self u (Nat.gcd u v)
  have hr := Nat.div_le_self v (Nat.gcd u v)
  have hr0 : v / Nat.gcd u v ≠ 0 := by
    have := Nat.div_pos (Nat.le_of_dvd (Nat.pos_of_ne_zero hv) (Nat.gcd_dvd_right u v)) (Nat.gcd_pos_of_pos_right u (Nat.pos_of_ne_zero hv))
    omega
  have hgg : u * u = N ∧ v * v = D → Nat.gcd u v = 1 := fun ⟨a, b⟩ => by
    have hd : Nat.gcd u v ∣ Nat.gcd N D := Nat.dvd_gcd (by rw [← a]; exact Nat.dvd_mul_left_of_dvd (Nat.gcd_dvd_left u v) u) (by rw [← b]; exact Nat.dvd_mul_left_of_dvd (Nat.gcd_dvd_right u v) v)
    rw [h2] at hd
    exact Nat.dvd_one.1 hd
  rw [e1]
  have hp1 : Nat.gcd u v = 1 → u / Nat.gcd u v = u ∧ v / Nat.gcd u v = v := fun h => by rw [h]; simp
  generalize u / Nat.gcd u v = p at *
  generalize v / Nat.gcd u v = r at *
  have et : topI ⟨false, p, r⟩ * topI ⟨false, p, r⟩ = ((p * p : Nat) : Int) := by unfold topI sI; simp
  have el : lowI ⟨false, p, r⟩ * lowI ⟨false, p, r⟩ = ((r * r : Nat) : Int) := by unfold lowI; simp
  have hpp := Nat.mul_self_le_mul_self hp
  have hrr := Nat.mul_self_le_mul_self hr
  obtain ⟨f1, f2⟩ := mk_nat (p * p) (r * r) (Nat.mul_ne_zero hr0 hr0) (Nat.le_trans (blen_mono (Nat.le_trans hpp hu1)) h3) (Nat.le_trans (blen_mono (Nat.le_trans hrr hv1)) h4)
  rw [sq_one hg, Nat.div_one, Nat.div_one] at f1
  rw [et, el, f1, f2]
  refine ⟨e2, ⟨hr0, hg, Nat.le_trans (blen_mono hp) bu, Nat.le_trans (blen_mono hr) bv, fun _ => rfl⟩, rfl, fun hy => ?_, fun hy => ⟨rfl, ?_⟩⟩
  · have hy1 := hok1.1 hy
    obtain ⟨a, b⟩ := hp1 (hgg hy1)
    rw [hry hy, a, b, hy1.1, hy1.2]
    exact ⟨rfl, rfl⟩
  · show p * p ≠ N ∨ r * r ≠ D
    by_cases ha : p * p = N
    · right
      intro hb
      have : rootOkB ⟨false, N, D⟩ = true := hok1.2 ⟨by omega, by omega⟩
      rw [this] at hy; cases hy
    · exact .inl ha
end Go.Proofs.YtbgmnpabclfjaaaGreatDoor
