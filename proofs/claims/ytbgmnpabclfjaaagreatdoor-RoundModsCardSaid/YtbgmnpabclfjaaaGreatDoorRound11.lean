/-
  POWERS OF NUMBERS: what they are; the program's power of a natural.
-/
import Derived.Test.YtbgmnpabclfjaaaGreatDoorRound5
namespace Go.Proofs.YtbgmnpabclfjaaaGreatDoor
open Go.RowKit Go.Shelf
set_option linter.unusedSimpArgs false
set_option linter.unusedVariables false

theorem belZ {a w : World} {b : Nat} (z : b < a.heap.size) (hb : Below a.heap.size a w) : b < w.heap.size := Nat.lt_of_lt_of_le z hb.size
theorem pw_cap (v t K : Nat) (hK : 0 < K) : (Nt.blen (v ^ min t K) ≤ K ↔ Nt.blen (v ^ t) ≤ K) ∧ (Nt.blen (v ^ t) ≤ K → v ^ min t K = v ^ t) := by
  rcases Nat.le_total t K with h | h
  · rw [Nat.min_eq_left h]; exact ⟨Iff.rfl, fun _ => rfl⟩
  · rw [Nat.min_eq_right h]
    by_cases hv : v ≤ 1
    · have e : v ^ K = v ^ t := by
        rcases (by omega : v = 0 ∨ v = 1) with rfl | rfl
        · rw [Nat.zero_pow hK, Nat.zero_pow (by omega)]
        · rw [Nat.one_pow, Nat.one_pow]
      rw [e]; exact ⟨Iff.rfl, fun _ => rfl⟩
    · have h1 : 2 ^ K ≤ v ^ K := Nat.pow_le_pow_left (by omega) _
      have h2 : v ^ K ≤ v ^ t := Nat.pow_le_pow_right (by omega) h
      rw [blen_le_iff, blen_le_iff]
      refine ⟨⟨fun h3 => absurd h3 (by omega), fun h3 => absurd h3 (by omega)⟩, fun h3 => absurd h3 (by omega)⟩
def pwF (v t : Nat) : Bool := decide (Nt.blen (v ^ min t 256) ≤ 256)
def pwT (v t : Nat) : ByteArray := if 1024 < (Nt.E (v ^ min t 256)).size then ⟨#[]⟩ else Nt.E (v ^ min t 256)
theorem pwF_iff (v t : Nat) : pwF v t = true ↔ Nt.blen (v ^ t) ≤ 256 := by unfold pwF; rw [decide_eq_true_iff]; exact (pw_cap v t 256 (by omega)).1
theorem pwT_fit {v t : Nat} (h : pwF v t = true) : pwT v t = Nt.E (v ^ t) := by
  have h2 := (pwF_iff v t).1 h
  unfold pwT
  rw [(pw_cap v t 256 (by omega)).2 h2, if_neg (by have := blen_size h2; omega)]
set_option maxRecDepth 100000 in
set_option maxHeartbeats 4000000 in
theorem power_any (a : ByteArray) (t : Nat) (w : World) (ha : a.size ≤ 32) (ht : t < 18446744073709551616) :
    Calls Tryz.prog 63 #[.string a, .int .u64 (t : Int)] w fun e w' => e = .returned (.tuple #[.string (pwT (Nt.V a) t), .bool (pwF (Nt.V a) t)]) ∧ Below w.heap.size w w' := by
  have hk : min (t : Int) 256 = ((min t 256 : Nat) : Int) := by omega
  have hw : IntKind.i64.wrap ((min t 256 : Nat) : Int) = ((min t 256 : Nat) : Int) := by rw [IntKind.wrap_i64]; omega
  have hp := fun w => natPow_any a ((min t 256 : Nat) : Int) w (by omega) (by omega)
  by_cases hb : 1024 < (Nt.E (Nt.V a ^ min t 256)).size
  · have e1 : pwT (Nt.V a) t = ⟨#[]⟩ := by unfold pwT; rw [if_pos hb]
    have e2 : pwF (Nt.V a) t = false := by unfold pwF; rw [decide_eq_false_iff_not]; intro h; have := blen_size h; omega
    rw [e1, e2]
    rw [powOut_big _ _ hb] at hp
    have HP := Lib.hid hp
    generalize ((min t 256 : Nat) : Int) = k at *
    clear hp hb e1 e2 ha ht
    go_enter Tryz.func63, Tryz.ntmps63
    go_wp2_with fail
    refine (HP.out _).mono ?_; rintro e s1 ⟨rfl, hb⟩
    have hBo := hb
    skip
    all_goals go_wp2_with fail
    all_goals first | go_ret | go_ret2
    all_goals exact ⟨rfl, hBo⟩
  · have e1 : pwT (Nt.V a) t = Nt.E (Nt.V a ^ min t 256) := by unfold pwT; rw [if_neg hb]
    have e2 : pwF (Nt.V a) t = decide ((Nt.blen (Nt.V a ^ min t 256) : Int) ≤ 256) := by unfold pwF; exact decide_eq_decide.2 (by omega)
    rw [e1, e2]
    rw [powOut_fit _ _ (by omega)] at hp
    have hb2 := fun w => natBits_b (Nt.E (Nt.V a ^ min t 256)) w (by omega)
    rw [bl_E] at hb2
    generalize (Nt.blen (Nt.V a ^ min t 256) : Int) = bb at *
    generalize Nt.E (Nt.V a ^ min t 256) = tt at *
    have HP := Lib.hid hp
    have HB := Lib.hid hb2
    generalize ((min t 256 : Nat) : Int) = k at *
    clear hp hb e1 e2 ha ht hb2
    go_enter Tryz.func63, Tryz.ntmps63
    go_wp2_with fail
    refine (HP.out _).mono ?_; rintro e s2 ⟨rfl, hb⟩
    have hBo := hb
    skip
    go_wp2_with fail
    refine (HB.out _).mono ?_; rintro e s3 ⟨rfl, hb⟩
    replace hBo := hBo.trans (hb.mono hBo.size)
    clear hb
    all_goals go_wp2_with fail
    all_goals first | go_ret | go_ret2
    all_goals exact ⟨rfl, hBo⟩

/-- is the exponent odd? -/
def pwO (n : Int) : Bool := decide (n.natAbs % 2 = 1)
def pwBig (q : Rt) (n : Int) : Bool := decide (256 < Nt.blen (q.num ^ n.natAbs) ∨ 256 < Nt.blen (q.den ^ n.natAbs))
def pwX (q : Rt) (n : Int) : Int := sI (q.neg && pwO n) (if n < 0 then q.den ^ n.natAbs else q.num ^ n.natAbs)
def pwY (q : Rt) (n : Int) : Int := ((if n < 0 then q.num ^ n.natAbs else q.den ^ n.natAbs : Nat) : Int)
/-- a power, and why there is none. -/
def powR (q : Rt) (n : Int) : Rt := if pwBig q n then ⟨false, 0, 0⟩ else mkR (pwX q n) (pwY q n)
def powE (q : Rt) (n : Int) : Int := if pwBig q n then 4 else mkE (pwX q n) (pwY q n)
theorem pow_big {q : Rt} {n : Int} (h : 256 < Nt.blen (q.num ^ n.natAbs) ∨ 256 < Nt.blen (q.den ^ n.natAbs)) : powR q n = ⟨false, 0, 0⟩ ∧ powE q n = 4 := by
  have hb : pwBig q n = true := decide_eq_true h
  unfold powR powE; rw [hb]; exact ⟨rfl, rfl⟩
theorem pow_fit {q : Rt} {n : Int} (h : Nt.blen (q.num ^ n.natAbs) ≤ 256) (h2 : Nt.blen (q.den ^ n.natAbs) ≤ 256) : powR q n = mkR (pwX q n) (pwY q n) ∧ powE q n = mkE (pwX q n) (pwY q n) := by
  have hb : pwBig q n = false := decide_eq_false (by omega)
  unfold powR powE; rw [hb]; exact ⟨rfl, rfl⟩
/-- in lowest terms already. -/
theorem mk_cop (b c : Bool) (A B : Nat) (hA : A ≠ 0) (hB : B ≠ 0) (hg : Nat.gcd A B = 1) :
    (Nt.blen A ≤ 256 ∧ Nt.blen B ≤ 256 → mkR (sI b A) (sI c B) = ⟨b != c, A, B⟩ ∧ mkE (sI b A) (sI c B) = 0) ∧
    (256 < Nt.blen A ∨ 256 < Nt.blen B → mkR (sI b A) (sI c B) = ⟨false, 0, 0⟩ ∧ mkE (sI b A) (sI c B) = 4) := by
  have hN : mkN (sI b A) (sI c B) = A := by unfold mkN; rw [sI_abs, sI_abs, hg, Nat.div_one]
  have hD : mkD (sI b A) (sI c B) = B := by unfold mkD; rw [sI_abs, sI_abs, hg, Nat.div_one]
  have hy : sI c B ≠ 0 := fun h => hB ((sI_zero_iff c B).1 h)
  refine ⟨fun h => ?_, fun h => mk_big hy (by rw [hN, hD]; exact h)⟩
  obtain ⟨e1, e2⟩ := mk_fine hy (by rw [hN, hD]; omega)
  rw [e1, e2, hN, hD, sI_zb hA, sI_zb hB, decide_eq_true hA, Bool.and_true]
  exact ⟨rfl, rfl⟩
end Go.Proofs.YtbgmnpabclfjaaaGreatDoor
