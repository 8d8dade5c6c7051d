/-
  HOW OFTEN 2 AND 5 DIVIDE A NUMBER: the program's Twos.
-/
import Derived.Test.YtjbpipbmcicjiaaGreatDoorDec6
namespace Go.Proofs.YtjbpipbmcicjiaaGreatDoor
open Go.RowKit Go.Shelf

theorem trimRight_split (l : List UInt8) : ∃ z, l = Lib.trimRightB l 0 ++ List.replicate z 0 ∧ (Lib.trimRightB l 0 = [] ∨ ∃ q b, Lib.trimRightB l 0 = q ++ [b] ∧ b ≠ 0) := by
  unfold Lib.trimRightB
  have e := List.takeWhile_append_dropWhile (p := (· == (0 : UInt8))) (l := l.reverse)
  have ha := List.all_takeWhile (p := (· == (0 : UInt8))) (l := l.reverse)
  obtain ⟨tw, htw⟩ : ∃ tw, tw = l.reverse.takeWhile (· == 0) := ⟨_, rfl⟩
  obtain ⟨d, hd⟩ : ∃ d, d = l.reverse.dropWhile (· == 0) := ⟨_, rfl⟩
  rw [← htw] at ha
  rw [← htw, ← hd] at e
  rw [← hd]
  have h1 : tw = List.replicate tw.length 0 := by
    rw [List.eq_replicate_iff]
    exact ⟨rfl, fun b hb => by simpa using List.all_eq_true.1 ha b hb⟩
  refine ⟨tw.length, ?_, ?_⟩
  · have e2 := congrArg List.reverse e
    rw [List.reverse_reverse, List.reverse_append] at e2
    conv => lhs; rw [← e2]
    congr 1
    rw [h1, List.reverse_replicate, List.length_replicate]
  · cases hdd : d with
    | nil => exact Or.inl rfl
    | cons b q =>
      refine Or.inr ⟨q.reverse, b, by rw [List.reverse_cons], fun hb => ?_⟩
      have h2 := List.head?_dropWhile_not (p := (· == (0 : UInt8))) (l := l.reverse)
      rw [← hd, hdd] at h2
      simp [hb] at h2
theorem val_more_zeros (l : List UInt8) (z : Nat) : Nt.val (l ++ List.replicate z 0) = Nt.val l * 256 ^ z := by
  induction z with
  | zero => simp
  | succ z ih =>
    rw [List.replicate_succ', ← List.append_assoc, Nt.val_snoc, ih, Nat.pow_succ, Nat.mul_assoc]; rfl
theorem ntz8_facts : ∀ b : Fin 256, b.val ≠ 0 → b.val % 2 ^ Lib.trailingZeros8 b.val = 0 ∧ b.val / 2 ^ Lib.trailingZeros8 b.val % 2 = 1 ∧ Lib.trailingZeros8 b.val < 8 := by decide +kernel
/-- a number's twos: those of its last byte that is not 0, and eight for each byte behind it. -/
theorem twos_of (x b z s : Nat) (h1 : b % 2 ^ s = 0) (h2 : b / 2 ^ s % 2 = 1) (h3 : s < 8) : Nt.Out ((x * 256 + b) * 256 ^ z) 2 (8 * z + s) (x * 2 ^ (8 - s) + b / 2 ^ s) := by
  refine ⟨?_, ?_⟩
  · have e1 : b = 2 ^ s * (b / 2 ^ s) := (Nat.mul_div_cancel' (Nat.dvd_of_mod_eq_zero h1)).symm
    have e2 : (256 : Nat) = 2 ^ s * 2 ^ (8 - s) := by rw [← Nat.pow_add, show s + (8 - s) = 8 from by omega]
    have e3 : x * 256 + b = 2 ^ s * (x * 2 ^ (8 - s) + b / 2 ^ s) := by
      rw [Nat.mul_add, ← e1]
      congr 1
      rw [← Nat.mul_assoc, Nat.mul_comm (2 ^ s) x, Nat.mul_assoc, ← e2]
    rw [e3, Nt.pow256, Nat.pow_add, Nat.mul_comm _ (2 ^ (8 * z)), Nat.mul_assoc]
  · obtain ⟨t, ht⟩ : ∃ t, 8 - s = t + 1 := ⟨7 - s, by omega⟩
    rw [ht, Nat.pow_succ]
    generalize b / 2 ^ s = y at *
    have : x * (2 ^ t * 2) = 2 * (x * 2 ^ t) := by rw [← Nat.mul_assoc, Nat.mul_comm]
    omega
theorem fives_of {n t o f : Nat} (h : n = 2 ^ t * o) (hf : Nt.IsVl 5 o f) : Nt.IsVl 5 n f := by
  refine ⟨by rw [h]; exact Nat.dvd_trans hf.1 (Nat.dvd_mul_left _ _), fun hd => hf.2 ?_⟩
  rw [h] at hd
  exact Nat.Coprime.dvd_of_dvd_mul_left (Nat.Coprime.pow _ _ (by decide)) hd
def TwosRel (n : Nat) (e : Ending) : Prop := (n = 0 ∧ e = .returned (.tuple #[.int .i64 0, .int .i64 0])) ∨
  (n ≠ 0 ∧ ∃ t f : Nat, e = .returned (.tuple #[.int .i64 (t : Int), .int .i64 (f : Int)]) ∧ Nt.IsVl 2 n t ∧ Nt.IsVl 5 n f)
end Go.Proofs.YtjbpipbmcicjiaaGreatDoor
