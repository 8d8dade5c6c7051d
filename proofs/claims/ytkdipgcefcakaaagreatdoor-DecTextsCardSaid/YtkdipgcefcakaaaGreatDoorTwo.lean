/-
  THE PROGRAM: twoTo, Shl.
-/
import Derived.Test.YtkdipgcefcakaaaGreatDoorShelf
import Derived.Test.YtkdipgcefcakaaaGreatDoorShift3
import Derived.Deep.RegionWith
namespace Go.Proofs.YtkdipgcefcakaaaGreatDoor
open Go.RowKit Go.Shelf

theorem Nt.size_gt2 {x M : Nat} (h : 2 ^ (8 * M) ≤ x) : M < (Nt.E x).size := Nt.size_gt (by rwa [Nt.pow256])
theorem Nt.size_le2 {x M : Nat} (h : x < 2 ^ (8 * M)) : (Nt.E x).size ≤ M := Nt.E_size_lt (by rwa [Nt.pow256])
theorem Nt.shl_hi (v L n M : Nat) (h : 2 ^ L ≤ v) (h2 : 8 * M ≤ L + n) : M < (Nt.E (v * 2 ^ n)).size := Nt.size_gt2 (by
  refine Nat.le_trans (Nat.pow_le_pow_right (by omega) h2) ?_
  rw [Nat.pow_add]
  exact Nat.mul_le_mul h (Nat.le_refl _))
theorem Nt.shl_lo (v L n M : Nat) (h : v < 2 ^ L) (h2 : L + n ≤ 8 * M) : (Nt.E (v * 2 ^ n)).size ≤ M := Nt.size_le2 (by
  refine Nat.lt_of_lt_of_le (Nat.mul_lt_mul_of_pos_right h (Nat.two_pow_pos n)) ?_
  rw [← Nat.pow_add]
  exact Nat.pow_le_pow_right (by omega) h2)
theorem val_zeros (c : UInt8) (m : Nat) : Nt.val (c :: List.replicate m 0) = c.toNat * 256 ^ m := by
  induction m with
  | zero => simp [Nt.val_cons, Nt.val_nil]
  | succ m ih =>
    have e : c :: List.replicate (m + 1) (0 : UInt8) = (c :: List.replicate m 0) ++ [0] := by
      rw [List.cons_append, ← List.replicate_succ']
    rw [e, Nt.val_snoc, ih, Nat.pow_succ, Nat.mul_assoc]; rfl
theorem two_text (n : Nat) : (⟨#[UInt8.ofNat (2 ^ (n % 8))]⟩ : ByteArray) ++ ⟨(List.replicate (n / 8) 0).toArray⟩ = Nt.E (2 ^ n) := by
  have hp : 2 ^ (n % 8) < 256 := by
    have := Nat.pow_le_pow_right (show 0 < 2 by omega) (show n % 8 ≤ 7 by omega)
    omega
  have hp0 : 0 < 2 ^ (n % 8) := Nat.two_pow_pos _
  have hc : (UInt8.ofNat (2 ^ (n % 8))).toNat = 2 ^ (n % 8) := by rw [UInt8.toNat_ofNat']; exact Nat.mod_eq_of_lt hp
  have e : (⟨#[UInt8.ofNat (2 ^ (n % 8))]⟩ : ByteArray) ++ ⟨(List.replicate (n / 8) 0).toArray⟩ = ⟨(UInt8.ofNat (2 ^ (n % 8)) :: List.replicate (n / 8) 0).toArray⟩ := by
    rw [show (⟨#[UInt8.ofNat (2 ^ (n % 8))]⟩ : ByteArray) = ⟨[UInt8.ofNat (2 ^ (n % 8))].toArray⟩ from rfl, str_append]; rfl
  rw [e]
  have hv : Nt.V ⟨(UInt8.ofNat (2 ^ (n % 8)) :: List.replicate (n / 8) 0).toArray⟩ = 2 ^ n := by
    show Nt.val _ = _
    rw [val_zeros, hc, Nt.two_split n, Nat.mul_comm]
  have hh := Nt.E_V_head ⟨(UInt8.ofNat (2 ^ (n % 8)) :: List.replicate (n / 8) 0).toArray⟩ (show 0 < (UInt8.ofNat (2 ^ (n % 8)) :: List.replicate (n / 8) 0).length from by simp) (by
    show (UInt8.ofNat (2 ^ (n % 8))).toNat ≠ 0
    omega)
  rw [hv] at hh
  exact hh.symm

end Go.Proofs.YtkdipgcefcakaaaGreatDoor
