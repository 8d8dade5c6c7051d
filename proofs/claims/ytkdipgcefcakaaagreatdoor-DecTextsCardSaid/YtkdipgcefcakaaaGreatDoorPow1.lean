/-
  THE DOCUMENT'S ANSWER: Pow.
  POWERS IN THE PROGRAM: bits.Len of small ones, Pow.
  POWERS IN THE PROGRAM: Pow.
-/
import Derived.Test.YtkdipgcefcakaaaGreatDoorDiv1
import Derived.Test.YtkdipgcefcakaaaGreatDoorMul
import Derived.Test.YtkdipgcefcakaaaGreatDoorRef1
namespace Go.Proofs.YtkdipgcefcakaaaGreatDoor
open Go.RowKit Go.Shelf

/-- what a power answers. -/
def powOut (v : Nat) (k : Int) : Value :=
  if k < 0 then .tuple #[.string ⟨#[]⟩, .int .i64 2]
  else if 1024 < (Nt.E (v ^ k.toNat)).size then .tuple #[.string ⟨#[]⟩, .int .i64 9]
  else .tuple #[.string (Nt.E (v ^ k.toNat)), .int .i64 0]
theorem powOut_neg (v : Nat) (k : Int) (h : k < 0) : powOut v k = .tuple #[.string ⟨#[]⟩, .int .i64 2] := if_pos h
theorem powOut_big (v : Nat) (k : Nat) (h : 1024 < (Nt.E (v ^ k)).size) : powOut v (k : Int) = .tuple #[.string ⟨#[]⟩, .int .i64 9] := by
  rw [powOut, if_neg (by omega), if_pos (by simpa using h)]
theorem powOut_fit (v : Nat) (k : Nat) (h : (Nt.E (v ^ k)).size ≤ 1024) : powOut v (k : Int) = .tuple #[.string (Nt.E (v ^ k)), .int .i64 0] := by
  rw [powOut, if_neg (by omega), if_neg (by simpa using h)]; simp
theorem E_one : Nt.E 1 = ⟨#[1]⟩ := by decide
theorem E_two_le (v : Nat) (h : v ≠ 1) : Nt.E v ≠ ⟨#[1]⟩ := fun hh => h (Nt.E_inj (hh.trans E_one.symm))
theorem E_toList_one (v : Nat) (h : v ≠ 1) : ((Nt.E v).toList == [1]) = false := by
  rw [ByteArray.toList_eq, Nt.E_toList]
  have : Nt.enc v ≠ [1] := fun hh => E_two_le v h (by rw [Nt.E, hh])
  simpa using this
theorem pow_pos_le (v i k : Nat) (h : 0 < v) (hik : i ≤ k) : v ^ i ≤ v ^ k := Nat.pow_le_pow_right h hik

end Go.Proofs.YtkdipgcefcakaaaGreatDoor
namespace Go.Proofs.YtkdipgcefcakaaaGreatDoor
open Go.RowKit Go.Shelf

theorem bitLen_blen_all : ∀ (x : Nat), x < 2 ^ 64 → Lib.bitLen x = Nt.blen x := by
  intro x
  induction x using Nat.strongRecOn with
  | ind x ih =>
    intro hx
    by_cases h0 : x = 0
    · subst h0; rfl
    · rw [Lib.bitLen_half x h0 hx, Nt.blen_half h0, ih (x / 2) (by omega) (by omega)]; omega
theorem Nt.blen_bounds (x : Nat) (h : x ≠ 0) : 2 ^ (Nt.blen x - 1) ≤ x ∧ x < 2 ^ Nt.blen x ∧ 1 ≤ Nt.blen x := by
  rw [Nt.blen, if_neg h]
  exact ⟨by rw [Nat.add_sub_cancel]; exact Nat.log2_self_le h, Nat.lt_log2_self, by omega⟩
theorem Nt.pow256 (m : Nat) : (256 : Nat) ^ m = 2 ^ (8 * m) := by rw [Nat.pow_mul]
theorem Nt.size_gt {x m : Nat} (h : 256 ^ m ≤ x) : m < (Nt.E x).size := by
  have h1 := Nt.V_lt (Nt.E x)
  rw [Nt.V_E] at h1
  exact (Nat.pow_lt_pow_iff_right (by omega : 1 < 256)).1 (Nat.lt_of_le_of_lt h h1)
theorem Nt.pow_big (v s n M : Nat) (hs : 2 ^ s ≤ v) (h : 8 * M ≤ n * s) : M < (Nt.E (v ^ n)).size := by
  apply Nt.size_gt
  rw [Nt.pow256]
  refine Nat.le_trans (Nat.pow_le_pow_right (by omega) (show 8 * M ≤ s * n by rw [Nat.mul_comm s n]; omega)) ?_
  rw [Nat.pow_mul]
  exact Nat.pow_le_pow_left hs n
theorem Nt.pow_fits (v s n j M : Nat) (hv : 0 < v) (hs : v < 2 ^ (s + 1)) (h : 2 * (n * s) < 8 * M) (h1 : 1 ≤ s) (hj : j ≤ n) : (Nt.E (v ^ j)).size ≤ M := by
  refine Nat.le_trans (Nt.E_size_le (Nat.pow_le_pow_right hv hj)) (Nt.E_size_lt ?_)
  rw [Nt.pow256]
  have h2 : n ≤ n * s := Nat.le_mul_of_pos_right n h1
  rcases Nat.eq_zero_or_pos n with rfl | hn
  · rw [Nat.pow_zero]; exact Nat.one_lt_two_pow (by omega)
  · refine Nat.lt_of_lt_of_le (Nat.pow_lt_pow_left hs (by omega)) ?_
    rw [← Nat.pow_mul]
    apply Nat.pow_le_pow_right (by omega)
    rw [Nat.mul_comm, Nat.mul_add]; omega
theorem Nt.half_step (n i : Nat) : n / 2 ^ i = 2 * (n / 2 ^ (i + 1)) + n / 2 ^ i % 2 := by
  rw [Nat.pow_succ, ← Nat.div_div_eq_div_mul]; omega

set_option maxRecDepth 100000 in
set_option maxHeartbeats 4000000 in
theorem len64_low (x : Int) (w : World) (h0 : 0 ≤ x) (h1 : x ≤ 255) :
    Calls Tryz.prog 95 #[.int .u64 x] w fun e w' => e = .returned (.int .i64 (Lib.bitLen x.toNat)) ∧ w = w' := by
  go_enter Tryz.func95, Tryz.ntmps95
  go_wp2
  go_ret
  refine ⟨congrArg Ending.returned (congrArg (Value.int IntKind.i64) ?_), rfl⟩
  rw [Lib.len8_of x h0 h1]
  have l := Lib.bitLen_le8' x h0 h1
  unfold wrap64
  omega
set_option maxRecDepth 100000 in
set_option maxHeartbeats 4000000 in
theorem len64_mid (x : Int) (w : World) (h0 : 256 ≤ x) (h1 : x ≤ 65535) :
    Calls Tryz.prog 95 #[.int .u64 x] w fun e w' => e = .returned (.int .i64 (Lib.bitLen x.toNat)) ∧ w = w' := by
  have h2 : x / 256 ≤ 255 := by omega
  have h3 : 0 ≤ x / 256 := by omega
  have h4 : x / 256 < (Lib.len8tab.size : Int) := by rw [Lib.len8tab_size]; omega
  go_enter Tryz.func95, Tryz.ntmps95
  go_wp2
  go_ret
  refine ⟨congrArg Ending.returned (congrArg (Value.int IntKind.i64) ?_), rfl⟩
  rw [Lib.len8_of (x / 256) h3 h2]
  have l := Lib.bitLen_le8' (x / 256) h3 h2
  have e : (x / 256).toNat = x.toNat / 256 := by omega
  have s := Lib.bitLen_shift8 x.toNat (by omega) (by omega)
  rw [e] at l ⊢
  unfold wrap64
  omega
theorem len64_any (x : Nat) (w : World) (hx : x < 65536) :
    Calls Tryz.prog 95 #[.int .u64 (x : Int)] w fun e w' => e = .returned (.int .i64 (Nt.blen x : Int)) ∧ w = w' := by
  rw [← bitLen_blen_all x (by omega)]
  by_cases h : x < 256
  · exact len64_low x w (by omega) (by omega)
  · exact len64_mid x w (by omega) (by omega)
end Go.Proofs.YtkdipgcefcakaaaGreatDoor
namespace Go.Proofs.YtkdipgcefcakaaaGreatDoor
open Go.RowKit Go.Shelf

theorem and_one (n i : Nat) (h : n < 9223372036854775808) : bits .and .i64 ((n : Int) / 2 ^ i) 1 = ((n / 2 ^ i % 2 : Nat) : Int) := by
  have hle := Nat.div_le_self n (2 ^ i)
  have e : (n : Int) / 2 ^ i = ((n / 2 ^ i : Nat) : Int) := by simp
  rw [e]
  generalize n / 2 ^ i = y at *
  have h1 := bits_mask .i64 63 (by decide) (fun m h0 h1 => by rw [IntKind.wrap_i64]; omega) 1 (by decide) (y : Int) (by omega) (by omega)
  have e2 : ((2 : Int) ^ 1 - 1) = 1 := by decide
  rw [e2] at h1
  rw [h1]; omega
end Go.Proofs.YtkdipgcefcakaaaGreatDoor
