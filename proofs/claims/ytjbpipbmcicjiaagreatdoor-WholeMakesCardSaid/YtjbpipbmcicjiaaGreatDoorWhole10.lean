/-
  WHOLE NUMBERS: digits are read back.
-/
import Derived.Test.YtjbpipbmcicjiaaGreatDoorWhole8
namespace Go.Proofs.YtjbpipbmcicjiaaGreatDoor
open Go.RowKit Go.Shelf

theorem minus_digits (s : ByteArray) (h : s.data.toList.all Nt.isDig = true) : minus s = false := by
  unfold minus
  generalize s.data.toList = l at *
  cases l with
  | nil => rfl
  | cons c t =>
    have hc : Nt.isDig c = true := (List.all_eq_true.1 h) c (by simp)
    show (c == 45) = false
    cases hcc : (c == 45) with
    | false => rfl
    | true =>
      have he : c = 45 := by simpa using hcc
      subst he
      exact absurd hc (by decide)
theorem wd_back (neg : Bool) (n m : Nat) (h : n < 10 ^ (m + 1)) (hm : m + 1 ≤ 400) : wparse (Wd neg n) = .tuple #[mkW neg n, .int .i64 0] ∧ (Wd neg n).size ≤ m + 2 := by
  have d1 : (Nt.D n).size ≤ m + 1 := by rw [Nt.D, Nt.S_size]; exact Nt.dec_length_le h
  have d2 : 0 < (Nt.D n).size := by rw [Nt.D, Nt.S_size]; exact List.length_pos_iff.2 (Nt.dec_ne n)
  have d3 : (Nt.D n).data.toList.all Nt.isDig = true := by rw [List.all_eq_true, Nt.D, Nt.S_toList]; exact Nt.isDig_of (Nt.dec_lt n)
  have d4 : Nt.dv (Nt.D n).data.toList = n := by rw [Nt.D, Nt.S_toList]; exact Nt.dv_dec n
  have hmd := minus_digits _ d3
  unfold Wd
  generalize Nt.D n = d at *
  cases hs : sgn neg n with
  | true =>
    have hneg : neg = true := by
      unfold sgn at hs
      simp at hs
      exact hs.1
    have hl : (⟨#[45]⟩ ++ d : ByteArray).data.toList = 45 :: d.data.toList := by simp [ByteArray.data_append]
    have hsz : (⟨#[45]⟩ ++ d : ByteArray).size = d.size + 1 := by rw [ByteArray.size_append]; show 1 + d.size = _; omega
    have hmn : minus (⟨#[45]⟩ ++ d : ByteArray) = true := by unfold minus; rw [hl]; rfl
    have hu : unsigned (⟨#[45]⟩ ++ d : ByteArray) = d := by
      rw [unsigned, if_pos hmn]
      apply ba_ext
      rw [ByteArray.data_extract, Array.toList_extract, hl, hsz]
      simp
      exact List.take_of_length_le (by show d.size ≤ d.size; omega)
    have hp : wparse (⟨#[45]⟩ ++ d : ByteArray) = .tuple #[mkW neg n, .int .i64 0] := by
      rw [wparse, hu, hmn, if_neg (by rw [d3]; rintro (hh | hh); exact absurd hh (by decide); omega), if_neg (by omega), wpFine, d4, hneg]
    rw [if_pos rfl]
    exact ⟨hp, by rw [hsz]; omega⟩
  | false =>
    have hu : unsigned d = d := by rw [unsigned, hmd]; rfl
    have hz : sgn false n = sgn neg n := by rw [hs]; unfold sgn; rfl
    have hp : wparse d = .tuple #[mkW neg n, .int .i64 0] := by
      rw [wparse, hu, hmd, if_neg (by rw [d3]; rintro (hh | hh); exact absurd hh (by decide); omega), if_neg (by omega), wpFine, d4]
      unfold mkW
      rw [hz]
    rw [if_neg (by decide)]
    exact ⟨hp, by omega⟩
end Go.Proofs.YtjbpipbmcicjiaaGreatDoor
