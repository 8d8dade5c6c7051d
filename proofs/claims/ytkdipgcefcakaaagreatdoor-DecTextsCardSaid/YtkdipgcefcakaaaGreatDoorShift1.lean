/-
  THE DOCUMENT'S ANSWERS: Shl, Shr.
  THE DOCUMENT'S ANSWERS: Shl.
  THE DOCUMENT'S ANSWER: Root.
-/
import Derived.Test.YtkdipgcefcakaaaGreatDoorPow1
namespace Go.Proofs.YtkdipgcefcakaaaGreatDoor
open Go.RowKit Go.Shelf

/-- what a number shifted up answers. -/
def shlOut (v : Nat) (k : Int) : Value :=
  if k < 0 then .tuple #[.string ⟨#[]⟩, .int .i64 2]
  else if v = 0 then .tuple #[.string ⟨#[]⟩, .int .i64 0]
  else if 1024 < (Nt.E (v * 2 ^ k.toNat)).size then .tuple #[.string ⟨#[]⟩, .int .i64 9]
  else .tuple #[.string (Nt.E (v * 2 ^ k.toNat)), .int .i64 0]
theorem shlOut_neg (v : Nat) (k : Int) (h : k < 0) : shlOut v k = .tuple #[.string ⟨#[]⟩, .int .i64 2] := if_pos h
theorem shlOut_zero (k : Nat) : shlOut 0 (k : Int) = .tuple #[.string ⟨#[]⟩, .int .i64 0] := by rw [shlOut, if_neg (by omega), if_pos rfl]
theorem shlOut_big (v : Nat) (k : Nat) (h0 : v ≠ 0) (h : 1024 < (Nt.E (v * 2 ^ k)).size) : shlOut v (k : Int) = .tuple #[.string ⟨#[]⟩, .int .i64 9] := by
  rw [shlOut, if_neg (by omega), if_neg h0, if_pos (by simpa using h)]
theorem shlOut_fit (v : Nat) (k : Nat) (h0 : v ≠ 0) (h : (Nt.E (v * 2 ^ k)).size ≤ 1024) : shlOut v (k : Int) = .tuple #[.string (Nt.E (v * 2 ^ k)), .int .i64 0] := by
  rw [shlOut, if_neg (by omega), if_neg h0, if_neg (by simpa using h)]; simp
theorem Nt.shl_big (v k M : Nat) (h0 : v ≠ 0) (h : 8 * M ≤ k) : M < (Nt.E (v * 2 ^ k)).size := by
  apply Nt.size_gt
  rw [Nt.pow256]
  refine Nat.le_trans (Nat.pow_le_pow_right (by omega) h) ?_
  exact Nat.le_mul_of_pos_left _ (by omega)
/-- what a number shifted down answers. -/
def shrNum (v : Nat) (k : Int) : Nat := if k < 0 then v else v / 2 ^ k.toNat

theorem Nt.V_take (s : ByteArray) (m : Nat) : Nt.V (s.extract 0 m) = Nt.V s / 256 ^ (s.size - m) := by
  have e : (s.extract 0 m).data.toList = s.data.toList.take m := by
    rw [ByteArray.data_extract, Array.toList_extract]; simp [List.extract]
  have e2 : s.data.toList = s.data.toList.take m ++ s.data.toList.drop m := (List.take_append_drop _ _).symm
  have hl : (s.data.toList.drop m).length = s.size - m := by rw [List.length_drop]; rfl
  show Nt.val (s.extract 0 m).data.toList = Nt.val s.data.toList / 256 ^ (s.size - m)
  rw [e]
  conv => rhs; rw [e2]
  rw [Nt.val_append, hl]
  have hlt := Nt.val_lt (s.data.toList.drop m)
  rw [hl] at hlt
  rw [Nat.mul_comm, Nat.mul_add_div (Nat.pow_pos (by omega)), Nat.div_eq_of_lt hlt, Nat.add_zero]
theorem Nt.two_split (k : Nat) : (2 : Nat) ^ k = 256 ^ (k / 8) * 2 ^ (k % 8) := by
  rw [Nt.pow256, ← Nat.pow_add]; congr 1; omega

end Go.Proofs.YtkdipgcefcakaaaGreatDoor
namespace Go.Proofs.YtkdipgcefcakaaaGreatDoor
open Go.RowKit Go.Shelf

end Go.Proofs.YtkdipgcefcakaaaGreatDoor
namespace Go.Proofs.YtkdipgcefcakaaaGreatDoor
open Go.RowKit Go.Shelf

/-- the root of a number. -/
def Nt.IsRoot (r v : Nat) : Prop := r * r ≤ v ∧ v < (r + 1) * (r + 1)
theorem Nt.IsRoot.le {r s v : Nat} (h : Nt.IsRoot r v) (h' : Nt.IsRoot s v) : r ≤ s := by
  rcases Nat.lt_or_ge s r with hlt | hge
  · have := Nat.mul_le_mul (show s + 1 ≤ r from hlt) (show s + 1 ≤ r from hlt)
    have := h.1; have := h'.2
    omega
  · exact hge
theorem Nt.IsRoot.eq {r s v : Nat} (h : Nt.IsRoot r v) (h' : Nt.IsRoot s v) : r = s := Nat.le_antisymm (h.le h') (h'.le h)

/-- where the search for a root's digits stands: between r and r + lim, of what is T squared times less. -/
def Nt.RootAt (v r lim T : Nat) : Prop := r * r * (T * T) ≤ v ∧ v < (r + lim) * (r + lim) * (T * T)
theorem Nt.root_next {v r T : Nat} (h : Nt.RootAt v r 1 (256 * T)) : Nt.RootAt v (r * 256) 256 T := by
  refine ⟨?_, ?_⟩
  · have := h.1
    rwa [show r * r * (256 * T * (256 * T)) = r * 256 * (r * 256) * (T * T) from by
      simp only [Nat.mul_comm, Nat.mul_left_comm, Nat.mul_assoc]] at this
  · have := h.2
    have e : r * 256 + 256 = (r + 1) * 256 := by omega
    rw [e]
    generalize r + 1 = x at *
    rwa [show x * x * (256 * T * (256 * T)) = x * 256 * (x * 256) * (T * T) from by
      simp only [Nat.mul_comm, Nat.mul_left_comm, Nat.mul_assoc]] at this
theorem Nt.root_up {v r p T : Nat} (h : Nt.RootAt v r (2 * p) T) (h1 : (r + p) * (r + p) * (T * T) ≤ v) : Nt.RootAt v (r + p) p T :=
  ⟨h1, by have := h.2; rwa [show r + 2 * p = r + p + p from by omega] at this⟩
theorem Nt.root_stay {v r p T : Nat} (h : Nt.RootAt v r (2 * p) T) (h1 : ¬ (r + p) * (r + p) * (T * T) ≤ v) : Nt.RootAt v r p T := ⟨h.1, by omega⟩
theorem Nt.root_size {v r p T : Nat} (hT : 0 < T) (h : Nt.RootAt v r p T) : r ≤ v := by
  have h1 := h.1
  have h2 : 1 ≤ T * T := Nat.mul_pos hT hT
  have h3 : r * r * 1 ≤ r * r * (T * T) := Nat.mul_le_mul (Nat.le_refl _) h2
  have h4 : r ≤ r * r := by
    rcases Nat.eq_zero_or_pos r with rfl | h
    · omega
    · exact Nat.le_mul_of_pos_left _ h
  omega
theorem Nt.sq_size (x : Nat) : (Nt.E (x * x)).size ≤ 2 * (Nt.E x).size := Nt.E_size_lt (by
  have h1 := Nt.V_lt (Nt.E x)
  rw [Nt.V_E] at h1
  rw [show 2 * (Nt.E x).size = (Nt.E x).size + (Nt.E x).size from by omega, Nat.pow_add]
  exact Nat.mul_lt_mul'' h1 h1)
theorem Nt.add_byte_size (s : ByteArray) (p : Nat) (hp : p < 256) : (Nt.E (Nt.V s + p)).size ≤ s.size + 1 := Nt.E_size_lt (by
  have h1 := Nt.V_lt s
  rw [Nat.pow_succ]
  have : 0 < 256 ^ s.size := Nat.pow_pos (by omega)
  omega)
theorem Nt.V_zero_more (s : ByteArray) : Nt.V (s ++ ⟨#[0]⟩) = Nt.V s * 256 := by
  have h := Nt.V_push s 0
  have e : (0 : UInt8).toNat = 0 := rfl
  rw [e, Nat.add_zero] at h
  exact h
theorem size_zero_more (s : ByteArray) : (s ++ ⟨#[0]⟩ : ByteArray).size = s.size + 1 := by
  rw [ByteArray.size_append]; rfl

end Go.Proofs.YtkdipgcefcakaaaGreatDoor
