/-
  LAYER 2's STATEMENTS, WALKED: each returns true, and nothing that lay has turned.
  LAYER 2's STATEMENTS, WALKED: divisors, powers and shifts, roots.
-/
import Derived.Test.YtjbpipbmcicjiaaGreatDoorLaw1
import Derived.Test.YtjbpipbmcicjiaaGreatDoorLong3
import Derived.Test.YtjbpipbmcicjiaaGreatDoorPow1
namespace Go.Proofs.YtjbpipbmcicjiaaGreatDoor
open Go.RowKit Go.Shelf

/-- the greatest number whose square is not above v. -/
def Nt.rt : Nat → Nat
  | 0 => 0
  | n + 1 => if (Nt.rt n + 1) * (Nt.rt n + 1) ≤ n + 1 then Nt.rt n + 1 else Nt.rt n
theorem Nt.rt_is : ∀ v, Nt.IsRoot (Nt.rt v) v
  | 0 => ⟨Nat.le_refl _, by decide⟩
  | n + 1 => by
    have h := Nt.rt_is n
    unfold Nt.rt
    split
    · rename_i h1
      refine ⟨h1, ?_⟩
      have h2 := h.2
      have h3 : (Nt.rt n + 1 + 1) * (Nt.rt n + 1 + 1) = (Nt.rt n + 1) * (Nt.rt n + 1) + 2 * (Nt.rt n + 1) + 1 := by simp only [Nat.add_mul, Nat.mul_add]; omega
      omega
    · rename_i h1
      exact ⟨Nat.le_trans h.1 (Nat.le_succ _), by omega⟩
theorem natRoot_any (a : ByteArray) (w : World) (ha : a.size ≤ 1000) : Calls Tryz.prog 91 #[.string a] w fun e w' => e = .returned (.string (Nt.E (Nt.rt (Nt.V a)))) ∧ Below w.heap.size w w' := by
  refine (natRoot_of divMod_ok a w ha).mono ?_
  rintro e w' ⟨⟨r, hr, rfl⟩, hb⟩
  rw [hr.eq (Nt.rt_is _)]
  exact ⟨rfl, hb⟩
theorem refRootFn_any (a : ByteArray) (w : World) (ha : a.size ≤ 1000) : Calls Tryz.prog 93 #[.string a] w fun e w' => e = .returned (.string (Nt.E (Nt.rt (Nt.V a)))) ∧ Below w.heap.size w w' := by
  refine (refRoot_any a w ha).mono ?_
  rintro e w' ⟨⟨r, hr, rfl⟩, hb⟩
  rw [hr.eq (Nt.rt_is _)]
  exact ⟨rfl, hb⟩

end Go.Proofs.YtjbpipbmcicjiaaGreatDoor
namespace Go.Proofs.YtjbpipbmcicjiaaGreatDoor
open Go.RowKit Go.Shelf

theorem powOut_form (v : Nat) (k : Int) : ∃ (s : ByteArray) (c : Int), powOut v k = .tuple #[.string s, .int .i64 c] := by
  unfold powOut; repeat' split
  all_goals exact ⟨_, _, rfl⟩
theorem shlOut_form (v : Nat) (k : Int) : ∃ (s : ByteArray) (c : Int), shlOut v k = .tuple #[.string s, .int .i64 c] := by
  unfold shlOut; repeat' split
  all_goals exact ⟨_, _, rfl⟩
theorem E_toList_ne (n : Nat) (h : n ≠ 0) : ¬ (Nt.E n).toList = [] := fun e => h (by
  have h1 := isEmpty_E n
  rw [e] at h1
  simpa using h1.symm)
end Go.Proofs.YtjbpipbmcicjiaaGreatDoor
