/-
  LAYER 10, ADDRESSES: Text of both, isRow, Letters.
-/
import Derived.Test.YtlpjaflolnggnaaGreatDoorAddr2
import Derived.Deep.RegionWith
namespace Go.Proofs.YtlpjaflolnggnaaGreatDoor
set_option linter.unusedSimpArgs false
set_option linter.unusedVariables false
open Go.RowKit Go.Shelf

theorem decDigits_dec : ∀ n : Nat, Lib.decDigits n = (Nt.dec n).map UInt8.ofNat := by
  intro n
  induction n using Nat.strongRecOn with
  | _ n ih =>
    rw [Lib.decDigits]
    by_cases h : n < 10
    · rw [dif_pos h, Nt.dec_small h]; rfl
    · rw [dif_neg h, Nt.dec_big h, ih (n / 10) (by omega), List.map_append]; rfl
theorem itoa_any (r : Int) (h0 : 0 ≤ r) (h1 : r < 100) (w : World) :
    Calls Tryz.prog 37 #[.int .i64 r] w fun e w' => e = .returned (.string (Nt.D r.toNat)) ∧ Below w.heap.size w w' := by
  obtain ⟨k, rfl⟩ : ∃ k : Nat, r = (k : Int) := ⟨r.toNat, by omega⟩
  refine (Tryz.strconv_Itoa_small k (by omega) w).mono ?_
  rintro e w' ⟨rfl, rfl⟩
  rw [Int.toNat_natCast, decDigits_dec]
  exact ⟨rfl, Below.refl _ _⟩
end Go.Proofs.YtlpjaflolnggnaaGreatDoor
