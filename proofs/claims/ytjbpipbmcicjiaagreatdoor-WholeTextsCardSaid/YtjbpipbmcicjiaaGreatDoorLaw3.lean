/-
  LAYER 3's STATEMENTS, WALKED: texts as numbers.
-/
import Derived.Test.YtjbpipbmcicjiaaGreatDoorDec7
namespace Go.Proofs.YtjbpipbmcicjiaaGreatDoor
open Go.RowKit Go.Shelf

/-- what is left of digits when zeros ahead are taken off. -/
def StripRel (x : Nat) (a : Value) : Prop := ∃ (k : Nat) (t : ByteArray), k < 400 ∧ a = .string t ∧ t = Nt.S (Nt.dcs x (k + 1)) ∧ x < 10 ^ (k + 1)
theorem strip_facts (x k : Nat) (hx : x < 10 ^ (k + 1)) : (Nt.S (Nt.dcs x (k + 1))).size = k + 1 ∧ (∀ h, ((Nt.S (Nt.dcs x (k + 1)))[0]'h).toNat = 48 + x / 10 ^ k) ∧
    (Nt.S (Nt.dcs x (k + 1))).extract 1 (Nt.S (Nt.dcs x (k + 1))).size = Nt.S (Nt.dcs x k) := by
  have hl : (Nt.dcs x (k + 1)).length = k + 1 := Nt.dcs_length _ _
  have hsz : (Nt.S (Nt.dcs x (k + 1))).size = k + 1 := by rw [Nt.S_size, hl]
  have hp : 0 < 10 ^ k := Nat.pow_pos (by omega)
  have hq : x / 10 ^ k < 10 := by rw [Nat.div_lt_iff_lt_mul hp, Nat.mul_comm, ← Nat.pow_succ]; exact hx
  refine ⟨hsz, fun h => ?_, ?_⟩
  · rw [Nt.S_get _ (fun y hy => by have := Nt.dcs_lt x (k + 1) y hy; omega), Nt.dcs_get, show k + 1 - 1 - 0 = k from by omega, Nat.mod_eq_of_lt hq]
  · rw [hsz]
    have e3 : ∀ (a b : ByteArray), a.data.toList = b.data.toList → a = b := fun a b hab => by
      obtain ⟨⟨x⟩⟩ := a; obtain ⟨⟨y⟩⟩ := b; simpa using hab
    apply e3
    rw [Lib.extract_data, Nt.S_toList, Nt.S_toList, Nt.dcs_one, List.map_cons, List.drop_one, List.tail_cons]
    exact List.take_of_length_le (by rw [List.length_map, Nt.dcs_length]; omega)
end Go.Proofs.YtjbpipbmcicjiaaGreatDoor
