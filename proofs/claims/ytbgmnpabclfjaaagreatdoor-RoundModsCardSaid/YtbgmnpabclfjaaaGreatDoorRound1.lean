/-
  NUMBERS, ROUNDED: is it whole, a small one; down, up, what is left: the program's.
-/
import Derived.Test.YtbgmnpabclfjaaaGreatDoorRat11
namespace Go.Proofs.YtbgmnpabclfjaaaGreatDoor
open Go.RowKit Go.Shelf
set_option linter.unusedSimpArgs false
set_option linter.unusedVariables false

theorem flq_abs (x y : Int) : (flq x y).natAbs ≤ x.natAbs := by
  unfold flq
  split
  · exact Int.natAbs_ediv_le_natAbs x y
  · have := Int.natAbs_ediv_le_natAbs (-x) (-y)
    rwa [Int.natAbs_neg] at this
theorem flr_pos {x y : Int} (h : 0 < y) : flr x y = x % y := by
  unfold flr flq
  rw [if_pos (by omega)]
  have := Int.emod_add_mul_ediv x y
  omega
theorem flr_neg {x y : Int} (h : y < 0) : flr x y = -((-x) % (-y)) := by
  unfold flr flq
  rw [if_neg (by omega)]
  have := Int.emod_add_mul_ediv (-x) (-y)
  rw [Int.neg_mul] at this
  omega
theorem flr_abs {x y : Int} (h : y ≠ 0) : (flr x y).natAbs < y.natAbs := by
  rcases Int.lt_or_gt_of_ne h with h | h
  · rw [flr_neg h]
    have h1 := Int.emod_nonneg (-x) (b := -y) (by omega)
    have h2 := Int.emod_lt_of_pos (-x) (b := -y) (by omega)
    omega
  · rw [flr_pos h]
    have h1 := Int.emod_nonneg x (b := y) (by omega)
    have h2 := Int.emod_lt_of_pos x (b := y) (by omega)
    omega

theorem cell_al {W : World} {o : Obj} {a : Addr} {v : Value} (h : W.cell? a = some v) : (W.alloc o).cell? a = some v := by rw [World.cell?_alloc_some _ _ _ (by rw [h]; rfl), h]
theorem al_below {s W : World} {o : Obj} (h : Below s.heap.size s W) : Below s.heap.size s (W.alloc o) := h.alloc h.size o
theorem set_below {s W : World} {p : Addr} {v : Value} (h : Below s.heap.size s W) (hp : s.heap.size ≤ p.block) : Below s.heap.size s (W.setCell p v) := h.setCell hp v
theorem cell_set {W : World} {p : Addr} {b o : Nat} {u v : Value} (h : W.cell? ⟨b, o, none⟩ = some v) (hp : p.block ≠ b) : (W.setCell p u).cell? ⟨b, o, none⟩ = some v := by rw [World.cell?_setCell_far _ _ _ _ hp, h]
theorem cell_dr {W : World} {a : Addr} {v : Value} (h : W.cell? a = some v) : W.drew.cell? a = some v := h
theorem low_ne (neg : Bool) (a d : ByteArray) : lowI (wl neg a d) ≠ 0 := by
  have := (wl_ok neg a d).1
  unfold lowI; omega
theorem low_pos (neg : Bool) (a d : ByteArray) : 0 < lowI (wl neg a d) := by
  have := (wl_ok neg a d).1
  unfold lowI; omega
theorem V_ne {y : Int} (h : y ≠ 0) : Nt.V (zt y) ≠ 0 := by rw [V_zt]; omega
theorem bl_zt (y : Int) : bl (zt y) = (Nt.blen y.natAbs : Int) := by unfold bl; rw [V_zt]
theorem bl_size {y : Int} {k : Nat} (h : (zt y).size ≤ k) : bl (zt y) ≤ 8 * k := by
  rw [bl_zt]
  by_cases h0 : 0 < (Nt.E y.natAbs).size
  · have ht := Nt.blen_top y.natAbs h0
    have : Nt.blen ((Nt.E y.natAbs)[0]'h0).toNat ≤ 8 := by
      have hl : ((Nt.E y.natAbs)[0]'h0).toNat < 256 := UInt8.toNat_lt _
      generalize ((Nt.E y.natAbs)[0]'h0).toNat = v at *
      unfold Nt.blen
      split
      · omega
      · rename_i hv
        have := (Nat.log2_lt hv (k := 8)).2 hl
        omega
    have hs : (Nt.E y.natAbs).size ≤ k := h
    omega
  · have := Nt.E_nil y.natAbs h0
    rw [this]
    show (0 : Int) ≤ _
    omega
/-- the program's Make and Floor, of whole numbers told well. -/
theorem ratMake_zz (x y : Int) (q : Rt) (c : Int) (w : World) (hx : (zt x).size ≤ 1000) (hy : (zt y).size ≤ 128) (hq : mkR x y = q) (hc : mkE x y = c) :
    Calls Tryz.prog 42 #[.agg #[.bool (zb x), .string (zt x)], .agg #[.bool (zb y), .string (zt y)]] w fun e w' => e = .returned (.tuple #[.agg #[.bool (rb q), .string (rn q), .string (rd q)], .int .i64 c]) ∧ Below w.heap.size w w' :=
  ratMake_few (zb x) (zb y) (zt x) (zt y) q c w hx (by omega) (by have := bl_size hy; omega) (by rw [sI_z, sI_z, hq]) (by rw [sI_z, sI_z, hc])
theorem wholeFloor_zz (x y q r : Int) (w : World) (hx : (zt x).size ≤ 1000) (hy : (zt y).size ≤ 1000) (h0 : y ≠ 0) (hq : flq x y = q) (hr : flr x y = r) :
    Calls Tryz.prog 41 #[.agg #[.bool (zb x), .string (zt x)], .agg #[.bool (zb y), .string (zt y)]] w fun e w' => e = .returned (.tuple #[.agg #[.bool (zb q), .string (zt q)], .agg #[.bool (zb r), .string (zt r)], .int .i64 0]) ∧ Below w.heap.size w w' :=
  wholeFloor_any (zb x) (zb y) (zt x) (zt y) q r w hx hy (V_ne h0) (by rw [sI_z, sI_z, hq]) (by rw [sI_z, sI_z, hr])

end Go.Proofs.YtbgmnpabclfjaaaGreatDoor
