/-
  WHOLE NUMBERS AS INTEGERS; numbers; what is made of a numerator and a denominator. Products of whole numbers.
-/
import Derived.Test.YtbgmnpabclfjaaaGreatDoorWhole1
namespace Go.Proofs.YtbgmnpabclfjaaaGreatDoor
open Go.RowKit Go.Shelf
set_option linter.unusedSimpArgs false
set_option linter.unusedVariables false

/-- what a cell holds behind an alloc, a store elsewhere, a call. -/
theorem alK {W : World} {o : Obj} {a : Addr} {v : Value} (h : W.cell? a = some v) : (W.alloc o).cell? a = some v := by rw [World.cell?_alloc_some _ _ _ (by rw [h]; rfl), h]
theorem alZ {W : World} {o : Obj} {b : Nat} (z : b < W.heap.size) : b < (W.alloc o).heap.size := by simp; omega
theorem alF {W : World} {o : Obj} {b j : Nat} (z : b < W.heap.size) (h : W.frozen? ⟨b, j, none⟩ = false) : (W.alloc o).frozen? ⟨b, j, none⟩ = false := by simp [go_sem, z, h]
theorem stK {W : World} {p : Addr} {b o : Nat} {u v : Value} (h : W.cell? ⟨b, o, none⟩ = some v) (hp : p.block ≠ b) : (W.setCell p u).cell? ⟨b, o, none⟩ = some v := by rw [World.cell?_setCell_far _ _ _ _ hp, h]
theorem belK {a w : World} {p : Addr} {v : Value} (hb : Below a.heap.size a w) (h : a.cell? p = some v) (z : p.block < a.heap.size) : w.cell? p = some v := (hb.cell z).trans h
theorem belF {a w : World} {p : Addr} {v : Bool} (hb : Below a.heap.size a w) (h : a.frozen? p = v) (z : p.block < a.heap.size) : w.frozen? p = v := (hb.frozen z).trans h
def sI (neg : Bool) (n : Nat) : Int := if neg then -(n : Int) else n
def zb (z : Int) : Bool := decide (z < 0)
def zt (z : Int) : ByteArray := Nt.E z.natAbs
theorem V_zt (z : Int) : Nt.V (zt z) = z.natAbs := Nt.V_E _
theorem sI_abs (neg : Bool) (n : Nat) : (sI neg n).natAbs = n := by unfold sI; cases neg <;> simp
theorem sI_z (z : Int) : sI (zb z) (Nt.V (zt z)) = z := by
  rw [V_zt]; unfold sI zb
  by_cases h : z < 0
  · rw [if_pos (by simpa using h)]; omega
  · rw [if_neg (by simpa using h)]; omega
theorem sgn_sI (neg : Bool) (n : Nat) : sgn neg n = zb (sI neg n) := by
  unfold sgn sI zb
  cases neg
  · simp
  · rw [Bool.eq_iff_iff]; simp; omega
theorem mkW_z (neg : Bool) (n : Nat) : mkW neg n = .agg #[.bool (zb (sI neg n)), .string (zt (sI neg n))] := by
  unfold mkW zt
  rw [sgn_sI, sI_abs]
theorem mkW_eq {neg : Bool} {n : Nat} {x : Int} (h : sI neg n = x) : mkW neg n = .agg #[.bool (zb x), .string (zt x)] := by rw [mkW_z, h]
theorem zt_nil {z : Int} : z = 0 ↔ zt z = ⟨#[]⟩ := by
  constructor
  · rintro rfl; rfl
  · intro h
    have e := V_zt z
    rw [h] at e
    have : z.natAbs = 0 := e.symm
    omega
theorem zt_one : zt 1 = ⟨#[1]⟩ := by decide
theorem zb_one : zb 1 = false := by decide
theorem zb_cast (n : Nat) : zb (n : Int) = false := by unfold zb; simp
theorem zt_cast (n : Nat) : zt (n : Int) = Nt.E n := rfl

theorem wholeMake_z (neg : Bool) (m : ByteArray) (x : Int) (w : World) (hx : sI neg (Nt.V m) = x) :
    Calls Tryz.prog 64 #[.bool neg, .string m] w fun e w' => e = .returned (.agg #[.bool (zb x), .string (zt x)]) ∧ Below w.heap.size w w' := by
  have h := wholeMake_any neg m w
  rwa [mkW_eq hx] at h
theorem refMake_z (neg : Bool) (m : ByteArray) (x : Int) (w : World) (hx : sI neg (Nt.V m) = x) :
    Calls Tryz.prog 70 #[.bool neg, .string m] w fun e w' => e = .returned (.agg #[.bool (zb x), .string (zt x)]) ∧ Below w.heap.size w w' := by
  have h := refMake_any neg m w
  rwa [mkW_eq hx] at h
theorem sI_of (n : Int) : sI (decide (n < 0)) n.natAbs = n := by
  unfold sI
  by_cases h : n < 0
  · rw [if_pos (by simpa using h)]; omega
  · rw [if_neg (by simpa using h)]; omega
theorem wholeOf_z (n : Int) (w : World) (h1 : -9223372036854775808 ≤ n) (h2 : n ≤ 9223372036854775807) :
    Calls Tryz.prog 43 #[.int .i64 n] w fun e w' => e = .returned (.agg #[.bool (zb n), .string (zt n)]) ∧ Below w.heap.size w w' := by
  have h := wholeOf_any n w h1 h2
  rwa [mkW_eq (sI_of n)] at h
theorem refOf_z (n : Int) (w : World) (h1 : -9223372036854775808 ≤ n) (h2 : n ≤ 9223372036854775807) :
    Calls Tryz.prog 54 #[.int .i64 n] w fun e w' => e = .returned (.agg #[.bool (zb n), .string (zt n)]) ∧ Below w.heap.size w w' := by
  have h := refOf4_any n w h1 h2
  rwa [mkW_eq (sI_of n)] at h
theorem sI_not (neg : Bool) (n : Nat) : sI (!neg) n = -sI neg n := by unfold sI; cases neg <;> simp
theorem refNeg_z (neg : Bool) (m : ByteArray) (x : Int) (w : World) (hx : -sI neg (Nt.V m) = x) :
    Calls Tryz.prog 101 #[.agg #[.bool neg, .string m]] w fun e w' => e = .returned (.agg #[.bool (zb x), .string (zt x)]) ∧ Below w.heap.size w w' := by
  have h := refNeg_any neg m w
  rwa [mkW_eq ((sI_not _ _).trans hx)] at h
theorem refWell_z (neg : Bool) (m : ByteArray) (x : Int) (w : World) (hx : sI neg (Nt.V m) = x) :
    Calls Tryz.prog 75 #[.agg #[.bool neg, .string m]] w fun e w' => e = .returned (.agg #[.bool (zb x), .string (zt x)]) ∧ Below w.heap.size w w' := by
  have h := refWell_any neg m w
  rwa [mkW_eq hx] at h
/-- as a small one. -/
def smB (x : Int) : Bool := decide (-9223372036854775808 ≤ x ∧ x ≤ 9223372036854775807)
theorem sI_mul (n1 n2 : Bool) (a b : Nat) : sI (n1 != n2) (a * b) = sI n1 a * sI n2 b := by
  unfold sI
  cases n1 <;> cases n2 <;> simp [Int.neg_mul, Int.mul_neg]
set_option maxRecDepth 100000 in
set_option maxHeartbeats 4000000 in
theorem wholeMul_any (n1 n2 : Bool) (m1 m2 : ByteArray) (p : Int) (w : World) (h1 : m1.size ≤ 1000) (h2 : m2.size ≤ 1000) (hp : sI n1 (Nt.V m1) * sI n2 (Nt.V m2) = p) :
    Calls Tryz.prog 66 #[.agg #[.bool n1, .string m1], .agg #[.bool n2, .string m2]] w fun e w' => e = .returned (.agg #[.bool (zb p), .string (zt p)]) ∧ Below w.heap.size w w' := by
  have hm := fun w => natMul_any m1 m2 w (by omega) (by omega)
  have hk : ∀ (b : Bool) (w : World), b = (n1 != n2) → Calls Tryz.prog 64 #[.bool b, .string (Nt.E (Nt.V m1 * Nt.V m2))] w fun e w' => e = .returned (.agg #[.bool (zb p), .string (zt p)]) ∧ Below w.heap.size w w' :=
    fun b w hb => wholeMake_z b (Nt.E (Nt.V m1 * Nt.V m2)) p w (by rw [Nt.V_E, hb, sI_mul, hp])
  generalize Nt.E (Nt.V m1 * Nt.V m2) = t at *
  have HM := Lib.hid hm
  clear hm hp h1 h2
  have HK := Lib.hid hk
  clear hk
  go_enter Tryz.func66, Tryz.ntmps66
  go_wp2_with fail
  obtain ⟨s1, hws⟩ : ∃ s, s = (((w.alloc (.cells #[.bool n1, .string m1] 44)).alloc (.cells #[.bool n2, .string m2] 44)).alloc (.cells #[.bool false, .string ⟨#[]⟩] 44)) := ⟨_, rfl⟩
  have hBs : Below w.heap.size w s1 := by rw [hws]; exact ((((Below.refl w.heap.size w).alloc (by simp) _).alloc (by simp) _).alloc (by simp; omega) _)
  obtain ⟨A, hdA⟩ : ∃ b, b = w.heap.size := ⟨_, rfl⟩
  obtain ⟨B, hdB⟩ : ∃ b, b = w.heap.size + 1 := ⟨_, rfl⟩
  obtain ⟨C, hdC⟩ : ∃ b, b = w.heap.size + 1 + 1 := ⟨_, rfl⟩
  have hsz : s1.heap.size = w.heap.size + 1 + 1 + 1 := by rw [hws]; simp
  have dCA : C ≠ A := by omega
  have dCB : C ≠ B := by omega
  have kA0 : s1.cell? ⟨A, 0, none⟩ = some (.bool n1) := by rw [hws]; simp [go_sem, hdA, hdB, hdC]
  have kA1 : s1.cell? ⟨A, 1, none⟩ = some (.string m1) := by rw [hws]; simp [go_sem, hdA, hdB, hdC]
  have zA : A < s1.heap.size := by omega
  have lA : w.heap.size ≤ A := by have := Nat.le_refl w.heap.size; omega
  have kB0 : s1.cell? ⟨B, 0, none⟩ = some (.bool n2) := by rw [hws]; simp [go_sem, hdA, hdB, hdC]
  have kB1 : s1.cell? ⟨B, 1, none⟩ = some (.string m2) := by rw [hws]; simp [go_sem, hdA, hdB, hdC]
  have zB : B < s1.heap.size := by omega
  have lB : w.heap.size ≤ B := by have := Nat.le_refl w.heap.size; omega
  have kC0 : s1.cell? ⟨C, 0, none⟩ = some (.bool false) := by rw [hws]; simp [go_sem, hdA, hdB, hdC]
  have fC0 : s1.frozen? ⟨C, 0, none⟩ = false := by rw [hws]; simp [go_sem, hdA, hdB, hdC]
  have kC1 : s1.cell? ⟨C, 1, none⟩ = some (.string ⟨#[]⟩) := by rw [hws]; simp [go_sem, hdA, hdB, hdC]
  have fC1 : s1.frozen? ⟨C, 1, none⟩ = false := by rw [hws]; simp [go_sem, hdA, hdB, hdC]
  have zC : C < s1.heap.size := by omega
  have lC : w.heap.size ≤ C := by have := Nat.le_refl w.heap.size; omega
  rw [← hws]
  try rw [← hdC]
  try rw [← hdB]
  try rw [← hdA]
  clear hws hsz hdA hdB hdC
  have hBo := hBs; clear hBs
  have HF : Hid (∀ W, Below s1.heap.size s1 W → Below w.heap.size w W) := fun W hW => hBo.trans (hW.mono hBo.size)
  clear hBo
  first | (go_region_held3 (fun w' => w'.cell? ⟨A, 0, none⟩ = some (.bool n1) ∧ w'.cell? ⟨A, 1, none⟩ = some (.string m1) ∧ w'.cell? ⟨B, 0, none⟩ = some (.bool n2) ∧ w'.cell? ⟨B, 1, none⟩ = some (.string m2))
    (go_keep) (first
    | (go_at_call 69; refine (HM.out _).mono ?_; rintro e x2 ⟨rfl, hbx⟩; have hTx : Below s1.heap.size s1 x2 := (by first | exact (Below.refl _ _).drew.trans hbx | exact Below.trans (by assumption) (hbx.mono (Below.size (by assumption))) | exact (Below.refl _ _).trans hbx); obtain ⟨hcx, hfx⟩ := bcell hTx)
    | (go_at_call 64; refine (HK.out _ _ (by cases n1 <;> cases n2 <;> rfl)).mono ?_; rintro e x2 ⟨rfl, hbx⟩; have hTx : Below s1.heap.size s1 x2 := (by first | exact (Below.refl _ _).drew.trans hbx | exact Below.trans (by assumption) (hbx.mono (Below.size (by assumption))) | exact (Below.refl _ _).trans hbx); obtain ⟨hcx, hfx⟩ := bcell hTx))) | fail
  all_goals go_wp2_with fail
  all_goals refine bodyPost_ret (v := .agg #[.bool (zb p), .string (zt p)]) (by simp [results, Tryz.results66, go_sem, hcx, kC0, kC1, zC]) rfl ⟨rfl, ?_⟩
  all_goals exact (((HF.out _ (by assumption)).setCell lC _).setCell lC _)
end Go.Proofs.YtbgmnpabclfjaaaGreatDoor
