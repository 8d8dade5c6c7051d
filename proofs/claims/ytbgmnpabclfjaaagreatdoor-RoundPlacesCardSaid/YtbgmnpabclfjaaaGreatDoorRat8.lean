/-
  NUMBERS MADE OF A NUMERATOR AND A DENOMINATOR: the program's Make, of a denominator of not too many bits.
-/
import Derived.Test.YtbgmnpabclfjaaaGreatDoorRat7
namespace Go.Proofs.YtbgmnpabclfjaaaGreatDoor
open Go.RowKit Go.Shelf
set_option linter.unusedSimpArgs false
set_option linter.unusedVariables false

def mkN (x y : Int) : Nat := x.natAbs / Nat.gcd x.natAbs y.natAbs
def mkD (x y : Int) : Nat := y.natAbs / Nat.gcd x.natAbs y.natAbs
def mkBig (x y : Int) : Bool := decide (256 < Nt.blen (mkN x y) ∨ 256 < Nt.blen (mkD x y))
/-- the number of a numerator and a denominator. -/
def mkR (x y : Int) : Rt := if y = 0 then ⟨false, 0, 0⟩ else if mkBig x y then ⟨false, 0, 0⟩ else ⟨(zb x != zb y) && decide (mkN x y ≠ 0), mkN x y, mkD x y⟩
/-- or why there is none. -/
def mkE (x y : Int) : Int := if y = 0 then 5 else if mkBig x y then 4 else 0
theorem rz : rb ⟨false, 0, 0⟩ = false ∧ rn ⟨false, 0, 0⟩ = ⟨#[]⟩ ∧ rd ⟨false, 0, 0⟩ = ⟨#[]⟩ := by decide
theorem mk_zero {x y : Int} (h : y = 0) : mkR x y = ⟨false, 0, 0⟩ ∧ mkE x y = 5 := by unfold mkR mkE; rw [if_pos h, if_pos h]; exact ⟨rfl, rfl⟩
theorem mk_big {x y : Int} (h : y ≠ 0) (hb : 256 < Nt.blen (mkN x y) ∨ 256 < Nt.blen (mkD x y)) : mkR x y = ⟨false, 0, 0⟩ ∧ mkE x y = 4 := by
  have hb2 : mkBig x y = true := by unfold mkBig; exact decide_eq_true hb
  unfold mkR mkE; rw [if_neg h, if_neg h, hb2]; exact ⟨rfl, rfl⟩
theorem mk_fine {x y : Int} (h : y ≠ 0) (hb : ¬ (256 < Nt.blen (mkN x y) ∨ 256 < Nt.blen (mkD x y))) : mkR x y = ⟨(zb x != zb y) && decide (mkN x y ≠ 0), mkN x y, mkD x y⟩ ∧ mkE x y = 0 := by
  have hb2 : mkBig x y = false := by unfold mkBig; exact decide_eq_false hb
  unfold mkR mkE; rw [if_neg h, if_neg h, hb2]; exact ⟨rfl, rfl⟩
theorem sI_zb {neg : Bool} {n : Nat} (h : n ≠ 0) : zb (sI neg n) = neg := by
  rw [← sgn_sI]; exact sgn_pos neg h
theorem sI_zero_iff (neg : Bool) (n : Nat) : sI neg n = 0 ↔ n = 0 := by unfold sI; cases neg <;> simp

def bl (t : ByteArray) : Int := (Nt.blen (Nt.V t) : Int)
theorem natBits_b (t : ByteArray) (w : World) (ht : t.size ≤ 140737488351232) : Calls Tryz.prog 80 #[.string t] w fun e w' => e = .returned (.int .i64 (bl t)) ∧ Below w.heap.size w w' := quietB (natBits_any t w ht)
theorem refBits_b (t : ByteArray) (w : World) (ht : t.size ≤ 140737488351232) : Calls Tryz.prog 84 #[.string t] w fun e w' => e = .returned (.int .i64 (bl t)) ∧ Below w.heap.size w w' := quietB (refBits_any t w ht)
theorem bl_E (n : Nat) : bl (Nt.E n) = (Nt.blen n : Int) := by unfold bl; rw [Nt.V_E]
theorem blen_pos {n : Nat} (h : n ≠ 0) : 1 ≤ Nt.blen n := by unfold Nt.blen; rw [if_neg h]; omega

set_option maxRecDepth 100000 in
set_option maxHeartbeats 4000000 in
theorem divisor_few (m1 m2 : ByteArray) (w : World) (h1 : m1.size ≤ 2000) (h2 : m2.size ≤ 2000) (hb : bl m2 ≤ 1024) :
    Calls Tryz.prog 81 #[.string m1, .string m2] w fun e w' => e = .returned (.tuple #[.string (Nt.E (Nat.gcd (Nt.V m1) (Nt.V m2))), .bool true]) ∧ Below w.heap.size w w' := by
  have HB1 := Lib.hid (fun w => (natBits_any m1 w (by omega)))
  have h3 := fun w => (natBits_any m2 w (by omega))
  have HG := Lib.hid (fun w => gcd_of limbsOk m1 m2 w h1 h2)
  unfold bl at hb
  generalize (Nt.blen (Nt.V m2) : Int) = b2 at *
  generalize (Nt.blen (Nt.V m1) : Int) = b1 at *
  generalize Nt.E (Nat.gcd (Nt.V m1) (Nt.V m2)) = g at *
  have HB2 := Lib.hid h3
  have hb3 : ¬ 1024 < b2 := by omega
  clear h1 h2 h3 hb
  go_enter Tryz.func81, Tryz.ntmps81
  go_wp2_with fail
  refine (HB1.out _).mono ?_; rintro e wq ⟨rfl, rfl⟩
  go_wp2_with fail
  refine (HB2.out _).mono ?_; rintro e wq ⟨rfl, rfl⟩
  go_wp2_with fail
  go_loop [0, 1] (fun a b => a = .string m1 ∧ b = .string m2) (fun _ _ => 0)
  case atStart => exact ⟨rfl, rfl⟩
  case round =>
    obtain ⟨rfl, rfl⟩ := hrel
    go_wp2_with fail
    refine (HB2.out _).mono ?_; rintro e wq ⟨rfl, rfl⟩
    go_wp2_with fail
    refine (HG.out _).mono ?_; rintro e w1 ⟨rfl, hb⟩
    go_wp2
    go_ret2
    exact ⟨rfl, hb⟩

set_option maxRecDepth 100000 in
set_option maxHeartbeats 8000000 in
theorem ratMake_few (n1 n2 : Bool) (m1 m2 : ByteArray) (q : Rt) (c : Int) (w : World) (h1 : m1.size ≤ 1000) (h2 : m2.size ≤ 1000) (hb : bl m2 ≤ 1024)
    (hq : mkR (sI n1 (Nt.V m1)) (sI n2 (Nt.V m2)) = q) (hc : mkE (sI n1 (Nt.V m1)) (sI n2 (Nt.V m2)) = c) :
    Calls Tryz.prog 42 #[.agg #[.bool n1, .string m1], .agg #[.bool n2, .string m2]] w fun e w' => e = .returned (.tuple #[.agg #[.bool (rb q), .string (rn q), .string (rd q)], .int .i64 c]) ∧ Below w.heap.size w w' := by
  have hB2 := fun w => natBits_b m2 w (by omega)
  by_cases h0 : Nt.V m2 = 0
  case pos =>
    obtain ⟨e1, e2⟩ := mk_zero (x := sI n1 (Nt.V m1)) ((sI_zero_iff n2 _).2 h0)
    rw [← hq, ← hc, e1, e2, rz.1, rz.2.1, rz.2.2]
    rw [show bl m2 = 0 from by unfold bl; rw [h0]; rfl] at hB2
    have HB := Lib.hid hB2
    clear hB2 e1 e2 hq hc h0 h1 h2 hb
    go_enter Tryz.func42, Tryz.ntmps42
    go_wp2_with fail
    obtain ⟨s1, hws⟩ : ∃ s, s = (((w.alloc (.cells #[.bool n1, .string m1] 44)).alloc (.cells #[.bool n2, .string m2] 44)).alloc (.cells #[.bool false, .string ⟨#[]⟩, .string ⟨#[]⟩] 23)) := ⟨_, rfl⟩
    have hBs : Below w.heap.size w s1 := by rw [hws]; exact ((((Below.refl w.heap.size w).alloc (by simp) _).alloc (by simp) _).alloc (by simp; omega) _)
    obtain ⟨A, hdA⟩ : ∃ b, b = w.heap.size := ⟨_, rfl⟩
    obtain ⟨B, hdB⟩ : ∃ b, b = w.heap.size + 1 := ⟨_, rfl⟩
    obtain ⟨C, hdC⟩ : ∃ b, b = w.heap.size + 1 + 1 := ⟨_, rfl⟩
    have hsz : s1.heap.size = w.heap.size + 1 + 1 + 1 := by rw [hws]; simp
    have dCA : C ≠ A := by omega
    have dCB : C ≠ B := by omega
    have kA0 : s1.cell? ⟨A, 0, none⟩ = some (.bool n1) := by rw [hws]; simp [go_sem, hdA, hdB, hdC]
    have kA1 : s1.cell? ⟨A, 1, none⟩ = some (.string m1) := by rw [hws]; simp [go_sem, hdA, hdB, hdC]
    have zA : A < s1.heap.size := by omega
    have lA : w.heap.size ≤ A := by have := Nat.le_refl w.heap.size; omega
    have kB0 : s1.cell? ⟨B, 0, none⟩ = some (.bool n2) := by rw [hws]; simp [go_sem, hdA, hdB, hdC]
    have kB1 : s1.cell? ⟨B, 1, none⟩ = some (.string m2) := by rw [hws]; simp [go_sem, hdA, hdB, hdC]
    have zB : B < s1.heap.size := by omega
    have lB : w.heap.size ≤ B := by have := Nat.le_refl w.heap.size; omega
    have kC0 : s1.cell? ⟨C, 0, none⟩ = some (.bool false) := by rw [hws]; simp [go_sem, hdA, hdB, hdC]
    have fC0 : s1.frozen? ⟨C, 0, none⟩ = false := by rw [hws]; simp [go_sem, hdA, hdB, hdC]
    have kC1 : s1.cell? ⟨C, 1, none⟩ = some (.string ⟨#[]⟩) := by rw [hws]; simp [go_sem, hdA, hdB, hdC]
    have fC1 : s1.frozen? ⟨C, 1, none⟩ = false := by rw [hws]; simp [go_sem, hdA, hdB, hdC]
    have kC2 : s1.cell? ⟨C, 2, none⟩ = some (.string ⟨#[]⟩) := by rw [hws]; simp [go_sem, hdA, hdB, hdC]
    have fC2 : s1.frozen? ⟨C, 2, none⟩ = false := by rw [hws]; simp [go_sem, hdA, hdB, hdC]
    have zC : C < s1.heap.size := by omega
    have lC : w.heap.size ≤ C := by have := Nat.le_refl w.heap.size; omega
    rw [← hws]
    try rw [← hdC]
    try rw [← hdB]
    try rw [← hdA]
    clear hws hsz hdA hdB hdC
    have hBo := hBs; clear hBs
    refine (HB.out _).mono ?_; rintro e s2 ⟨rfl, hb⟩
    replace kA0 := belK hb kA0 zA; replace kA1 := belK hb kA1 zA; replace zA := Nat.lt_of_lt_of_le zA hb.size
    replace kB0 := belK hb kB0 zB; replace kB1 := belK hb kB1 zB; replace zB := Nat.lt_of_lt_of_le zB hb.size
    replace kC0 := belK hb kC0 zC; replace fC0 := belF hb fC0 zC; replace kC1 := belK hb kC1 zC; replace fC1 := belF hb fC1 zC; replace kC2 := belK hb kC2 zC; replace fC2 := belF hb fC2 zC; replace zC := Nat.lt_of_lt_of_le zC hb.size
    replace hBo := hBo.trans (hb.mono hBo.size)
    clear hb
    all_goals go_wp2_with fail
    all_goals refine bodyPost_ret (v := .tuple #[.agg #[.bool false, .string ⟨#[]⟩, .string ⟨#[]⟩], .int .i64 5]) (by simp [results, Tryz.results42, go_sem, kC0, kC1, kC2, zC]) rfl ⟨rfl, ?_⟩
    all_goals exact (((hBo.setCell lC _).setCell lC _).setCell lC _)
  have hy0 : sI n2 (Nt.V m2) ≠ 0 := fun h => h0 ((sI_zero_iff _ _).1 h)
  have hbl0 : ¬ bl m2 = 0 := by have := blen_pos h0; unfold bl; omega
  have hg0 : Nat.gcd (Nt.V m1) (Nt.V m2) ≠ 0 := fun h => h0 (Nat.eq_zero_of_gcd_eq_zero_right h)
  have hN : mkN (sI n1 (Nt.V m1)) (sI n2 (Nt.V m2)) = Nt.V m1 / Nat.gcd (Nt.V m1) (Nt.V m2) := by unfold mkN; rw [sI_abs, sI_abs]
  have hD : mkD (sI n1 (Nt.V m1)) (sI n2 (Nt.V m2)) = Nt.V m2 / Nat.gcd (Nt.V m1) (Nt.V m2) := by unfold mkD; rw [sI_abs, sI_abs]
  have hdv := fun w => divisor_few m1 m2 w (by omega) (by omega) hb
  have hgs : (Nt.E (Nat.gcd (Nt.V m1) (Nt.V m2))).size ≤ 1000 := Nat.le_trans (Nt.E_size_le (Nat.gcd_le_right _ (Nat.pos_of_ne_zero h0))) (Nat.le_trans (Nt.E_size_V m2) h2)
  have hd1 := fun w => divMod_ok m1 (Nt.E (Nat.gcd (Nt.V m1) (Nt.V m2))) w (by omega) (by omega)
  have hd2 := fun w => divMod_ok m2 (Nt.E (Nat.gcd (Nt.V m1) (Nt.V m2))) w (by omega) (by omega)
  rw [Nt.V_E, divOut, if_neg hg0] at hd1 hd2
  have hsn := Nat.le_trans (Nt.E_size_le (Nat.div_le_self (Nt.V m1) (Nat.gcd (Nt.V m1) (Nt.V m2)))) (Nt.E_size_V m1)
  have hsd := Nat.le_trans (Nt.E_size_le (Nat.div_le_self (Nt.V m2) (Nat.gcd (Nt.V m1) (Nt.V m2)))) (Nt.E_size_V m2)
  have hb3 := fun w => natBits_b (Nt.E (Nt.V m1 / Nat.gcd (Nt.V m1) (Nt.V m2))) w (by omega)
  have hb4 := fun w => natBits_b (Nt.E (Nt.V m2 / Nat.gcd (Nt.V m1) (Nt.V m2))) w (by omega)
  rw [bl_E] at hb3 hb4
  have hnz : Nt.V m1 / Nat.gcd (Nt.V m1) (Nt.V m2) ≠ 0 → zb (sI n1 (Nt.V m1)) = n1 := fun h => sI_zb (fun h1 => h (by rw [h1]; simp))
  have hyz := sI_zb (neg := n2) h0
  have hnl : Nt.V m1 / Nat.gcd (Nt.V m1) (Nt.V m2) ≠ 0 → Nt.E (Nt.V m1 / Nat.gcd (Nt.V m1) (Nt.V m2)) ≠ ⟨#[]⟩ := fun h h2 => h (by
    have := Nt.V_E (Nt.V m1 / Nat.gcd (Nt.V m1) (Nt.V m2))
    rw [h2] at this
    exact this.symm.trans (by decide))
  generalize sI n1 (Nt.V m1) = x at *
  generalize sI n2 (Nt.V m2) = y at *
  generalize Nt.E (Nt.V m1 % Nat.gcd (Nt.V m1) (Nt.V m2)) = s1' at *
  generalize Nt.E (Nt.V m2 % Nat.gcd (Nt.V m1) (Nt.V m2)) = s2' at *
  by_cases hbig : 256 < Nt.blen (mkN x y) ∨ 256 < Nt.blen (mkD x y)
  case pos =>
    obtain ⟨e1, e2⟩ := mk_big hy0 hbig
    rw [hN, hD] at hbig
    rw [← hq, ← hc, e1, e2, rz.1, rz.2.1, rz.2.2]
    generalize Nt.V m1 / Nat.gcd (Nt.V m1) (Nt.V m2) = u at *
    generalize Nt.V m2 / Nat.gcd (Nt.V m1) (Nt.V m2) = v at *
    have hmx : 256 < max (Nt.blen u : Int) (Nt.blen v : Int) := by omega
    generalize (Nt.blen u : Int) = bu at *
    generalize (Nt.blen v : Int) = bv at *
    generalize Nt.E (Nat.gcd (Nt.V m1) (Nt.V m2)) = g at *
    have HB := Lib.hid hB2
    have HV := Lib.hid hdv
    have HD1 := Lib.hid hd1
    have HD2 := Lib.hid hd2
    have HB3 := Lib.hid hb3
    have HB4 := Lib.hid hb4
    clear hB2 hdv hd1 hd2 hb3 hb4 e1 e2 hq hc h0 h1 h2 hb hy0 hg0 hN hD hgs hsn hsd hnz hyz hnl hbig
    go_enter Tryz.func42, Tryz.ntmps42
    go_wp2_with fail
    obtain ⟨s3, hws⟩ : ∃ s, s = (((w.alloc (.cells #[.bool n1, .string m1] 44)).alloc (.cells #[.bool n2, .string m2] 44)).alloc (.cells #[.bool false, .string ⟨#[]⟩, .string ⟨#[]⟩] 23)) := ⟨_, rfl⟩
    have hBs : Below w.heap.size w s3 := by rw [hws]; exact ((((Below.refl w.heap.size w).alloc (by simp) _).alloc (by simp) _).alloc (by simp; omega) _)
    obtain ⟨A, hdA⟩ : ∃ b, b = w.heap.size := ⟨_, rfl⟩
    obtain ⟨B, hdB⟩ : ∃ b, b = w.heap.size + 1 := ⟨_, rfl⟩
    obtain ⟨C, hdC⟩ : ∃ b, b = w.heap.size + 1 + 1 := ⟨_, rfl⟩
    have hsz : s3.heap.size = w.heap.size + 1 + 1 + 1 := by rw [hws]; simp
    have dCA : C ≠ A := by omega
    have dCB : C ≠ B := by omega
    have kA0 : s3.cell? ⟨A, 0, none⟩ = some (.bool n1) := by rw [hws]; simp [go_sem, hdA, hdB, hdC]
    have kA1 : s3.cell? ⟨A, 1, none⟩ = some (.string m1) := by rw [hws]; simp [go_sem, hdA, hdB, hdC]
    have zA : A < s3.heap.size := by omega
    have lA : w.heap.size ≤ A := by have := Nat.le_refl w.heap.size; omega
    have kB0 : s3.cell? ⟨B, 0, none⟩ = some (.bool n2) := by rw [hws]; simp [go_sem, hdA, hdB, hdC]
    have kB1 : s3.cell? ⟨B, 1, none⟩ = some (.string m2) := by rw [hws]; simp [go_sem, hdA, hdB, hdC]
    have zB : B < s3.heap.size := by omega
    have lB : w.heap.size ≤ B := by have := Nat.le_refl w.heap.size; omega
    have kC0 : s3.cell? ⟨C, 0, none⟩ = some (.bool false) := by rw [hws]; simp [go_sem, hdA, hdB, hdC]
    have fC0 : s3.frozen? ⟨C, 0, none⟩ = false := by rw [hws]; simp [go_sem, hdA, hdB, hdC]
    have kC1 : s3.cell? ⟨C, 1, none⟩ = some (.string ⟨#[]⟩) := by rw [hws]; simp [go_sem, hdA, hdB, hdC]
    have fC1 : s3.frozen? ⟨C, 1, none⟩ = false := by rw [hws]; simp [go_sem, hdA, hdB, hdC]
    have kC2 : s3.cell? ⟨C, 2, none⟩ = some (.string ⟨#[]⟩) := by rw [hws]; simp [go_sem, hdA, hdB, hdC]
    have fC2 : s3.frozen? ⟨C, 2, none⟩ = false := by rw [hws]; simp [go_sem, hdA, hdB, hdC]
    have zC : C < s3.heap.size := by omega
    have lC : w.heap.size ≤ C := by have := Nat.le_refl w.heap.size; omega
    rw [← hws]
    try rw [← hdC]
    try rw [← hdB]
    try rw [← hdA]
    clear hws hsz hdA hdB hdC
    have hBo := hBs; clear hBs
    refine (HB.out _).mono ?_; rintro e s4 ⟨rfl, hb⟩
    replace kA0 := belK hb kA0 zA; replace kA1 := belK hb kA1 zA; replace zA := Nat.lt_of_lt_of_le zA hb.size
    replace kB0 := belK hb kB0 zB; replace kB1 := belK hb kB1 zB; replace zB := Nat.lt_of_lt_of_le zB hb.size
    replace kC0 := belK hb kC0 zC; replace fC0 := belF hb fC0 zC; replace kC1 := belK hb kC1 zC; replace fC1 := belF hb fC1 zC; replace kC2 := belK hb kC2 zC; replace fC2 := belF hb fC2 zC; replace zC := Nat.lt_of_lt_of_le zC hb.size
    replace hBo := hBo.trans (hb.mono hBo.size)
    clear hb
    go_wp2_with fail
    refine (HV.out _).mono ?_; rintro e s5 ⟨rfl, hb⟩
    replace kA0 := belK hb kA0 zA; replace kA1 := belK hb kA1 zA; replace zA := Nat.lt_of_lt_of_le zA hb.size
    replace kB0 := belK hb kB0 zB; replace kB1 := belK hb kB1 zB; replace zB := Nat.lt_of_lt_of_le zB hb.size
    replace kC0 := belK hb kC0 zC; replace fC0 := belF hb fC0 zC; replace kC1 := belK hb kC1 zC; replace fC1 := belF hb fC1 zC; replace kC2 := belK hb kC2 zC; replace fC2 := belF hb fC2 zC; replace zC := Nat.lt_of_lt_of_le zC hb.size
    replace hBo := hBo.trans (hb.mono hBo.size)
    clear hb
    go_wp2_with fail
    refine (HD1.out _).mono ?_; rintro e s6 ⟨rfl, hb⟩
    replace kA0 := belK hb kA0 zA; replace kA1 := belK hb kA1 zA; replace zA := Nat.lt_of_lt_of_le zA hb.size
    replace kB0 := belK hb kB0 zB; replace kB1 := belK hb kB1 zB; replace zB := Nat.lt_of_lt_of_le zB hb.size
    replace kC0 := belK hb kC0 zC; replace fC0 := belF hb fC0 zC; replace kC1 := belK hb kC1 zC; replace fC1 := belF hb fC1 zC; replace kC2 := belK hb kC2 zC; replace fC2 := belF hb fC2 zC; replace zC := Nat.lt_of_lt_of_le zC hb.size
    replace hBo := hBo.trans (hb.mono hBo.size)
    clear hb
    go_wp2_with fail
    refine (HD2.out _).mono ?_; rintro e s7 ⟨rfl, hb⟩
    replace kA0 := belK hb kA0 zA; replace kA1 := belK hb kA1 zA; replace zA := Nat.lt_of_lt_of_le zA hb.size
    replace kB0 := belK hb kB0 zB; replace kB1 := belK hb kB1 zB; replace zB := Nat.lt_of_lt_of_le zB hb.size
    replace kC0 := belK hb kC0 zC; replace fC0 := belF hb fC0 zC; replace kC1 := belK hb kC1 zC; replace fC1 := belF hb fC1 zC; replace kC2 := belK hb kC2 zC; replace fC2 := belF hb fC2 zC; replace zC := Nat.lt_of_lt_of_le zC hb.size
    replace hBo := hBo.trans (hb.mono hBo.size)
    clear hb
    go_wp2_with fail
    refine (HB3.out _).mono ?_; rintro e s8 ⟨rfl, hb⟩
    replace kA0 := belK hb kA0 zA; replace kA1 := belK hb kA1 zA; replace zA := Nat.lt_of_lt_of_le zA hb.size
    replace kB0 := belK hb kB0 zB; replace kB1 := belK hb kB1 zB; replace zB := Nat.lt_of_lt_of_le zB hb.size
    replace kC0 := belK hb kC0 zC; replace fC0 := belF hb fC0 zC; replace kC1 := belK hb kC1 zC; replace fC1 := belF hb fC1 zC; replace kC2 := belK hb kC2 zC; replace fC2 := belF hb fC2 zC; replace zC := Nat.lt_of_lt_of_le zC hb.size
    replace hBo := hBo.trans (hb.mono hBo.size)
    clear hb
    go_wp2_with fail
    refine (HB4.out _).mono ?_; rintro e s9 ⟨rfl, hb⟩
    replace kA0 := belK hb kA0 zA; replace kA1 := belK hb kA1 zA; replace zA := Nat.lt_of_lt_of_le zA hb.size
    replace kB0 := belK hb kB0 zB; replace kB1 := belK hb kB1 zB; replace zB := Nat.lt_of_lt_of_le zB hb.size
    replace kC0 := belK hb kC0 zC; replace fC0 := belF hb fC0 zC; replace kC1 := belK hb kC1 zC; replace fC1 := belF hb fC1 zC; replace kC2 := belK hb kC2 zC; replace fC2 := belF hb fC2 zC; replace zC := Nat.lt_of_lt_of_le zC hb.size
    replace hBo := hBo.trans (hb.mono hBo.size)
    clear hb
    all_goals go_wp2_with fail
    all_goals refine bodyPost_ret (v := .tuple #[.agg #[.bool false, .string ⟨#[]⟩, .string ⟨#[]⟩], .int .i64 4]) (by simp [results, Tryz.results42, go_sem, kC0, kC1, kC2, zC]) rfl ⟨rfl, ?_⟩
    all_goals exact (((hBo.setCell lC _).setCell lC _).setCell lC _)
  obtain ⟨e1, e2⟩ := mk_fine hy0 hbig
  rw [hN, hD] at hbig e1
  rw [hyz] at e1
  rw [← hq, ← hc, e1, e2]
  show Calls _ _ _ _ fun e w' => e = .returned (.tuple #[.agg #[.bool _, .string (Nt.E (Nt.V m1 / Nat.gcd (Nt.V m1) (Nt.V m2))), .string (Nt.E (Nt.V m2 / Nat.gcd (Nt.V m1) (Nt.V m2)))], .int .i64 0]) ∧ _
  generalize Nt.E (Nt.V m2 / Nat.gcd (Nt.V m1) (Nt.V m2)) = tv at *
  generalize Nt.V m2 / Nat.gcd (Nt.V m1) (Nt.V m2) = v at *
  by_cases hu : Nt.V m1 / Nat.gcd (Nt.V m1) (Nt.V m2) = 0
  case pos =>
    clear hnl hnz hN hD hsn hsd
    generalize Nt.V m1 / Nat.gcd (Nt.V m1) (Nt.V m2) = u at *
    subst hu
    rw [show Nt.E 0 = ⟨#[]⟩ from rfl] at hd1 hb3 ⊢
    have hrb : rb ⟨(zb x != n2) && decide (0 ≠ 0), 0, v⟩ = false := by unfold rb; simp
    rw [hrb]
    have hmx : ¬ 256 < max (Nt.blen 0 : Int) (Nt.blen v : Int) := by omega
    generalize (Nt.blen 0 : Int) = bu at *
    generalize (Nt.blen v : Int) = bv at *
    generalize Nt.E (Nat.gcd (Nt.V m1) (Nt.V m2)) = g at *
    have HB := Lib.hid hB2
    have HV := Lib.hid hdv
    have HD1 := Lib.hid hd1
    have HD2 := Lib.hid hd2
    have HB3 := Lib.hid hb3
    have HB4 := Lib.hid hb4
    clear hB2 hdv hd1 hd2 hb3 hb4 e1 e2 hq hc h0 h1 h2 hb hy0 hg0 hgs hyz hbig hrb
    cases n1 <;> cases n2
    case false.false =>
      go_enter Tryz.func42, Tryz.ntmps42
      go_wp2_with fail
      obtain ⟨s10, hws⟩ : ∃ s, s = (((w.alloc (.cells #[.bool false, .string m1] 44)).alloc (.cells #[.bool false, .string m2] 44)).alloc (.cells #[.bool false, .string ⟨#[]⟩, .string ⟨#[]⟩] 23)) := ⟨_, rfl⟩
      have hBs : Below w.heap.size w s10 := by rw [hws]; exact ((((Below.refl w.heap.size w).alloc (by simp) _).alloc (by simp) _).alloc (by simp; omega) _)
      obtain ⟨A, hdA⟩ : ∃ b, b = w.heap.size := ⟨_, rfl⟩
      obtain ⟨B, hdB⟩ : ∃ b, b = w.heap.size + 1 := ⟨_, rfl⟩
      obtain ⟨C, hdC⟩ : ∃ b, b = w.heap.size + 1 + 1 := ⟨_, rfl⟩
      have hsz : s10.heap.size = w.heap.size + 1 + 1 + 1 := by rw [hws]; simp
      have dCA : C ≠ A := by omega
      have dCB : C ≠ B := by omega
      have kA0 : s10.cell? ⟨A, 0, none⟩ = some (.bool false) := by rw [hws]; simp [go_sem, hdA, hdB, hdC]
      have kA1 : s10.cell? ⟨A, 1, none⟩ = some (.string m1) := by rw [hws]; simp [go_sem, hdA, hdB, hdC]
      have zA : A < s10.heap.size := by omega
      have lA : w.heap.size ≤ A := by have := Nat.le_refl w.heap.size; omega
      have kB0 : s10.cell? ⟨B, 0, none⟩ = some (.bool false) := by rw [hws]; simp [go_sem, hdA, hdB, hdC]
      have kB1 : s10.cell? ⟨B, 1, none⟩ = some (.string m2) := by rw [hws]; simp [go_sem, hdA, hdB, hdC]
      have zB : B < s10.heap.size := by omega
      have lB : w.heap.size ≤ B := by have := Nat.le_refl w.heap.size; omega
      have kC0 : s10.cell? ⟨C, 0, none⟩ = some (.bool false) := by rw [hws]; simp [go_sem, hdA, hdB, hdC]
      have fC0 : s10.frozen? ⟨C, 0, none⟩ = false := by rw [hws]; simp [go_sem, hdA, hdB, hdC]
      have kC1 : s10.cell? ⟨C, 1, none⟩ = some (.string ⟨#[]⟩) := by rw [hws]; simp [go_sem, hdA, hdB, hdC]
      have fC1 : s10.frozen? ⟨C, 1, none⟩ = false := by rw [hws]; simp [go_sem, hdA, hdB, hdC]
      have kC2 : s10.cell? ⟨C, 2, none⟩ = some (.string ⟨#[]⟩) := by rw [hws]; simp [go_sem, hdA, hdB, hdC]
      have fC2 : s10.frozen? ⟨C, 2, none⟩ = false := by rw [hws]; simp [go_sem, hdA, hdB, hdC]
      have zC : C < s10.heap.size := by omega
      have lC : w.heap.size ≤ C := by have := Nat.le_refl w.heap.size; omega
      rw [← hws]
      try rw [← hdC]
      try rw [← hdB]
      try rw [← hdA]
      clear hws hsz hdA hdB hdC
      have hBo := hBs; clear hBs
      refine (HB.out _).mono ?_; rintro e s11 ⟨rfl, hb⟩
      replace kA0 := belK hb kA0 zA; replace kA1 := belK hb kA1 zA; replace zA := Nat.lt_of_lt_of_le zA hb.size
      replace kB0 := belK hb kB0 zB; replace kB1 := belK hb kB1 zB; replace zB := Nat.lt_of_lt_of_le zB hb.size
      replace kC0 := belK hb kC0 zC; replace fC0 := belF hb fC0 zC; replace kC1 := belK hb kC1 zC; replace fC1 := belF hb fC1 zC; replace kC2 := belK hb kC2 zC; replace fC2 := belF hb fC2 zC; replace zC := Nat.lt_of_lt_of_le zC hb.size
      replace hBo := hBo.trans (hb.mono hBo.size)
      clear hb
      go_wp2_with fail
      refine (HV.out _).mono ?_; rintro e s12 ⟨rfl, hb⟩
      replace kA0 := belK hb kA0 zA; replace kA1 := belK hb kA1 zA; replace zA := Nat.lt_of_lt_of_le zA hb.size
      replace kB0 := belK hb kB0 zB; replace kB1 := belK hb kB1 zB; replace zB := Nat.lt_of_lt_of_le zB hb.size
      replace kC0 := belK hb kC0 zC; replace fC0 := belF hb fC0 zC; replace kC1 := belK hb kC1 zC; replace fC1 := belF hb fC1 zC; replace kC2 := belK hb kC2 zC; replace fC2 := belF hb fC2 zC; replace zC := Nat.lt_of_lt_of_le zC hb.size
      replace hBo := hBo.trans (hb.mono hBo.size)
      clear hb
      go_wp2_with fail
      refine (HD1.out _).mono ?_; rintro e s13 ⟨rfl, hb⟩
      replace kA0 := belK hb kA0 zA; replace kA1 := belK hb kA1 zA; replace zA := Nat.lt_of_lt_of_le zA hb.size
      replace kB0 := belK hb kB0 zB; replace kB1 := belK hb kB1 zB; replace zB := Nat.lt_of_lt_of_le zB hb.size
      replace kC0 := belK hb kC0 zC; replace fC0 := belF hb fC0 zC; replace kC1 := belK hb kC1 zC; replace fC1 := belF hb fC1 zC; replace kC2 := belK hb kC2 zC; replace fC2 := belF hb fC2 zC; replace zC := Nat.lt_of_lt_of_le zC hb.size
      replace hBo := hBo.trans (hb.mono hBo.size)
      clear hb
      go_wp2_with fail
      refine (HD2.out _).mono ?_; rintro e s14 ⟨rfl, hb⟩
      replace kA0 := belK hb kA0 zA; replace kA1 := belK hb kA1 zA; replace zA := Nat.lt_of_lt_of_le zA hb.size
      replace kB0 := belK hb kB0 zB; replace kB1 := belK hb kB1 zB; replace zB := Nat.lt_of_lt_of_le zB hb.size
      replace kC0 := belK hb kC0 zC; replace fC0 := belF hb fC0 zC; replace kC1 := belK hb kC1 zC; replace fC1 := belF hb fC1 zC; replace kC2 := belK hb kC2 zC; replace fC2 := belF hb fC2 zC; replace zC := Nat.lt_of_lt_of_le zC hb.size
      replace hBo := hBo.trans (hb.mono hBo.size)
      clear hb
      go_wp2_with fail
      refine (HB3.out _).mono ?_; rintro e s15 ⟨rfl, hb⟩
      replace kA0 := belK hb kA0 zA; replace kA1 := belK hb kA1 zA; replace zA := Nat.lt_of_lt_of_le zA hb.size
      replace kB0 := belK hb kB0 zB; replace kB1 := belK hb kB1 zB; replace zB := Nat.lt_of_lt_of_le zB hb.size
      replace kC0 := belK hb kC0 zC; replace fC0 := belF hb fC0 zC; replace kC1 := belK hb kC1 zC; replace fC1 := belF hb fC1 zC; replace kC2 := belK hb kC2 zC; replace fC2 := belF hb fC2 zC; replace zC := Nat.lt_of_lt_of_le zC hb.size
      replace hBo := hBo.trans (hb.mono hBo.size)
      clear hb
      go_wp2_with fail
      refine (HB4.out _).mono ?_; rintro e s16 ⟨rfl, hb⟩
      replace kA0 := belK hb kA0 zA; replace kA1 := belK hb kA1 zA; replace zA := Nat.lt_of_lt_of_le zA hb.size
      replace kB0 := belK hb kB0 zB; replace kB1 := belK hb kB1 zB; replace zB := Nat.lt_of_lt_of_le zB hb.size
      replace kC0 := belK hb kC0 zC; replace fC0 := belF hb fC0 zC; replace kC1 := belK hb kC1 zC; replace fC1 := belF hb fC1 zC; replace kC2 := belK hb kC2 zC; replace fC2 := belF hb fC2 zC; replace zC := Nat.lt_of_lt_of_le zC hb.size
      replace hBo := hBo.trans (hb.mono hBo.size)
      clear hb
      all_goals go_wp2_with fail
      all_goals refine bodyPost_ret (v := .tuple #[.agg #[.bool false, .string ⟨#[]⟩, .string tv], .int .i64 0]) (by simp [results, Tryz.results42, go_sem, kC0, kC1, kC2, zC]) rfl ⟨rfl, ?_⟩
      all_goals exact (((hBo.setCell lC _).setCell lC _).setCell lC _)
    case false.true =>
      go_enter Tryz.func42, Tryz.ntmps42
      go_wp2_with fail
      obtain ⟨s17, hws⟩ : ∃ s, s = (((w.alloc (.cells #[.bool false, .string m1] 44)).alloc (.cells #[.bool true, .string m2] 44)).alloc (.cells #[.bool false, .string ⟨#[]⟩, .string ⟨#[]⟩] 23)) := ⟨_, rfl⟩
      have hBs : Below w.heap.size w s17 := by rw [hws]; exact ((((Below.refl w.heap.size w).alloc (by simp) _).alloc (by simp) _).alloc (by simp; omega) _)
      obtain ⟨A, hdA⟩ : ∃ b, b = w.heap.size := ⟨_, rfl⟩
      obtain ⟨B, hdB⟩ : ∃ b, b = w.heap.size + 1 := ⟨_, rfl⟩
      obtain ⟨C, hdC⟩ : ∃ b, b = w.heap.size + 1 + 1 := ⟨_, rfl⟩
      have hsz : s17.heap.size = w.heap.size + 1 + 1 + 1 := by rw [hws]; simp
      have dCA : C ≠ A := by omega
      have dCB : C ≠ B := by omega
      have kA0 : s17.cell? ⟨A, 0, none⟩ = some (.bool false) := by rw [hws]; simp [go_sem, hdA, hdB, hdC]
      have kA1 : s17.cell? ⟨A, 1, none⟩ = some (.string m1) := by rw [hws]; simp [go_sem, hdA, hdB, hdC]
      have zA : A < s17.heap.size := by omega
      have lA : w.heap.size ≤ A := by have := Nat.le_refl w.heap.size; omega
      have kB0 : s17.cell? ⟨B, 0, none⟩ = some (.bool true) := by rw [hws]; simp [go_sem, hdA, hdB, hdC]
      have kB1 : s17.cell? ⟨B, 1, none⟩ = some (.string m2) := by rw [hws]; simp [go_sem, hdA, hdB, hdC]
      have zB : B < s17.heap.size := by omega
      have lB : w.heap.size ≤ B := by have := Nat.le_refl w.heap.size; omega
      have kC0 : s17.cell? ⟨C, 0, none⟩ = some (.bool false) := by rw [hws]; simp [go_sem, hdA, hdB, hdC]
      have fC0 : s17.frozen? ⟨C, 0, none⟩ = false := by rw [hws]; simp [go_sem, hdA, hdB, hdC]
      have kC1 : s17.cell? ⟨C, 1, none⟩ = some (.string ⟨#[]⟩) := by rw [hws]; simp [go_sem, hdA, hdB, hdC]
      have fC1 : s17.frozen? ⟨C, 1, none⟩ = false := by rw [hws]; simp [go_sem, hdA, hdB, hdC]
      have kC2 : s17.cell? ⟨C, 2, none⟩ = some (.string ⟨#[]⟩) := by rw [hws]; simp [go_sem, hdA, hdB, hdC]
      have fC2 : s17.frozen? ⟨C, 2, none⟩ = false := by rw [hws]; simp [go_sem, hdA, hdB, hdC]
      have zC : C < s17.heap.size := by omega
      have lC : w.heap.size ≤ C := by have := Nat.le_refl w.heap.size; omega
      rw [← hws]
      try rw [← hdC]
      try rw [← hdB]
      try rw [← hdA]
      clear hws hsz hdA hdB hdC
      have hBo := hBs; clear hBs
      refine (HB.out _).mono ?_; rintro e s18 ⟨rfl, hb⟩
      replace kA0 := belK hb kA0 zA; replace kA1 := belK hb kA1 zA; replace zA := Nat.lt_of_lt_of_le zA hb.size
      replace kB0 := belK hb kB0 zB; replace kB1 := belK hb kB1 zB; replace zB := Nat.lt_of_lt_of_le zB hb.size
      replace kC0 := belK hb kC0 zC; replace fC0 := belF hb fC0 zC; replace kC1 := belK hb kC1 zC; replace fC1 := belF hb fC1 zC; replace kC2 := belK hb kC2 zC; replace fC2 := belF hb fC2 zC; replace zC := Nat.lt_of_lt_of_le zC hb.size
      replace hBo := hBo.trans (hb.mono hBo.size)
      clear hb
      go_wp2_with fail
      refine (HV.out _).mono ?_; rintro e s19 ⟨rfl, hb⟩
      replace kA0 := belK hb kA0 zA; replace kA1 := belK hb kA1 zA; replace zA := Nat.lt_of_lt_of_le zA hb.size
      replace kB0 := belK hb kB0 zB; replace kB1 := belK hb kB1 zB; replace zB := Nat.lt_of_lt_of_le zB hb.size
      replace kC0 := belK hb kC0 zC; replace fC0 := belF hb fC0 zC; replace kC1 := belK hb kC1 zC; replace fC1 := belF hb fC1 zC; replace kC2 := belK hb kC2 zC; replace fC2 := belF hb fC2 zC; replace zC := Nat.lt_of_lt_of_le zC hb.size
      replace hBo := hBo.trans (hb.mono hBo.size)
      clear hb
      go_wp2_with fail
      refine (HD1.out _).mono ?_; rintro e s20 ⟨rfl, hb⟩
      replace kA0 := belK hb kA0 zA; replace kA1 := belK hb kA1 zA; replace zA := Nat.lt_of_lt_of_le zA hb.size
      replace kB0 := belK hb kB0 zB; replace kB1 := belK hb kB1 zB; replace zB := Nat.lt_of_lt_of_le zB hb.size
      replace kC0 := belK hb kC0 zC; replace fC0 := belF hb fC0 zC; replace kC1 := belK hb kC1 zC; replace fC1 := belF hb fC1 zC; replace kC2 := belK hb kC2 zC; replace fC2 := belF hb fC2 zC; replace zC := Nat.lt_of_lt_of_le zC hb.size
      replace hBo := hBo.trans (hb.mono hBo.size)
      clear hb
      go_wp2_with fail
      refine (HD2.out _).mono ?_; rintro e s21 ⟨rfl, hb⟩
      replace kA0 := belK hb kA0 zA; replace kA1 := belK hb kA1 zA; replace zA := Nat.lt_of_lt_of_le zA hb.size
      replace kB0 := belK hb kB0 zB; replace kB1 := belK hb kB1 zB; replace zB := Nat.lt_of_lt_of_le zB hb.size
      replace kC0 := belK hb kC0 zC; replace fC0 := belF hb fC0 zC; replace kC1 := belK hb kC1 zC; replace fC1 := belF hb fC1 zC; replace kC2 := belK hb kC2 zC; replace fC2 := belF hb fC2 zC; replace zC := Nat.lt_of_lt_of_le zC hb.size
      replace hBo := hBo.trans (hb.mono hBo.size)
      clear hb
      go_wp2_with fail
      refine (HB3.out _).mono ?_; rintro e s22 ⟨rfl, hb⟩
      replace kA0 := belK hb kA0 zA; replace kA1 := belK hb kA1 zA; replace zA := Nat.lt_of_lt_of_le zA hb.size
      replace kB0 := belK hb kB0 zB; replace kB1 := belK hb kB1 zB; replace zB := Nat.lt_of_lt_of_le zB hb.size
      replace kC0 := belK hb kC0 zC; replace fC0 := belF hb fC0 zC; replace kC1 := belK hb kC1 zC; replace fC1 := belF hb fC1 zC; replace kC2 := belK hb kC2 zC; replace fC2 := belF hb fC2 zC; replace zC := Nat.lt_of_lt_of_le zC hb.size
      replace hBo := hBo.trans (hb.mono hBo.size)
      clear hb
      go_wp2_with fail
      refine (HB4.out _).mono ?_; rintro e s23 ⟨rfl, hb⟩
      replace kA0 := belK hb kA0 zA; replace kA1 := belK hb kA1 zA; replace zA := Nat.lt_of_lt_of_le zA hb.size
      replace kB0 := belK hb kB0 zB; replace kB1 := belK hb kB1 zB; replace zB := Nat.lt_of_lt_of_le zB hb.size
      replace kC0 := belK hb kC0 zC; replace fC0 := belF hb fC0 zC; replace kC1 := belK hb kC1 zC; replace fC1 := belF hb fC1 zC; replace kC2 := belK hb kC2 zC; replace fC2 := belF hb fC2 zC; replace zC := Nat.lt_of_lt_of_le zC hb.size
      replace hBo := hBo.trans (hb.mono hBo.size)
      clear hb
      all_goals go_wp2_with fail
      all_goals refine bodyPost_ret (v := .tuple #[.agg #[.bool false, .string ⟨#[]⟩, .string tv], .int .i64 0]) (by simp [results, Tryz.results42, go_sem, kC0, kC1, kC2, zC]) rfl ⟨rfl, ?_⟩
      all_goals exact (((hBo.setCell lC _).setCell lC _).setCell lC _)
    case true.false =>
      go_enter Tryz.func42, Tryz.ntmps42
      go_wp2_with fail
      obtain ⟨s24, hws⟩ : ∃ s, s = (((w.alloc (.cells #[.bool true, .string m1] 44)).alloc (.cells #[.bool false, .string m2] 44)).alloc (.cells #[.bool false, .string ⟨#[]⟩, .string ⟨#[]⟩] 23)) := ⟨_, rfl⟩
      have hBs : Below w.heap.size w s24 := by rw [hws]; exact ((((Below.refl w.heap.size w).alloc (by simp) _).alloc (by simp) _).alloc (by simp; omega) _)
      obtain ⟨A, hdA⟩ : ∃ b, b = w.heap.size := ⟨_, rfl⟩
      obtain ⟨B, hdB⟩ : ∃ b, b = w.heap.size + 1 := ⟨_, rfl⟩
      obtain ⟨C, hdC⟩ : ∃ b, b = w.heap.size + 1 + 1 := ⟨_, rfl⟩
      have hsz : s24.heap.size = w.heap.size + 1 + 1 + 1 := by rw [hws]; simp
      have dCA : C ≠ A := by omega
      have dCB : C ≠ B := by omega
      have kA0 : s24.cell? ⟨A, 0, none⟩ = some (.bool true) := by rw [hws]; simp [go_sem, hdA, hdB, hdC]
      have kA1 : s24.cell? ⟨A, 1, none⟩ = some (.string m1) := by rw [hws]; simp [go_sem, hdA, hdB, hdC]
      have zA : A < s24.heap.size := by omega
      have lA : w.heap.size ≤ A := by have := Nat.le_refl w.heap.size; omega
      have kB0 : s24.cell? ⟨B, 0, none⟩ = some (.bool false) := by rw [hws]; simp [go_sem, hdA, hdB, hdC]
      have kB1 : s24.cell? ⟨B, 1, none⟩ = some (.string m2) := by rw [hws]; simp [go_sem, hdA, hdB, hdC]
      have zB : B < s24.heap.size := by omega
      have lB : w.heap.size ≤ B := by have := Nat.le_refl w.heap.size; omega
      have kC0 : s24.cell? ⟨C, 0, none⟩ = some (.bool false) := by rw [hws]; simp [go_sem, hdA, hdB, hdC]
      have fC0 : s24.frozen? ⟨C, 0, none⟩ = false := by rw [hws]; simp [go_sem, hdA, hdB, hdC]
      have kC1 : s24.cell? ⟨C, 1, none⟩ = some (.string ⟨#[]⟩) := by rw [hws]; simp [go_sem, hdA, hdB, hdC]
      have fC1 : s24.frozen? ⟨C, 1, none⟩ = false := by rw [hws]; simp [go_sem, hdA, hdB, hdC]
      have kC2 : s24.cell? ⟨C, 2, none⟩ = some (.string ⟨#[]⟩) := by rw [hws]; simp [go_sem, hdA, hdB, hdC]
      have fC2 : s24.frozen? ⟨C, 2, none⟩ = false := by rw [hws]; simp [go_sem, hdA, hdB, hdC]
      have zC : C < s24.heap.size := by omega
      have lC : w.heap.size ≤ C := by have := Nat.le_refl w.heap.size; omega
      rw [← hws]
      try rw [← hdC]
      try rw [← hdB]
      try rw [← hdA]
      clear hws hsz hdA hdB hdC
      have hBo := hBs; clear hBs
      refine (HB.out _).mono ?_; rintro e s25 ⟨rfl, hb⟩
      replace kA0 := belK hb kA0 zA; replace kA1 := belK hb kA1 zA; replace zA := Nat.lt_of_lt_of_le zA hb.size
      replace kB0 := belK hb kB0 zB; replace kB1 := belK hb kB1 zB; replace zB := Nat.lt_of_lt_of_le zB hb.size
      replace kC0 := belK hb kC0 zC; replace fC0 := belF hb fC0 zC; replace kC1 := belK hb kC1 zC; replace fC1 := belF hb fC1 zC; replace kC2 := belK hb kC2 zC; replace fC2 := belF hb fC2 zC; replace zC := Nat.lt_of_lt_of_le zC hb.size
      replace hBo := hBo.trans (hb.mono hBo.size)
      clear hb
      go_wp2_with fail
      refine (HV.out _).mono ?_; rintro e s26 ⟨rfl, hb⟩
      replace kA0 := belK hb kA0 zA; replace kA1 := belK hb kA1 zA; replace zA := Nat.lt_of_lt_of_le zA hb.size
      replace kB0 := belK hb kB0 zB; replace kB1 := belK hb kB1 zB; replace zB := Nat.lt_of_lt_of_le zB hb.size
      replace kC0 := belK hb kC0 zC; replace fC0 := belF hb fC0 zC; replace kC1 := belK hb kC1 zC; replace fC1 := belF hb fC1 zC; replace kC2 := belK hb kC2 zC; replace fC2 := belF hb fC2 zC; replace zC := Nat.lt_of_lt_of_le zC hb.size
      replace hBo := hBo.trans (hb.mono hBo.size)
      clear hb
      go_wp2_with fail
      refine (HD1.out _).mono ?_; rintro e s27 ⟨rfl, hb⟩
      replace kA0 := belK hb kA0 zA; replace kA1 := belK hb kA1 zA; replace zA := Nat.lt_of_lt_of_le zA hb.size
      replace kB0 := belK hb kB0 zB; replace kB1 := belK hb kB1 zB; replace zB := Nat.lt_of_lt_of_le zB hb.size
      replace kC0 := belK hb kC0 zC; replace fC0 := belF hb fC0 zC; replace kC1 := belK hb kC1 zC; replace fC1 := belF hb fC1 zC; replace kC2 := belK hb kC2 zC; replace fC2 := belF hb fC2 zC; replace zC := Nat.lt_of_lt_of_le zC hb.size
      replace hBo := hBo.trans (hb.mono hBo.size)
      clear hb
      go_wp2_with fail
      refine (HD2.out _).mono ?_; rintro e s28 ⟨rfl, hb⟩
      replace kA0 := belK hb kA0 zA; replace kA1 := belK hb kA1 zA; replace zA := Nat.lt_of_lt_of_le zA hb.size
      replace kB0 := belK hb kB0 zB; replace kB1 := belK hb kB1 zB; replace zB := Nat.lt_of_lt_of_le zB hb.size
      replace kC0 := belK hb kC0 zC; replace fC0 := belF hb fC0 zC; replace kC1 := belK hb kC1 zC; replace fC1 := belF hb fC1 zC; replace kC2 := belK hb kC2 zC; replace fC2 := belF hb fC2 zC; replace zC := Nat.lt_of_lt_of_le zC hb.size
      replace hBo := hBo.trans (hb.mono hBo.size)
      clear hb
      go_wp2_with fail
      refine (HB3.out _).mono ?_; rintro e s29 ⟨rfl, hb⟩
      replace kA0 := belK hb kA0 zA; replace kA1 := belK hb kA1 zA; replace zA := Nat.lt_of_lt_of_le zA hb.size
      replace kB0 := belK hb kB0 zB; replace kB1 := belK hb kB1 zB; replace zB := Nat.lt_of_lt_of_le zB hb.size
      replace kC0 := belK hb kC0 zC; replace fC0 := belF hb fC0 zC; replace kC1 := belK hb kC1 zC; replace fC1 := belF hb fC1 zC; replace kC2 := belK hb kC2 zC; replace fC2 := belF hb fC2 zC; replace zC := Nat.lt_of_lt_of_le zC hb.size
      replace hBo := hBo.trans (hb.mono hBo.size)
      clear hb
      go_wp2_with fail
      refine (HB4.out _).mono ?_; rintro e s30 ⟨rfl, hb⟩
      replace kA0 := belK hb kA0 zA; replace kA1 := belK hb kA1 zA; replace zA := Nat.lt_of_lt_of_le zA hb.size
      replace kB0 := belK hb kB0 zB; replace kB1 := belK hb kB1 zB; replace zB := Nat.lt_of_lt_of_le zB hb.size
      replace kC0 := belK hb kC0 zC; replace fC0 := belF hb fC0 zC; replace kC1 := belK hb kC1 zC; replace fC1 := belF hb fC1 zC; replace kC2 := belK hb kC2 zC; replace fC2 := belF hb fC2 zC; replace zC := Nat.lt_of_lt_of_le zC hb.size
      replace hBo := hBo.trans (hb.mono hBo.size)
      clear hb
      all_goals go_wp2_with fail
      all_goals refine bodyPost_ret (v := .tuple #[.agg #[.bool false, .string ⟨#[]⟩, .string tv], .int .i64 0]) (by simp [results, Tryz.results42, go_sem, kC0, kC1, kC2, zC]) rfl ⟨rfl, ?_⟩
      all_goals exact (((hBo.setCell lC _).setCell lC _).setCell lC _)
    case true.true =>
      go_enter Tryz.func42, Tryz.ntmps42
      go_wp2_with fail
      obtain ⟨s31, hws⟩ : ∃ s, s = (((w.alloc (.cells #[.bool true, .string m1] 44)).alloc (.cells #[.bool true, .string m2] 44)).alloc (.cells #[.bool false, .string ⟨#[]⟩, .string ⟨#[]⟩] 23)) := ⟨_, rfl⟩
      have hBs : Below w.heap.size w s31 := by rw [hws]; exact ((((Below.refl w.heap.size w).alloc (by simp) _).alloc (by simp) _).alloc (by simp; omega) _)
      obtain ⟨A, hdA⟩ : ∃ b, b = w.heap.size := ⟨_, rfl⟩
      obtain ⟨B, hdB⟩ : ∃ b, b = w.heap.size + 1 := ⟨_, rfl⟩
      obtain ⟨C, hdC⟩ : ∃ b, b = w.heap.size + 1 + 1 := ⟨_, rfl⟩
      have hsz : s31.heap.size = w.heap.size + 1 + 1 + 1 := by rw [hws]; simp
      have dCA : C ≠ A := by omega
      have dCB : C ≠ B := by omega
      have kA0 : s31.cell? ⟨A, 0, none⟩ = some (.bool true) := by rw [hws]; simp [go_sem, hdA, hdB, hdC]
      have kA1 : s31.cell? ⟨A, 1, none⟩ = some (.string m1) := by rw [hws]; simp [go_sem, hdA, hdB, hdC]
      have zA : A < s31.heap.size := by omega
      have lA : w.heap.size ≤ A := by have := Nat.le_refl w.heap.size; omega
      have kB0 : s31.cell? ⟨B, 0, none⟩ = some (.bool true) := by rw [hws]; simp [go_sem, hdA, hdB, hdC]
      have kB1 : s31.cell? ⟨B, 1, none⟩ = some (.string m2) := by rw [hws]; simp [go_sem, hdA, hdB, hdC]
      have zB : B < s31.heap.size := by omega
      have lB : w.heap.size ≤ B := by have := Nat.le_refl w.heap.size; omega
      have kC0 : s31.cell? ⟨C, 0, none⟩ = some (.bool false) := by rw [hws]; simp [go_sem, hdA, hdB, hdC]
      have fC0 : s31.frozen? ⟨C, 0, none⟩ = false := by rw [hws]; simp [go_sem, hdA, hdB, hdC]
      have kC1 : s31.cell? ⟨C, 1, none⟩ = some (.string ⟨#[]⟩) := by rw [hws]; simp [go_sem, hdA, hdB, hdC]
      have fC1 : s31.frozen? ⟨C, 1, none⟩ = false := by rw [hws]; simp [go_sem, hdA, hdB, hdC]
      have kC2 : s31.cell? ⟨C, 2, none⟩ = some (.string ⟨#[]⟩) := by rw [hws]; simp [go_sem, hdA, hdB, hdC]
      have fC2 : s31.frozen? ⟨C, 2, none⟩ = false := by rw [hws]; simp [go_sem, hdA, hdB, hdC]
      have zC : C < s31.heap.size := by omega
      have lC : w.heap.size ≤ C := by have := Nat.le_refl w.heap.size; omega
      rw [← hws]
      try rw [← hdC]
      try rw [← hdB]
      try rw [← hdA]
      clear hws hsz hdA hdB hdC
      have hBo := hBs; clear hBs
      refine (HB.out _).mono ?_; rintro e s32 ⟨rfl, hb⟩
      replace kA0 := belK hb kA0 zA; replace kA1 := belK hb kA1 zA; replace zA := Nat.lt_of_lt_of_le zA hb.size
      replace kB0 := belK hb kB0 zB; replace kB1 := belK hb kB1 zB; replace zB := Nat.lt_of_lt_of_le zB hb.size
      replace kC0 := belK hb kC0 zC; replace fC0 := belF hb fC0 zC; replace kC1 := belK hb kC1 zC; replace fC1 := belF hb fC1 zC; replace kC2 := belK hb kC2 zC; replace fC2 := belF hb fC2 zC; replace zC := Nat.lt_of_lt_of_le zC hb.size
      replace hBo := hBo.trans (hb.mono hBo.size)
      clear hb
      go_wp2_with fail
      refine (HV.out _).mono ?_; rintro e s33 ⟨rfl, hb⟩
      replace kA0 := belK hb kA0 zA; replace kA1 := belK hb kA1 zA; replace zA := Nat.lt_of_lt_of_le zA hb.size
      replace kB0 := belK hb kB0 zB; replace kB1 := belK hb kB1 zB; replace zB := Nat.lt_of_lt_of_le zB hb.size
      replace kC0 := belK hb kC0 zC; replace fC0 := belF hb fC0 zC; replace kC1 := belK hb kC1 zC; replace fC1 := belF hb fC1 zC; replace kC2 := belK hb kC2 zC; replace fC2 := belF hb fC2 zC; replace zC := Nat.lt_of_lt_of_le zC hb.size
      replace hBo := hBo.trans (hb.mono hBo.size)
      clear hb
      go_wp2_with fail
      refine (HD1.out _).mono ?_; rintro e s34 ⟨rfl, hb⟩
      replace kA0 := belK hb kA0 zA; replace kA1 := belK hb kA1 zA; replace zA := Nat.lt_of_lt_of_le zA hb.size
      replace kB0 := belK hb kB0 zB; replace kB1 := belK hb kB1 zB; replace zB := Nat.lt_of_lt_of_le zB hb.size
      replace kC0 := belK hb kC0 zC; replace fC0 := belF hb fC0 zC; replace kC1 := belK hb kC1 zC; replace fC1 := belF hb fC1 zC; replace kC2 := belK hb kC2 zC; replace fC2 := belF hb fC2 zC; replace zC := Nat.lt_of_lt_of_le zC hb.size
      replace hBo := hBo.trans (hb.mono hBo.size)
      clear hb
      go_wp2_with fail
      refine (HD2.out _).mono ?_; rintro e s35 ⟨rfl, hb⟩
      replace kA0 := belK hb kA0 zA; replace kA1 := belK hb kA1 zA; replace zA := Nat.lt_of_lt_of_le zA hb.size
      replace kB0 := belK hb kB0 zB; replace kB1 := belK hb kB1 zB; replace zB := Nat.lt_of_lt_of_le zB hb.size
      replace kC0 := belK hb kC0 zC; replace fC0 := belF hb fC0 zC; replace kC1 := belK hb kC1 zC; replace fC1 := belF hb fC1 zC; replace kC2 := belK hb kC2 zC; replace fC2 := belF hb fC2 zC; replace zC := Nat.lt_of_lt_of_le zC hb.size
      replace hBo := hBo.trans (hb.mono hBo.size)
      clear hb
      go_wp2_with fail
      refine (HB3.out _).mono ?_; rintro e s36 ⟨rfl, hb⟩
      replace kA0 := belK hb kA0 zA; replace kA1 := belK hb kA1 zA; replace zA := Nat.lt_of_lt_of_le zA hb.size
      replace kB0 := belK hb kB0 zB; replace kB1 := belK hb kB1 zB; replace zB := Nat.lt_of_lt_of_le zB hb.size
      replace kC0 := belK hb kC0 zC; replace fC0 := belF hb fC0 zC; replace kC1 := belK hb kC1 zC; replace fC1 := belF hb fC1 zC; replace kC2 := belK hb kC2 zC; replace fC2 := belF hb fC2 zC; replace zC := Nat.lt_of_lt_of_le zC hb.size
      replace hBo := hBo.trans (hb.mono hBo.size)
      clear hb
      go_wp2_with fail
      refine (HB4.out _).mono ?_; rintro e s37 ⟨rfl, hb⟩
      replace kA0 := belK hb kA0 zA; replace kA1 := belK hb kA1 zA; replace zA := Nat.lt_of_lt_of_le zA hb.size
      replace kB0 := belK hb kB0 zB; replace kB1 := belK hb kB1 zB; replace zB := Nat.lt_of_lt_of_le zB hb.size
      replace kC0 := belK hb kC0 zC; replace fC0 := belF hb fC0 zC; replace kC1 := belK hb kC1 zC; replace fC1 := belF hb fC1 zC; replace kC2 := belK hb kC2 zC; replace fC2 := belF hb fC2 zC; replace zC := Nat.lt_of_lt_of_le zC hb.size
      replace hBo := hBo.trans (hb.mono hBo.size)
      clear hb
      all_goals go_wp2_with fail
      all_goals refine bodyPost_ret (v := .tuple #[.agg #[.bool false, .string ⟨#[]⟩, .string tv], .int .i64 0]) (by simp [results, Tryz.results42, go_sem, kC0, kC1, kC2, zC]) rfl ⟨rfl, ?_⟩
      all_goals exact (((hBo.setCell lC _).setCell lC _).setCell lC _)
  obtain ⟨hn1, hn2⟩ := toList_ne (hnl hu)
  have hz := hnz hu
  rw [hz]
  have hrb : ∀ u, u = Nt.V m1 / Nat.gcd (Nt.V m1) (Nt.V m2) → rb ⟨(n1 != n2) && decide (u ≠ 0), u, v⟩ = (n1 != n2) := fun u h => by unfold rb; simp [h, hu]
  generalize Nt.E (Nt.V m1 / Nat.gcd (Nt.V m1) (Nt.V m2)) = tu at *
  generalize hu' : Nt.V m1 / Nat.gcd (Nt.V m1) (Nt.V m2) = u at *
  rw [hrb u rfl]
  have hmx : ¬ 256 < max (Nt.blen u : Int) (Nt.blen v : Int) := by omega
  generalize (Nt.blen u : Int) = bu at *
  generalize (Nt.blen v : Int) = bv at *
  generalize Nt.E (Nat.gcd (Nt.V m1) (Nt.V m2)) = g at *
  have HB := Lib.hid hB2
  have HV := Lib.hid hdv
  have HD1 := Lib.hid hd1
  have HD2 := Lib.hid hd2
  have HB3 := Lib.hid hb3
  have HB4 := Lib.hid hb4
  clear hB2 hdv hd1 hd2 hb3 hb4 e1 e2 hq hc h0 h1 h2 hb hy0 hg0 hN hD hgs hsn hsd hnz hyz hnl hbig hu hrb hu' hz
  cases n1 <;> cases n2
  case false.false =>
    simp only [bne_self_eq_false, Bool.false_bne, Bool.true_bne, Bool.not_false]
    go_enter Tryz.func42, Tryz.ntmps42
    go_wp2_with fail
    obtain ⟨s38, hws⟩ : ∃ s, s = (((w.alloc (.cells #[.bool false, .string m1] 44)).alloc (.cells #[.bool false, .string m2] 44)).alloc (.cells #[.bool false, .string ⟨#[]⟩, .string ⟨#[]⟩] 23)) := ⟨_, rfl⟩
    have hBs : Below w.heap.size w s38 := by rw [hws]; exact ((((Below.refl w.heap.size w).alloc (by simp) _).alloc (by simp) _).alloc (by simp; omega) _)
    obtain ⟨A, hdA⟩ : ∃ b, b = w.heap.size := ⟨_, rfl⟩
    obtain ⟨B, hdB⟩ : ∃ b, b = w.heap.size + 1 := ⟨_, rfl⟩
    obtain ⟨C, hdC⟩ : ∃ b, b = w.heap.size + 1 + 1 := ⟨_, rfl⟩
    have hsz : s38.heap.size = w.heap.size + 1 + 1 + 1 := by rw [hws]; simp
    have dCA : C ≠ A := by omega
    have dCB : C ≠ B := by omega
    have kA0 : s38.cell? ⟨A, 0, none⟩ = some (.bool false) := by rw [hws]; simp [go_sem, hdA, hdB, hdC]
    have kA1 : s38.cell? ⟨A, 1, none⟩ = some (.string m1) := by rw [hws]; simp [go_sem, hdA, hdB, hdC]
    have zA : A < s38.heap.size := by omega
    have lA : w.heap.size ≤ A := by have := Nat.le_refl w.heap.size; omega
    have kB0 : s38.cell? ⟨B, 0, none⟩ = some (.bool false) := by rw [hws]; simp [go_sem, hdA, hdB, hdC]
    have kB1 : s38.cell? ⟨B, 1, none⟩ = some (.string m2) := by rw [hws]; simp [go_sem, hdA, hdB, hdC]
    have zB : B < s38.heap.size := by omega
    have lB : w.heap.size ≤ B := by have := Nat.le_refl w.heap.size; omega
    have kC0 : s38.cell? ⟨C, 0, none⟩ = some (.bool false) := by rw [hws]; simp [go_sem, hdA, hdB, hdC]
    have fC0 : s38.frozen? ⟨C, 0, none⟩ = false := by rw [hws]; simp [go_sem, hdA, hdB, hdC]
    have kC1 : s38.cell? ⟨C, 1, none⟩ = some (.string ⟨#[]⟩) := by rw [hws]; simp [go_sem, hdA, hdB, hdC]
    have fC1 : s38.frozen? ⟨C, 1, none⟩ = false := by rw [hws]; simp [go_sem, hdA, hdB, hdC]
    have kC2 : s38.cell? ⟨C, 2, none⟩ = some (.string ⟨#[]⟩) := by rw [hws]; simp [go_sem, hdA, hdB, hdC]
    have fC2 : s38.frozen? ⟨C, 2, none⟩ = false := by rw [hws]; simp [go_sem, hdA, hdB, hdC]
    have zC : C < s38.heap.size := by omega
    have lC : w.heap.size ≤ C := by have := Nat.le_refl w.heap.size; omega
    rw [← hws]
    try rw [← hdC]
    try rw [← hdB]
    try rw [← hdA]
    clear hws hsz hdA hdB hdC
    have hBo := hBs; clear hBs
    refine (HB.out _).mono ?_; rintro e s39 ⟨rfl, hb⟩
    replace kA0 := belK hb kA0 zA; replace kA1 := belK hb kA1 zA; replace zA := Nat.lt_of_lt_of_le zA hb.size
    replace kB0 := belK hb kB0 zB; replace kB1 := belK hb kB1 zB; replace zB := Nat.lt_of_lt_of_le zB hb.size
    replace kC0 := belK hb kC0 zC; replace fC0 := belF hb fC0 zC; replace kC1 := belK hb kC1 zC; replace fC1 := belF hb fC1 zC; replace kC2 := belK hb kC2 zC; replace fC2 := belF hb fC2 zC; replace zC := Nat.lt_of_lt_of_le zC hb.size
    replace hBo := hBo.trans (hb.mono hBo.size)
    clear hb
    go_wp2_with fail
    refine (HV.out _).mono ?_; rintro e s40 ⟨rfl, hb⟩
    replace kA0 := belK hb kA0 zA; replace kA1 := belK hb kA1 zA; replace zA := Nat.lt_of_lt_of_le zA hb.size
    replace kB0 := belK hb kB0 zB; replace kB1 := belK hb kB1 zB; replace zB := Nat.lt_of_lt_of_le zB hb.size
    replace kC0 := belK hb kC0 zC; replace fC0 := belF hb fC0 zC; replace kC1 := belK hb kC1 zC; replace fC1 := belF hb fC1 zC; replace kC2 := belK hb kC2 zC; replace fC2 := belF hb fC2 zC; replace zC := Nat.lt_of_lt_of_le zC hb.size
    replace hBo := hBo.trans (hb.mono hBo.size)
    clear hb
    go_wp2_with fail
    refine (HD1.out _).mono ?_; rintro e s41 ⟨rfl, hb⟩
    replace kA0 := belK hb kA0 zA; replace kA1 := belK hb kA1 zA; replace zA := Nat.lt_of_lt_of_le zA hb.size
    replace kB0 := belK hb kB0 zB; replace kB1 := belK hb kB1 zB; replace zB := Nat.lt_of_lt_of_le zB hb.size
    replace kC0 := belK hb kC0 zC; replace fC0 := belF hb fC0 zC; replace kC1 := belK hb kC1 zC; replace fC1 := belF hb fC1 zC; replace kC2 := belK hb kC2 zC; replace fC2 := belF hb fC2 zC; replace zC := Nat.lt_of_lt_of_le zC hb.size
    replace hBo := hBo.trans (hb.mono hBo.size)
    clear hb
    go_wp2_with fail
    refine (HD2.out _).mono ?_; rintro e s42 ⟨rfl, hb⟩
    replace kA0 := belK hb kA0 zA; replace kA1 := belK hb kA1 zA; replace zA := Nat.lt_of_lt_of_le zA hb.size
    replace kB0 := belK hb kB0 zB; replace kB1 := belK hb kB1 zB; replace zB := Nat.lt_of_lt_of_le zB hb.size
    replace kC0 := belK hb kC0 zC; replace fC0 := belF hb fC0 zC; replace kC1 := belK hb kC1 zC; replace fC1 := belF hb fC1 zC; replace kC2 := belK hb kC2 zC; replace fC2 := belF hb fC2 zC; replace zC := Nat.lt_of_lt_of_le zC hb.size
    replace hBo := hBo.trans (hb.mono hBo.size)
    clear hb
    go_wp2_with fail
    refine (HB3.out _).mono ?_; rintro e s43 ⟨rfl, hb⟩
    replace kA0 := belK hb kA0 zA; replace kA1 := belK hb kA1 zA; replace zA := Nat.lt_of_lt_of_le zA hb.size
    replace kB0 := belK hb kB0 zB; replace kB1 := belK hb kB1 zB; replace zB := Nat.lt_of_lt_of_le zB hb.size
    replace kC0 := belK hb kC0 zC; replace fC0 := belF hb fC0 zC; replace kC1 := belK hb kC1 zC; replace fC1 := belF hb fC1 zC; replace kC2 := belK hb kC2 zC; replace fC2 := belF hb fC2 zC; replace zC := Nat.lt_of_lt_of_le zC hb.size
    replace hBo := hBo.trans (hb.mono hBo.size)
    clear hb
    go_wp2_with fail
    refine (HB4.out _).mono ?_; rintro e s44 ⟨rfl, hb⟩
    replace kA0 := belK hb kA0 zA; replace kA1 := belK hb kA1 zA; replace zA := Nat.lt_of_lt_of_le zA hb.size
    replace kB0 := belK hb kB0 zB; replace kB1 := belK hb kB1 zB; replace zB := Nat.lt_of_lt_of_le zB hb.size
    replace kC0 := belK hb kC0 zC; replace fC0 := belF hb fC0 zC; replace kC1 := belK hb kC1 zC; replace fC1 := belF hb fC1 zC; replace kC2 := belK hb kC2 zC; replace fC2 := belF hb fC2 zC; replace zC := Nat.lt_of_lt_of_le zC hb.size
    replace hBo := hBo.trans (hb.mono hBo.size)
    clear hb
    all_goals go_wp2_with fail
    all_goals refine bodyPost_ret (v := .tuple #[.agg #[.bool false, .string tu, .string tv], .int .i64 0]) (by simp [results, Tryz.results42, go_sem, kC0, kC1, kC2, zC]) rfl ⟨rfl, ?_⟩
    all_goals exact (((hBo.setCell lC _).setCell lC _).setCell lC _)
  case false.true =>
    simp only [bne_self_eq_false, Bool.false_bne, Bool.true_bne, Bool.not_false]
    go_enter Tryz.func42, Tryz.ntmps42
    go_wp2_with fail
    obtain ⟨s45, hws⟩ : ∃ s, s = (((w.alloc (.cells #[.bool false, .string m1] 44)).alloc (.cells #[.bool true, .string m2] 44)).alloc (.cells #[.bool false, .string ⟨#[]⟩, .string ⟨#[]⟩] 23)) := ⟨_, rfl⟩
    have hBs : Below w.heap.size w s45 := by rw [hws]; exact ((((Below.refl w.heap.size w).alloc (by simp) _).alloc (by simp) _).alloc (by simp; omega) _)
    obtain ⟨A, hdA⟩ : ∃ b, b = w.heap.size := ⟨_, rfl⟩
    obtain ⟨B, hdB⟩ : ∃ b, b = w.heap.size + 1 := ⟨_, rfl⟩
    obtain ⟨C, hdC⟩ : ∃ b, b = w.heap.size + 1 + 1 := ⟨_, rfl⟩
    have hsz : s45.heap.size = w.heap.size + 1 + 1 + 1 := by rw [hws]; simp
    have dCA : C ≠ A := by omega
    have dCB : C ≠ B := by omega
    have kA0 : s45.cell? ⟨A, 0, none⟩ = some (.bool false) := by rw [hws]; simp [go_sem, hdA, hdB, hdC]
    have kA1 : s45.cell? ⟨A, 1, none⟩ = some (.string m1) := by rw [hws]; simp [go_sem, hdA, hdB, hdC]
    have zA : A < s45.heap.size := by omega
    have lA : w.heap.size ≤ A := by have := Nat.le_refl w.heap.size; omega
    have kB0 : s45.cell? ⟨B, 0, none⟩ = some (.bool true) := by rw [hws]; simp [go_sem, hdA, hdB, hdC]
    have kB1 : s45.cell? ⟨B, 1, none⟩ = some (.string m2) := by rw [hws]; simp [go_sem, hdA, hdB, hdC]
    have zB : B < s45.heap.size := by omega
    have lB : w.heap.size ≤ B := by have := Nat.le_refl w.heap.size; omega
    have kC0 : s45.cell? ⟨C, 0, none⟩ = some (.bool false) := by rw [hws]; simp [go_sem, hdA, hdB, hdC]
    have fC0 : s45.frozen? ⟨C, 0, none⟩ = false := by rw [hws]; simp [go_sem, hdA, hdB, hdC]
    have kC1 : s45.cell? ⟨C, 1, none⟩ = some (.string ⟨#[]⟩) := by rw [hws]; simp [go_sem, hdA, hdB, hdC]
    have fC1 : s45.frozen? ⟨C, 1, none⟩ = false := by rw [hws]; simp [go_sem, hdA, hdB, hdC]
    have kC2 : s45.cell? ⟨C, 2, none⟩ = some (.string ⟨#[]⟩) := by rw [hws]; simp [go_sem, hdA, hdB, hdC]
    have fC2 : s45.frozen? ⟨C, 2, none⟩ = false := by rw [hws]; simp [go_sem, hdA, hdB, hdC]
    have zC : C < s45.heap.size := by omega
    have lC : w.heap.size ≤ C := by have := Nat.le_refl w.heap.size; omega
    rw [← hws]
    try rw [← hdC]
    try rw [← hdB]
    try rw [← hdA]
    clear hws hsz hdA hdB hdC
    have hBo := hBs; clear hBs
    refine (HB.out _).mono ?_; rintro e s46 ⟨rfl, hb⟩
    replace kA0 := belK hb kA0 zA; replace kA1 := belK hb kA1 zA; replace zA := Nat.lt_of_lt_of_le zA hb.size
    replace kB0 := belK hb kB0 zB; replace kB1 := belK hb kB1 zB; replace zB := Nat.lt_of_lt_of_le zB hb.size
    replace kC0 := belK hb kC0 zC; replace fC0 := belF hb fC0 zC; replace kC1 := belK hb kC1 zC; replace fC1 := belF hb fC1 zC; replace kC2 := belK hb kC2 zC; replace fC2 := belF hb fC2 zC; replace zC := Nat.lt_of_lt_of_le zC hb.size
    replace hBo := hBo.trans (hb.mono hBo.size)
    clear hb
    go_wp2_with fail
    refine (HV.out _).mono ?_; rintro e s47 ⟨rfl, hb⟩
    replace kA0 := belK hb kA0 zA; replace kA1 := belK hb kA1 zA; replace zA := Nat.lt_of_lt_of_le zA hb.size
    replace kB0 := belK hb kB0 zB; replace kB1 := belK hb kB1 zB; replace zB := Nat.lt_of_lt_of_le zB hb.size
    replace kC0 := belK hb kC0 zC; replace fC0 := belF hb fC0 zC; replace kC1 := belK hb kC1 zC; replace fC1 := belF hb fC1 zC; replace kC2 := belK hb kC2 zC; replace fC2 := belF hb fC2 zC; replace zC := Nat.lt_of_lt_of_le zC hb.size
    replace hBo := hBo.trans (hb.mono hBo.size)
    clear hb
    go_wp2_with fail
    refine (HD1.out _).mono ?_; rintro e s48 ⟨rfl, hb⟩
    replace kA0 := belK hb kA0 zA; replace kA1 := belK hb kA1 zA; replace zA := Nat.lt_of_lt_of_le zA hb.size
    replace kB0 := belK hb kB0 zB; replace kB1 := belK hb kB1 zB; replace zB := Nat.lt_of_lt_of_le zB hb.size
    replace kC0 := belK hb kC0 zC; replace fC0 := belF hb fC0 zC; replace kC1 := belK hb kC1 zC; replace fC1 := belF hb fC1 zC; replace kC2 := belK hb kC2 zC; replace fC2 := belF hb fC2 zC; replace zC := Nat.lt_of_lt_of_le zC hb.size
    replace hBo := hBo.trans (hb.mono hBo.size)
    clear hb
    go_wp2_with fail
    refine (HD2.out _).mono ?_; rintro e s49 ⟨rfl, hb⟩
    replace kA0 := belK hb kA0 zA; replace kA1 := belK hb kA1 zA; replace zA := Nat.lt_of_lt_of_le zA hb.size
    replace kB0 := belK hb kB0 zB; replace kB1 := belK hb kB1 zB; replace zB := Nat.lt_of_lt_of_le zB hb.size
    replace kC0 := belK hb kC0 zC; replace fC0 := belF hb fC0 zC; replace kC1 := belK hb kC1 zC; replace fC1 := belF hb fC1 zC; replace kC2 := belK hb kC2 zC; replace fC2 := belF hb fC2 zC; replace zC := Nat.lt_of_lt_of_le zC hb.size
    replace hBo := hBo.trans (hb.mono hBo.size)
    clear hb
    go_wp2_with fail
    refine (HB3.out _).mono ?_; rintro e s50 ⟨rfl, hb⟩
    replace kA0 := belK hb kA0 zA; replace kA1 := belK hb kA1 zA; replace zA := Nat.lt_of_lt_of_le zA hb.size
    replace kB0 := belK hb kB0 zB; replace kB1 := belK hb kB1 zB; replace zB := Nat.lt_of_lt_of_le zB hb.size
    replace kC0 := belK hb kC0 zC; replace fC0 := belF hb fC0 zC; replace kC1 := belK hb kC1 zC; replace fC1 := belF hb fC1 zC; replace kC2 := belK hb kC2 zC; replace fC2 := belF hb fC2 zC; replace zC := Nat.lt_of_lt_of_le zC hb.size
    replace hBo := hBo.trans (hb.mono hBo.size)
    clear hb
    go_wp2_with fail
    refine (HB4.out _).mono ?_; rintro e s51 ⟨rfl, hb⟩
    replace kA0 := belK hb kA0 zA; replace kA1 := belK hb kA1 zA; replace zA := Nat.lt_of_lt_of_le zA hb.size
    replace kB0 := belK hb kB0 zB; replace kB1 := belK hb kB1 zB; replace zB := Nat.lt_of_lt_of_le zB hb.size
    replace kC0 := belK hb kC0 zC; replace fC0 := belF hb fC0 zC; replace kC1 := belK hb kC1 zC; replace fC1 := belF hb fC1 zC; replace kC2 := belK hb kC2 zC; replace fC2 := belF hb fC2 zC; replace zC := Nat.lt_of_lt_of_le zC hb.size
    replace hBo := hBo.trans (hb.mono hBo.size)
    clear hb
    all_goals go_wp2_with fail
    all_goals refine bodyPost_ret (v := .tuple #[.agg #[.bool true, .string tu, .string tv], .int .i64 0]) (by simp [results, Tryz.results42, go_sem, kC0, kC1, kC2, zC]) rfl ⟨rfl, ?_⟩
    all_goals exact (((hBo.setCell lC _).setCell lC _).setCell lC _)
  case true.false =>
    simp only [bne_self_eq_false, Bool.false_bne, Bool.true_bne, Bool.not_false]
    go_enter Tryz.func42, Tryz.ntmps42
    go_wp2_with fail
    obtain ⟨s52, hws⟩ : ∃ s, s = (((w.alloc (.cells #[.bool true, .string m1] 44)).alloc (.cells #[.bool false, .string m2] 44)).alloc (.cells #[.bool false, .string ⟨#[]⟩, .string ⟨#[]⟩] 23)) := ⟨_, rfl⟩
    have hBs : Below w.heap.size w s52 := by rw [hws]; exact ((((Below.refl w.heap.size w).alloc (by simp) _).alloc (by simp) _).alloc (by simp; omega) _)
    obtain ⟨A, hdA⟩ : ∃ b, b = w.heap.size := ⟨_, rfl⟩
    obtain ⟨B, hdB⟩ : ∃ b, b = w.heap.size + 1 := ⟨_, rfl⟩
    obtain ⟨C, hdC⟩ : ∃ b, b = w.heap.size + 1 + 1 := ⟨_, rfl⟩
    have hsz : s52.heap.size = w.heap.size + 1 + 1 + 1 := by rw [hws]; simp
    have dCA : C ≠ A := by omega
    have dCB : C ≠ B := by omega
    have kA0 : s52.cell? ⟨A, 0, none⟩ = some (.bool true) := by rw [hws]; simp [go_sem, hdA, hdB, hdC]
    have kA1 : s52.cell? ⟨A, 1, none⟩ = some (.string m1) := by rw [hws]; simp [go_sem, hdA, hdB, hdC]
    have zA : A < s52.heap.size := by omega
    have lA : w.heap.size ≤ A := by have := Nat.le_refl w.heap.size; omega
    have kB0 : s52.cell? ⟨B, 0, none⟩ = some (.bool false) := by rw [hws]; simp [go_sem, hdA, hdB, hdC]
    have kB1 : s52.cell? ⟨B, 1, none⟩ = some (.string m2) := by rw [hws]; simp [go_sem, hdA, hdB, hdC]
    have zB : B < s52.heap.size := by omega
    have lB : w.heap.size ≤ B := by have := Nat.le_refl w.heap.size; omega
    have kC0 : s52.cell? ⟨C, 0, none⟩ = some (.bool false) := by rw [hws]; simp [go_sem, hdA, hdB, hdC]
    have fC0 : s52.frozen? ⟨C, 0, none⟩ = false := by rw [hws]; simp [go_sem, hdA, hdB, hdC]
    have kC1 : s52.cell? ⟨C, 1, none⟩ = some (.string ⟨#[]⟩) := by rw [hws]; simp [go_sem, hdA, hdB, hdC]
    have fC1 : s52.frozen? ⟨C, 1, none⟩ = false := by rw [hws]; simp [go_sem, hdA, hdB, hdC]
    have kC2 : s52.cell? ⟨C, 2, none⟩ = some (.string ⟨#[]⟩) := by rw [hws]; simp [go_sem, hdA, hdB, hdC]
    have fC2 : s52.frozen? ⟨C, 2, none⟩ = false := by rw [hws]; simp [go_sem, hdA, hdB, hdC]
    have zC : C < s52.heap.size := by omega
    have lC : w.heap.size ≤ C := by have := Nat.le_refl w.heap.size; omega
    rw [← hws]
    try rw [← hdC]
    try rw [← hdB]
    try rw [← hdA]
    clear hws hsz hdA hdB hdC
    have hBo := hBs; clear hBs
    refine (HB.out _).mono ?_; rintro e s53 ⟨rfl, hb⟩
    replace kA0 := belK hb kA0 zA; replace kA1 := belK hb kA1 zA; replace zA := Nat.lt_of_lt_of_le zA hb.size
    replace kB0 := belK hb kB0 zB; replace kB1 := belK hb kB1 zB; replace zB := Nat.lt_of_lt_of_le zB hb.size
    replace kC0 := belK hb kC0 zC; replace fC0 := belF hb fC0 zC; replace kC1 := belK hb kC1 zC; replace fC1 := belF hb fC1 zC; replace kC2 := belK hb kC2 zC; replace fC2 := belF hb fC2 zC; replace zC := Nat.lt_of_lt_of_le zC hb.size
    replace hBo := hBo.trans (hb.mono hBo.size)
    clear hb
    go_wp2_with fail
    refine (HV.out _).mono ?_; rintro e s54 ⟨rfl, hb⟩
    replace kA0 := belK hb kA0 zA; replace kA1 := belK hb kA1 zA; replace zA := Nat.lt_of_lt_of_le zA hb.size
    replace kB0 := belK hb kB0 zB; replace kB1 := belK hb kB1 zB; replace zB := Nat.lt_of_lt_of_le zB hb.size
    replace kC0 := belK hb kC0 zC; replace fC0 := belF hb fC0 zC; replace kC1 := belK hb kC1 zC; replace fC1 := belF hb fC1 zC; replace kC2 := belK hb kC2 zC; replace fC2 := belF hb fC2 zC; replace zC := Nat.lt_of_lt_of_le zC hb.size
    replace hBo := hBo.trans (hb.mono hBo.size)
    clear hb
    go_wp2_with fail
    refine (HD1.out _).mono ?_; rintro e s55 ⟨rfl, hb⟩
    replace kA0 := belK hb kA0 zA; replace kA1 := belK hb kA1 zA; replace zA := Nat.lt_of_lt_of_le zA hb.size
    replace kB0 := belK hb kB0 zB; replace kB1 := belK hb kB1 zB; replace zB := Nat.lt_of_lt_of_le zB hb.size
    replace kC0 := belK hb kC0 zC; replace fC0 := belF hb fC0 zC; replace kC1 := belK hb kC1 zC; replace fC1 := belF hb fC1 zC; replace kC2 := belK hb kC2 zC; replace fC2 := belF hb fC2 zC; replace zC := Nat.lt_of_lt_of_le zC hb.size
    replace hBo := hBo.trans (hb.mono hBo.size)
    clear hb
    go_wp2_with fail
    refine (HD2.out _).mono ?_; rintro e s56 ⟨rfl, hb⟩
    replace kA0 := belK hb kA0 zA; replace kA1 := belK hb kA1 zA; replace zA := Nat.lt_of_lt_of_le zA hb.size
    replace kB0 := belK hb kB0 zB; replace kB1 := belK hb kB1 zB; replace zB := Nat.lt_of_lt_of_le zB hb.size
    replace kC0 := belK hb kC0 zC; replace fC0 := belF hb fC0 zC; replace kC1 := belK hb kC1 zC; replace fC1 := belF hb fC1 zC; replace kC2 := belK hb kC2 zC; replace fC2 := belF hb fC2 zC; replace zC := Nat.lt_of_lt_of_le zC hb.size
    replace hBo := hBo.trans (hb.mono hBo.size)
    clear hb
    go_wp2_with fail
    refine (HB3.out _).mono ?_; rintro e s57 ⟨rfl, hb⟩
    replace kA0 := belK hb kA0 zA; replace kA1 := belK hb kA1 zA; replace zA := Nat.lt_of_lt_of_le zA hb.size
    replace kB0 := belK hb kB0 zB; replace kB1 := belK hb kB1 zB; replace zB := Nat.lt_of_lt_of_le zB hb.size
    replace kC0 := belK hb kC0 zC; replace fC0 := belF hb fC0 zC; replace kC1 := belK hb kC1 zC; replace fC1 := belF hb fC1 zC; replace kC2 := belK hb kC2 zC; replace fC2 := belF hb fC2 zC; replace zC := Nat.lt_of_lt_of_le zC hb.size
    replace hBo := hBo.trans (hb.mono hBo.size)
    clear hb
    go_wp2_with fail
    refine (HB4.out _).mono ?_; rintro e s58 ⟨rfl, hb⟩
    replace kA0 := belK hb kA0 zA; replace kA1 := belK hb kA1 zA; replace zA := Nat.lt_of_lt_of_le zA hb.size
    replace kB0 := belK hb kB0 zB; replace kB1 := belK hb kB1 zB; replace zB := Nat.lt_of_lt_of_le zB hb.size
    replace kC0 := belK hb kC0 zC; replace fC0 := belF hb fC0 zC; replace kC1 := belK hb kC1 zC; replace fC1 := belF hb fC1 zC; replace kC2 := belK hb kC2 zC; replace fC2 := belF hb fC2 zC; replace zC := Nat.lt_of_lt_of_le zC hb.size
    replace hBo := hBo.trans (hb.mono hBo.size)
    clear hb
    all_goals go_wp2_with fail
    all_goals refine bodyPost_ret (v := .tuple #[.agg #[.bool true, .string tu, .string tv], .int .i64 0]) (by simp [results, Tryz.results42, go_sem, kC0, kC1, kC2, zC]) rfl ⟨rfl, ?_⟩
    all_goals exact (((hBo.setCell lC _).setCell lC _).setCell lC _)
  case true.true =>
    simp only [bne_self_eq_false, Bool.false_bne, Bool.true_bne, Bool.not_false]
    go_enter Tryz.func42, Tryz.ntmps42
    go_wp2_with fail
    obtain ⟨s59, hws⟩ : ∃ s, s = (((w.alloc (.cells #[.bool true, .string m1] 44)).alloc (.cells #[.bool true, .string m2] 44)).alloc (.cells #[.bool false, .string ⟨#[]⟩, .string ⟨#[]⟩] 23)) := ⟨_, rfl⟩
    have hBs : Below w.heap.size w s59 := by rw [hws]; exact ((((Below.refl w.heap.size w).alloc (by simp) _).alloc (by simp) _).alloc (by simp; omega) _)
    obtain ⟨A, hdA⟩ : ∃ b, b = w.heap.size := ⟨_, rfl⟩
    obtain ⟨B, hdB⟩ : ∃ b, b = w.heap.size + 1 := ⟨_, rfl⟩
    obtain ⟨C, hdC⟩ : ∃ b, b = w.heap.size + 1 + 1 := ⟨_, rfl⟩
    have hsz : s59.heap.size = w.heap.size + 1 + 1 + 1 := by rw [hws]; simp
    have dCA : C ≠ A := by omega
    have dCB : C ≠ B := by omega
    have kA0 : s59.cell? ⟨A, 0, none⟩ = some (.bool true) := by rw [hws]; simp [go_sem, hdA, hdB, hdC]
    have kA1 : s59.cell? ⟨A, 1, none⟩ = some (.string m1) := by rw [hws]; simp [go_sem, hdA, hdB, hdC]
    have zA : A < s59.heap.size := by omega
    have lA : w.heap.size ≤ A := by have := Nat.le_refl w.heap.size; omega
    have kB0 : s59.cell? ⟨B, 0, none⟩ = some (.bool true) := by rw [hws]; simp [go_sem, hdA, hdB, hdC]
    have kB1 : s59.cell? ⟨B, 1, none⟩ = some (.string m2) := by rw [hws]; simp [go_sem, hdA, hdB, hdC]
    have zB : B < s59.heap.size := by omega
    have lB : w.heap.size ≤ B := by have := Nat.le_refl w.heap.size; omega
    have kC0 : s59.cell? ⟨C, 0, none⟩ = some (.bool false) := by rw [hws]; simp [go_sem, hdA, hdB, hdC]
    have fC0 : s59.frozen? ⟨C, 0, none⟩ = false := by rw [hws]; simp [go_sem, hdA, hdB, hdC]
    have kC1 : s59.cell? ⟨C, 1, none⟩ = some (.string ⟨#[]⟩) := by rw [hws]; simp [go_sem, hdA, hdB, hdC]
    have fC1 : s59.frozen? ⟨C, 1, none⟩ = false := by rw [hws]; simp [go_sem, hdA, hdB, hdC]
    have kC2 : s59.cell? ⟨C, 2, none⟩ = some (.string ⟨#[]⟩) := by rw [hws]; simp [go_sem, hdA, hdB, hdC]
    have fC2 : s59.frozen? ⟨C, 2, none⟩ = false := by rw [hws]; simp [go_sem, hdA, hdB, hdC]
    have zC : C < s59.heap.size := by omega
    have lC : w.heap.size ≤ C := by have := Nat.le_refl w.heap.size; omega
    rw [← hws]
    try rw [← hdC]
    try rw [← hdB]
    try rw [← hdA]
    clear hws hsz hdA hdB hdC
    have hBo := hBs; clear hBs
    refine (HB.out _).mono ?_; rintro e s60 ⟨rfl, hb⟩
    replace kA0 := belK hb kA0 zA; replace kA1 := belK hb kA1 zA; replace zA := Nat.lt_of_lt_of_le zA hb.size
    replace kB0 := belK hb kB0 zB; replace kB1 := belK hb kB1 zB; replace zB := Nat.lt_of_lt_of_le zB hb.size
    replace kC0 := belK hb kC0 zC; replace fC0 := belF hb fC0 zC; replace kC1 := belK hb kC1 zC; replace fC1 := belF hb fC1 zC; replace kC2 := belK hb kC2 zC; replace fC2 := belF hb fC2 zC; replace zC := Nat.lt_of_lt_of_le zC hb.size
    replace hBo := hBo.trans (hb.mono hBo.size)
    clear hb
    go_wp2_with fail
    refine (HV.out _).mono ?_; rintro e s61 ⟨rfl, hb⟩
    replace kA0 := belK hb kA0 zA; replace kA1 := belK hb kA1 zA; replace zA := Nat.lt_of_lt_of_le zA hb.size
    replace kB0 := belK hb kB0 zB; replace kB1 := belK hb kB1 zB; replace zB := Nat.lt_of_lt_of_le zB hb.size
    replace kC0 := belK hb kC0 zC; replace fC0 := belF hb fC0 zC; replace kC1 := belK hb kC1 zC; replace fC1 := belF hb fC1 zC; replace kC2 := belK hb kC2 zC; replace fC2 := belF hb fC2 zC; replace zC := Nat.lt_of_lt_of_le zC hb.size
    replace hBo := hBo.trans (hb.mono hBo.size)
    clear hb
    go_wp2_with fail
    refine (HD1.out _).mono ?_; rintro e s62 ⟨rfl, hb⟩
    replace kA0 := belK hb kA0 zA; replace kA1 := belK hb kA1 zA; replace zA := Nat.lt_of_lt_of_le zA hb.size
    replace kB0 := belK hb kB0 zB; replace kB1 := belK hb kB1 zB; replace zB := Nat.lt_of_lt_of_le zB hb.size
    replace kC0 := belK hb kC0 zC; replace fC0 := belF hb fC0 zC; replace kC1 := belK hb kC1 zC; replace fC1 := belF hb fC1 zC; replace kC2 := belK hb kC2 zC; replace fC2 := belF hb fC2 zC; replace zC := Nat.lt_of_lt_of_le zC hb.size
    replace hBo := hBo.trans (hb.mono hBo.size)
    clear hb
    go_wp2_with fail
    refine (HD2.out _).mono ?_; rintro e s63 ⟨rfl, hb⟩
    replace kA0 := belK hb kA0 zA; replace kA1 := belK hb kA1 zA; replace zA := Nat.lt_of_lt_of_le zA hb.size
    replace kB0 := belK hb kB0 zB; replace kB1 := belK hb kB1 zB; replace zB := Nat.lt_of_lt_of_le zB hb.size
    replace kC0 := belK hb kC0 zC; replace fC0 := belF hb fC0 zC; replace kC1 := belK hb kC1 zC; replace fC1 := belF hb fC1 zC; replace kC2 := belK hb kC2 zC; replace fC2 := belF hb fC2 zC; replace zC := Nat.lt_of_lt_of_le zC hb.size
    replace hBo := hBo.trans (hb.mono hBo.size)
    clear hb
    go_wp2_with fail
    refine (HB3.out _).mono ?_; rintro e s64 ⟨rfl, hb⟩
    replace kA0 := belK hb kA0 zA; replace kA1 := belK hb kA1 zA; replace zA := Nat.lt_of_lt_of_le zA hb.size
    replace kB0 := belK hb kB0 zB; replace kB1 := belK hb kB1 zB; replace zB := Nat.lt_of_lt_of_le zB hb.size
    replace kC0 := belK hb kC0 zC; replace fC0 := belF hb fC0 zC; replace kC1 := belK hb kC1 zC; replace fC1 := belF hb fC1 zC; replace kC2 := belK hb kC2 zC; replace fC2 := belF hb fC2 zC; replace zC := Nat.lt_of_lt_of_le zC hb.size
    replace hBo := hBo.trans (hb.mono hBo.size)
    clear hb
    go_wp2_with fail
    refine (HB4.out _).mono ?_; rintro e s65 ⟨rfl, hb⟩
    replace kA0 := belK hb kA0 zA; replace kA1 := belK hb kA1 zA; replace zA := Nat.lt_of_lt_of_le zA hb.size
    replace kB0 := belK hb kB0 zB; replace kB1 := belK hb kB1 zB; replace zB := Nat.lt_of_lt_of_le zB hb.size
    replace kC0 := belK hb kC0 zC; replace fC0 := belF hb fC0 zC; replace kC1 := belK hb kC1 zC; replace fC1 := belF hb fC1 zC; replace kC2 := belK hb kC2 zC; replace fC2 := belF hb fC2 zC; replace zC := Nat.lt_of_lt_of_le zC hb.size
    replace hBo := hBo.trans (hb.mono hBo.size)
    clear hb
    all_goals go_wp2_with fail
    all_goals refine bodyPost_ret (v := .tuple #[.agg #[.bool false, .string tu, .string tv], .int .i64 0]) (by simp [results, Tryz.results42, go_sem, kC0, kC1, kC2, zC]) rfl ⟨rfl, ?_⟩
    all_goals exact (((hBo.setCell lC _).setCell lC _).setCell lC _)
end Go.Proofs.YtbgmnpabclfjaaaGreatDoor
