/-
  NUMBERS MADE OF A NUMERATOR AND A DENOMINATOR: the document's Make.
-/
import Derived.Test.YtbgmnpabclfjaaaGreatDoorRat8
namespace Go.Proofs.YtbgmnpabclfjaaaGreatDoor
open Go.RowKit Go.Shelf
set_option linter.unusedSimpArgs false
set_option linter.unusedVariables false

set_option maxRecDepth 100000 in
set_option maxHeartbeats 8000000 in
theorem refMake5_any (n1 n2 : Bool) (m1 m2 : ByteArray) (q : Rt) (c : Int) (w : World) (h1 : m1.size ≤ 1000) (h2 : m2.size ≤ 1000)
    (hq : mkR (sI n1 (Nt.V m1)) (sI n2 (Nt.V m2)) = q) (hc : mkE (sI n1 (Nt.V m1)) (sI n2 (Nt.V m2)) = c) :
    Calls Tryz.prog 44 #[.agg #[.bool n1, .string m1], .agg #[.bool n2, .string m2]] w fun e w' => e = .returned (.tuple #[.agg #[.bool (rb q), .string (rn q), .string (rd q)], .int .i64 c]) ∧ Below w.heap.size w w' := by
  obtain ⟨x, hx⟩ : ∃ x, sI n1 (Nt.V m1) = x := ⟨_, rfl⟩
  obtain ⟨y, hy⟩ : ∃ y, sI n2 (Nt.V m2) = y := ⟨_, rfl⟩
  have zx := zt_size hx h1
  have zy := zt_size hy h2
  rw [hx, hy] at hq hc
  have HX := Lib.hid (fun w => refMake_z n1 m1 x w hx)
  have HY := Lib.hid (fun w => refMake_z n2 m2 y w hy)
  clear hx hy h1 h2
  by_cases h0 : y = 0
  case pos =>
    obtain ⟨e1, e2⟩ := mk_zero (x := x) h0
    rw [← hq, ← hc, e1, e2, rz.1, rz.2.1, rz.2.2]
    rw [zt_nil.1 h0] at HY
    generalize zb x = bx at *
    generalize zb y = by' at *
    generalize zt x = tx at *
    clear e1 e2 hq hc h0 zx zy
    go_enter Tryz.func44, Tryz.ntmps44
    go_wp2_with fail
    obtain ⟨s1, hws⟩ : ∃ s, s = (((w.alloc (.cells #[.bool n1, .string m1] 44)).alloc (.cells #[.bool n2, .string m2] 44)).alloc (.cells #[.bool false, .string ⟨#[]⟩, .string ⟨#[]⟩] 23)) := ⟨_, rfl⟩
    have hBs : Below w.heap.size w s1 := by rw [hws]; exact ((((Below.refl w.heap.size w).alloc (by simp) _).alloc (by simp) _).alloc (by simp; omega) _)
    obtain ⟨A, hdA⟩ : ∃ b, b = w.heap.size := ⟨_, rfl⟩
    obtain ⟨B, hdB⟩ : ∃ b, b = w.heap.size + 1 := ⟨_, rfl⟩
    obtain ⟨C, hdC⟩ : ∃ b, b = w.heap.size + 1 + 1 := ⟨_, rfl⟩
    have hsz : s1.heap.size = w.heap.size + 1 + 1 + 1 := by rw [hws]; simp
    have dCA : C ≠ A := by omega
    have dCB : C ≠ B := by omega
    have kA0 : s1.cell? ⟨A, 0, none⟩ = some (.bool n1) := by rw [hws]; simp [go_sem, hdA, hdB, hdC]
    have kA1 : s1.cell? ⟨A, 1, none⟩ = some (.string m1) := by rw [hws]; simp [go_sem, hdA, hdB, hdC]
    have zA : A < s1.heap.size := by omega
    have lA : w.heap.size ≤ A := by have := Nat.le_refl w.heap.size; omega
    have kB0 : s1.cell? ⟨B, 0, none⟩ = some (.bool n2) := by rw [hws]; simp [go_sem, hdA, hdB, hdC]
    have kB1 : s1.cell? ⟨B, 1, none⟩ = some (.string m2) := by rw [hws]; simp [go_sem, hdA, hdB, hdC]
    have zB : B < s1.heap.size := by omega
    have lB : w.heap.size ≤ B := by have := Nat.le_refl w.heap.size; omega
    have kC0 : s1.cell? ⟨C, 0, none⟩ = some (.bool false) := by rw [hws]; simp [go_sem, hdA, hdB, hdC]
    have fC0 : s1.frozen? ⟨C, 0, none⟩ = false := by rw [hws]; simp [go_sem, hdA, hdB, hdC]
    have kC1 : s1.cell? ⟨C, 1, none⟩ = some (.string ⟨#[]⟩) := by rw [hws]; simp [go_sem, hdA, hdB, hdC]
    have fC1 : s1.frozen? ⟨C, 1, none⟩ = false := by rw [hws]; simp [go_sem, hdA, hdB, hdC]
    have kC2 : s1.cell? ⟨C, 2, none⟩ = some (.string ⟨#[]⟩) := by rw [hws]; simp [go_sem, hdA, hdB, hdC]
    have fC2 : s1.frozen? ⟨C, 2, none⟩ = false := by rw [hws]; simp [go_sem, hdA, hdB, hdC]
    have zC : C < s1.heap.size := by omega
    have lC : w.heap.size ≤ C := by have := Nat.le_refl w.heap.size; omega
    rw [← hws]
    try rw [← hdC]
    try rw [← hdB]
    try rw [← hdA]
    clear hws hsz hdA hdB hdC
    have hBo := hBs; clear hBs
    refine (HX.out _).mono ?_; rintro e s2 ⟨rfl, hb⟩
    replace kA0 := belK hb kA0 zA; replace kA1 := belK hb kA1 zA; replace zA := Nat.lt_of_lt_of_le zA hb.size
    replace kB0 := belK hb kB0 zB; replace kB1 := belK hb kB1 zB; replace zB := Nat.lt_of_lt_of_le zB hb.size
    replace kC0 := belK hb kC0 zC; replace fC0 := belF hb fC0 zC; replace kC1 := belK hb kC1 zC; replace fC1 := belF hb fC1 zC; replace kC2 := belK hb kC2 zC; replace fC2 := belF hb fC2 zC; replace zC := Nat.lt_of_lt_of_le zC hb.size
    replace hBo := hBo.trans (hb.mono hBo.size)
    clear hb
    go_wp2_with fail
    obtain ⟨s3, hws⟩ : ∃ s, s = (s2.alloc (.cells #[.bool bx, .string tx] 44)) := ⟨_, rfl⟩
    have hBs : Below w.heap.size w s3 := by rw [hws]; exact ((hBo).alloc (by exact hBo.size) _)
    obtain ⟨N, hdN⟩ : ∃ b, b = s2.heap.size := ⟨_, rfl⟩
    have hsz : s3.heap.size = s2.heap.size + 1 := by rw [hws]; simp
    have dCN : C ≠ N := by omega
    have hQC : ∀ p v, s2.cell? p = some v → s3.cell? p = some v := fun p v h => by rw [hws]; exact (alK h)
    have hQZ : ∀ b, b < s2.heap.size → b < s3.heap.size := fun b h => by omega
    have hQF : ∀ b j, b < s2.heap.size → s2.frozen? ⟨b, j, none⟩ = false → s3.frozen? ⟨b, j, none⟩ = false := fun b j z h => by rw [hws]; exact (alF z h)
    replace kA0 := hQC _ _ kA0; replace kA1 := hQC _ _ kA1; replace zA := hQZ _ zA
    replace kB0 := hQC _ _ kB0; replace kB1 := hQC _ _ kB1; replace zB := hQZ _ zB
    replace kC0 := hQC _ _ kC0; replace fC0 := hQF _ _ zC fC0; replace kC1 := hQC _ _ kC1; replace fC1 := hQF _ _ zC fC1; replace kC2 := hQC _ _ kC2; replace fC2 := hQF _ _ zC fC2; replace zC := hQZ _ zC
    clear hQC hQZ hQF
    have kN0 : s3.cell? ⟨N, 0, none⟩ = some (.bool bx) := by rw [hws]; simp [go_sem, hdN]
    have kN1 : s3.cell? ⟨N, 1, none⟩ = some (.string tx) := by rw [hws]; simp [go_sem, hdN]
    have zN : N < s3.heap.size := by omega
    have lN : w.heap.size ≤ N := by have := hBo.size; omega
    rw [← hws]
    try rw [← hdN]
    clear hBo
    clear hws hsz hdN
    have hBo := hBs; clear hBs
    refine (HY.out _).mono ?_; rintro e s4 ⟨rfl, hb⟩
    replace kA0 := belK hb kA0 zA; replace kA1 := belK hb kA1 zA; replace zA := Nat.lt_of_lt_of_le zA hb.size
    replace kB0 := belK hb kB0 zB; replace kB1 := belK hb kB1 zB; replace zB := Nat.lt_of_lt_of_le zB hb.size
    replace kC0 := belK hb kC0 zC; replace fC0 := belF hb fC0 zC; replace kC1 := belK hb kC1 zC; replace fC1 := belF hb fC1 zC; replace kC2 := belK hb kC2 zC; replace fC2 := belF hb fC2 zC; replace zC := Nat.lt_of_lt_of_le zC hb.size
    replace kN0 := belK hb kN0 zN; replace kN1 := belK hb kN1 zN; replace zN := Nat.lt_of_lt_of_le zN hb.size
    replace hBo := hBo.trans (hb.mono hBo.size)
    clear hb
    all_goals go_wp2_with fail
    all_goals refine bodyPost_ret (v := .tuple #[.agg #[.bool false, .string ⟨#[]⟩, .string ⟨#[]⟩], .int .i64 5]) (by simp [results, Tryz.results44, go_sem, kC0, kC1, kC2, zC]) rfl ⟨rfl, ?_⟩
    all_goals exact ((((hBo.setCell lC _).setCell lC _).setCell lC _).alloc (by first | exact hBo.size | (have := hBo.size; simp; omega) | (have := (HF.out _ (by assumption)).size; simp; omega)) _)
  have hya : y.natAbs ≠ 0 := by omega
  have hg0 : Nat.gcd x.natAbs y.natAbs ≠ 0 := fun h => hya (Nat.eq_zero_of_gcd_eq_zero_right h)
  obtain ⟨hny1, hny2⟩ := toList_ne (fun h => h0 (zt_nil.2 h))
  have hg := fun w => refGcd_any (zt x) (zt y) w (by omega) (by omega)
  rw [V_zt, V_zt] at hg
  have hgs : (Nt.E (Nat.gcd x.natAbs y.natAbs)).size ≤ 1000 := Nat.le_trans (Nt.E_size_le (Nat.gcd_le_right _ (Nat.pos_of_ne_zero hya))) zy
  have hd1 := fun w => refDiv_any (zt x) (Nt.E (Nat.gcd x.natAbs y.natAbs)) w (by omega) (by omega) (by rw [Nt.V_E]; omega)
  have hd2 := fun w => refDiv_any (zt y) (Nt.E (Nat.gcd x.natAbs y.natAbs)) w (by omega) (by omega) (by rw [Nt.V_E]; omega)
  rw [Nt.V_E, V_zt] at hd1 hd2
  have hsn : (Nt.E (x.natAbs / Nat.gcd x.natAbs y.natAbs)).size ≤ 1000 := Nat.le_trans (Nt.E_size_le (Nat.div_le_self _ _)) zx
  have hsd : (Nt.E (y.natAbs / Nat.gcd x.natAbs y.natAbs)).size ≤ 1000 := Nat.le_trans (Nt.E_size_le (Nat.div_le_self _ _)) zy
  have hb3 := fun w => refBits_b (Nt.E (x.natAbs / Nat.gcd x.natAbs y.natAbs)) w (by omega)
  have hb4 := fun w => refBits_b (Nt.E (y.natAbs / Nat.gcd x.natAbs y.natAbs)) w (by omega)
  rw [bl_E] at hb3 hb4
  have hN : mkN x y = x.natAbs / Nat.gcd x.natAbs y.natAbs := rfl
  have hD : mkD x y = y.natAbs / Nat.gcd x.natAbs y.natAbs := rfl
  have hnl : x.natAbs / Nat.gcd x.natAbs y.natAbs ≠ 0 → Nt.E (x.natAbs / Nat.gcd x.natAbs y.natAbs) ≠ ⟨#[]⟩ := fun h h2 => h (by
    have := Nt.V_E (x.natAbs / Nat.gcd x.natAbs y.natAbs)
    rw [h2] at this
    exact this.symm.trans (by decide))
  have hbig1 : 256 < Nt.blen (mkN x y) ∨ 256 < Nt.blen (mkD x y) → mkR x y = ⟨false, 0, 0⟩ ∧ mkE x y = 4 := mk_big h0
  have hbig2 : ¬ (256 < Nt.blen (mkN x y) ∨ 256 < Nt.blen (mkD x y)) → mkR x y = ⟨(zb x != zb y) && decide (mkN x y ≠ 0), mkN x y, mkD x y⟩ ∧ mkE x y = 0 := mk_fine h0
  rw [hN, hD] at hbig1 hbig2
  rw [hq, hc] at hbig1 hbig2
  clear hq hc hgs hsn hsd hg0 hya h0 zx zy hN hD
  generalize htu : Nt.E (x.natAbs / Nat.gcd x.natAbs y.natAbs) = tu at *
  generalize htv : Nt.E (y.natAbs / Nat.gcd x.natAbs y.natAbs) = tv at *
  generalize x.natAbs / Nat.gcd x.natAbs y.natAbs = u at *
  generalize y.natAbs / Nat.gcd x.natAbs y.natAbs = v at *
  generalize Nt.E (Nat.gcd x.natAbs y.natAbs) = g at *
  generalize zb x = bx at *
  generalize zb y = by' at *
  generalize zt x = tx at *
  generalize zt y = ty at *
  by_cases hu1 : 256 < Nt.blen u
  case pos =>
    obtain ⟨e1, e2⟩ := hbig1 (.inl hu1)
    rw [e1, e2, rz.1, rz.2.1, rz.2.2]
    have hdd : decide ((256 : Int) < (Nt.blen u : Int)) = true := decide_eq_true (by omega)
    generalize (Nt.blen u : Int) = bu at *
    have HG := Lib.hid hg
    have HD1 := Lib.hid hd1
    have HD2 := Lib.hid hd2
    have HB3 := Lib.hid hb3
    clear hg hd1 hd2 hb3 hb4 e1 e2 hu1 hbig1 hbig2 hnl htu htv
    go_enter Tryz.func44, Tryz.ntmps44
    go_wp2_with fail
    obtain ⟨s5, hws⟩ : ∃ s, s = (((w.alloc (.cells #[.bool n1, .string m1] 44)).alloc (.cells #[.bool n2, .string m2] 44)).alloc (.cells #[.bool false, .string ⟨#[]⟩, .string ⟨#[]⟩] 23)) := ⟨_, rfl⟩
    have hBs : Below w.heap.size w s5 := by rw [hws]; exact ((((Below.refl w.heap.size w).alloc (by simp) _).alloc (by simp) _).alloc (by simp; omega) _)
    obtain ⟨A, hdA⟩ : ∃ b, b = w.heap.size := ⟨_, rfl⟩
    obtain ⟨B, hdB⟩ : ∃ b, b = w.heap.size + 1 := ⟨_, rfl⟩
    obtain ⟨C, hdC⟩ : ∃ b, b = w.heap.size + 1 + 1 := ⟨_, rfl⟩
    have hsz : s5.heap.size = w.heap.size + 1 + 1 + 1 := by rw [hws]; simp
    have dCA : C ≠ A := by omega
    have dCB : C ≠ B := by omega
    have kA0 : s5.cell? ⟨A, 0, none⟩ = some (.bool n1) := by rw [hws]; simp [go_sem, hdA, hdB, hdC]
    have kA1 : s5.cell? ⟨A, 1, none⟩ = some (.string m1) := by rw [hws]; simp [go_sem, hdA, hdB, hdC]
    have zA : A < s5.heap.size := by omega
    have lA : w.heap.size ≤ A := by have := Nat.le_refl w.heap.size; omega
    have kB0 : s5.cell? ⟨B, 0, none⟩ = some (.bool n2) := by rw [hws]; simp [go_sem, hdA, hdB, hdC]
    have kB1 : s5.cell? ⟨B, 1, none⟩ = some (.string m2) := by rw [hws]; simp [go_sem, hdA, hdB, hdC]
    have zB : B < s5.heap.size := by omega
    have lB : w.heap.size ≤ B := by have := Nat.le_refl w.heap.size; omega
    have kC0 : s5.cell? ⟨C, 0, none⟩ = some (.bool false) := by rw [hws]; simp [go_sem, hdA, hdB, hdC]
    have fC0 : s5.frozen? ⟨C, 0, none⟩ = false := by rw [hws]; simp [go_sem, hdA, hdB, hdC]
    have kC1 : s5.cell? ⟨C, 1, none⟩ = some (.string ⟨#[]⟩) := by rw [hws]; simp [go_sem, hdA, hdB, hdC]
    have fC1 : s5.frozen? ⟨C, 1, none⟩ = false := by rw [hws]; simp [go_sem, hdA, hdB, hdC]
    have kC2 : s5.cell? ⟨C, 2, none⟩ = some (.string ⟨#[]⟩) := by rw [hws]; simp [go_sem, hdA, hdB, hdC]
    have fC2 : s5.frozen? ⟨C, 2, none⟩ = false := by rw [hws]; simp [go_sem, hdA, hdB, hdC]
    have zC : C < s5.heap.size := by omega
    have lC : w.heap.size ≤ C := by have := Nat.le_refl w.heap.size; omega
    rw [← hws]
    try rw [← hdC]
    try rw [← hdB]
    try rw [← hdA]
    clear hws hsz hdA hdB hdC
    have hBo := hBs; clear hBs
    refine (HX.out _).mono ?_; rintro e s6 ⟨rfl, hb⟩
    replace kA0 := belK hb kA0 zA; replace kA1 := belK hb kA1 zA; replace zA := Nat.lt_of_lt_of_le zA hb.size
    replace kB0 := belK hb kB0 zB; replace kB1 := belK hb kB1 zB; replace zB := Nat.lt_of_lt_of_le zB hb.size
    replace kC0 := belK hb kC0 zC; replace fC0 := belF hb fC0 zC; replace kC1 := belK hb kC1 zC; replace fC1 := belF hb fC1 zC; replace kC2 := belK hb kC2 zC; replace fC2 := belF hb fC2 zC; replace zC := Nat.lt_of_lt_of_le zC hb.size
    replace hBo := hBo.trans (hb.mono hBo.size)
    clear hb
    go_wp2_with fail
    obtain ⟨s7, hws⟩ : ∃ s, s = (s6.alloc (.cells #[.bool bx, .string tx] 44)) := ⟨_, rfl⟩
    have hBs : Below w.heap.size w s7 := by rw [hws]; exact ((hBo).alloc (by exact hBo.size) _)
    obtain ⟨N, hdN⟩ : ∃ b, b = s6.heap.size := ⟨_, rfl⟩
    have hsz : s7.heap.size = s6.heap.size + 1 := by rw [hws]; simp
    have dCN : C ≠ N := by omega
    have hQC : ∀ p v, s6.cell? p = some v → s7.cell? p = some v := fun p v h => by rw [hws]; exact (alK h)
    have hQZ : ∀ b, b < s6.heap.size → b < s7.heap.size := fun b h => by omega
    have hQF : ∀ b j, b < s6.heap.size → s6.frozen? ⟨b, j, none⟩ = false → s7.frozen? ⟨b, j, none⟩ = false := fun b j z h => by rw [hws]; exact (alF z h)
    replace kA0 := hQC _ _ kA0; replace kA1 := hQC _ _ kA1; replace zA := hQZ _ zA
    replace kB0 := hQC _ _ kB0; replace kB1 := hQC _ _ kB1; replace zB := hQZ _ zB
    replace kC0 := hQC _ _ kC0; replace fC0 := hQF _ _ zC fC0; replace kC1 := hQC _ _ kC1; replace fC1 := hQF _ _ zC fC1; replace kC2 := hQC _ _ kC2; replace fC2 := hQF _ _ zC fC2; replace zC := hQZ _ zC
    clear hQC hQZ hQF
    have kN0 : s7.cell? ⟨N, 0, none⟩ = some (.bool bx) := by rw [hws]; simp [go_sem, hdN]
    have kN1 : s7.cell? ⟨N, 1, none⟩ = some (.string tx) := by rw [hws]; simp [go_sem, hdN]
    have zN : N < s7.heap.size := by omega
    have lN : w.heap.size ≤ N := by have := hBo.size; omega
    rw [← hws]
    try rw [← hdN]
    clear hBo
    clear hws hsz hdN
    have hBo := hBs; clear hBs
    refine (HY.out _).mono ?_; rintro e s8 ⟨rfl, hb⟩
    replace kA0 := belK hb kA0 zA; replace kA1 := belK hb kA1 zA; replace zA := Nat.lt_of_lt_of_le zA hb.size
    replace kB0 := belK hb kB0 zB; replace kB1 := belK hb kB1 zB; replace zB := Nat.lt_of_lt_of_le zB hb.size
    replace kC0 := belK hb kC0 zC; replace fC0 := belF hb fC0 zC; replace kC1 := belK hb kC1 zC; replace fC1 := belF hb fC1 zC; replace kC2 := belK hb kC2 zC; replace fC2 := belF hb fC2 zC; replace zC := Nat.lt_of_lt_of_le zC hb.size
    replace kN0 := belK hb kN0 zN; replace kN1 := belK hb kN1 zN; replace zN := Nat.lt_of_lt_of_le zN hb.size
    replace hBo := hBo.trans (hb.mono hBo.size)
    clear hb
    go_wp2_with fail
    obtain ⟨s9, hws⟩ : ∃ s, s = (s8.alloc (.cells #[.bool by', .string ty] 44)) := ⟨_, rfl⟩
    have hBs : Below w.heap.size w s9 := by rw [hws]; exact ((hBo).alloc (by exact hBo.size) _)
    obtain ⟨M, hdM⟩ : ∃ b, b = s8.heap.size := ⟨_, rfl⟩
    have hsz : s9.heap.size = s8.heap.size + 1 := by rw [hws]; simp
    have dCM : C ≠ M := by omega
    have hQC : ∀ p v, s8.cell? p = some v → s9.cell? p = some v := fun p v h => by rw [hws]; exact (alK h)
    have hQZ : ∀ b, b < s8.heap.size → b < s9.heap.size := fun b h => by omega
    have hQF : ∀ b j, b < s8.heap.size → s8.frozen? ⟨b, j, none⟩ = false → s9.frozen? ⟨b, j, none⟩ = false := fun b j z h => by rw [hws]; exact (alF z h)
    replace kA0 := hQC _ _ kA0; replace kA1 := hQC _ _ kA1; replace zA := hQZ _ zA
    replace kB0 := hQC _ _ kB0; replace kB1 := hQC _ _ kB1; replace zB := hQZ _ zB
    replace kC0 := hQC _ _ kC0; replace fC0 := hQF _ _ zC fC0; replace kC1 := hQC _ _ kC1; replace fC1 := hQF _ _ zC fC1; replace kC2 := hQC _ _ kC2; replace fC2 := hQF _ _ zC fC2; replace zC := hQZ _ zC
    replace kN0 := hQC _ _ kN0; replace kN1 := hQC _ _ kN1; replace zN := hQZ _ zN
    clear hQC hQZ hQF
    have kM0 : s9.cell? ⟨M, 0, none⟩ = some (.bool by') := by rw [hws]; simp [go_sem, hdM]
    have kM1 : s9.cell? ⟨M, 1, none⟩ = some (.string ty) := by rw [hws]; simp [go_sem, hdM]
    have zM : M < s9.heap.size := by omega
    have lM : w.heap.size ≤ M := by have := hBo.size; omega
    rw [← hws]
    try rw [← hdM]
    clear hBo
    clear hws hsz hdM
    have hBo := hBs; clear hBs
    refine (HG.out _).mono ?_; rintro e s10 ⟨rfl, hb⟩
    replace kA0 := belK hb kA0 zA; replace kA1 := belK hb kA1 zA; replace zA := Nat.lt_of_lt_of_le zA hb.size
    replace kB0 := belK hb kB0 zB; replace kB1 := belK hb kB1 zB; replace zB := Nat.lt_of_lt_of_le zB hb.size
    replace kC0 := belK hb kC0 zC; replace fC0 := belF hb fC0 zC; replace kC1 := belK hb kC1 zC; replace fC1 := belF hb fC1 zC; replace kC2 := belK hb kC2 zC; replace fC2 := belF hb fC2 zC; replace zC := Nat.lt_of_lt_of_le zC hb.size
    replace kN0 := belK hb kN0 zN; replace kN1 := belK hb kN1 zN; replace zN := Nat.lt_of_lt_of_le zN hb.size
    replace kM0 := belK hb kM0 zM; replace kM1 := belK hb kM1 zM; replace zM := Nat.lt_of_lt_of_le zM hb.size
    replace hBo := hBo.trans (hb.mono hBo.size)
    clear hb
    go_wp2_with fail
    refine (HD1.out _).mono ?_; rintro e s11 ⟨rfl, hb⟩
    replace kA0 := belK hb kA0 zA; replace kA1 := belK hb kA1 zA; replace zA := Nat.lt_of_lt_of_le zA hb.size
    replace kB0 := belK hb kB0 zB; replace kB1 := belK hb kB1 zB; replace zB := Nat.lt_of_lt_of_le zB hb.size
    replace kC0 := belK hb kC0 zC; replace fC0 := belF hb fC0 zC; replace kC1 := belK hb kC1 zC; replace fC1 := belF hb fC1 zC; replace kC2 := belK hb kC2 zC; replace fC2 := belF hb fC2 zC; replace zC := Nat.lt_of_lt_of_le zC hb.size
    replace kN0 := belK hb kN0 zN; replace kN1 := belK hb kN1 zN; replace zN := Nat.lt_of_lt_of_le zN hb.size
    replace kM0 := belK hb kM0 zM; replace kM1 := belK hb kM1 zM; replace zM := Nat.lt_of_lt_of_le zM hb.size
    replace hBo := hBo.trans (hb.mono hBo.size)
    clear hb
    go_wp2_with fail
    refine (HD2.out _).mono ?_; rintro e s12 ⟨rfl, hb⟩
    replace kA0 := belK hb kA0 zA; replace kA1 := belK hb kA1 zA; replace zA := Nat.lt_of_lt_of_le zA hb.size
    replace kB0 := belK hb kB0 zB; replace kB1 := belK hb kB1 zB; replace zB := Nat.lt_of_lt_of_le zB hb.size
    replace kC0 := belK hb kC0 zC; replace fC0 := belF hb fC0 zC; replace kC1 := belK hb kC1 zC; replace fC1 := belF hb fC1 zC; replace kC2 := belK hb kC2 zC; replace fC2 := belF hb fC2 zC; replace zC := Nat.lt_of_lt_of_le zC hb.size
    replace kN0 := belK hb kN0 zN; replace kN1 := belK hb kN1 zN; replace zN := Nat.lt_of_lt_of_le zN hb.size
    replace kM0 := belK hb kM0 zM; replace kM1 := belK hb kM1 zM; replace zM := Nat.lt_of_lt_of_le zM hb.size
    replace hBo := hBo.trans (hb.mono hBo.size)
    clear hb
    go_wp2_with fail
    refine (HB3.out _).mono ?_; rintro e s13 ⟨rfl, hb⟩
    replace kA0 := belK hb kA0 zA; replace kA1 := belK hb kA1 zA; replace zA := Nat.lt_of_lt_of_le zA hb.size
    replace kB0 := belK hb kB0 zB; replace kB1 := belK hb kB1 zB; replace zB := Nat.lt_of_lt_of_le zB hb.size
    replace kC0 := belK hb kC0 zC; replace fC0 := belF hb fC0 zC; replace kC1 := belK hb kC1 zC; replace fC1 := belF hb fC1 zC; replace kC2 := belK hb kC2 zC; replace fC2 := belF hb fC2 zC; replace zC := Nat.lt_of_lt_of_le zC hb.size
    replace kN0 := belK hb kN0 zN; replace kN1 := belK hb kN1 zN; replace zN := Nat.lt_of_lt_of_le zN hb.size
    replace kM0 := belK hb kM0 zM; replace kM1 := belK hb kM1 zM; replace zM := Nat.lt_of_lt_of_le zM hb.size
    replace hBo := hBo.trans (hb.mono hBo.size)
    clear hb
    all_goals go_wp2_with fail
    all_goals refine bodyPost_ret (v := .tuple #[.agg #[.bool false, .string ⟨#[]⟩, .string ⟨#[]⟩], .int .i64 4]) (by simp [results, Tryz.results44, go_sem, kC0, kC1, kC2, zC]) rfl ⟨rfl, ?_⟩
    all_goals exact (((hBo.setCell lC _).setCell lC _).setCell lC _)
  have hdu : decide ((256 : Int) < (Nt.blen u : Int)) = false := decide_eq_false (by omega)
  by_cases hv1 : 256 < Nt.blen v
  case pos =>
    obtain ⟨e1, e2⟩ := hbig1 (.inr hv1)
    rw [e1, e2, rz.1, rz.2.1, rz.2.2]
    have hdd : decide ((256 : Int) < (Nt.blen v : Int)) = true := decide_eq_true (by omega)
    generalize (Nt.blen u : Int) = bu at *
    generalize (Nt.blen v : Int) = bv at *
    have HG := Lib.hid hg
    have HD1 := Lib.hid hd1
    have HD2 := Lib.hid hd2
    have HB3 := Lib.hid hb3
    have HB4 := Lib.hid hb4
    clear hg hd1 hd2 hb3 hb4 e1 e2 hu1 hv1 hbig1 hbig2 hnl htu htv
    go_enter Tryz.func44, Tryz.ntmps44
    go_wp2_with fail
    obtain ⟨s14, hws⟩ : ∃ s, s = (((w.alloc (.cells #[.bool n1, .string m1] 44)).alloc (.cells #[.bool n2, .string m2] 44)).alloc (.cells #[.bool false, .string ⟨#[]⟩, .string ⟨#[]⟩] 23)) := ⟨_, rfl⟩
    have hBs : Below w.heap.size w s14 := by rw [hws]; exact ((((Below.refl w.heap.size w).alloc (by simp) _).alloc (by simp) _).alloc (by simp; omega) _)
    obtain ⟨A, hdA⟩ : ∃ b, b = w.heap.size := ⟨_, rfl⟩
    obtain ⟨B, hdB⟩ : ∃ b, b = w.heap.size + 1 := ⟨_, rfl⟩
    obtain ⟨C, hdC⟩ : ∃ b, b = w.heap.size + 1 + 1 := ⟨_, rfl⟩
    have hsz : s14.heap.size = w.heap.size + 1 + 1 + 1 := by rw [hws]; simp
    have dCA : C ≠ A := by omega
    have dCB : C ≠ B := by omega
    have kA0 : s14.cell? ⟨A, 0, none⟩ = some (.bool n1) := by rw [hws]; simp [go_sem, hdA, hdB, hdC]
    have kA1 : s14.cell? ⟨A, 1, none⟩ = some (.string m1) := by rw [hws]; simp [go_sem, hdA, hdB, hdC]
    have zA : A < s14.heap.size := by omega
    have lA : w.heap.size ≤ A := by have := Nat.le_refl w.heap.size; omega
    have kB0 : s14.cell? ⟨B, 0, none⟩ = some (.bool n2) := by rw [hws]; simp [go_sem, hdA, hdB, hdC]
    have kB1 : s14.cell? ⟨B, 1, none⟩ = some (.string m2) := by rw [hws]; simp [go_sem, hdA, hdB, hdC]
    have zB : B < s14.heap.size := by omega
    have lB : w.heap.size ≤ B := by have := Nat.le_refl w.heap.size; omega
    have kC0 : s14.cell? ⟨C, 0, none⟩ = some (.bool false) := by rw [hws]; simp [go_sem, hdA, hdB, hdC]
    have fC0 : s14.frozen? ⟨C, 0, none⟩ = false := by rw [hws]; simp [go_sem, hdA, hdB, hdC]
    have kC1 : s14.cell? ⟨C, 1, none⟩ = some (.string ⟨#[]⟩) := by rw [hws]; simp [go_sem, hdA, hdB, hdC]
    have fC1 : s14.frozen? ⟨C, 1, none⟩ = false := by rw [hws]; simp [go_sem, hdA, hdB, hdC]
    have kC2 : s14.cell? ⟨C, 2, none⟩ = some (.string ⟨#[]⟩) := by rw [hws]; simp [go_sem, hdA, hdB, hdC]
    have fC2 : s14.frozen? ⟨C, 2, none⟩ = false := by rw [hws]; simp [go_sem, hdA, hdB, hdC]
    have zC : C < s14.heap.size := by omega
    have lC : w.heap.size ≤ C := by have := Nat.le_refl w.heap.size; omega
    rw [← hws]
    try rw [← hdC]
    try rw [← hdB]
    try rw [← hdA]
    clear hws hsz hdA hdB hdC
    have hBo := hBs; clear hBs
    refine (HX.out _).mono ?_; rintro e s15 ⟨rfl, hb⟩
    replace kA0 := belK hb kA0 zA; replace kA1 := belK hb kA1 zA; replace zA := Nat.lt_of_lt_of_le zA hb.size
    replace kB0 := belK hb kB0 zB; replace kB1 := belK hb kB1 zB; replace zB := Nat.lt_of_lt_of_le zB hb.size
    replace kC0 := belK hb kC0 zC; replace fC0 := belF hb fC0 zC; replace kC1 := belK hb kC1 zC; replace fC1 := belF hb fC1 zC; replace kC2 := belK hb kC2 zC; replace fC2 := belF hb fC2 zC; replace zC := Nat.lt_of_lt_of_le zC hb.size
    replace hBo := hBo.trans (hb.mono hBo.size)
    clear hb
    go_wp2_with fail
    obtain ⟨s16, hws⟩ : ∃ s, s = (s15.alloc (.cells #[.bool bx, .string tx] 44)) := ⟨_, rfl⟩
    have hBs : Below w.heap.size w s16 := by rw [hws]; exact ((hBo).alloc (by exact hBo.size) _)
    obtain ⟨N, hdN⟩ : ∃ b, b = s15.heap.size := ⟨_, rfl⟩
    have hsz : s16.heap.size = s15.heap.size + 1 := by rw [hws]; simp
    have dCN : C ≠ N := by omega
    have hQC : ∀ p v, s15.cell? p = some v → s16.cell? p = some v := fun p v h => by rw [hws]; exact (alK h)
    have hQZ : ∀ b, b < s15.heap.size → b < s16.heap.size := fun b h => by omega
    have hQF : ∀ b j, b < s15.heap.size → s15.frozen? ⟨b, j, none⟩ = false → s16.frozen? ⟨b, j, none⟩ = false := fun b j z h => by rw [hws]; exact (alF z h)
    replace kA0 := hQC _ _ kA0; replace kA1 := hQC _ _ kA1; replace zA := hQZ _ zA
    replace kB0 := hQC _ _ kB0; replace kB1 := hQC _ _ kB1; replace zB := hQZ _ zB
    replace kC0 := hQC _ _ kC0; replace fC0 := hQF _ _ zC fC0; replace kC1 := hQC _ _ kC1; replace fC1 := hQF _ _ zC fC1; replace kC2 := hQC _ _ kC2; replace fC2 := hQF _ _ zC fC2; replace zC := hQZ _ zC
    clear hQC hQZ hQF
    have kN0 : s16.cell? ⟨N, 0, none⟩ = some (.bool bx) := by rw [hws]; simp [go_sem, hdN]
    have kN1 : s16.cell? ⟨N, 1, none⟩ = some (.string tx) := by rw [hws]; simp [go_sem, hdN]
    have zN : N < s16.heap.size := by omega
    have lN : w.heap.size ≤ N := by have := hBo.size; omega
    rw [← hws]
    try rw [← hdN]
    clear hBo
    clear hws hsz hdN
    have hBo := hBs; clear hBs
    refine (HY.out _).mono ?_; rintro e s17 ⟨rfl, hb⟩
    replace kA0 := belK hb kA0 zA; replace kA1 := belK hb kA1 zA; replace zA := Nat.lt_of_lt_of_le zA hb.size
    replace kB0 := belK hb kB0 zB; replace kB1 := belK hb kB1 zB; replace zB := Nat.lt_of_lt_of_le zB hb.size
    replace kC0 := belK hb kC0 zC; replace fC0 := belF hb fC0 zC; replace kC1 := belK hb kC1 zC; replace fC1 := belF hb fC1 zC; replace kC2 := belK hb kC2 zC; replace fC2 := belF hb fC2 zC; replace zC := Nat.lt_of_lt_of_le zC hb.size
    replace kN0 := belK hb kN0 zN; replace kN1 := belK hb kN1 zN; replace zN := Nat.lt_of_lt_of_le zN hb.size
    replace hBo := hBo.trans (hb.mono hBo.size)
    clear hb
    go_wp2_with fail
    obtain ⟨s18, hws⟩ : ∃ s, s = (s17.alloc (.cells #[.bool by', .string ty] 44)) := ⟨_, rfl⟩
    have hBs : Below w.heap.size w s18 := by rw [hws]; exact ((hBo).alloc (by exact hBo.size) _)
    obtain ⟨M, hdM⟩ : ∃ b, b = s17.heap.size := ⟨_, rfl⟩
    have hsz : s18.heap.size = s17.heap.size + 1 := by rw [hws]; simp
    have dCM : C ≠ M := by omega
    have hQC : ∀ p v, s17.cell? p = some v → s18.cell? p = some v := fun p v h => by rw [hws]; exact (alK h)
    have hQZ : ∀ b, b < s17.heap.size → b < s18.heap.size := fun b h => by omega
    have hQF : ∀ b j, b < s17.heap.size → s17.frozen? ⟨b, j, none⟩ = false → s18.frozen? ⟨b, j, none⟩ = false := fun b j z h => by rw [hws]; exact (alF z h)
    replace kA0 := hQC _ _ kA0; replace kA1 := hQC _ _ kA1; replace zA := hQZ _ zA
    replace kB0 := hQC _ _ kB0; replace kB1 := hQC _ _ kB1; replace zB := hQZ _ zB
    replace kC0 := hQC _ _ kC0; replace fC0 := hQF _ _ zC fC0; replace kC1 := hQC _ _ kC1; replace fC1 := hQF _ _ zC fC1; replace kC2 := hQC _ _ kC2; replace fC2 := hQF _ _ zC fC2; replace zC := hQZ _ zC
    replace kN0 := hQC _ _ kN0; replace kN1 := hQC _ _ kN1; replace zN := hQZ _ zN
    clear hQC hQZ hQF
    have kM0 : s18.cell? ⟨M, 0, none⟩ = some (.bool by') := by rw [hws]; simp [go_sem, hdM]
    have kM1 : s18.cell? ⟨M, 1, none⟩ = some (.string ty) := by rw [hws]; simp [go_sem, hdM]
    have zM : M < s18.heap.size := by omega
    have lM : w.heap.size ≤ M := by have := hBo.size; omega
    rw [← hws]
    try rw [← hdM]
    clear hBo
    clear hws hsz hdM
    have hBo := hBs; clear hBs
    refine (HG.out _).mono ?_; rintro e s19 ⟨rfl, hb⟩
    replace kA0 := belK hb kA0 zA; replace kA1 := belK hb kA1 zA; replace zA := Nat.lt_of_lt_of_le zA hb.size
    replace kB0 := belK hb kB0 zB; replace kB1 := belK hb kB1 zB; replace zB := Nat.lt_of_lt_of_le zB hb.size
    replace kC0 := belK hb kC0 zC; replace fC0 := belF hb fC0 zC; replace kC1 := belK hb kC1 zC; replace fC1 := belF hb fC1 zC; replace kC2 := belK hb kC2 zC; replace fC2 := belF hb fC2 zC; replace zC := Nat.lt_of_lt_of_le zC hb.size
    replace kN0 := belK hb kN0 zN; replace kN1 := belK hb kN1 zN; replace zN := Nat.lt_of_lt_of_le zN hb.size
    replace kM0 := belK hb kM0 zM; replace kM1 := belK hb kM1 zM; replace zM := Nat.lt_of_lt_of_le zM hb.size
    replace hBo := hBo.trans (hb.mono hBo.size)
    clear hb
    go_wp2_with fail
    refine (HD1.out _).mono ?_; rintro e s20 ⟨rfl, hb⟩
    replace kA0 := belK hb kA0 zA; replace kA1 := belK hb kA1 zA; replace zA := Nat.lt_of_lt_of_le zA hb.size
    replace kB0 := belK hb kB0 zB; replace kB1 := belK hb kB1 zB; replace zB := Nat.lt_of_lt_of_le zB hb.size
    replace kC0 := belK hb kC0 zC; replace fC0 := belF hb fC0 zC; replace kC1 := belK hb kC1 zC; replace fC1 := belF hb fC1 zC; replace kC2 := belK hb kC2 zC; replace fC2 := belF hb fC2 zC; replace zC := Nat.lt_of_lt_of_le zC hb.size
    replace kN0 := belK hb kN0 zN; replace kN1 := belK hb kN1 zN; replace zN := Nat.lt_of_lt_of_le zN hb.size
    replace kM0 := belK hb kM0 zM; replace kM1 := belK hb kM1 zM; replace zM := Nat.lt_of_lt_of_le zM hb.size
    replace hBo := hBo.trans (hb.mono hBo.size)
    clear hb
    go_wp2_with fail
    refine (HD2.out _).mono ?_; rintro e s21 ⟨rfl, hb⟩
    replace kA0 := belK hb kA0 zA; replace kA1 := belK hb kA1 zA; replace zA := Nat.lt_of_lt_of_le zA hb.size
    replace kB0 := belK hb kB0 zB; replace kB1 := belK hb kB1 zB; replace zB := Nat.lt_of_lt_of_le zB hb.size
    replace kC0 := belK hb kC0 zC; replace fC0 := belF hb fC0 zC; replace kC1 := belK hb kC1 zC; replace fC1 := belF hb fC1 zC; replace kC2 := belK hb kC2 zC; replace fC2 := belF hb fC2 zC; replace zC := Nat.lt_of_lt_of_le zC hb.size
    replace kN0 := belK hb kN0 zN; replace kN1 := belK hb kN1 zN; replace zN := Nat.lt_of_lt_of_le zN hb.size
    replace kM0 := belK hb kM0 zM; replace kM1 := belK hb kM1 zM; replace zM := Nat.lt_of_lt_of_le zM hb.size
    replace hBo := hBo.trans (hb.mono hBo.size)
    clear hb
    go_wp2_with fail
    refine (HB3.out _).mono ?_; rintro e s22 ⟨rfl, hb⟩
    replace kA0 := belK hb kA0 zA; replace kA1 := belK hb kA1 zA; replace zA := Nat.lt_of_lt_of_le zA hb.size
    replace kB0 := belK hb kB0 zB; replace kB1 := belK hb kB1 zB; replace zB := Nat.lt_of_lt_of_le zB hb.size
    replace kC0 := belK hb kC0 zC; replace fC0 := belF hb fC0 zC; replace kC1 := belK hb kC1 zC; replace fC1 := belF hb fC1 zC; replace kC2 := belK hb kC2 zC; replace fC2 := belF hb fC2 zC; replace zC := Nat.lt_of_lt_of_le zC hb.size
    replace kN0 := belK hb kN0 zN; replace kN1 := belK hb kN1 zN; replace zN := Nat.lt_of_lt_of_le zN hb.size
    replace kM0 := belK hb kM0 zM; replace kM1 := belK hb kM1 zM; replace zM := Nat.lt_of_lt_of_le zM hb.size
    replace hBo := hBo.trans (hb.mono hBo.size)
    clear hb
    go_wp2_with fail
    refine (HB4.out _).mono ?_; rintro e s23 ⟨rfl, hb⟩
    replace kA0 := belK hb kA0 zA; replace kA1 := belK hb kA1 zA; replace zA := Nat.lt_of_lt_of_le zA hb.size
    replace kB0 := belK hb kB0 zB; replace kB1 := belK hb kB1 zB; replace zB := Nat.lt_of_lt_of_le zB hb.size
    replace kC0 := belK hb kC0 zC; replace fC0 := belF hb fC0 zC; replace kC1 := belK hb kC1 zC; replace fC1 := belF hb fC1 zC; replace kC2 := belK hb kC2 zC; replace fC2 := belF hb fC2 zC; replace zC := Nat.lt_of_lt_of_le zC hb.size
    replace kN0 := belK hb kN0 zN; replace kN1 := belK hb kN1 zN; replace zN := Nat.lt_of_lt_of_le zN hb.size
    replace kM0 := belK hb kM0 zM; replace kM1 := belK hb kM1 zM; replace zM := Nat.lt_of_lt_of_le zM hb.size
    replace hBo := hBo.trans (hb.mono hBo.size)
    clear hb
    all_goals go_wp2_with fail
    all_goals refine bodyPost_ret (v := .tuple #[.agg #[.bool false, .string ⟨#[]⟩, .string ⟨#[]⟩], .int .i64 4]) (by simp [results, Tryz.results44, go_sem, kC0, kC1, kC2, zC]) rfl ⟨rfl, ?_⟩
    all_goals exact (((hBo.setCell lC _).setCell lC _).setCell lC _)
  have hdv : decide ((256 : Int) < (Nt.blen v : Int)) = false := decide_eq_false (by omega)
  obtain ⟨e1, e2⟩ := hbig2 (by omega)
  rw [e1, e2]
  show Calls _ _ _ _ fun e w' => e = .returned (.tuple #[.agg #[.bool ((bx != by') && decide (u ≠ 0)), .string (Nt.E u), .string (Nt.E v)], .int .i64 0]) ∧ _
  rw [htu, htv]
  by_cases hu : u = 0
  case pos =>
    have htn : tu = ⟨#[]⟩ := by rw [← htu, hu]; rfl
    have hz : ((bx != by') && decide (u ≠ 0)) = false := by simp [hu]
    rw [hz]
    subst htn
    generalize (Nt.blen u : Int) = bu at *
    generalize (Nt.blen v : Int) = bv at *
    have HG := Lib.hid hg
    have HD1 := Lib.hid hd1
    have HD2 := Lib.hid hd2
    have HB3 := Lib.hid hb3
    have HB4 := Lib.hid hb4
    clear hg hd1 hd2 hb3 hb4 e1 e2 hu1 hv1 hbig1 hbig2 hnl htu htv hz hu
    go_enter Tryz.func44, Tryz.ntmps44
    go_wp2_with fail
    obtain ⟨s24, hws⟩ : ∃ s, s = (((w.alloc (.cells #[.bool n1, .string m1] 44)).alloc (.cells #[.bool n2, .string m2] 44)).alloc (.cells #[.bool false, .string ⟨#[]⟩, .string ⟨#[]⟩] 23)) := ⟨_, rfl⟩
    have hBs : Below w.heap.size w s24 := by rw [hws]; exact ((((Below.refl w.heap.size w).alloc (by simp) _).alloc (by simp) _).alloc (by simp; omega) _)
    obtain ⟨A, hdA⟩ : ∃ b, b = w.heap.size := ⟨_, rfl⟩
    obtain ⟨B, hdB⟩ : ∃ b, b = w.heap.size + 1 := ⟨_, rfl⟩
    obtain ⟨C, hdC⟩ : ∃ b, b = w.heap.size + 1 + 1 := ⟨_, rfl⟩
    have hsz : s24.heap.size = w.heap.size + 1 + 1 + 1 := by rw [hws]; simp
    have dCA : C ≠ A := by omega
    have dCB : C ≠ B := by omega
    have kA0 : s24.cell? ⟨A, 0, none⟩ = some (.bool n1) := by rw [hws]; simp [go_sem, hdA, hdB, hdC]
    have kA1 : s24.cell? ⟨A, 1, none⟩ = some (.string m1) := by rw [hws]; simp [go_sem, hdA, hdB, hdC]
    have zA : A < s24.heap.size := by omega
    have lA : w.heap.size ≤ A := by have := Nat.le_refl w.heap.size; omega
    have kB0 : s24.cell? ⟨B, 0, none⟩ = some (.bool n2) := by rw [hws]; simp [go_sem, hdA, hdB, hdC]
    have kB1 : s24.cell? ⟨B, 1, none⟩ = some (.string m2) := by rw [hws]; simp [go_sem, hdA, hdB, hdC]
    have zB : B < s24.heap.size := by omega
    have lB : w.heap.size ≤ B := by have := Nat.le_refl w.heap.size; omega
    have kC0 : s24.cell? ⟨C, 0, none⟩ = some (.bool false) := by rw [hws]; simp [go_sem, hdA, hdB, hdC]
    have fC0 : s24.frozen? ⟨C, 0, none⟩ = false := by rw [hws]; simp [go_sem, hdA, hdB, hdC]
    have kC1 : s24.cell? ⟨C, 1, none⟩ = some (.string ⟨#[]⟩) := by rw [hws]; simp [go_sem, hdA, hdB, hdC]
    have fC1 : s24.frozen? ⟨C, 1, none⟩ = false := by rw [hws]; simp [go_sem, hdA, hdB, hdC]
    have kC2 : s24.cell? ⟨C, 2, none⟩ = some (.string ⟨#[]⟩) := by rw [hws]; simp [go_sem, hdA, hdB, hdC]
    have fC2 : s24.frozen? ⟨C, 2, none⟩ = false := by rw [hws]; simp [go_sem, hdA, hdB, hdC]
    have zC : C < s24.heap.size := by omega
    have lC : w.heap.size ≤ C := by have := Nat.le_refl w.heap.size; omega
    rw [← hws]
    try rw [← hdC]
    try rw [← hdB]
    try rw [← hdA]
    clear hws hsz hdA hdB hdC
    have hBo := hBs; clear hBs
    refine (HX.out _).mono ?_; rintro e s25 ⟨rfl, hb⟩
    replace kA0 := belK hb kA0 zA; replace kA1 := belK hb kA1 zA; replace zA := Nat.lt_of_lt_of_le zA hb.size
    replace kB0 := belK hb kB0 zB; replace kB1 := belK hb kB1 zB; replace zB := Nat.lt_of_lt_of_le zB hb.size
    replace kC0 := belK hb kC0 zC; replace fC0 := belF hb fC0 zC; replace kC1 := belK hb kC1 zC; replace fC1 := belF hb fC1 zC; replace kC2 := belK hb kC2 zC; replace fC2 := belF hb fC2 zC; replace zC := Nat.lt_of_lt_of_le zC hb.size
    replace hBo := hBo.trans (hb.mono hBo.size)
    clear hb
    go_wp2_with fail
    obtain ⟨s26, hws⟩ : ∃ s, s = (s25.alloc (.cells #[.bool bx, .string tx] 44)) := ⟨_, rfl⟩
    have hBs : Below w.heap.size w s26 := by rw [hws]; exact ((hBo).alloc (by exact hBo.size) _)
    obtain ⟨N, hdN⟩ : ∃ b, b = s25.heap.size := ⟨_, rfl⟩
    have hsz : s26.heap.size = s25.heap.size + 1 := by rw [hws]; simp
    have dCN : C ≠ N := by omega
    have hQC : ∀ p v, s25.cell? p = some v → s26.cell? p = some v := fun p v h => by rw [hws]; exact (alK h)
    have hQZ : ∀ b, b < s25.heap.size → b < s26.heap.size := fun b h => by omega
    have hQF : ∀ b j, b < s25.heap.size → s25.frozen? ⟨b, j, none⟩ = false → s26.frozen? ⟨b, j, none⟩ = false := fun b j z h => by rw [hws]; exact (alF z h)
    replace kA0 := hQC _ _ kA0; replace kA1 := hQC _ _ kA1; replace zA := hQZ _ zA
    replace kB0 := hQC _ _ kB0; replace kB1 := hQC _ _ kB1; replace zB := hQZ _ zB
    replace kC0 := hQC _ _ kC0; replace fC0 := hQF _ _ zC fC0; replace kC1 := hQC _ _ kC1; replace fC1 := hQF _ _ zC fC1; replace kC2 := hQC _ _ kC2; replace fC2 := hQF _ _ zC fC2; replace zC := hQZ _ zC
    clear hQC hQZ hQF
    have kN0 : s26.cell? ⟨N, 0, none⟩ = some (.bool bx) := by rw [hws]; simp [go_sem, hdN]
    have kN1 : s26.cell? ⟨N, 1, none⟩ = some (.string tx) := by rw [hws]; simp [go_sem, hdN]
    have zN : N < s26.heap.size := by omega
    have lN : w.heap.size ≤ N := by have := hBo.size; omega
    rw [← hws]
    try rw [← hdN]
    clear hBo
    clear hws hsz hdN
    have hBo := hBs; clear hBs
    refine (HY.out _).mono ?_; rintro e s27 ⟨rfl, hb⟩
    replace kA0 := belK hb kA0 zA; replace kA1 := belK hb kA1 zA; replace zA := Nat.lt_of_lt_of_le zA hb.size
    replace kB0 := belK hb kB0 zB; replace kB1 := belK hb kB1 zB; replace zB := Nat.lt_of_lt_of_le zB hb.size
    replace kC0 := belK hb kC0 zC; replace fC0 := belF hb fC0 zC; replace kC1 := belK hb kC1 zC; replace fC1 := belF hb fC1 zC; replace kC2 := belK hb kC2 zC; replace fC2 := belF hb fC2 zC; replace zC := Nat.lt_of_lt_of_le zC hb.size
    replace kN0 := belK hb kN0 zN; replace kN1 := belK hb kN1 zN; replace zN := Nat.lt_of_lt_of_le zN hb.size
    replace hBo := hBo.trans (hb.mono hBo.size)
    clear hb
    go_wp2_with fail
    obtain ⟨s28, hws⟩ : ∃ s, s = (s27.alloc (.cells #[.bool by', .string ty] 44)) := ⟨_, rfl⟩
    have hBs : Below w.heap.size w s28 := by rw [hws]; exact ((hBo).alloc (by exact hBo.size) _)
    obtain ⟨M, hdM⟩ : ∃ b, b = s27.heap.size := ⟨_, rfl⟩
    have hsz : s28.heap.size = s27.heap.size + 1 := by rw [hws]; simp
    have dCM : C ≠ M := by omega
    have hQC : ∀ p v, s27.cell? p = some v → s28.cell? p = some v := fun p v h => by rw [hws]; exact (alK h)
    have hQZ : ∀ b, b < s27.heap.size → b < s28.heap.size := fun b h => by omega
    have hQF : ∀ b j, b < s27.heap.size → s27.frozen? ⟨b, j, none⟩ = false → s28.frozen? ⟨b, j, none⟩ = false := fun b j z h => by rw [hws]; exact (alF z h)
    replace kA0 := hQC _ _ kA0; replace kA1 := hQC _ _ kA1; replace zA := hQZ _ zA
    replace kB0 := hQC _ _ kB0; replace kB1 := hQC _ _ kB1; replace zB := hQZ _ zB
    replace kC0 := hQC _ _ kC0; replace fC0 := hQF _ _ zC fC0; replace kC1 := hQC _ _ kC1; replace fC1 := hQF _ _ zC fC1; replace kC2 := hQC _ _ kC2; replace fC2 := hQF _ _ zC fC2; replace zC := hQZ _ zC
    replace kN0 := hQC _ _ kN0; replace kN1 := hQC _ _ kN1; replace zN := hQZ _ zN
    clear hQC hQZ hQF
    have kM0 : s28.cell? ⟨M, 0, none⟩ = some (.bool by') := by rw [hws]; simp [go_sem, hdM]
    have kM1 : s28.cell? ⟨M, 1, none⟩ = some (.string ty) := by rw [hws]; simp [go_sem, hdM]
    have zM : M < s28.heap.size := by omega
    have lM : w.heap.size ≤ M := by have := hBo.size; omega
    rw [← hws]
    try rw [← hdM]
    clear hBo
    clear hws hsz hdM
    have hBo := hBs; clear hBs
    refine (HG.out _).mono ?_; rintro e s29 ⟨rfl, hb⟩
    replace kA0 := belK hb kA0 zA; replace kA1 := belK hb kA1 zA; replace zA := Nat.lt_of_lt_of_le zA hb.size
    replace kB0 := belK hb kB0 zB; replace kB1 := belK hb kB1 zB; replace zB := Nat.lt_of_lt_of_le zB hb.size
    replace kC0 := belK hb kC0 zC; replace fC0 := belF hb fC0 zC; replace kC1 := belK hb kC1 zC; replace fC1 := belF hb fC1 zC; replace kC2 := belK hb kC2 zC; replace fC2 := belF hb fC2 zC; replace zC := Nat.lt_of_lt_of_le zC hb.size
    replace kN0 := belK hb kN0 zN; replace kN1 := belK hb kN1 zN; replace zN := Nat.lt_of_lt_of_le zN hb.size
    replace kM0 := belK hb kM0 zM; replace kM1 := belK hb kM1 zM; replace zM := Nat.lt_of_lt_of_le zM hb.size
    replace hBo := hBo.trans (hb.mono hBo.size)
    clear hb
    go_wp2_with fail
    refine (HD1.out _).mono ?_; rintro e s30 ⟨rfl, hb⟩
    replace kA0 := belK hb kA0 zA; replace kA1 := belK hb kA1 zA; replace zA := Nat.lt_of_lt_of_le zA hb.size
    replace kB0 := belK hb kB0 zB; replace kB1 := belK hb kB1 zB; replace zB := Nat.lt_of_lt_of_le zB hb.size
    replace kC0 := belK hb kC0 zC; replace fC0 := belF hb fC0 zC; replace kC1 := belK hb kC1 zC; replace fC1 := belF hb fC1 zC; replace kC2 := belK hb kC2 zC; replace fC2 := belF hb fC2 zC; replace zC := Nat.lt_of_lt_of_le zC hb.size
    replace kN0 := belK hb kN0 zN; replace kN1 := belK hb kN1 zN; replace zN := Nat.lt_of_lt_of_le zN hb.size
    replace kM0 := belK hb kM0 zM; replace kM1 := belK hb kM1 zM; replace zM := Nat.lt_of_lt_of_le zM hb.size
    replace hBo := hBo.trans (hb.mono hBo.size)
    clear hb
    go_wp2_with fail
    refine (HD2.out _).mono ?_; rintro e s31 ⟨rfl, hb⟩
    replace kA0 := belK hb kA0 zA; replace kA1 := belK hb kA1 zA; replace zA := Nat.lt_of_lt_of_le zA hb.size
    replace kB0 := belK hb kB0 zB; replace kB1 := belK hb kB1 zB; replace zB := Nat.lt_of_lt_of_le zB hb.size
    replace kC0 := belK hb kC0 zC; replace fC0 := belF hb fC0 zC; replace kC1 := belK hb kC1 zC; replace fC1 := belF hb fC1 zC; replace kC2 := belK hb kC2 zC; replace fC2 := belF hb fC2 zC; replace zC := Nat.lt_of_lt_of_le zC hb.size
    replace kN0 := belK hb kN0 zN; replace kN1 := belK hb kN1 zN; replace zN := Nat.lt_of_lt_of_le zN hb.size
    replace kM0 := belK hb kM0 zM; replace kM1 := belK hb kM1 zM; replace zM := Nat.lt_of_lt_of_le zM hb.size
    replace hBo := hBo.trans (hb.mono hBo.size)
    clear hb
    go_wp2_with fail
    refine (HB3.out _).mono ?_; rintro e s32 ⟨rfl, hb⟩
    replace kA0 := belK hb kA0 zA; replace kA1 := belK hb kA1 zA; replace zA := Nat.lt_of_lt_of_le zA hb.size
    replace kB0 := belK hb kB0 zB; replace kB1 := belK hb kB1 zB; replace zB := Nat.lt_of_lt_of_le zB hb.size
    replace kC0 := belK hb kC0 zC; replace fC0 := belF hb fC0 zC; replace kC1 := belK hb kC1 zC; replace fC1 := belF hb fC1 zC; replace kC2 := belK hb kC2 zC; replace fC2 := belF hb fC2 zC; replace zC := Nat.lt_of_lt_of_le zC hb.size
    replace kN0 := belK hb kN0 zN; replace kN1 := belK hb kN1 zN; replace zN := Nat.lt_of_lt_of_le zN hb.size
    replace kM0 := belK hb kM0 zM; replace kM1 := belK hb kM1 zM; replace zM := Nat.lt_of_lt_of_le zM hb.size
    replace hBo := hBo.trans (hb.mono hBo.size)
    clear hb
    go_wp2_with fail
    refine (HB4.out _).mono ?_; rintro e s33 ⟨rfl, hb⟩
    replace kA0 := belK hb kA0 zA; replace kA1 := belK hb kA1 zA; replace zA := Nat.lt_of_lt_of_le zA hb.size
    replace kB0 := belK hb kB0 zB; replace kB1 := belK hb kB1 zB; replace zB := Nat.lt_of_lt_of_le zB hb.size
    replace kC0 := belK hb kC0 zC; replace fC0 := belF hb fC0 zC; replace kC1 := belK hb kC1 zC; replace fC1 := belF hb fC1 zC; replace kC2 := belK hb kC2 zC; replace fC2 := belF hb fC2 zC; replace zC := Nat.lt_of_lt_of_le zC hb.size
    replace kN0 := belK hb kN0 zN; replace kN1 := belK hb kN1 zN; replace zN := Nat.lt_of_lt_of_le zN hb.size
    replace kM0 := belK hb kM0 zM; replace kM1 := belK hb kM1 zM; replace zM := Nat.lt_of_lt_of_le zM hb.size
    replace hBo := hBo.trans (hb.mono hBo.size)
    clear hb
    all_goals go_wp2_with fail
    all_goals refine bodyPost_ret (v := .tuple #[.agg #[.bool false, .string ⟨#[]⟩, .string tv], .int .i64 0]) (by simp [results, Tryz.results44, go_sem, kC0, kC1, kC2, zC]) rfl ⟨rfl, ?_⟩
    all_goals exact (((hBo.setCell lC _).setCell lC _).setCell lC _)
  obtain ⟨hn1, hn2⟩ := toList_ne (hnl hu)
  have hz : ((bx != by') && decide (u ≠ 0)) = (bx != by') := by simp [hu]
  rw [hz]
  generalize (Nt.blen u : Int) = bu at *
  generalize (Nt.blen v : Int) = bv at *
  have HG := Lib.hid hg
  have HD1 := Lib.hid hd1
  have HD2 := Lib.hid hd2
  have HB3 := Lib.hid hb3
  have HB4 := Lib.hid hb4
  clear hg hd1 hd2 hb3 hb4 e1 e2 hu1 hv1 hbig1 hbig2 hnl htu htv hz hu
  cases bx <;> cases by'
  case false.false =>
    simp only [bne_self_eq_false, Bool.false_bne, Bool.true_bne, Bool.not_false]
    go_enter Tryz.func44, Tryz.ntmps44
    go_wp2_with fail
    obtain ⟨s34, hws⟩ : ∃ s, s = (((w.alloc (.cells #[.bool n1, .string m1] 44)).alloc (.cells #[.bool n2, .string m2] 44)).alloc (.cells #[.bool false, .string ⟨#[]⟩, .string ⟨#[]⟩] 23)) := ⟨_, rfl⟩
    have hBs : Below w.heap.size w s34 := by rw [hws]; exact ((((Below.refl w.heap.size w).alloc (by simp) _).alloc (by simp) _).alloc (by simp; omega) _)
    obtain ⟨A, hdA⟩ : ∃ b, b = w.heap.size := ⟨_, rfl⟩
    obtain ⟨B, hdB⟩ : ∃ b, b = w.heap.size + 1 := ⟨_, rfl⟩
    obtain ⟨C, hdC⟩ : ∃ b, b = w.heap.size + 1 + 1 := ⟨_, rfl⟩
    have hsz : s34.heap.size = w.heap.size + 1 + 1 + 1 := by rw [hws]; simp
    have dCA : C ≠ A := by omega
    have dCB : C ≠ B := by omega
    have kA0 : s34.cell? ⟨A, 0, none⟩ = some (.bool n1) := by rw [hws]; simp [go_sem, hdA, hdB, hdC]
    have kA1 : s34.cell? ⟨A, 1, none⟩ = some (.string m1) := by rw [hws]; simp [go_sem, hdA, hdB, hdC]
    have zA : A < s34.heap.size := by omega
    have lA : w.heap.size ≤ A := by have := Nat.le_refl w.heap.size; omega
    have kB0 : s34.cell? ⟨B, 0, none⟩ = some (.bool n2) := by rw [hws]; simp [go_sem, hdA, hdB, hdC]
    have kB1 : s34.cell? ⟨B, 1, none⟩ = some (.string m2) := by rw [hws]; simp [go_sem, hdA, hdB, hdC]
    have zB : B < s34.heap.size := by omega
    have lB : w.heap.size ≤ B := by have := Nat.le_refl w.heap.size; omega
    have kC0 : s34.cell? ⟨C, 0, none⟩ = some (.bool false) := by rw [hws]; simp [go_sem, hdA, hdB, hdC]
    have fC0 : s34.frozen? ⟨C, 0, none⟩ = false := by rw [hws]; simp [go_sem, hdA, hdB, hdC]
    have kC1 : s34.cell? ⟨C, 1, none⟩ = some (.string ⟨#[]⟩) := by rw [hws]; simp [go_sem, hdA, hdB, hdC]
    have fC1 : s34.frozen? ⟨C, 1, none⟩ = false := by rw [hws]; simp [go_sem, hdA, hdB, hdC]
    have kC2 : s34.cell? ⟨C, 2, none⟩ = some (.string ⟨#[]⟩) := by rw [hws]; simp [go_sem, hdA, hdB, hdC]
    have fC2 : s34.frozen? ⟨C, 2, none⟩ = false := by rw [hws]; simp [go_sem, hdA, hdB, hdC]
    have zC : C < s34.heap.size := by omega
    have lC : w.heap.size ≤ C := by have := Nat.le_refl w.heap.size; omega
    rw [← hws]
    try rw [← hdC]
    try rw [← hdB]
    try rw [← hdA]
    clear hws hsz hdA hdB hdC
    have hBo := hBs; clear hBs
    refine (HX.out _).mono ?_; rintro e s35 ⟨rfl, hb⟩
    replace kA0 := belK hb kA0 zA; replace kA1 := belK hb kA1 zA; replace zA := Nat.lt_of_lt_of_le zA hb.size
    replace kB0 := belK hb kB0 zB; replace kB1 := belK hb kB1 zB; replace zB := Nat.lt_of_lt_of_le zB hb.size
    replace kC0 := belK hb kC0 zC; replace fC0 := belF hb fC0 zC; replace kC1 := belK hb kC1 zC; replace fC1 := belF hb fC1 zC; replace kC2 := belK hb kC2 zC; replace fC2 := belF hb fC2 zC; replace zC := Nat.lt_of_lt_of_le zC hb.size
    replace hBo := hBo.trans (hb.mono hBo.size)
    clear hb
    go_wp2_with fail
    obtain ⟨s36, hws⟩ : ∃ s, s = (s35.alloc (.cells #[.bool false, .string tx] 44)) := ⟨_, rfl⟩
    have hBs : Below w.heap.size w s36 := by rw [hws]; exact ((hBo).alloc (by exact hBo.size) _)
    obtain ⟨N, hdN⟩ : ∃ b, b = s35.heap.size := ⟨_, rfl⟩
    have hsz : s36.heap.size = s35.heap.size + 1 := by rw [hws]; simp
    have dCN : C ≠ N := by omega
    have hQC : ∀ p v, s35.cell? p = some v → s36.cell? p = some v := fun p v h => by rw [hws]; exact (alK h)
    have hQZ : ∀ b, b < s35.heap.size → b < s36.heap.size := fun b h => by omega
    have hQF : ∀ b j, b < s35.heap.size → s35.frozen? ⟨b, j, none⟩ = false → s36.frozen? ⟨b, j, none⟩ = false := fun b j z h => by rw [hws]; exact (alF z h)
    replace kA0 := hQC _ _ kA0; replace kA1 := hQC _ _ kA1; replace zA := hQZ _ zA
    replace kB0 := hQC _ _ kB0; replace kB1 := hQC _ _ kB1; replace zB := hQZ _ zB
    replace kC0 := hQC _ _ kC0; replace fC0 := hQF _ _ zC fC0; replace kC1 := hQC _ _ kC1; replace fC1 := hQF _ _ zC fC1; replace kC2 := hQC _ _ kC2; replace fC2 := hQF _ _ zC fC2; replace zC := hQZ _ zC
    clear hQC hQZ hQF
    have kN0 : s36.cell? ⟨N, 0, none⟩ = some (.bool false) := by rw [hws]; simp [go_sem, hdN]
    have kN1 : s36.cell? ⟨N, 1, none⟩ = some (.string tx) := by rw [hws]; simp [go_sem, hdN]
    have zN : N < s36.heap.size := by omega
    have lN : w.heap.size ≤ N := by have := hBo.size; omega
    rw [← hws]
    try rw [← hdN]
    clear hBo
    clear hws hsz hdN
    have hBo := hBs; clear hBs
    refine (HY.out _).mono ?_; rintro e s37 ⟨rfl, hb⟩
    replace kA0 := belK hb kA0 zA; replace kA1 := belK hb kA1 zA; replace zA := Nat.lt_of_lt_of_le zA hb.size
    replace kB0 := belK hb kB0 zB; replace kB1 := belK hb kB1 zB; replace zB := Nat.lt_of_lt_of_le zB hb.size
    replace kC0 := belK hb kC0 zC; replace fC0 := belF hb fC0 zC; replace kC1 := belK hb kC1 zC; replace fC1 := belF hb fC1 zC; replace kC2 := belK hb kC2 zC; replace fC2 := belF hb fC2 zC; replace zC := Nat.lt_of_lt_of_le zC hb.size
    replace kN0 := belK hb kN0 zN; replace kN1 := belK hb kN1 zN; replace zN := Nat.lt_of_lt_of_le zN hb.size
    replace hBo := hBo.trans (hb.mono hBo.size)
    clear hb
    go_wp2_with fail
    obtain ⟨s38, hws⟩ : ∃ s, s = (s37.alloc (.cells #[.bool false, .string ty] 44)) := ⟨_, rfl⟩
    have hBs : Below w.heap.size w s38 := by rw [hws]; exact ((hBo).alloc (by exact hBo.size) _)
    obtain ⟨M, hdM⟩ : ∃ b, b = s37.heap.size := ⟨_, rfl⟩
    have hsz : s38.heap.size = s37.heap.size + 1 := by rw [hws]; simp
    have dCM : C ≠ M := by omega
    have hQC : ∀ p v, s37.cell? p = some v → s38.cell? p = some v := fun p v h => by rw [hws]; exact (alK h)
    have hQZ : ∀ b, b < s37.heap.size → b < s38.heap.size := fun b h => by omega
    have hQF : ∀ b j, b < s37.heap.size → s37.frozen? ⟨b, j, none⟩ = false → s38.frozen? ⟨b, j, none⟩ = false := fun b j z h => by rw [hws]; exact (alF z h)
    replace kA0 := hQC _ _ kA0; replace kA1 := hQC _ _ kA1; replace zA := hQZ _ zA
    replace kB0 := hQC _ _ kB0; replace kB1 := hQC _ _ kB1; replace zB := hQZ _ zB
    replace kC0 := hQC _ _ kC0; replace fC0 := hQF _ _ zC fC0; replace kC1 := hQC _ _ kC1; replace fC1 := hQF _ _ zC fC1; replace kC2 := hQC _ _ kC2; replace fC2 := hQF _ _ zC fC2; replace zC := hQZ _ zC
    replace kN0 := hQC _ _ kN0; replace kN1 := hQC _ _ kN1; replace zN := hQZ _ zN
    clear hQC hQZ hQF
    have kM0 : s38.cell? ⟨M, 0, none⟩ = some (.bool false) := by rw [hws]; simp [go_sem, hdM]
    have kM1 : s38.cell? ⟨M, 1, none⟩ = some (.string ty) := by rw [hws]; simp [go_sem, hdM]
    have zM : M < s38.heap.size := by omega
    have lM : w.heap.size ≤ M := by have := hBo.size; omega
    rw [← hws]
    try rw [← hdM]
    clear hBo
    clear hws hsz hdM
    have hBo := hBs; clear hBs
    refine (HG.out _).mono ?_; rintro e s39 ⟨rfl, hb⟩
    replace kA0 := belK hb kA0 zA; replace kA1 := belK hb kA1 zA; replace zA := Nat.lt_of_lt_of_le zA hb.size
    replace kB0 := belK hb kB0 zB; replace kB1 := belK hb kB1 zB; replace zB := Nat.lt_of_lt_of_le zB hb.size
    replace kC0 := belK hb kC0 zC; replace fC0 := belF hb fC0 zC; replace kC1 := belK hb kC1 zC; replace fC1 := belF hb fC1 zC; replace kC2 := belK hb kC2 zC; replace fC2 := belF hb fC2 zC; replace zC := Nat.lt_of_lt_of_le zC hb.size
    replace kN0 := belK hb kN0 zN; replace kN1 := belK hb kN1 zN; replace zN := Nat.lt_of_lt_of_le zN hb.size
    replace kM0 := belK hb kM0 zM; replace kM1 := belK hb kM1 zM; replace zM := Nat.lt_of_lt_of_le zM hb.size
    replace hBo := hBo.trans (hb.mono hBo.size)
    clear hb
    go_wp2_with fail
    refine (HD1.out _).mono ?_; rintro e s40 ⟨rfl, hb⟩
    replace kA0 := belK hb kA0 zA; replace kA1 := belK hb kA1 zA; replace zA := Nat.lt_of_lt_of_le zA hb.size
    replace kB0 := belK hb kB0 zB; replace kB1 := belK hb kB1 zB; replace zB := Nat.lt_of_lt_of_le zB hb.size
    replace kC0 := belK hb kC0 zC; replace fC0 := belF hb fC0 zC; replace kC1 := belK hb kC1 zC; replace fC1 := belF hb fC1 zC; replace kC2 := belK hb kC2 zC; replace fC2 := belF hb fC2 zC; replace zC := Nat.lt_of_lt_of_le zC hb.size
    replace kN0 := belK hb kN0 zN; replace kN1 := belK hb kN1 zN; replace zN := Nat.lt_of_lt_of_le zN hb.size
    replace kM0 := belK hb kM0 zM; replace kM1 := belK hb kM1 zM; replace zM := Nat.lt_of_lt_of_le zM hb.size
    replace hBo := hBo.trans (hb.mono hBo.size)
    clear hb
    go_wp2_with fail
    refine (HD2.out _).mono ?_; rintro e s41 ⟨rfl, hb⟩
    replace kA0 := belK hb kA0 zA; replace kA1 := belK hb kA1 zA; replace zA := Nat.lt_of_lt_of_le zA hb.size
    replace kB0 := belK hb kB0 zB; replace kB1 := belK hb kB1 zB; replace zB := Nat.lt_of_lt_of_le zB hb.size
    replace kC0 := belK hb kC0 zC; replace fC0 := belF hb fC0 zC; replace kC1 := belK hb kC1 zC; replace fC1 := belF hb fC1 zC; replace kC2 := belK hb kC2 zC; replace fC2 := belF hb fC2 zC; replace zC := Nat.lt_of_lt_of_le zC hb.size
    replace kN0 := belK hb kN0 zN; replace kN1 := belK hb kN1 zN; replace zN := Nat.lt_of_lt_of_le zN hb.size
    replace kM0 := belK hb kM0 zM; replace kM1 := belK hb kM1 zM; replace zM := Nat.lt_of_lt_of_le zM hb.size
    replace hBo := hBo.trans (hb.mono hBo.size)
    clear hb
    go_wp2_with fail
    refine (HB3.out _).mono ?_; rintro e s42 ⟨rfl, hb⟩
    replace kA0 := belK hb kA0 zA; replace kA1 := belK hb kA1 zA; replace zA := Nat.lt_of_lt_of_le zA hb.size
    replace kB0 := belK hb kB0 zB; replace kB1 := belK hb kB1 zB; replace zB := Nat.lt_of_lt_of_le zB hb.size
    replace kC0 := belK hb kC0 zC; replace fC0 := belF hb fC0 zC; replace kC1 := belK hb kC1 zC; replace fC1 := belF hb fC1 zC; replace kC2 := belK hb kC2 zC; replace fC2 := belF hb fC2 zC; replace zC := Nat.lt_of_lt_of_le zC hb.size
    replace kN0 := belK hb kN0 zN; replace kN1 := belK hb kN1 zN; replace zN := Nat.lt_of_lt_of_le zN hb.size
    replace kM0 := belK hb kM0 zM; replace kM1 := belK hb kM1 zM; replace zM := Nat.lt_of_lt_of_le zM hb.size
    replace hBo := hBo.trans (hb.mono hBo.size)
    clear hb
    go_wp2_with fail
    refine (HB4.out _).mono ?_; rintro e s43 ⟨rfl, hb⟩
    replace kA0 := belK hb kA0 zA; replace kA1 := belK hb kA1 zA; replace zA := Nat.lt_of_lt_of_le zA hb.size
    replace kB0 := belK hb kB0 zB; replace kB1 := belK hb kB1 zB; replace zB := Nat.lt_of_lt_of_le zB hb.size
    replace kC0 := belK hb kC0 zC; replace fC0 := belF hb fC0 zC; replace kC1 := belK hb kC1 zC; replace fC1 := belF hb fC1 zC; replace kC2 := belK hb kC2 zC; replace fC2 := belF hb fC2 zC; replace zC := Nat.lt_of_lt_of_le zC hb.size
    replace kN0 := belK hb kN0 zN; replace kN1 := belK hb kN1 zN; replace zN := Nat.lt_of_lt_of_le zN hb.size
    replace kM0 := belK hb kM0 zM; replace kM1 := belK hb kM1 zM; replace zM := Nat.lt_of_lt_of_le zM hb.size
    replace hBo := hBo.trans (hb.mono hBo.size)
    clear hb
    all_goals go_wp2_with fail
    all_goals refine bodyPost_ret (v := .tuple #[.agg #[.bool false, .string tu, .string tv], .int .i64 0]) (by simp [results, Tryz.results44, go_sem, kC0, kC1, kC2, zC]) rfl ⟨rfl, ?_⟩
    all_goals exact (((hBo.setCell lC _).setCell lC _).setCell lC _)
  case false.true =>
    simp only [bne_self_eq_false, Bool.false_bne, Bool.true_bne, Bool.not_false]
    go_enter Tryz.func44, Tryz.ntmps44
    go_wp2_with fail
    obtain ⟨s44, hws⟩ : ∃ s, s = (((w.alloc (.cells #[.bool n1, .string m1] 44)).alloc (.cells #[.bool n2, .string m2] 44)).alloc (.cells #[.bool false, .string ⟨#[]⟩, .string ⟨#[]⟩] 23)) := ⟨_, rfl⟩
    have hBs : Below w.heap.size w s44 := by rw [hws]; exact ((((Below.refl w.heap.size w).alloc (by simp) _).alloc (by simp) _).alloc (by simp; omega) _)
    obtain ⟨A, hdA⟩ : ∃ b, b = w.heap.size := ⟨_, rfl⟩
    obtain ⟨B, hdB⟩ : ∃ b, b = w.heap.size + 1 := ⟨_, rfl⟩
    obtain ⟨C, hdC⟩ : ∃ b, b = w.heap.size + 1 + 1 := ⟨_, rfl⟩
    have hsz : s44.heap.size = w.heap.size + 1 + 1 + 1 := by rw [hws]; simp
    have dCA : C ≠ A := by omega
    have dCB : C ≠ B := by omega
    have kA0 : s44.cell? ⟨A, 0, none⟩ = some (.bool n1) := by rw [hws]; simp [go_sem, hdA, hdB, hdC]
    have kA1 : s44.cell? ⟨A, 1, none⟩ = some (.string m1) := by rw [hws]; simp [go_sem, hdA, hdB, hdC]
    have zA : A < s44.heap.size := by omega
    have lA : w.heap.size ≤ A := by have := Nat.le_refl w.heap.size; omega
    have kB0 : s44.cell? ⟨B, 0, none⟩ = some (.bool n2) := by rw [hws]; simp [go_sem, hdA, hdB, hdC]
    have kB1 : s44.cell? ⟨B, 1, none⟩ = some (.string m2) := by rw [hws]; simp [go_sem, hdA, hdB, hdC]
    have zB : B < s44.heap.size := by omega
    have lB : w.heap.size ≤ B := by have := Nat.le_refl w.heap.size; omega
    have kC0 : s44.cell? ⟨C, 0, none⟩ = some (.bool false) := by rw [hws]; simp [go_sem, hdA, hdB, hdC]
    have fC0 : s44.frozen? ⟨C, 0, none⟩ = false := by rw [hws]; simp [go_sem, hdA, hdB, hdC]
    have kC1 : s44.cell? ⟨C, 1, none⟩ = some (.string ⟨#[]⟩) := by rw [hws]; simp [go_sem, hdA, hdB, hdC]
    have fC1 : s44.frozen? ⟨C, 1, none⟩ = false := by rw [hws]; simp [go_sem, hdA, hdB, hdC]
    have kC2 : s44.cell? ⟨C, 2, none⟩ = some (.string ⟨#[]⟩) := by rw [hws]; simp [go_sem, hdA, hdB, hdC]
    have fC2 : s44.frozen? ⟨C, 2, none⟩ = false := by rw [hws]; simp [go_sem, hdA, hdB, hdC]
    have zC : C < s44.heap.size := by omega
    have lC : w.heap.size ≤ C := by have := Nat.le_refl w.heap.size; omega
    rw [← hws]
    try rw [← hdC]
    try rw [← hdB]
    try rw [← hdA]
    clear hws hsz hdA hdB hdC
    have hBo := hBs; clear hBs
    refine (HX.out _).mono ?_; rintro e s45 ⟨rfl, hb⟩
    replace kA0 := belK hb kA0 zA; replace kA1 := belK hb kA1 zA; replace zA := Nat.lt_of_lt_of_le zA hb.size
    replace kB0 := belK hb kB0 zB; replace kB1 := belK hb kB1 zB; replace zB := Nat.lt_of_lt_of_le zB hb.size
    replace kC0 := belK hb kC0 zC; replace fC0 := belF hb fC0 zC; replace kC1 := belK hb kC1 zC; replace fC1 := belF hb fC1 zC; replace kC2 := belK hb kC2 zC; replace fC2 := belF hb fC2 zC; replace zC := Nat.lt_of_lt_of_le zC hb.size
    replace hBo := hBo.trans (hb.mono hBo.size)
    clear hb
    go_wp2_with fail
    obtain ⟨s46, hws⟩ : ∃ s, s = (s45.alloc (.cells #[.bool false, .string tx] 44)) := ⟨_, rfl⟩
    have hBs : Below w.heap.size w s46 := by rw [hws]; exact ((hBo).alloc (by exact hBo.size) _)
    obtain ⟨N, hdN⟩ : ∃ b, b = s45.heap.size := ⟨_, rfl⟩
    have hsz : s46.heap.size = s45.heap.size + 1 := by rw [hws]; simp
    have dCN : C ≠ N := by omega
    have hQC : ∀ p v, s45.cell? p = some v → s46.cell? p = some v := fun p v h => by rw [hws]; exact (alK h)
    have hQZ : ∀ b, b < s45.heap.size → b < s46.heap.size := fun b h => by omega
    have hQF : ∀ b j, b < s45.heap.size → s45.frozen? ⟨b, j, none⟩ = false → s46.frozen? ⟨b, j, none⟩ = false := fun b j z h => by rw [hws]; exact (alF z h)
    replace kA0 := hQC _ _ kA0; replace kA1 := hQC _ _ kA1; replace zA := hQZ _ zA
    replace kB0 := hQC _ _ kB0; replace kB1 := hQC _ _ kB1; replace zB := hQZ _ zB
    replace kC0 := hQC _ _ kC0; replace fC0 := hQF _ _ zC fC0; replace kC1 := hQC _ _ kC1; replace fC1 := hQF _ _ zC fC1; replace kC2 := hQC _ _ kC2; replace fC2 := hQF _ _ zC fC2; replace zC := hQZ _ zC
    clear hQC hQZ hQF
    have kN0 : s46.cell? ⟨N, 0, none⟩ = some (.bool false) := by rw [hws]; simp [go_sem, hdN]
    have kN1 : s46.cell? ⟨N, 1, none⟩ = some (.string tx) := by rw [hws]; simp [go_sem, hdN]
    have zN : N < s46.heap.size := by omega
    have lN : w.heap.size ≤ N := by have := hBo.size; omega
    rw [← hws]
    try rw [← hdN]
    clear hBo
    clear hws hsz hdN
    have hBo := hBs; clear hBs
    refine (HY.out _).mono ?_; rintro e s47 ⟨rfl, hb⟩
    replace kA0 := belK hb kA0 zA; replace kA1 := belK hb kA1 zA; replace zA := Nat.lt_of_lt_of_le zA hb.size
    replace kB0 := belK hb kB0 zB; replace kB1 := belK hb kB1 zB; replace zB := Nat.lt_of_lt_of_le zB hb.size
    replace kC0 := belK hb kC0 zC; replace fC0 := belF hb fC0 zC; replace kC1 := belK hb kC1 zC; replace fC1 := belF hb fC1 zC; replace kC2 := belK hb kC2 zC; replace fC2 := belF hb fC2 zC; replace zC := Nat.lt_of_lt_of_le zC hb.size
    replace kN0 := belK hb kN0 zN; replace kN1 := belK hb kN1 zN; replace zN := Nat.lt_of_lt_of_le zN hb.size
    replace hBo := hBo.trans (hb.mono hBo.size)
    clear hb
    go_wp2_with fail
    obtain ⟨s48, hws⟩ : ∃ s, s = (s47.alloc (.cells #[.bool true, .string ty] 44)) := ⟨_, rfl⟩
    have hBs : Below w.heap.size w s48 := by rw [hws]; exact ((hBo).alloc (by exact hBo.size) _)
    obtain ⟨M, hdM⟩ : ∃ b, b = s47.heap.size := ⟨_, rfl⟩
    have hsz : s48.heap.size = s47.heap.size + 1 := by rw [hws]; simp
    have dCM : C ≠ M := by omega
    have hQC : ∀ p v, s47.cell? p = some v → s48.cell? p = some v := fun p v h => by rw [hws]; exact (alK h)
    have hQZ : ∀ b, b < s47.heap.size → b < s48.heap.size := fun b h => by omega
    have hQF : ∀ b j, b < s47.heap.size → s47.frozen? ⟨b, j, none⟩ = false → s48.frozen? ⟨b, j, none⟩ = false := fun b j z h => by rw [hws]; exact (alF z h)
    replace kA0 := hQC _ _ kA0; replace kA1 := hQC _ _ kA1; replace zA := hQZ _ zA
    replace kB0 := hQC _ _ kB0; replace kB1 := hQC _ _ kB1; replace zB := hQZ _ zB
    replace kC0 := hQC _ _ kC0; replace fC0 := hQF _ _ zC fC0; replace kC1 := hQC _ _ kC1; replace fC1 := hQF _ _ zC fC1; replace kC2 := hQC _ _ kC2; replace fC2 := hQF _ _ zC fC2; replace zC := hQZ _ zC
    replace kN0 := hQC _ _ kN0; replace kN1 := hQC _ _ kN1; replace zN := hQZ _ zN
    clear hQC hQZ hQF
    have kM0 : s48.cell? ⟨M, 0, none⟩ = some (.bool true) := by rw [hws]; simp [go_sem, hdM]
    have kM1 : s48.cell? ⟨M, 1, none⟩ = some (.string ty) := by rw [hws]; simp [go_sem, hdM]
    have zM : M < s48.heap.size := by omega
    have lM : w.heap.size ≤ M := by have := hBo.size; omega
    rw [← hws]
    try rw [← hdM]
    clear hBo
    clear hws hsz hdM
    have hBo := hBs; clear hBs
    refine (HG.out _).mono ?_; rintro e s49 ⟨rfl, hb⟩
    replace kA0 := belK hb kA0 zA; replace kA1 := belK hb kA1 zA; replace zA := Nat.lt_of_lt_of_le zA hb.size
    replace kB0 := belK hb kB0 zB; replace kB1 := belK hb kB1 zB; replace zB := Nat.lt_of_lt_of_le zB hb.size
    replace kC0 := belK hb kC0 zC; replace fC0 := belF hb fC0 zC; replace kC1 := belK hb kC1 zC; replace fC1 := belF hb fC1 zC; replace kC2 := belK hb kC2 zC; replace fC2 := belF hb fC2 zC; replace zC := Nat.lt_of_lt_of_le zC hb.size
    replace kN0 := belK hb kN0 zN; replace kN1 := belK hb kN1 zN; replace zN := Nat.lt_of_lt_of_le zN hb.size
    replace kM0 := belK hb kM0 zM; replace kM1 := belK hb kM1 zM; replace zM := Nat.lt_of_lt_of_le zM hb.size
    replace hBo := hBo.trans (hb.mono hBo.size)
    clear hb
    go_wp2_with fail
    refine (HD1.out _).mono ?_; rintro e s50 ⟨rfl, hb⟩
    replace kA0 := belK hb kA0 zA; replace kA1 := belK hb kA1 zA; replace zA := Nat.lt_of_lt_of_le zA hb.size
    replace kB0 := belK hb kB0 zB; replace kB1 := belK hb kB1 zB; replace zB := Nat.lt_of_lt_of_le zB hb.size
    replace kC0 := belK hb kC0 zC; replace fC0 := belF hb fC0 zC; replace kC1 := belK hb kC1 zC; replace fC1 := belF hb fC1 zC; replace kC2 := belK hb kC2 zC; replace fC2 := belF hb fC2 zC; replace zC := Nat.lt_of_lt_of_le zC hb.size
    replace kN0 := belK hb kN0 zN; replace kN1 := belK hb kN1 zN; replace zN := Nat.lt_of_lt_of_le zN hb.size
    replace kM0 := belK hb kM0 zM; replace kM1 := belK hb kM1 zM; replace zM := Nat.lt_of_lt_of_le zM hb.size
    replace hBo := hBo.trans (hb.mono hBo.size)
    clear hb
    go_wp2_with fail
    refine (HD2.out _).mono ?_; rintro e s51 ⟨rfl, hb⟩
    replace kA0 := belK hb kA0 zA; replace kA1 := belK hb kA1 zA; replace zA := Nat.lt_of_lt_of_le zA hb.size
    replace kB0 := belK hb kB0 zB; replace kB1 := belK hb kB1 zB; replace zB := Nat.lt_of_lt_of_le zB hb.size
    replace kC0 := belK hb kC0 zC; replace fC0 := belF hb fC0 zC; replace kC1 := belK hb kC1 zC; replace fC1 := belF hb fC1 zC; replace kC2 := belK hb kC2 zC; replace fC2 := belF hb fC2 zC; replace zC := Nat.lt_of_lt_of_le zC hb.size
    replace kN0 := belK hb kN0 zN; replace kN1 := belK hb kN1 zN; replace zN := Nat.lt_of_lt_of_le zN hb.size
    replace kM0 := belK hb kM0 zM; replace kM1 := belK hb kM1 zM; replace zM := Nat.lt_of_lt_of_le zM hb.size
    replace hBo := hBo.trans (hb.mono hBo.size)
    clear hb
    go_wp2_with fail
    refine (HB3.out _).mono ?_; rintro e s52 ⟨rfl, hb⟩
    replace kA0 := belK hb kA0 zA; replace kA1 := belK hb kA1 zA; replace zA := Nat.lt_of_lt_of_le zA hb.size
    replace kB0 := belK hb kB0 zB; replace kB1 := belK hb kB1 zB; replace zB := Nat.lt_of_lt_of_le zB hb.size
    replace kC0 := belK hb kC0 zC; replace fC0 := belF hb fC0 zC; replace kC1 := belK hb kC1 zC; replace fC1 := belF hb fC1 zC; replace kC2 := belK hb kC2 zC; replace fC2 := belF hb fC2 zC; replace zC := Nat.lt_of_lt_of_le zC hb.size
    replace kN0 := belK hb kN0 zN; replace kN1 := belK hb kN1 zN; replace zN := Nat.lt_of_lt_of_le zN hb.size
    replace kM0 := belK hb kM0 zM; replace kM1 := belK hb kM1 zM; replace zM := Nat.lt_of_lt_of_le zM hb.size
    replace hBo := hBo.trans (hb.mono hBo.size)
    clear hb
    go_wp2_with fail
    refine (HB4.out _).mono ?_; rintro e s53 ⟨rfl, hb⟩
    replace kA0 := belK hb kA0 zA; replace kA1 := belK hb kA1 zA; replace zA := Nat.lt_of_lt_of_le zA hb.size
    replace kB0 := belK hb kB0 zB; replace kB1 := belK hb kB1 zB; replace zB := Nat.lt_of_lt_of_le zB hb.size
    replace kC0 := belK hb kC0 zC; replace fC0 := belF hb fC0 zC; replace kC1 := belK hb kC1 zC; replace fC1 := belF hb fC1 zC; replace kC2 := belK hb kC2 zC; replace fC2 := belF hb fC2 zC; replace zC := Nat.lt_of_lt_of_le zC hb.size
    replace kN0 := belK hb kN0 zN; replace kN1 := belK hb kN1 zN; replace zN := Nat.lt_of_lt_of_le zN hb.size
    replace kM0 := belK hb kM0 zM; replace kM1 := belK hb kM1 zM; replace zM := Nat.lt_of_lt_of_le zM hb.size
    replace hBo := hBo.trans (hb.mono hBo.size)
    clear hb
    all_goals go_wp2_with fail
    all_goals refine bodyPost_ret (v := .tuple #[.agg #[.bool true, .string tu, .string tv], .int .i64 0]) (by simp [results, Tryz.results44, go_sem, kC0, kC1, kC2, zC]) rfl ⟨rfl, ?_⟩
    all_goals exact (((hBo.setCell lC _).setCell lC _).setCell lC _)
  case true.false =>
    simp only [bne_self_eq_false, Bool.false_bne, Bool.true_bne, Bool.not_false]
    go_enter Tryz.func44, Tryz.ntmps44
    go_wp2_with fail
    obtain ⟨s54, hws⟩ : ∃ s, s = (((w.alloc (.cells #[.bool n1, .string m1] 44)).alloc (.cells #[.bool n2, .string m2] 44)).alloc (.cells #[.bool false, .string ⟨#[]⟩, .string ⟨#[]⟩] 23)) := ⟨_, rfl⟩
    have hBs : Below w.heap.size w s54 := by rw [hws]; exact ((((Below.refl w.heap.size w).alloc (by simp) _).alloc (by simp) _).alloc (by simp; omega) _)
    obtain ⟨A, hdA⟩ : ∃ b, b = w.heap.size := ⟨_, rfl⟩
    obtain ⟨B, hdB⟩ : ∃ b, b = w.heap.size + 1 := ⟨_, rfl⟩
    obtain ⟨C, hdC⟩ : ∃ b, b = w.heap.size + 1 + 1 := ⟨_, rfl⟩
    have hsz : s54.heap.size = w.heap.size + 1 + 1 + 1 := by rw [hws]; simp
    have dCA : C ≠ A := by omega
    have dCB : C ≠ B := by omega
    have kA0 : s54.cell? ⟨A, 0, none⟩ = some (.bool n1) := by rw [hws]; simp [go_sem, hdA, hdB, hdC]
    have kA1 : s54.cell? ⟨A, 1, none⟩ = some (.string m1) := by rw [hws]; simp [go_sem, hdA, hdB, hdC]
    have zA : A < s54.heap.size := by omega
    have lA : w.heap.size ≤ A := by have := Nat.le_refl w.heap.size; omega
    have kB0 : s54.cell? ⟨B, 0, none⟩ = some (.bool n2) := by rw [hws]; simp [go_sem, hdA, hdB, hdC]
    have kB1 : s54.cell? ⟨B, 1, none⟩ = some (.string m2) := by rw [hws]; simp [go_sem, hdA, hdB, hdC]
    have zB : B < s54.heap.size := by omega
    have lB : w.heap.size ≤ B := by have := Nat.le_refl w.heap.size; omega
    have kC0 : s54.cell? ⟨C, 0, none⟩ = some (.bool false) := by rw [hws]; simp [go_sem, hdA, hdB, hdC]
    have fC0 : s54.frozen? ⟨C, 0, none⟩ = false := by rw [hws]; simp [go_sem, hdA, hdB, hdC]
    have kC1 : s54.cell? ⟨C, 1, none⟩ = some (.string ⟨#[]⟩) := by rw [hws]; simp [go_sem, hdA, hdB, hdC]
    have fC1 : s54.frozen? ⟨C, 1, none⟩ = false := by rw [hws]; simp [go_sem, hdA, hdB, hdC]
    have kC2 : s54.cell? ⟨C, 2, none⟩ = some (.string ⟨#[]⟩) := by rw [hws]; simp [go_sem, hdA, hdB, hdC]
    have fC2 : s54.frozen? ⟨C, 2, none⟩ = false := by rw [hws]; simp [go_sem, hdA, hdB, hdC]
    have zC : C < s54.heap.size := by omega
    have lC : w.heap.size ≤ C := by have := Nat.le_refl w.heap.size; omega
    rw [← hws]
    try rw [← hdC]
    try rw [← hdB]
    try rw [← hdA]
    clear hws hsz hdA hdB hdC
    have hBo := hBs; clear hBs
    refine (HX.out _).mono ?_; rintro e s55 ⟨rfl, hb⟩
    replace kA0 := belK hb kA0 zA; replace kA1 := belK hb kA1 zA; replace zA := Nat.lt_of_lt_of_le zA hb.size
    replace kB0 := belK hb kB0 zB; replace kB1 := belK hb kB1 zB; replace zB := Nat.lt_of_lt_of_le zB hb.size
    replace kC0 := belK hb kC0 zC; replace fC0 := belF hb fC0 zC; replace kC1 := belK hb kC1 zC; replace fC1 := belF hb fC1 zC; replace kC2 := belK hb kC2 zC; replace fC2 := belF hb fC2 zC; replace zC := Nat.lt_of_lt_of_le zC hb.size
    replace hBo := hBo.trans (hb.mono hBo.size)
    clear hb
    go_wp2_with fail
    obtain ⟨s56, hws⟩ : ∃ s, s = (s55.alloc (.cells #[.bool true, .string tx] 44)) := ⟨_, rfl⟩
    have hBs : Below w.heap.size w s56 := by rw [hws]; exact ((hBo).alloc (by exact hBo.size) _)
    obtain ⟨N, hdN⟩ : ∃ b, b = s55.heap.size := ⟨_, rfl⟩
    have hsz : s56.heap.size = s55.heap.size + 1 := by rw [hws]; simp
    have dCN : C ≠ N := by omega
    have hQC : ∀ p v, s55.cell? p = some v → s56.cell? p = some v := fun p v h => by rw [hws]; exact (alK h)
    have hQZ : ∀ b, b < s55.heap.size → b < s56.heap.size := fun b h => by omega
    have hQF : ∀ b j, b < s55.heap.size → s55.frozen? ⟨b, j, none⟩ = false → s56.frozen? ⟨b, j, none⟩ = false := fun b j z h => by rw [hws]; exact (alF z h)
    replace kA0 := hQC _ _ kA0; replace kA1 := hQC _ _ kA1; replace zA := hQZ _ zA
    replace kB0 := hQC _ _ kB0; replace kB1 := hQC _ _ kB1; replace zB := hQZ _ zB
    replace kC0 := hQC _ _ kC0; replace fC0 := hQF _ _ zC fC0; replace kC1 := hQC _ _ kC1; replace fC1 := hQF _ _ zC fC1; replace kC2 := hQC _ _ kC2; replace fC2 := hQF _ _ zC fC2; replace zC := hQZ _ zC
    clear hQC hQZ hQF
    have kN0 : s56.cell? ⟨N, 0, none⟩ = some (.bool true) := by rw [hws]; simp [go_sem, hdN]
    have kN1 : s56.cell? ⟨N, 1, none⟩ = some (.string tx) := by rw [hws]; simp [go_sem, hdN]
    have zN : N < s56.heap.size := by omega
    have lN : w.heap.size ≤ N := by have := hBo.size; omega
    rw [← hws]
    try rw [← hdN]
    clear hBo
    clear hws hsz hdN
    have hBo := hBs; clear hBs
    refine (HY.out _).mono ?_; rintro e s57 ⟨rfl, hb⟩
    replace kA0 := belK hb kA0 zA; replace kA1 := belK hb kA1 zA; replace zA := Nat.lt_of_lt_of_le zA hb.size
    replace kB0 := belK hb kB0 zB; replace kB1 := belK hb kB1 zB; replace zB := Nat.lt_of_lt_of_le zB hb.size
    replace kC0 := belK hb kC0 zC; replace fC0 := belF hb fC0 zC; replace kC1 := belK hb kC1 zC; replace fC1 := belF hb fC1 zC; replace kC2 := belK hb kC2 zC; replace fC2 := belF hb fC2 zC; replace zC := Nat.lt_of_lt_of_le zC hb.size
    replace kN0 := belK hb kN0 zN; replace kN1 := belK hb kN1 zN; replace zN := Nat.lt_of_lt_of_le zN hb.size
    replace hBo := hBo.trans (hb.mono hBo.size)
    clear hb
    go_wp2_with fail
    obtain ⟨s58, hws⟩ : ∃ s, s = (s57.alloc (.cells #[.bool false, .string ty] 44)) := ⟨_, rfl⟩
    have hBs : Below w.heap.size w s58 := by rw [hws]; exact ((hBo).alloc (by exact hBo.size) _)
    obtain ⟨M, hdM⟩ : ∃ b, b = s57.heap.size := ⟨_, rfl⟩
    have hsz : s58.heap.size = s57.heap.size + 1 := by rw [hws]; simp
    have dCM : C ≠ M := by omega
    have hQC : ∀ p v, s57.cell? p = some v → s58.cell? p = some v := fun p v h => by rw [hws]; exact (alK h)
    have hQZ : ∀ b, b < s57.heap.size → b < s58.heap.size := fun b h => by omega
    have hQF : ∀ b j, b < s57.heap.size → s57.frozen? ⟨b, j, none⟩ = false → s58.frozen? ⟨b, j, none⟩ = false := fun b j z h => by rw [hws]; exact (alF z h)
    replace kA0 := hQC _ _ kA0; replace kA1 := hQC _ _ kA1; replace zA := hQZ _ zA
    replace kB0 := hQC _ _ kB0; replace kB1 := hQC _ _ kB1; replace zB := hQZ _ zB
    replace kC0 := hQC _ _ kC0; replace fC0 := hQF _ _ zC fC0; replace kC1 := hQC _ _ kC1; replace fC1 := hQF _ _ zC fC1; replace kC2 := hQC _ _ kC2; replace fC2 := hQF _ _ zC fC2; replace zC := hQZ _ zC
    replace kN0 := hQC _ _ kN0; replace kN1 := hQC _ _ kN1; replace zN := hQZ _ zN
    clear hQC hQZ hQF
    have kM0 : s58.cell? ⟨M, 0, none⟩ = some (.bool false) := by rw [hws]; simp [go_sem, hdM]
    have kM1 : s58.cell? ⟨M, 1, none⟩ = some (.string ty) := by rw [hws]; simp [go_sem, hdM]
    have zM : M < s58.heap.size := by omega
    have lM : w.heap.size ≤ M := by have := hBo.size; omega
    rw [← hws]
    try rw [← hdM]
    clear hBo
    clear hws hsz hdM
    have hBo := hBs; clear hBs
    refine (HG.out _).mono ?_; rintro e s59 ⟨rfl, hb⟩
    replace kA0 := belK hb kA0 zA; replace kA1 := belK hb kA1 zA; replace zA := Nat.lt_of_lt_of_le zA hb.size
    replace kB0 := belK hb kB0 zB; replace kB1 := belK hb kB1 zB; replace zB := Nat.lt_of_lt_of_le zB hb.size
    replace kC0 := belK hb kC0 zC; replace fC0 := belF hb fC0 zC; replace kC1 := belK hb kC1 zC; replace fC1 := belF hb fC1 zC; replace kC2 := belK hb kC2 zC; replace fC2 := belF hb fC2 zC; replace zC := Nat.lt_of_lt_of_le zC hb.size
    replace kN0 := belK hb kN0 zN; replace kN1 := belK hb kN1 zN; replace zN := Nat.lt_of_lt_of_le zN hb.size
    replace kM0 := belK hb kM0 zM; replace kM1 := belK hb kM1 zM; replace zM := Nat.lt_of_lt_of_le zM hb.size
    replace hBo := hBo.trans (hb.mono hBo.size)
    clear hb
    go_wp2_with fail
    refine (HD1.out _).mono ?_; rintro e s60 ⟨rfl, hb⟩
    replace kA0 := belK hb kA0 zA; replace kA1 := belK hb kA1 zA; replace zA := Nat.lt_of_lt_of_le zA hb.size
    replace kB0 := belK hb kB0 zB; replace kB1 := belK hb kB1 zB; replace zB := Nat.lt_of_lt_of_le zB hb.size
    replace kC0 := belK hb kC0 zC; replace fC0 := belF hb fC0 zC; replace kC1 := belK hb kC1 zC; replace fC1 := belF hb fC1 zC; replace kC2 := belK hb kC2 zC; replace fC2 := belF hb fC2 zC; replace zC := Nat.lt_of_lt_of_le zC hb.size
    replace kN0 := belK hb kN0 zN; replace kN1 := belK hb kN1 zN; replace zN := Nat.lt_of_lt_of_le zN hb.size
    replace kM0 := belK hb kM0 zM; replace kM1 := belK hb kM1 zM; replace zM := Nat.lt_of_lt_of_le zM hb.size
    replace hBo := hBo.trans (hb.mono hBo.size)
    clear hb
    go_wp2_with fail
    refine (HD2.out _).mono ?_; rintro e s61 ⟨rfl, hb⟩
    replace kA0 := belK hb kA0 zA; replace kA1 := belK hb kA1 zA; replace zA := Nat.lt_of_lt_of_le zA hb.size
    replace kB0 := belK hb kB0 zB; replace kB1 := belK hb kB1 zB; replace zB := Nat.lt_of_lt_of_le zB hb.size
    replace kC0 := belK hb kC0 zC; replace fC0 := belF hb fC0 zC; replace kC1 := belK hb kC1 zC; replace fC1 := belF hb fC1 zC; replace kC2 := belK hb kC2 zC; replace fC2 := belF hb fC2 zC; replace zC := Nat.lt_of_lt_of_le zC hb.size
    replace kN0 := belK hb kN0 zN; replace kN1 := belK hb kN1 zN; replace zN := Nat.lt_of_lt_of_le zN hb.size
    replace kM0 := belK hb kM0 zM; replace kM1 := belK hb kM1 zM; replace zM := Nat.lt_of_lt_of_le zM hb.size
    replace hBo := hBo.trans (hb.mono hBo.size)
    clear hb
    go_wp2_with fail
    refine (HB3.out _).mono ?_; rintro e s62 ⟨rfl, hb⟩
    replace kA0 := belK hb kA0 zA; replace kA1 := belK hb kA1 zA; replace zA := Nat.lt_of_lt_of_le zA hb.size
    replace kB0 := belK hb kB0 zB; replace kB1 := belK hb kB1 zB; replace zB := Nat.lt_of_lt_of_le zB hb.size
    replace kC0 := belK hb kC0 zC; replace fC0 := belF hb fC0 zC; replace kC1 := belK hb kC1 zC; replace fC1 := belF hb fC1 zC; replace kC2 := belK hb kC2 zC; replace fC2 := belF hb fC2 zC; replace zC := Nat.lt_of_lt_of_le zC hb.size
    replace kN0 := belK hb kN0 zN; replace kN1 := belK hb kN1 zN; replace zN := Nat.lt_of_lt_of_le zN hb.size
    replace kM0 := belK hb kM0 zM; replace kM1 := belK hb kM1 zM; replace zM := Nat.lt_of_lt_of_le zM hb.size
    replace hBo := hBo.trans (hb.mono hBo.size)
    clear hb
    go_wp2_with fail
    refine (HB4.out _).mono ?_; rintro e s63 ⟨rfl, hb⟩
    replace kA0 := belK hb kA0 zA; replace kA1 := belK hb kA1 zA; replace zA := Nat.lt_of_lt_of_le zA hb.size
    replace kB0 := belK hb kB0 zB; replace kB1 := belK hb kB1 zB; replace zB := Nat.lt_of_lt_of_le zB hb.size
    replace kC0 := belK hb kC0 zC; replace fC0 := belF hb fC0 zC; replace kC1 := belK hb kC1 zC; replace fC1 := belF hb fC1 zC; replace kC2 := belK hb kC2 zC; replace fC2 := belF hb fC2 zC; replace zC := Nat.lt_of_lt_of_le zC hb.size
    replace kN0 := belK hb kN0 zN; replace kN1 := belK hb kN1 zN; replace zN := Nat.lt_of_lt_of_le zN hb.size
    replace kM0 := belK hb kM0 zM; replace kM1 := belK hb kM1 zM; replace zM := Nat.lt_of_lt_of_le zM hb.size
    replace hBo := hBo.trans (hb.mono hBo.size)
    clear hb
    all_goals go_wp2_with fail
    all_goals refine bodyPost_ret (v := .tuple #[.agg #[.bool true, .string tu, .string tv], .int .i64 0]) (by simp [results, Tryz.results44, go_sem, kC0, kC1, kC2, zC]) rfl ⟨rfl, ?_⟩
    all_goals exact (((hBo.setCell lC _).setCell lC _).setCell lC _)
  case true.true =>
    simp only [bne_self_eq_false, Bool.false_bne, Bool.true_bne, Bool.not_false]
    go_enter Tryz.func44, Tryz.ntmps44
    go_wp2_with fail
    obtain ⟨s64, hws⟩ : ∃ s, s = (((w.alloc (.cells #[.bool n1, .string m1] 44)).alloc (.cells #[.bool n2, .string m2] 44)).alloc (.cells #[.bool false, .string ⟨#[]⟩, .string ⟨#[]⟩] 23)) := ⟨_, rfl⟩
    have hBs : Below w.heap.size w s64 := by rw [hws]; exact ((((Below.refl w.heap.size w).alloc (by simp) _).alloc (by simp) _).alloc (by simp; omega) _)
    obtain ⟨A, hdA⟩ : ∃ b, b = w.heap.size := ⟨_, rfl⟩
    obtain ⟨B, hdB⟩ : ∃ b, b = w.heap.size + 1 := ⟨_, rfl⟩
    obtain ⟨C, hdC⟩ : ∃ b, b = w.heap.size + 1 + 1 := ⟨_, rfl⟩
    have hsz : s64.heap.size = w.heap.size + 1 + 1 + 1 := by rw [hws]; simp
    have dCA : C ≠ A := by omega
    have dCB : C ≠ B := by omega
    have kA0 : s64.cell? ⟨A, 0, none⟩ = some (.bool n1) := by rw [hws]; simp [go_sem, hdA, hdB, hdC]
    have kA1 : s64.cell? ⟨A, 1, none⟩ = some (.string m1) := by rw [hws]; simp [go_sem, hdA, hdB, hdC]
    have zA : A < s64.heap.size := by omega
    have lA : w.heap.size ≤ A := by have := Nat.le_refl w.heap.size; omega
    have kB0 : s64.cell? ⟨B, 0, none⟩ = some (.bool n2) := by rw [hws]; simp [go_sem, hdA, hdB, hdC]
    have kB1 : s64.cell? ⟨B, 1, none⟩ = some (.string m2) := by rw [hws]; simp [go_sem, hdA, hdB, hdC]
    have zB : B < s64.heap.size := by omega
    have lB : w.heap.size ≤ B := by have := Nat.le_refl w.heap.size; omega
    have kC0 : s64.cell? ⟨C, 0, none⟩ = some (.bool false) := by rw [hws]; simp [go_sem, hdA, hdB, hdC]
    have fC0 : s64.frozen? ⟨C, 0, none⟩ = false := by rw [hws]; simp [go_sem, hdA, hdB, hdC]
    have kC1 : s64.cell? ⟨C, 1, none⟩ = some (.string ⟨#[]⟩) := by rw [hws]; simp [go_sem, hdA, hdB, hdC]
    have fC1 : s64.frozen? ⟨C, 1, none⟩ = false := by rw [hws]; simp [go_sem, hdA, hdB, hdC]
    have kC2 : s64.cell? ⟨C, 2, none⟩ = some (.string ⟨#[]⟩) := by rw [hws]; simp [go_sem, hdA, hdB, hdC]
    have fC2 : s64.frozen? ⟨C, 2, none⟩ = false := by rw [hws]; simp [go_sem, hdA, hdB, hdC]
    have zC : C < s64.heap.size := by omega
    have lC : w.heap.size ≤ C := by have := Nat.le_refl w.heap.size; omega
    rw [← hws]
    try rw [← hdC]
    try rw [← hdB]
    try rw [← hdA]
    clear hws hsz hdA hdB hdC
    have hBo := hBs; clear hBs
    refine (HX.out _).mono ?_; rintro e s65 ⟨rfl, hb⟩
    replace kA0 := belK hb kA0 zA; replace kA1 := belK hb kA1 zA; replace zA := Nat.lt_of_lt_of_le zA hb.size
    replace kB0 := belK hb kB0 zB; replace kB1 := belK hb kB1 zB; replace zB := Nat.lt_of_lt_of_le zB hb.size
    replace kC0 := belK hb kC0 zC; replace fC0 := belF hb fC0 zC; replace kC1 := belK hb kC1 zC; replace fC1 := belF hb fC1 zC; replace kC2 := belK hb kC2 zC; replace fC2 := belF hb fC2 zC; replace zC := Nat.lt_of_lt_of_le zC hb.size
    replace hBo := hBo.trans (hb.mono hBo.size)
    clear hb
    go_wp2_with fail
    obtain ⟨s66, hws⟩ : ∃ s, s = (s65.alloc (.cells #[.bool true, .string tx] 44)) := ⟨_, rfl⟩
    have hBs : Below w.heap.size w s66 := by rw [hws]; exact ((hBo).alloc (by exact hBo.size) _)
    obtain ⟨N, hdN⟩ : ∃ b, b = s65.heap.size := ⟨_, rfl⟩
    have hsz : s66.heap.size = s65.heap.size + 1 := by rw [hws]; simp
    have dCN : C ≠ N := by omega
    have hQC : ∀ p v, s65.cell? p = some v → s66.cell? p = some v := fun p v h => by rw [hws]; exact (alK h)
    have hQZ : ∀ b, b < s65.heap.size → b < s66.heap.size := fun b h => by omega
    have hQF : ∀ b j, b < s65.heap.size → s65.frozen? ⟨b, j, none⟩ = false → s66.frozen? ⟨b, j, none⟩ = false := fun b j z h => by rw [hws]; exact (alF z h)
    replace kA0 := hQC _ _ kA0; replace kA1 := hQC _ _ kA1; replace zA := hQZ _ zA
    replace kB0 := hQC _ _ kB0; replace kB1 := hQC _ _ kB1; replace zB := hQZ _ zB
    replace kC0 := hQC _ _ kC0; replace fC0 := hQF _ _ zC fC0; replace kC1 := hQC _ _ kC1; replace fC1 := hQF _ _ zC fC1; replace kC2 := hQC _ _ kC2; replace fC2 := hQF _ _ zC fC2; replace zC := hQZ _ zC
    clear hQC hQZ hQF
    have kN0 : s66.cell? ⟨N, 0, none⟩ = some (.bool true) := by rw [hws]; simp [go_sem, hdN]
    have kN1 : s66.cell? ⟨N, 1, none⟩ = some (.string tx) := by rw [hws]; simp [go_sem, hdN]
    have zN : N < s66.heap.size := by omega
    have lN : w.heap.size ≤ N := by have := hBo.size; omega
    rw [← hws]
    try rw [← hdN]
    clear hBo
    clear hws hsz hdN
    have hBo := hBs; clear hBs
    refine (HY.out _).mono ?_; rintro e s67 ⟨rfl, hb⟩
    replace kA0 := belK hb kA0 zA; replace kA1 := belK hb kA1 zA; replace zA := Nat.lt_of_lt_of_le zA hb.size
    replace kB0 := belK hb kB0 zB; replace kB1 := belK hb kB1 zB; replace zB := Nat.lt_of_lt_of_le zB hb.size
    replace kC0 := belK hb kC0 zC; replace fC0 := belF hb fC0 zC; replace kC1 := belK hb kC1 zC; replace fC1 := belF hb fC1 zC; replace kC2 := belK hb kC2 zC; replace fC2 := belF hb fC2 zC; replace zC := Nat.lt_of_lt_of_le zC hb.size
    replace kN0 := belK hb kN0 zN; replace kN1 := belK hb kN1 zN; replace zN := Nat.lt_of_lt_of_le zN hb.size
    replace hBo := hBo.trans (hb.mono hBo.size)
    clear hb
    go_wp2_with fail
    obtain ⟨s68, hws⟩ : ∃ s, s = (s67.alloc (.cells #[.bool true, .string ty] 44)) := ⟨_, rfl⟩
    have hBs : Below w.heap.size w s68 := by rw [hws]; exact ((hBo).alloc (by exact hBo.size) _)
    obtain ⟨M, hdM⟩ : ∃ b, b = s67.heap.size := ⟨_, rfl⟩
    have hsz : s68.heap.size = s67.heap.size + 1 := by rw [hws]; simp
    have dCM : C ≠ M := by omega
    have hQC : ∀ p v, s67.cell? p = some v → s68.cell? p = some v := fun p v h => by rw [hws]; exact (alK h)
    have hQZ : ∀ b, b < s67.heap.size → b < s68.heap.size := fun b h => by omega
    have hQF : ∀ b j, b < s67.heap.size → s67.frozen? ⟨b, j, none⟩ = false → s68.frozen? ⟨b, j, none⟩ = false := fun b j z h => by rw [hws]; exact (alF z h)
    replace kA0 := hQC _ _ kA0; replace kA1 := hQC _ _ kA1; replace zA := hQZ _ zA
    replace kB0 := hQC _ _ kB0; replace kB1 := hQC _ _ kB1; replace zB := hQZ _ zB
    replace kC0 := hQC _ _ kC0; replace fC0 := hQF _ _ zC fC0; replace kC1 := hQC _ _ kC1; replace fC1 := hQF _ _ zC fC1; replace kC2 := hQC _ _ kC2; replace fC2 := hQF _ _ zC fC2; replace zC := hQZ _ zC
    replace kN0 := hQC _ _ kN0; replace kN1 := hQC _ _ kN1; replace zN := hQZ _ zN
    clear hQC hQZ hQF
    have kM0 : s68.cell? ⟨M, 0, none⟩ = some (.bool true) := by rw [hws]; simp [go_sem, hdM]
    have kM1 : s68.cell? ⟨M, 1, none⟩ = some (.string ty) := by rw [hws]; simp [go_sem, hdM]
    have zM : M < s68.heap.size := by omega
    have lM : w.heap.size ≤ M := by have := hBo.size; omega
    rw [← hws]
    try rw [← hdM]
    clear hBo
    clear hws hsz hdM
    have hBo := hBs; clear hBs
    refine (HG.out _).mono ?_; rintro e s69 ⟨rfl, hb⟩
    replace kA0 := belK hb kA0 zA; replace kA1 := belK hb kA1 zA; replace zA := Nat.lt_of_lt_of_le zA hb.size
    replace kB0 := belK hb kB0 zB; replace kB1 := belK hb kB1 zB; replace zB := Nat.lt_of_lt_of_le zB hb.size
    replace kC0 := belK hb kC0 zC; replace fC0 := belF hb fC0 zC; replace kC1 := belK hb kC1 zC; replace fC1 := belF hb fC1 zC; replace kC2 := belK hb kC2 zC; replace fC2 := belF hb fC2 zC; replace zC := Nat.lt_of_lt_of_le zC hb.size
    replace kN0 := belK hb kN0 zN; replace kN1 := belK hb kN1 zN; replace zN := Nat.lt_of_lt_of_le zN hb.size
    replace kM0 := belK hb kM0 zM; replace kM1 := belK hb kM1 zM; replace zM := Nat.lt_of_lt_of_le zM hb.size
    replace hBo := hBo.trans (hb.mono hBo.size)
    clear hb
    go_wp2_with fail
    refine (HD1.out _).mono ?_; rintro e s70 ⟨rfl, hb⟩
    replace kA0 := belK hb kA0 zA; replace kA1 := belK hb kA1 zA; replace zA := Nat.lt_of_lt_of_le zA hb.size
    replace kB0 := belK hb kB0 zB; replace kB1 := belK hb kB1 zB; replace zB := Nat.lt_of_lt_of_le zB hb.size
    replace kC0 := belK hb kC0 zC; replace fC0 := belF hb fC0 zC; replace kC1 := belK hb kC1 zC; replace fC1 := belF hb fC1 zC; replace kC2 := belK hb kC2 zC; replace fC2 := belF hb fC2 zC; replace zC := Nat.lt_of_lt_of_le zC hb.size
    replace kN0 := belK hb kN0 zN; replace kN1 := belK hb kN1 zN; replace zN := Nat.lt_of_lt_of_le zN hb.size
    replace kM0 := belK hb kM0 zM; replace kM1 := belK hb kM1 zM; replace zM := Nat.lt_of_lt_of_le zM hb.size
    replace hBo := hBo.trans (hb.mono hBo.size)
    clear hb
    go_wp2_with fail
    refine (HD2.out _).mono ?_; rintro e s71 ⟨rfl, hb⟩
    replace kA0 := belK hb kA0 zA; replace kA1 := belK hb kA1 zA; replace zA := Nat.lt_of_lt_of_le zA hb.size
    replace kB0 := belK hb kB0 zB; replace kB1 := belK hb kB1 zB; replace zB := Nat.lt_of_lt_of_le zB hb.size
    replace kC0 := belK hb kC0 zC; replace fC0 := belF hb fC0 zC; replace kC1 := belK hb kC1 zC; replace fC1 := belF hb fC1 zC; replace kC2 := belK hb kC2 zC; replace fC2 := belF hb fC2 zC; replace zC := Nat.lt_of_lt_of_le zC hb.size
    replace kN0 := belK hb kN0 zN; replace kN1 := belK hb kN1 zN; replace zN := Nat.lt_of_lt_of_le zN hb.size
    replace kM0 := belK hb kM0 zM; replace kM1 := belK hb kM1 zM; replace zM := Nat.lt_of_lt_of_le zM hb.size
    replace hBo := hBo.trans (hb.mono hBo.size)
    clear hb
    go_wp2_with fail
    refine (HB3.out _).mono ?_; rintro e s72 ⟨rfl, hb⟩
    replace kA0 := belK hb kA0 zA; replace kA1 := belK hb kA1 zA; replace zA := Nat.lt_of_lt_of_le zA hb.size
    replace kB0 := belK hb kB0 zB; replace kB1 := belK hb kB1 zB; replace zB := Nat.lt_of_lt_of_le zB hb.size
    replace kC0 := belK hb kC0 zC; replace fC0 := belF hb fC0 zC; replace kC1 := belK hb kC1 zC; replace fC1 := belF hb fC1 zC; replace kC2 := belK hb kC2 zC; replace fC2 := belF hb fC2 zC; replace zC := Nat.lt_of_lt_of_le zC hb.size
    replace kN0 := belK hb kN0 zN; replace kN1 := belK hb kN1 zN; replace zN := Nat.lt_of_lt_of_le zN hb.size
    replace kM0 := belK hb kM0 zM; replace kM1 := belK hb kM1 zM; replace zM := Nat.lt_of_lt_of_le zM hb.size
    replace hBo := hBo.trans (hb.mono hBo.size)
    clear hb
    go_wp2_with fail
    refine (HB4.out _).mono ?_; rintro e s73 ⟨rfl, hb⟩
    replace kA0 := belK hb kA0 zA; replace kA1 := belK hb kA1 zA; replace zA := Nat.lt_of_lt_of_le zA hb.size
    replace kB0 := belK hb kB0 zB; replace kB1 := belK hb kB1 zB; replace zB := Nat.lt_of_lt_of_le zB hb.size
    replace kC0 := belK hb kC0 zC; replace fC0 := belF hb fC0 zC; replace kC1 := belK hb kC1 zC; replace fC1 := belF hb fC1 zC; replace kC2 := belK hb kC2 zC; replace fC2 := belF hb fC2 zC; replace zC := Nat.lt_of_lt_of_le zC hb.size
    replace kN0 := belK hb kN0 zN; replace kN1 := belK hb kN1 zN; replace zN := Nat.lt_of_lt_of_le zN hb.size
    replace kM0 := belK hb kM0 zM; replace kM1 := belK hb kM1 zM; replace zM := Nat.lt_of_lt_of_le zM hb.size
    replace hBo := hBo.trans (hb.mono hBo.size)
    clear hb
    all_goals go_wp2_with fail
    all_goals refine bodyPost_ret (v := .tuple #[.agg #[.bool false, .string tu, .string tv], .int .i64 0]) (by simp [results, Tryz.results44, go_sem, kC0, kC1, kC2, zC]) rfl ⟨rfl, ?_⟩
    all_goals exact (((hBo.setCell lC _).setCell lC _).setCell lC _)
end Go.Proofs.YtbgmnpabclfjaaaGreatDoor
