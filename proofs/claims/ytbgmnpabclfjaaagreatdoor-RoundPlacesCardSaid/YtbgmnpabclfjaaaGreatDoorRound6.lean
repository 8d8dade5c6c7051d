/-
  NUMBERS, ROUNDED TO PLACES, IN THE DOCUMENT: its steps.
-/
import Derived.Test.YtbgmnpabclfjaaaGreatDoorRound5
namespace Go.Proofs.YtbgmnpabclfjaaaGreatDoor
open Go.RowKit Go.Shelf
set_option linter.unusedSimpArgs false
set_option linter.unusedVariables false

theorem refAdd_zz (x y p : Int) (w : World) (hx : (zt x).size ≤ 1000) (hy : (zt y).size ≤ 1000) (hp : x + y = p) :
    Calls Tryz.prog 52 #[.agg #[.bool (zb x), .string (zt x)], .agg #[.bool (zb y), .string (zt y)]] w fun e w' => e = .returned (.agg #[.bool (zb p), .string (zt p)]) ∧ Below w.heap.size w w' :=
  refAdd4_any (zb x) (zb y) (zt x) (zt y) p w hx hy (by rw [sI_z, sI_z, hp])
theorem refMul_zz (x y p : Int) (w : World) (hx : (zt x).size ≤ 1000) (hy : (zt y).size ≤ 1000) (hp : x * y = p) :
    Calls Tryz.prog 53 #[.agg #[.bool (zb x), .string (zt x)], .agg #[.bool (zb y), .string (zt y)]] w fun e w' => e = .returned (.agg #[.bool (zb p), .string (zt p)]) ∧ Below w.heap.size w w' :=
  refMul4_any (zb x) (zb y) (zt x) (zt y) p w hx hy (by rw [sI_z, sI_z, hp])
theorem refCmp_zz (x y c : Int) (w : World) (hx : (zt x).size ≤ 1000) (hy : (zt y).size ≤ 1000) (hc : cmpI' x y = c) :
    Calls Tryz.prog 55 #[.agg #[.bool (zb x), .string (zt x)], .agg #[.bool (zb y), .string (zt y)]] w fun e w' => e = .returned (.int .i64 c) ∧ Below w.heap.size w w' :=
  refCmp4_any (zb x) (zb y) (zt x) (zt y) c w hx hy (by rw [sI_z, sI_z, hc])
def stepI (P : Away) (a b : Int) : Int := flq a b + if P (flr a b).natAbs b.natAbs then 1 else 0
theorem stepI_yes {P : Away} {a b : Int} (h : P (flr a b).natAbs b.natAbs = true) : stepI P a b = flq a b + 1 := by unfold stepI; rw [h]; rfl
theorem stepI_no {P : Away} {a b : Int} (h : P (flr a b).natAbs b.natAbs = false) : stepI P a b = flq a b := by unfold stepI; rw [h]; simp
theorem zt_ne_nil {x : Int} (h : x ≠ 0) : zt x ≠ ⟨#[]⟩ := fun h2 => h (zt_nil.2 h2)

set_option maxRecDepth 100000 in
set_option maxHeartbeats 16000000 in
theorem stepDown_any (a b p : Int) (w : World) (ha : (zt a).size ≤ 200) (hb : (zt b).size ≤ 200) (h0 : 0 ≤ a) (h1 : 0 < b) (hp : stepI awayDown a b = p) :
    Calls Tryz.prog 100 #[.agg #[.bool (zb a), .string (zt a)], .agg #[.bool (zb b), .string (zt b)], .int .i64 0] w fun e w' => e = .returned (.agg #[.bool (zb p), .string (zt p)]) ∧ Below w.heap.size w w' := by
  have hfl := fun w => refFloor_zz a b _ _ w (by omega) (by omega) (by omega) rfl rfl
  have HO := Lib.hid refOne_any
  have sf := Nat.le_trans (zt_mono (flq_abs a b)) ha
  have sl := Nat.le_trans (zt_mono (Nat.le_of_lt (flr_abs (x := a) (y := b) (by omega)))) hb
  have hl0 : 0 ≤ flr a b := by rw [flr_pos h1]; exact Int.emod_nonneg _ (by omega)
  have had := fun w => refAdd_zz (flq a b) 1 _ w (by omega) (by decide) rfl
  rw [stepI_no (by rfl)] at hp
  rw [hp] at hfl
  generalize flr a b = l at *
  have HFL := Lib.hid hfl
  clear hfl had sf sl hl0 ha hb h0 h1 hp HO
  go_enter Tryz.func100, Tryz.ntmps100
  go_wp2_with fail
  obtain ⟨s1, hws⟩ : ∃ s, s = (((w.alloc (.cells #[.bool (zb a), .string (zt a)] 44)).alloc (.cells #[.bool (zb b), .string (zt b)] 44)).alloc (.cells #[.bool false, .string ⟨#[]⟩] 44)) := ⟨_, rfl⟩
  have hBs : Below w.heap.size w s1 := by rw [hws]; exact ((((Below.refl w.heap.size w).alloc (by simp) _).alloc (by simp) _).alloc (by simp; omega) _)
  obtain ⟨A, hdA⟩ : ∃ b, b = w.heap.size := ⟨_, rfl⟩
  obtain ⟨B, hdB⟩ : ∃ b, b = w.heap.size + 1 := ⟨_, rfl⟩
  obtain ⟨C, hdC⟩ : ∃ b, b = w.heap.size + 1 + 1 := ⟨_, rfl⟩
  have hsz : s1.heap.size = w.heap.size + 1 + 1 + 1 := by rw [hws]; simp
  have dCA : C ≠ A := by omega
  have dCB : C ≠ B := by omega
  have kA0 : s1.cell? ⟨A, 0, none⟩ = some (.bool (zb a)) := by rw [hws]; simp [go_sem, hdA, hdB, hdC]
  have kA1 : s1.cell? ⟨A, 1, none⟩ = some (.string (zt a)) := by rw [hws]; simp [go_sem, hdA, hdB, hdC]
  have zA : A < s1.heap.size := by omega
  have lA : w.heap.size ≤ A := by have := Nat.le_refl w.heap.size; omega
  have kB0 : s1.cell? ⟨B, 0, none⟩ = some (.bool (zb b)) := by rw [hws]; simp [go_sem, hdA, hdB, hdC]
  have kB1 : s1.cell? ⟨B, 1, none⟩ = some (.string (zt b)) := by rw [hws]; simp [go_sem, hdA, hdB, hdC]
  have zB : B < s1.heap.size := by omega
  have lB : w.heap.size ≤ B := by have := Nat.le_refl w.heap.size; omega
  have kC0 : s1.cell? ⟨C, 0, none⟩ = some (.bool false) := by rw [hws]; simp [go_sem, hdA, hdB, hdC]
  have fC0 : s1.frozen? ⟨C, 0, none⟩ = false := by rw [hws]; simp [go_sem, hdA, hdB, hdC]
  have kC1 : s1.cell? ⟨C, 1, none⟩ = some (.string ⟨#[]⟩) := by rw [hws]; simp [go_sem, hdA, hdB, hdC]
  have fC1 : s1.frozen? ⟨C, 1, none⟩ = false := by rw [hws]; simp [go_sem, hdA, hdB, hdC]
  have zC : C < s1.heap.size := by omega
  have lC : w.heap.size ≤ C := by have := Nat.le_refl w.heap.size; omega
  rw [← hws]
  try rw [← hdC]
  try rw [← hdB]
  try rw [← hdA]
  clear hws hsz hdA hdB hdC
  have hBo := hBs; clear hBs
  refine (HFL.out _).mono ?_; rintro e s2 ⟨rfl, hb⟩
  replace kA0 := belK hb kA0 zA; replace kA1 := belK hb kA1 zA; replace zA := Nat.lt_of_lt_of_le zA hb.size
  replace kB0 := belK hb kB0 zB; replace kB1 := belK hb kB1 zB; replace zB := Nat.lt_of_lt_of_le zB hb.size
  replace kC0 := belK hb kC0 zC; replace fC0 := belF hb fC0 zC; replace kC1 := belK hb kC1 zC; replace fC1 := belF hb fC1 zC; replace zC := Nat.lt_of_lt_of_le zC hb.size
  replace hBo := hBo.trans (hb.mono hBo.size)
  clear hb
  go_wp2_with fail
  obtain ⟨s3, hws⟩ : ∃ s, s = ((s2.alloc (.cells #[.bool (zb p), .string (zt p)] 44)).alloc (.cells #[.bool (zb l), .string (zt l)] 44)) := ⟨_, rfl⟩
  have hBs : Below w.heap.size w s3 := by rw [hws]; exact (((hBo).alloc (by exact hBo.size) _).alloc (by have := hBo.size; simp; omega) _)
  obtain ⟨Q, hdQ⟩ : ∃ b, b = s2.heap.size := ⟨_, rfl⟩
  obtain ⟨S, hdS⟩ : ∃ b, b = s2.heap.size + 1 := ⟨_, rfl⟩
  have hsz : s3.heap.size = s2.heap.size + 1 + 1 := by rw [hws]; simp
  have dCQ : C ≠ Q := by omega
  have dCS : C ≠ S := by omega
  have hQC : ∀ p v, s2.cell? p = some v → s3.cell? p = some v := fun p v h => by rw [hws]; exact (alK (alK h))
  have hQZ : ∀ b, b < s2.heap.size → b < s3.heap.size := fun b h => by omega
  have hQF : ∀ b j, b < s2.heap.size → s2.frozen? ⟨b, j, none⟩ = false → s3.frozen? ⟨b, j, none⟩ = false := fun b j z h => by rw [hws]; exact (alF (alZ z) (alF z h))
  replace kA0 := hQC _ _ kA0; replace kA1 := hQC _ _ kA1; replace zA := hQZ _ zA
  replace kB0 := hQC _ _ kB0; replace kB1 := hQC _ _ kB1; replace zB := hQZ _ zB
  replace kC0 := hQC _ _ kC0; replace fC0 := hQF _ _ zC fC0; replace kC1 := hQC _ _ kC1; replace fC1 := hQF _ _ zC fC1; replace zC := hQZ _ zC
  clear hQC hQZ hQF
  have kQ0 : s3.cell? ⟨Q, 0, none⟩ = some (.bool (zb p)) := by rw [hws]; simp [go_sem, hdQ, hdS]
  have kQ1 : s3.cell? ⟨Q, 1, none⟩ = some (.string (zt p)) := by rw [hws]; simp [go_sem, hdQ, hdS]
  have zQ : Q < s3.heap.size := by omega
  have lQ : w.heap.size ≤ Q := by have := hBo.size; omega
  have kS0 : s3.cell? ⟨S, 0, none⟩ = some (.bool (zb l)) := by rw [hws]; simp [go_sem, hdQ, hdS]
  have kS1 : s3.cell? ⟨S, 1, none⟩ = some (.string (zt l)) := by rw [hws]; simp [go_sem, hdQ, hdS]
  have zS : S < s3.heap.size := by omega
  have lS : w.heap.size ≤ S := by have := hBo.size; omega
  rw [← hws]
  try rw [← hdS]
  try rw [← hdQ]
  clear hBo
  clear hws hsz hdQ hdS
  have hBo := hBs; clear hBs
  go_quiet (fail)
  go_wp2_with fail
  refine bodyPost_ret (v := .agg #[.bool (zb p), .string (zt p)]) (by simp [results, Tryz.results100, go_sem, kA0, kA1, kB0, kB1, kC0, kC1, kQ0, kQ1, kS0, kS1, zA, zB, zC, zQ, zS]) rfl ⟨rfl, ?_⟩
  exact (((below_drewN hBo _).setCell lC _).setCell lC _)

set_option maxRecDepth 100000 in
set_option maxHeartbeats 16000000 in
theorem stepUp_any (a b p : Int) (w : World) (ha : (zt a).size ≤ 200) (hb : (zt b).size ≤ 200) (h0 : 0 ≤ a) (h1 : 0 < b) (hp : stepI awayUp a b = p) :
    Calls Tryz.prog 100 #[.agg #[.bool (zb a), .string (zt a)], .agg #[.bool (zb b), .string (zt b)], .int .i64 1] w fun e w' => e = .returned (.agg #[.bool (zb p), .string (zt p)]) ∧ Below w.heap.size w w' := by
  have hfl := fun w => refFloor_zz a b _ _ w (by omega) (by omega) (by omega) rfl rfl
  have HO := Lib.hid refOne_any
  have sf := Nat.le_trans (zt_mono (flq_abs a b)) ha
  have sl := Nat.le_trans (zt_mono (Nat.le_of_lt (flr_abs (x := a) (y := b) (by omega)))) hb
  have hl0 : 0 ≤ flr a b := by rw [flr_pos h1]; exact Int.emod_nonneg _ (by omega)
  have had := fun w => refAdd_zz (flq a b) 1 _ w (by omega) (by decide) rfl
  by_cases hz : flr a b = 0
  · rw [stepI_no (by rw [hz]; rfl)] at hp
    rw [hp, hz, zt_nil.1 rfl] at hfl
    have HFL := Lib.hid hfl
    clear hfl had sf sl hl0 ha hb h0 h1 hp HO hz
    go_enter Tryz.func100, Tryz.ntmps100
    go_wp2_with fail
    obtain ⟨s4, hws⟩ : ∃ s, s = (((w.alloc (.cells #[.bool (zb a), .string (zt a)] 44)).alloc (.cells #[.bool (zb b), .string (zt b)] 44)).alloc (.cells #[.bool false, .string ⟨#[]⟩] 44)) := ⟨_, rfl⟩
    have hBs : Below w.heap.size w s4 := by rw [hws]; exact ((((Below.refl w.heap.size w).alloc (by simp) _).alloc (by simp) _).alloc (by simp; omega) _)
    obtain ⟨A, hdA⟩ : ∃ b, b = w.heap.size := ⟨_, rfl⟩
    obtain ⟨B, hdB⟩ : ∃ b, b = w.heap.size + 1 := ⟨_, rfl⟩
    obtain ⟨C, hdC⟩ : ∃ b, b = w.heap.size + 1 + 1 := ⟨_, rfl⟩
    have hsz : s4.heap.size = w.heap.size + 1 + 1 + 1 := by rw [hws]; simp
    have dCA : C ≠ A := by omega
    have dCB : C ≠ B := by omega
    have kA0 : s4.cell? ⟨A, 0, none⟩ = some (.bool (zb a)) := by rw [hws]; simp [go_sem, hdA, hdB, hdC]
    have kA1 : s4.cell? ⟨A, 1, none⟩ = some (.string (zt a)) := by rw [hws]; simp [go_sem, hdA, hdB, hdC]
    have zA : A < s4.heap.size := by omega
    have lA : w.heap.size ≤ A := by have := Nat.le_refl w.heap.size; omega
    have kB0 : s4.cell? ⟨B, 0, none⟩ = some (.bool (zb b)) := by rw [hws]; simp [go_sem, hdA, hdB, hdC]
    have kB1 : s4.cell? ⟨B, 1, none⟩ = some (.string (zt b)) := by rw [hws]; simp [go_sem, hdA, hdB, hdC]
    have zB : B < s4.heap.size := by omega
    have lB : w.heap.size ≤ B := by have := Nat.le_refl w.heap.size; omega
    have kC0 : s4.cell? ⟨C, 0, none⟩ = some (.bool false) := by rw [hws]; simp [go_sem, hdA, hdB, hdC]
    have fC0 : s4.frozen? ⟨C, 0, none⟩ = false := by rw [hws]; simp [go_sem, hdA, hdB, hdC]
    have kC1 : s4.cell? ⟨C, 1, none⟩ = some (.string ⟨#[]⟩) := by rw [hws]; simp [go_sem, hdA, hdB, hdC]
    have fC1 : s4.frozen? ⟨C, 1, none⟩ = false := by rw [hws]; simp [go_sem, hdA, hdB, hdC]
    have zC : C < s4.heap.size := by omega
    have lC : w.heap.size ≤ C := by have := Nat.le_refl w.heap.size; omega
    rw [← hws]
    try rw [← hdC]
    try rw [← hdB]
    try rw [← hdA]
    clear hws hsz hdA hdB hdC
    have hBo := hBs; clear hBs
    refine (HFL.out _).mono ?_; rintro e s5 ⟨rfl, hb⟩
    replace kA0 := belK hb kA0 zA; replace kA1 := belK hb kA1 zA; replace zA := Nat.lt_of_lt_of_le zA hb.size
    replace kB0 := belK hb kB0 zB; replace kB1 := belK hb kB1 zB; replace zB := Nat.lt_of_lt_of_le zB hb.size
    replace kC0 := belK hb kC0 zC; replace fC0 := belF hb fC0 zC; replace kC1 := belK hb kC1 zC; replace fC1 := belF hb fC1 zC; replace zC := Nat.lt_of_lt_of_le zC hb.size
    replace hBo := hBo.trans (hb.mono hBo.size)
    clear hb
    go_wp2_with fail
    obtain ⟨s6, hws⟩ : ∃ s, s = ((s5.alloc (.cells #[.bool (zb p), .string (zt p)] 44)).alloc (.cells #[.bool (zb 0), .string ⟨#[]⟩] 44)) := ⟨_, rfl⟩
    have hBs : Below w.heap.size w s6 := by rw [hws]; exact (((hBo).alloc (by exact hBo.size) _).alloc (by have := hBo.size; simp; omega) _)
    obtain ⟨Q, hdQ⟩ : ∃ b, b = s5.heap.size := ⟨_, rfl⟩
    obtain ⟨S, hdS⟩ : ∃ b, b = s5.heap.size + 1 := ⟨_, rfl⟩
    have hsz : s6.heap.size = s5.heap.size + 1 + 1 := by rw [hws]; simp
    have dCQ : C ≠ Q := by omega
    have dCS : C ≠ S := by omega
    have hQC : ∀ p v, s5.cell? p = some v → s6.cell? p = some v := fun p v h => by rw [hws]; exact (alK (alK h))
    have hQZ : ∀ b, b < s5.heap.size → b < s6.heap.size := fun b h => by omega
    have hQF : ∀ b j, b < s5.heap.size → s5.frozen? ⟨b, j, none⟩ = false → s6.frozen? ⟨b, j, none⟩ = false := fun b j z h => by rw [hws]; exact (alF (alZ z) (alF z h))
    replace kA0 := hQC _ _ kA0; replace kA1 := hQC _ _ kA1; replace zA := hQZ _ zA
    replace kB0 := hQC _ _ kB0; replace kB1 := hQC _ _ kB1; replace zB := hQZ _ zB
    replace kC0 := hQC _ _ kC0; replace fC0 := hQF _ _ zC fC0; replace kC1 := hQC _ _ kC1; replace fC1 := hQF _ _ zC fC1; replace zC := hQZ _ zC
    clear hQC hQZ hQF
    have kQ0 : s6.cell? ⟨Q, 0, none⟩ = some (.bool (zb p)) := by rw [hws]; simp [go_sem, hdQ, hdS]
    have kQ1 : s6.cell? ⟨Q, 1, none⟩ = some (.string (zt p)) := by rw [hws]; simp [go_sem, hdQ, hdS]
    have zQ : Q < s6.heap.size := by omega
    have lQ : w.heap.size ≤ Q := by have := hBo.size; omega
    have kS0 : s6.cell? ⟨S, 0, none⟩ = some (.bool (zb 0)) := by rw [hws]; simp [go_sem, hdQ, hdS]
    have kS1 : s6.cell? ⟨S, 1, none⟩ = some (.string ⟨#[]⟩) := by rw [hws]; simp [go_sem, hdQ, hdS]
    have zS : S < s6.heap.size := by omega
    have lS : w.heap.size ≤ S := by have := hBo.size; omega
    rw [← hws]
    try rw [← hdS]
    try rw [← hdQ]
    clear hBo
    clear hws hsz hdQ hdS
    have hBo := hBs; clear hBs
    go_quiet (fail)
    go_wp2_with fail
    refine bodyPost_ret (v := .agg #[.bool (zb p), .string (zt p)]) (by simp [results, Tryz.results100, go_sem, kA0, kA1, kB0, kB1, kC0, kC1, kQ0, kQ1, kS0, kS1, zA, zB, zC, zQ, zS]) rfl ⟨rfl, ?_⟩
    exact (((below_drewN hBo _).setCell lC _).setCell lC _)
  · obtain ⟨hn1, hn2⟩ := toList_ne (zt_ne_nil hz)
    rw [stepI_yes (by unfold awayUp; simp [hz])] at hp
    rw [hp] at had
    generalize flr a b = l at *
    generalize flq a b = f at *
    have HFL := Lib.hid hfl
    have HAD := Lib.hid had
    clear hfl had sf sl hl0 ha hb h0 h1 hp hz
    go_enter Tryz.func100, Tryz.ntmps100
    go_wp2_with fail
    obtain ⟨s7, hws⟩ : ∃ s, s = (((w.alloc (.cells #[.bool (zb a), .string (zt a)] 44)).alloc (.cells #[.bool (zb b), .string (zt b)] 44)).alloc (.cells #[.bool false, .string ⟨#[]⟩] 44)) := ⟨_, rfl⟩
    have hBs : Below w.heap.size w s7 := by rw [hws]; exact ((((Below.refl w.heap.size w).alloc (by simp) _).alloc (by simp) _).alloc (by simp; omega) _)
    obtain ⟨A, hdA⟩ : ∃ b, b = w.heap.size := ⟨_, rfl⟩
    obtain ⟨B, hdB⟩ : ∃ b, b = w.heap.size + 1 := ⟨_, rfl⟩
    obtain ⟨C, hdC⟩ : ∃ b, b = w.heap.size + 1 + 1 := ⟨_, rfl⟩
    have hsz : s7.heap.size = w.heap.size + 1 + 1 + 1 := by rw [hws]; simp
    have dCA : C ≠ A := by omega
    have dCB : C ≠ B := by omega
    have kA0 : s7.cell? ⟨A, 0, none⟩ = some (.bool (zb a)) := by rw [hws]; simp [go_sem, hdA, hdB, hdC]
    have kA1 : s7.cell? ⟨A, 1, none⟩ = some (.string (zt a)) := by rw [hws]; simp [go_sem, hdA, hdB, hdC]
    have zA : A < s7.heap.size := by omega
    have lA : w.heap.size ≤ A := by have := Nat.le_refl w.heap.size; omega
    have kB0 : s7.cell? ⟨B, 0, none⟩ = some (.bool (zb b)) := by rw [hws]; simp [go_sem, hdA, hdB, hdC]
    have kB1 : s7.cell? ⟨B, 1, none⟩ = some (.string (zt b)) := by rw [hws]; simp [go_sem, hdA, hdB, hdC]
    have zB : B < s7.heap.size := by omega
    have lB : w.heap.size ≤ B := by have := Nat.le_refl w.heap.size; omega
    have kC0 : s7.cell? ⟨C, 0, none⟩ = some (.bool false) := by rw [hws]; simp [go_sem, hdA, hdB, hdC]
    have fC0 : s7.frozen? ⟨C, 0, none⟩ = false := by rw [hws]; simp [go_sem, hdA, hdB, hdC]
    have kC1 : s7.cell? ⟨C, 1, none⟩ = some (.string ⟨#[]⟩) := by rw [hws]; simp [go_sem, hdA, hdB, hdC]
    have fC1 : s7.frozen? ⟨C, 1, none⟩ = false := by rw [hws]; simp [go_sem, hdA, hdB, hdC]
    have zC : C < s7.heap.size := by omega
    have lC : w.heap.size ≤ C := by have := Nat.le_refl w.heap.size; omega
    rw [← hws]
    try rw [← hdC]
    try rw [← hdB]
    try rw [← hdA]
    clear hws hsz hdA hdB hdC
    have hBo := hBs; clear hBs
    refine (HFL.out _).mono ?_; rintro e s8 ⟨rfl, hb⟩
    replace kA0 := belK hb kA0 zA; replace kA1 := belK hb kA1 zA; replace zA := Nat.lt_of_lt_of_le zA hb.size
    replace kB0 := belK hb kB0 zB; replace kB1 := belK hb kB1 zB; replace zB := Nat.lt_of_lt_of_le zB hb.size
    replace kC0 := belK hb kC0 zC; replace fC0 := belF hb fC0 zC; replace kC1 := belK hb kC1 zC; replace fC1 := belF hb fC1 zC; replace zC := Nat.lt_of_lt_of_le zC hb.size
    replace hBo := hBo.trans (hb.mono hBo.size)
    clear hb
    go_wp2_with fail
    obtain ⟨s9, hws⟩ : ∃ s, s = ((s8.alloc (.cells #[.bool (zb f), .string (zt f)] 44)).alloc (.cells #[.bool (zb l), .string (zt l)] 44)) := ⟨_, rfl⟩
    have hBs : Below w.heap.size w s9 := by rw [hws]; exact (((hBo).alloc (by exact hBo.size) _).alloc (by have := hBo.size; simp; omega) _)
    obtain ⟨Q, hdQ⟩ : ∃ b, b = s8.heap.size := ⟨_, rfl⟩
    obtain ⟨S, hdS⟩ : ∃ b, b = s8.heap.size + 1 := ⟨_, rfl⟩
    have hsz : s9.heap.size = s8.heap.size + 1 + 1 := by rw [hws]; simp
    have dCQ : C ≠ Q := by omega
    have dCS : C ≠ S := by omega
    have hQC : ∀ p v, s8.cell? p = some v → s9.cell? p = some v := fun p v h => by rw [hws]; exact (alK (alK h))
    have hQZ : ∀ b, b < s8.heap.size → b < s9.heap.size := fun b h => by omega
    have hQF : ∀ b j, b < s8.heap.size → s8.frozen? ⟨b, j, none⟩ = false → s9.frozen? ⟨b, j, none⟩ = false := fun b j z h => by rw [hws]; exact (alF (alZ z) (alF z h))
    replace kA0 := hQC _ _ kA0; replace kA1 := hQC _ _ kA1; replace zA := hQZ _ zA
    replace kB0 := hQC _ _ kB0; replace kB1 := hQC _ _ kB1; replace zB := hQZ _ zB
    replace kC0 := hQC _ _ kC0; replace fC0 := hQF _ _ zC fC0; replace kC1 := hQC _ _ kC1; replace fC1 := hQF _ _ zC fC1; replace zC := hQZ _ zC
    clear hQC hQZ hQF
    have kQ0 : s9.cell? ⟨Q, 0, none⟩ = some (.bool (zb f)) := by rw [hws]; simp [go_sem, hdQ, hdS]
    have kQ1 : s9.cell? ⟨Q, 1, none⟩ = some (.string (zt f)) := by rw [hws]; simp [go_sem, hdQ, hdS]
    have zQ : Q < s9.heap.size := by omega
    have lQ : w.heap.size ≤ Q := by have := hBo.size; omega
    have kS0 : s9.cell? ⟨S, 0, none⟩ = some (.bool (zb l)) := by rw [hws]; simp [go_sem, hdQ, hdS]
    have kS1 : s9.cell? ⟨S, 1, none⟩ = some (.string (zt l)) := by rw [hws]; simp [go_sem, hdQ, hdS]
    have zS : S < s9.heap.size := by omega
    have lS : w.heap.size ≤ S := by have := hBo.size; omega
    rw [← hws]
    try rw [← hdS]
    try rw [← hdQ]
    clear hBo
    clear hws hsz hdQ hdS
    have hBo := hBs; clear hBs
    go_quiet (fail)
    go_wp2_with fail
    generalize hws : s9.drewN _ = s10 at *
    replace kA0 : s10.cell? ⟨A, 0, none⟩ = some (.bool (zb a)) := by rw [← hws]; simpa [go_sem] using kA0
    replace kA1 : s10.cell? ⟨A, 1, none⟩ = some (.string (zt a)) := by rw [← hws]; simpa [go_sem] using kA1
    replace zA : A < s10.heap.size := by rw [← hws]; exact zA
    replace kB0 : s10.cell? ⟨B, 0, none⟩ = some (.bool (zb b)) := by rw [← hws]; simpa [go_sem] using kB0
    replace kB1 : s10.cell? ⟨B, 1, none⟩ = some (.string (zt b)) := by rw [← hws]; simpa [go_sem] using kB1
    replace zB : B < s10.heap.size := by rw [← hws]; exact zB
    replace kC0 : s10.cell? ⟨C, 0, none⟩ = some (.bool false) := by rw [← hws]; simpa [go_sem] using kC0
    replace fC0 : s10.frozen? ⟨C, 0, none⟩ = false := by rw [← hws]; simpa [go_sem] using fC0
    replace kC1 : s10.cell? ⟨C, 1, none⟩ = some (.string ⟨#[]⟩) := by rw [← hws]; simpa [go_sem] using kC1
    replace fC1 : s10.frozen? ⟨C, 1, none⟩ = false := by rw [← hws]; simpa [go_sem] using fC1
    replace zC : C < s10.heap.size := by rw [← hws]; exact zC
    replace kQ0 : s10.cell? ⟨Q, 0, none⟩ = some (.bool (zb f)) := by rw [← hws]; simpa [go_sem] using kQ0
    replace kQ1 : s10.cell? ⟨Q, 1, none⟩ = some (.string (zt f)) := by rw [← hws]; simpa [go_sem] using kQ1
    replace zQ : Q < s10.heap.size := by rw [← hws]; exact zQ
    replace kS0 : s10.cell? ⟨S, 0, none⟩ = some (.bool (zb l)) := by rw [← hws]; simpa [go_sem] using kS0
    replace kS1 : s10.cell? ⟨S, 1, none⟩ = some (.string (zt l)) := by rw [← hws]; simpa [go_sem] using kS1
    replace zS : S < s10.heap.size := by rw [← hws]; exact zS
    replace hBo : Below w.heap.size w s10 := by rw [← hws]; exact below_drewN hBo _
    clear hws
    have HF : Hid (∀ W, Below s10.heap.size s10 W → Below w.heap.size w W) := fun W hW => hBo.trans (hW.mono hBo.size)
    clear hBo
    first | (go_region_held3 (fun w' => w'.cell? ⟨A, 0, none⟩ = some (.bool (zb a)) ∧ w'.cell? ⟨A, 1, none⟩ = some (.string (zt a)) ∧ w'.cell? ⟨B, 0, none⟩ = some (.bool (zb b)) ∧ w'.cell? ⟨B, 1, none⟩ = some (.string (zt b)) ∧ w'.cell? ⟨Q, 0, none⟩ = some (.bool (zb f)) ∧ w'.cell? ⟨Q, 1, none⟩ = some (.string (zt f)) ∧ w'.cell? ⟨S, 0, none⟩ = some (.bool (zb l)) ∧ w'.cell? ⟨S, 1, none⟩ = some (.string (zt l)))
      (go_keep) (first
      | (go_at_call 47; refine (HO.out _).mono ?_; rintro e x11 ⟨rfl, hbx⟩; have hTx : Below s10.heap.size s10 x11 := (by first | exact (Below.refl _ _).drew.trans hbx | exact Below.trans (by assumption) (hbx.mono (Below.size (by assumption))) | exact (Below.refl _ _).trans hbx); obtain ⟨hcx, hfx⟩ := bcell hTx)
      | (go_at_call 52; refine (HAD.out _).mono ?_; rintro e x11 ⟨rfl, hbx⟩; have hTx : Below s10.heap.size s10 x11 := (by first | exact (Below.refl _ _).drew.trans hbx | exact Below.trans (by assumption) (hbx.mono (Below.size (by assumption))) | exact (Below.refl _ _).trans hbx); obtain ⟨hcx, hfx⟩ := bcell hTx))) | fail
    all_goals go_wp2_with fail
    all_goals refine bodyPost_ret (v := .agg #[.bool (zb p), .string (zt p)]) (by simp [results, Tryz.results100, go_sem, hcx, kC0, kC1, zC]) rfl ⟨rfl, ?_⟩
    all_goals exact (((HF.out _ (by assumption)).setCell lC _).setCell lC _)

set_option maxRecDepth 100000 in
set_option maxHeartbeats 16000000 in
theorem stepHalf_any (a b p : Int) (w : World) (ha : (zt a).size ≤ 200) (hb : (zt b).size ≤ 200) (h0 : 0 ≤ a) (h1 : 0 < b) (hp : stepI awayHalf a b = p) :
    Calls Tryz.prog 100 #[.agg #[.bool (zb a), .string (zt a)], .agg #[.bool (zb b), .string (zt b)], .int .i64 2] w fun e w' => e = .returned (.agg #[.bool (zb p), .string (zt p)]) ∧ Below w.heap.size w w' := by
  have hfl := fun w => refFloor_zz a b _ _ w (by omega) (by omega) (by omega) rfl rfl
  have HO := Lib.hid refOne_any
  have sf := Nat.le_trans (zt_mono (flq_abs a b)) ha
  have sl := Nat.le_trans (zt_mono (Nat.le_of_lt (flr_abs (x := a) (y := b) (by omega)))) hb
  have hl0 : 0 ≤ flr a b := by rw [flr_pos h1]; exact Int.emod_nonneg _ (by omega)
  have had := fun w => refAdd_zz (flq a b) 1 _ w (by omega) (by decide) rfl
  have s2 := zt_add_size sl sl
  have ha2 := fun w => refAdd_zz (flr a b) (flr a b) _ w (by omega) (by omega) rfl
  have hcm := fun w => refCmp_zz (flr a b + flr a b) b _ w (by omega) (by omega) rfl
  have hpp : awayHalf (flr a b).natAbs b.natAbs = decide (0 ≤ cmpI' (flr a b + flr a b) b) := by
    unfold awayHalf cmpI'
    by_cases h : b ≤ flr a b + flr a b
    · rw [decide_eq_true (by omega), decide_eq_true (by rw [if_neg (by omega)]; split <;> omega)]
    · rw [decide_eq_false (by omega), decide_eq_false (by rw [if_pos (by omega)]; omega)]
  by_cases hz : 0 ≤ cmpI' (flr a b + flr a b) b
  · rw [stepI_yes (by rw [hpp]; exact decide_eq_true hz)] at hp
    rw [hp] at had
    generalize cmpI' (flr a b + flr a b) b = c at *
    generalize flr a b + flr a b = ll at *
    generalize flr a b = l at *
    generalize flq a b = f at *
    have HFL := Lib.hid hfl
    have HAD := Lib.hid had
    have HA2 := Lib.hid ha2
    have HC := Lib.hid hcm
    clear hfl had sf sl hl0 ha hb h0 h1 hp hpp s2 ha2 hcm
    go_enter Tryz.func100, Tryz.ntmps100
    go_wp2_with fail
    obtain ⟨s12, hws⟩ : ∃ s, s = (((w.alloc (.cells #[.bool (zb a), .string (zt a)] 44)).alloc (.cells #[.bool (zb b), .string (zt b)] 44)).alloc (.cells #[.bool false, .string ⟨#[]⟩] 44)) := ⟨_, rfl⟩
    have hBs : Below w.heap.size w s12 := by rw [hws]; exact ((((Below.refl w.heap.size w).alloc (by simp) _).alloc (by simp) _).alloc (by simp; omega) _)
    obtain ⟨A, hdA⟩ : ∃ b, b = w.heap.size := ⟨_, rfl⟩
    obtain ⟨B, hdB⟩ : ∃ b, b = w.heap.size + 1 := ⟨_, rfl⟩
    obtain ⟨C, hdC⟩ : ∃ b, b = w.heap.size + 1 + 1 := ⟨_, rfl⟩
    have hsz : s12.heap.size = w.heap.size + 1 + 1 + 1 := by rw [hws]; simp
    have dCA : C ≠ A := by omega
    have dCB : C ≠ B := by omega
    have kA0 : s12.cell? ⟨A, 0, none⟩ = some (.bool (zb a)) := by rw [hws]; simp [go_sem, hdA, hdB, hdC]
    have kA1 : s12.cell? ⟨A, 1, none⟩ = some (.string (zt a)) := by rw [hws]; simp [go_sem, hdA, hdB, hdC]
    have zA : A < s12.heap.size := by omega
    have lA : w.heap.size ≤ A := by have := Nat.le_refl w.heap.size; omega
    have kB0 : s12.cell? ⟨B, 0, none⟩ = some (.bool (zb b)) := by rw [hws]; simp [go_sem, hdA, hdB, hdC]
    have kB1 : s12.cell? ⟨B, 1, none⟩ = some (.string (zt b)) := by rw [hws]; simp [go_sem, hdA, hdB, hdC]
    have zB : B < s12.heap.size := by omega
    have lB : w.heap.size ≤ B := by have := Nat.le_refl w.heap.size; omega
    have kC0 : s12.cell? ⟨C, 0, none⟩ = some (.bool false) := by rw [hws]; simp [go_sem, hdA, hdB, hdC]
    have fC0 : s12.frozen? ⟨C, 0, none⟩ = false := by rw [hws]; simp [go_sem, hdA, hdB, hdC]
    have kC1 : s12.cell? ⟨C, 1, none⟩ = some (.string ⟨#[]⟩) := by rw [hws]; simp [go_sem, hdA, hdB, hdC]
    have fC1 : s12.frozen? ⟨C, 1, none⟩ = false := by rw [hws]; simp [go_sem, hdA, hdB, hdC]
    have zC : C < s12.heap.size := by omega
    have lC : w.heap.size ≤ C := by have := Nat.le_refl w.heap.size; omega
    rw [← hws]
    try rw [← hdC]
    try rw [← hdB]
    try rw [← hdA]
    clear hws hsz hdA hdB hdC
    have hBo := hBs; clear hBs
    refine (HFL.out _).mono ?_; rintro e s13 ⟨rfl, hb⟩
    replace kA0 := belK hb kA0 zA; replace kA1 := belK hb kA1 zA; replace zA := Nat.lt_of_lt_of_le zA hb.size
    replace kB0 := belK hb kB0 zB; replace kB1 := belK hb kB1 zB; replace zB := Nat.lt_of_lt_of_le zB hb.size
    replace kC0 := belK hb kC0 zC; replace fC0 := belF hb fC0 zC; replace kC1 := belK hb kC1 zC; replace fC1 := belF hb fC1 zC; replace zC := Nat.lt_of_lt_of_le zC hb.size
    replace hBo := hBo.trans (hb.mono hBo.size)
    clear hb
    go_wp2_with fail
    obtain ⟨s14, hws⟩ : ∃ s, s = ((s13.alloc (.cells #[.bool (zb f), .string (zt f)] 44)).alloc (.cells #[.bool (zb l), .string (zt l)] 44)) := ⟨_, rfl⟩
    have hBs : Below w.heap.size w s14 := by rw [hws]; exact (((hBo).alloc (by exact hBo.size) _).alloc (by have := hBo.size; simp; omega) _)
    obtain ⟨Q, hdQ⟩ : ∃ b, b = s13.heap.size := ⟨_, rfl⟩
    obtain ⟨S, hdS⟩ : ∃ b, b = s13.heap.size + 1 := ⟨_, rfl⟩
    have hsz : s14.heap.size = s13.heap.size + 1 + 1 := by rw [hws]; simp
    have dCQ : C ≠ Q := by omega
    have dCS : C ≠ S := by omega
    have hQC : ∀ p v, s13.cell? p = some v → s14.cell? p = some v := fun p v h => by rw [hws]; exact (alK (alK h))
    have hQZ : ∀ b, b < s13.heap.size → b < s14.heap.size := fun b h => by omega
    have hQF : ∀ b j, b < s13.heap.size → s13.frozen? ⟨b, j, none⟩ = false → s14.frozen? ⟨b, j, none⟩ = false := fun b j z h => by rw [hws]; exact (alF (alZ z) (alF z h))
    replace kA0 := hQC _ _ kA0; replace kA1 := hQC _ _ kA1; replace zA := hQZ _ zA
    replace kB0 := hQC _ _ kB0; replace kB1 := hQC _ _ kB1; replace zB := hQZ _ zB
    replace kC0 := hQC _ _ kC0; replace fC0 := hQF _ _ zC fC0; replace kC1 := hQC _ _ kC1; replace fC1 := hQF _ _ zC fC1; replace zC := hQZ _ zC
    clear hQC hQZ hQF
    have kQ0 : s14.cell? ⟨Q, 0, none⟩ = some (.bool (zb f)) := by rw [hws]; simp [go_sem, hdQ, hdS]
    have kQ1 : s14.cell? ⟨Q, 1, none⟩ = some (.string (zt f)) := by rw [hws]; simp [go_sem, hdQ, hdS]
    have zQ : Q < s14.heap.size := by omega
    have lQ : w.heap.size ≤ Q := by have := hBo.size; omega
    have kS0 : s14.cell? ⟨S, 0, none⟩ = some (.bool (zb l)) := by rw [hws]; simp [go_sem, hdQ, hdS]
    have kS1 : s14.cell? ⟨S, 1, none⟩ = some (.string (zt l)) := by rw [hws]; simp [go_sem, hdQ, hdS]
    have zS : S < s14.heap.size := by omega
    have lS : w.heap.size ≤ S := by have := hBo.size; omega
    rw [← hws]
    try rw [← hdS]
    try rw [← hdQ]
    clear hBo
    clear hws hsz hdQ hdS
    have hBo := hBs; clear hBs
    have HF : Hid (∀ W, Below s14.heap.size s14 W → Below w.heap.size w W) := fun W hW => hBo.trans (hW.mono hBo.size)
    clear hBo
    first | (go_region_with (first
      | (go_at_call 52; refine (HA2.out _).mono ?_; rintro e x15 ⟨rfl, hbx⟩; have hTx : Below s14.heap.size s14 x15 := (by first | exact (Below.refl _ _).drew.trans hbx | exact Below.trans (by assumption) (hbx.mono (Below.size (by assumption))) | exact (Below.refl _ _).trans hbx); obtain ⟨hcx, hfx⟩ := bcell hTx)
      | (go_at_call 55; refine (HC.out _).mono ?_; rintro e x15 ⟨rfl, hbx⟩; have hTx : Below s14.heap.size s14 x15 := (by first | exact (Below.refl _ _).drew.trans hbx | exact Below.trans (by assumption) (hbx.mono (Below.size (by assumption))) | exact (Below.refl _ _).trans hbx); obtain ⟨hcx, hfx⟩ := bcell hTx))) | fail
    all_goals
      go_wp2_with fail
      replace kA0 := (hcx A 0 zA).trans kA0
      replace kA1 := (hcx A 1 zA).trans kA1
      replace zA := Nat.lt_of_lt_of_le zA hTx.size
      replace kB0 := (hcx B 0 zB).trans kB0
      replace kB1 := (hcx B 1 zB).trans kB1
      replace zB := Nat.lt_of_lt_of_le zB hTx.size
      replace kC0 := (hcx C 0 zC).trans kC0
      replace fC0 := (hfx C 0 zC).trans fC0
      replace kC1 := (hcx C 1 zC).trans kC1
      replace fC1 := (hfx C 1 zC).trans fC1
      replace zC := Nat.lt_of_lt_of_le zC hTx.size
      replace kQ0 := (hcx Q 0 zQ).trans kQ0
      replace kQ1 := (hcx Q 1 zQ).trans kQ1
      replace zQ := Nat.lt_of_lt_of_le zQ hTx.size
      replace kS0 := (hcx S 0 zS).trans kS0
      replace kS1 := (hcx S 1 zS).trans kS1
      replace zS := Nat.lt_of_lt_of_le zS hTx.size
      have hBo := HF.out _ hTx
      clear HF hcx hfx hTx
      have HF : Hid (∀ W, Below x15.heap.size x15 W → Below w.heap.size w W) := fun W hW => hBo.trans (hW.mono hBo.size)
      clear hBo
      first | (go_region_held3 (fun w' => w'.cell? ⟨A, 0, none⟩ = some (.bool (zb a)) ∧ w'.cell? ⟨A, 1, none⟩ = some (.string (zt a)) ∧ w'.cell? ⟨B, 0, none⟩ = some (.bool (zb b)) ∧ w'.cell? ⟨B, 1, none⟩ = some (.string (zt b)) ∧ w'.cell? ⟨Q, 0, none⟩ = some (.bool (zb f)) ∧ w'.cell? ⟨Q, 1, none⟩ = some (.string (zt f)) ∧ w'.cell? ⟨S, 0, none⟩ = some (.bool (zb l)) ∧ w'.cell? ⟨S, 1, none⟩ = some (.string (zt l)))
        (go_keep) (first
        | (go_at_call 47; refine (HO.out _).mono ?_; rintro e x16 ⟨rfl, hbx⟩; have hTx : Below x15.heap.size x15 x16 := (by first | exact (Below.refl _ _).drew.trans hbx | exact Below.trans (by assumption) (hbx.mono (Below.size (by assumption))) | exact (Below.refl _ _).trans hbx); obtain ⟨hcx, hfx⟩ := bcell hTx)
        | (go_at_call 52; refine (HAD.out _).mono ?_; rintro e x16 ⟨rfl, hbx⟩; have hTx : Below x15.heap.size x15 x16 := (by first | exact (Below.refl _ _).drew.trans hbx | exact Below.trans (by assumption) (hbx.mono (Below.size (by assumption))) | exact (Below.refl _ _).trans hbx); obtain ⟨hcx, hfx⟩ := bcell hTx))) | fail
      all_goals go_wp2_with fail
      all_goals refine bodyPost_ret (v := .agg #[.bool (zb p), .string (zt p)]) (by simp [results, Tryz.results100, go_sem, hcx, kC0, kC1, zC]) rfl ⟨rfl, ?_⟩
      all_goals exact (((HF.out _ (by assumption)).setCell lC _).setCell lC _)
  · rw [stepI_no (by rw [hpp]; exact decide_eq_false hz)] at hp
    rw [hp] at hfl
    generalize cmpI' (flr a b + flr a b) b = c at *
    generalize flr a b + flr a b = ll at *
    generalize flr a b = l at *
    have HFL := Lib.hid hfl
    have HA2 := Lib.hid ha2
    have HC := Lib.hid hcm
    clear hfl had sf sl hl0 ha hb h0 h1 hp hpp s2 ha2 hcm HO
    go_enter Tryz.func100, Tryz.ntmps100
    go_wp2_with fail
    obtain ⟨s17, hws⟩ : ∃ s, s = (((w.alloc (.cells #[.bool (zb a), .string (zt a)] 44)).alloc (.cells #[.bool (zb b), .string (zt b)] 44)).alloc (.cells #[.bool false, .string ⟨#[]⟩] 44)) := ⟨_, rfl⟩
    have hBs : Below w.heap.size w s17 := by rw [hws]; exact ((((Below.refl w.heap.size w).alloc (by simp) _).alloc (by simp) _).alloc (by simp; omega) _)
    obtain ⟨A, hdA⟩ : ∃ b, b = w.heap.size := ⟨_, rfl⟩
    obtain ⟨B, hdB⟩ : ∃ b, b = w.heap.size + 1 := ⟨_, rfl⟩
    obtain ⟨C, hdC⟩ : ∃ b, b = w.heap.size + 1 + 1 := ⟨_, rfl⟩
    have hsz : s17.heap.size = w.heap.size + 1 + 1 + 1 := by rw [hws]; simp
    have dCA : C ≠ A := by omega
    have dCB : C ≠ B := by omega
    have kA0 : s17.cell? ⟨A, 0, none⟩ = some (.bool (zb a)) := by rw [hws]; simp [go_sem, hdA, hdB, hdC]
    have kA1 : s17.cell? ⟨A, 1, none⟩ = some (.string (zt a)) := by rw [hws]; simp [go_sem, hdA, hdB, hdC]
    have zA : A < s17.heap.size := by omega
    have lA : w.heap.size ≤ A := by have := Nat.le_refl w.heap.size; omega
    have kB0 : s17.cell? ⟨B, 0, none⟩ = some (.bool (zb b)) := by rw [hws]; simp [go_sem, hdA, hdB, hdC]
    have kB1 : s17.cell? ⟨B, 1, none⟩ = some (.string (zt b)) := by rw [hws]; simp [go_sem, hdA, hdB, hdC]
    have zB : B < s17.heap.size := by omega
    have lB : w.heap.size ≤ B := by have := Nat.le_refl w.heap.size; omega
    have kC0 : s17.cell? ⟨C, 0, none⟩ = some (.bool false) := by rw [hws]; simp [go_sem, hdA, hdB, hdC]
    have fC0 : s17.frozen? ⟨C, 0, none⟩ = false := by rw [hws]; simp [go_sem, hdA, hdB, hdC]
    have kC1 : s17.cell? ⟨C, 1, none⟩ = some (.string ⟨#[]⟩) := by rw [hws]; simp [go_sem, hdA, hdB, hdC]
    have fC1 : s17.frozen? ⟨C, 1, none⟩ = false := by rw [hws]; simp [go_sem, hdA, hdB, hdC]
    have zC : C < s17.heap.size := by omega
    have lC : w.heap.size ≤ C := by have := Nat.le_refl w.heap.size; omega
    rw [← hws]
    try rw [← hdC]
    try rw [← hdB]
    try rw [← hdA]
    clear hws hsz hdA hdB hdC
    have hBo := hBs; clear hBs
    refine (HFL.out _).mono ?_; rintro e s18 ⟨rfl, hb⟩
    replace kA0 := belK hb kA0 zA; replace kA1 := belK hb kA1 zA; replace zA := Nat.lt_of_lt_of_le zA hb.size
    replace kB0 := belK hb kB0 zB; replace kB1 := belK hb kB1 zB; replace zB := Nat.lt_of_lt_of_le zB hb.size
    replace kC0 := belK hb kC0 zC; replace fC0 := belF hb fC0 zC; replace kC1 := belK hb kC1 zC; replace fC1 := belF hb fC1 zC; replace zC := Nat.lt_of_lt_of_le zC hb.size
    replace hBo := hBo.trans (hb.mono hBo.size)
    clear hb
    go_wp2_with fail
    obtain ⟨s19, hws⟩ : ∃ s, s = ((s18.alloc (.cells #[.bool (zb p), .string (zt p)] 44)).alloc (.cells #[.bool (zb l), .string (zt l)] 44)) := ⟨_, rfl⟩
    have hBs : Below w.heap.size w s19 := by rw [hws]; exact (((hBo).alloc (by exact hBo.size) _).alloc (by have := hBo.size; simp; omega) _)
    obtain ⟨Q, hdQ⟩ : ∃ b, b = s18.heap.size := ⟨_, rfl⟩
    obtain ⟨S, hdS⟩ : ∃ b, b = s18.heap.size + 1 := ⟨_, rfl⟩
    have hsz : s19.heap.size = s18.heap.size + 1 + 1 := by rw [hws]; simp
    have dCQ : C ≠ Q := by omega
    have dCS : C ≠ S := by omega
    have hQC : ∀ p v, s18.cell? p = some v → s19.cell? p = some v := fun p v h => by rw [hws]; exact (alK (alK h))
    have hQZ : ∀ b, b < s18.heap.size → b < s19.heap.size := fun b h => by omega
    have hQF : ∀ b j, b < s18.heap.size → s18.frozen? ⟨b, j, none⟩ = false → s19.frozen? ⟨b, j, none⟩ = false := fun b j z h => by rw [hws]; exact (alF (alZ z) (alF z h))
    replace kA0 := hQC _ _ kA0; replace kA1 := hQC _ _ kA1; replace zA := hQZ _ zA
    replace kB0 := hQC _ _ kB0; replace kB1 := hQC _ _ kB1; replace zB := hQZ _ zB
    replace kC0 := hQC _ _ kC0; replace fC0 := hQF _ _ zC fC0; replace kC1 := hQC _ _ kC1; replace fC1 := hQF _ _ zC fC1; replace zC := hQZ _ zC
    clear hQC hQZ hQF
    have kQ0 : s19.cell? ⟨Q, 0, none⟩ = some (.bool (zb p)) := by rw [hws]; simp [go_sem, hdQ, hdS]
    have kQ1 : s19.cell? ⟨Q, 1, none⟩ = some (.string (zt p)) := by rw [hws]; simp [go_sem, hdQ, hdS]
    have zQ : Q < s19.heap.size := by omega
    have lQ : w.heap.size ≤ Q := by have := hBo.size; omega
    have kS0 : s19.cell? ⟨S, 0, none⟩ = some (.bool (zb l)) := by rw [hws]; simp [go_sem, hdQ, hdS]
    have kS1 : s19.cell? ⟨S, 1, none⟩ = some (.string (zt l)) := by rw [hws]; simp [go_sem, hdQ, hdS]
    have zS : S < s19.heap.size := by omega
    have lS : w.heap.size ≤ S := by have := hBo.size; omega
    rw [← hws]
    try rw [← hdS]
    try rw [← hdQ]
    clear hBo
    clear hws hsz hdQ hdS
    have hBo := hBs; clear hBs
    have HF : Hid (∀ W, Below s19.heap.size s19 W → Below w.heap.size w W) := fun W hW => hBo.trans (hW.mono hBo.size)
    clear hBo
    first | (go_region_with (first
      | (go_at_call 52; refine (HA2.out _).mono ?_; rintro e x20 ⟨rfl, hbx⟩; have hTx : Below s19.heap.size s19 x20 := (by first | exact (Below.refl _ _).drew.trans hbx | exact Below.trans (by assumption) (hbx.mono (Below.size (by assumption))) | exact (Below.refl _ _).trans hbx); obtain ⟨hcx, hfx⟩ := bcell hTx)
      | (go_at_call 55; refine (HC.out _).mono ?_; rintro e x20 ⟨rfl, hbx⟩; have hTx : Below s19.heap.size s19 x20 := (by first | exact (Below.refl _ _).drew.trans hbx | exact Below.trans (by assumption) (hbx.mono (Below.size (by assumption))) | exact (Below.refl _ _).trans hbx); obtain ⟨hcx, hfx⟩ := bcell hTx))) | fail
    all_goals go_wp2_with fail
    all_goals refine bodyPost_ret (v := .agg #[.bool (zb p), .string (zt p)]) (by simp [results, Tryz.results100, go_sem, hcx, kC0, kC1, zC]) rfl ⟨rfl, ?_⟩
    all_goals exact (((HF.out _ (by assumption)).setCell lC _).setCell lC _)
end Go.Proofs.YtbgmnpabclfjaaaGreatDoor
