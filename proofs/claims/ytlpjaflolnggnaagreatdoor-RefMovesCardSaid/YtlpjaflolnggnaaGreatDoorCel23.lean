/-
  LAYER 11, REFERENCES: follow; Insert and Delete (the program's).
-/
import Derived.Test.YtlpjaflolnggnaaGreatDoorCel22
namespace Go.Proofs.YtlpjaflolnggnaaGreatDoor
open Go.RowKit Go.Shelf
set_option linter.unusedSimpArgs false
set_option linter.unusedVariables false

set_option maxRecDepth 100000 in
set_option maxHeartbeats 4000000 in
theorem follow_no (K : Nat) (q : Rf) (way a n : Int) (w : World) (hs : q.sh.size ≤ maxLen) (h : mayB way a n = false ∨ rgtR q = false) :
    Calls Tryz.prog 21 #[.agg #[.string q.sh, .int .i64 q.c, .int .i64 q.r, .bool q.fc, .bool q.fr], .int .i64 way, .int .i64 a, .int .i64 n, .func (.func K) #[] #[]] w fun e w' => e = .returned (.tuple #[.agg #[.string rf0.sh, .int .i64 rf0.c, .int .i64 rf0.r, .bool rf0.fc, .bool rf0.fr], .bool false]) ∧ Below w.heap.size w w' := by
  have hud : undef = Value.tuple #[] := rfl
  cases hm : mayB way a n with
  | false =>
    have HC := Lib.hid (fun w => changeOf_no way a n w hm)
    unfold ch0 at HC
    clear h hm
    go_enter Tryz.func21, Tryz.ntmps21
    go_wp2_with fail
    obtain ⟨s1, hws⟩ : ∃ s, s = ((w.alloc (.cells #[.string q.sh, .int .i64 q.c, .int .i64 q.r, .bool q.fc, .bool q.fr] 23)).alloc (.cells #[.string ⟨#[]⟩, .int .i64 0, .int .i64 0, .bool false, .bool false] 23)) := ⟨_, rfl⟩
    have hBs : Below w.heap.size w s1 := by rw [hws]; exact (((Below.refl w.heap.size w).alloc (by simp) _).alloc (by simp) _)
    obtain ⟨A, hdA⟩ : ∃ b, b = w.heap.size := ⟨_, rfl⟩
    obtain ⟨C, hdC⟩ : ∃ b, b = w.heap.size + 1 := ⟨_, rfl⟩
    have hsz : s1.heap.size = w.heap.size + 1 + 1 := by rw [hws]; simp
    have dCA : C ≠ A := by omega
    have kA0 : s1.cell? ⟨A, 0, none⟩ = some (.string q.sh) := by rw [hws]; simp [go_sem, hdA, hdC]
    have kA1 : s1.cell? ⟨A, 1, none⟩ = some (.int .i64 q.c) := by rw [hws]; simp [go_sem, hdA, hdC]
    have kA2 : s1.cell? ⟨A, 2, none⟩ = some (.int .i64 q.r) := by rw [hws]; simp [go_sem, hdA, hdC]
    have kA3 : s1.cell? ⟨A, 3, none⟩ = some (.bool q.fc) := by rw [hws]; simp [go_sem, hdA, hdC]
    have kA4 : s1.cell? ⟨A, 4, none⟩ = some (.bool q.fr) := by rw [hws]; simp [go_sem, hdA, hdC]
    have zA : A < s1.heap.size := by omega
    have lA : w.heap.size ≤ A := by have := Nat.le_refl w.heap.size; omega
    have kC0 : s1.cell? ⟨C, 0, none⟩ = some (.string ⟨#[]⟩) := by rw [hws]; simp [go_sem, hdA, hdC]
    have fC0 : s1.frozen? ⟨C, 0, none⟩ = false := by rw [hws]; simp [go_sem, hdA, hdC]
    have kC1 : s1.cell? ⟨C, 1, none⟩ = some (.int .i64 0) := by rw [hws]; simp [go_sem, hdA, hdC]
    have fC1 : s1.frozen? ⟨C, 1, none⟩ = false := by rw [hws]; simp [go_sem, hdA, hdC]
    have kC2 : s1.cell? ⟨C, 2, none⟩ = some (.int .i64 0) := by rw [hws]; simp [go_sem, hdA, hdC]
    have fC2 : s1.frozen? ⟨C, 2, none⟩ = false := by rw [hws]; simp [go_sem, hdA, hdC]
    have kC3 : s1.cell? ⟨C, 3, none⟩ = some (.bool false) := by rw [hws]; simp [go_sem, hdA, hdC]
    have fC3 : s1.frozen? ⟨C, 3, none⟩ = false := by rw [hws]; simp [go_sem, hdA, hdC]
    have kC4 : s1.cell? ⟨C, 4, none⟩ = some (.bool false) := by rw [hws]; simp [go_sem, hdA, hdC]
    have fC4 : s1.frozen? ⟨C, 4, none⟩ = false := by rw [hws]; simp [go_sem, hdA, hdC]
    have zC : C < s1.heap.size := by omega
    have lC : w.heap.size ≤ C := by have := Nat.le_refl w.heap.size; omega
    rw [← hws]
    try rw [← hdC]
    try rw [← hdA]
    clear hws hsz hdA hdC
    have hBo := hBs; clear hBs
    refine (HC.out _).mono ?_; rintro e s2 ⟨rfl, hb⟩
    replace kA0 := belK hb kA0 zA; replace kA1 := belK hb kA1 zA; replace kA2 := belK hb kA2 zA; replace kA3 := belK hb kA3 zA; replace kA4 := belK hb kA4 zA; replace zA := Nat.lt_of_lt_of_le zA hb.size
    replace kC0 := belK hb kC0 zC; replace fC0 := belF hb fC0 zC; replace kC1 := belK hb kC1 zC; replace fC1 := belF hb fC1 zC; replace kC2 := belK hb kC2 zC; replace fC2 := belF hb fC2 zC; replace kC3 := belK hb kC3 zC; replace fC3 := belF hb fC3 zC; replace kC4 := belK hb kC4 zC; replace fC4 := belF hb fC4 zC; replace zC := Nat.lt_of_lt_of_le zC hb.size
    replace hBo := hBo.trans (hb.mono hBo.size)
    clear hb
    all_goals go_wp2_with fail
    all_goals refine bodyPost_ret (v := .tuple #[.agg #[.string ⟨#[]⟩, .int .i64 0, .int .i64 0, .bool false, .bool false], .bool false]) (by simp [results, Tryz.results21, go_sem, kC0, kC1, kC2, kC3, kC4, zC]) rfl ⟨rfl, ?_⟩
    all_goals exact (al_below (((((hBo.setCell lC _).setCell lC _).setCell lC _).setCell lC _).setCell lC _))
  | true =>
    have hr : rgtR q = false := by rcases h with h | h; exact absurd (hm.symm.trans h) (by decide); exact h
    have HC := Lib.hid (fun w => changeOf_yes way a n w hm)
    have HR := Lib.hid (fun w => right1_any q false w hs hr)
    unfold chV at HC
    generalize getF way = g at *
    generalize putF way = p at *
    generalize lastZ way = L at *
    clear h hm hr
    go_enter Tryz.func21, Tryz.ntmps21
    go_wp2_with fail
    obtain ⟨s3, hws⟩ : ∃ s, s = ((w.alloc (.cells #[.string q.sh, .int .i64 q.c, .int .i64 q.r, .bool q.fc, .bool q.fr] 23)).alloc (.cells #[.string ⟨#[]⟩, .int .i64 0, .int .i64 0, .bool false, .bool false] 23)) := ⟨_, rfl⟩
    have hBs : Below w.heap.size w s3 := by rw [hws]; exact (((Below.refl w.heap.size w).alloc (by simp) _).alloc (by simp) _)
    obtain ⟨A, hdA⟩ : ∃ b, b = w.heap.size := ⟨_, rfl⟩
    obtain ⟨C, hdC⟩ : ∃ b, b = w.heap.size + 1 := ⟨_, rfl⟩
    have hsz : s3.heap.size = w.heap.size + 1 + 1 := by rw [hws]; simp
    have dCA : C ≠ A := by omega
    have kA0 : s3.cell? ⟨A, 0, none⟩ = some (.string q.sh) := by rw [hws]; simp [go_sem, hdA, hdC]
    have kA1 : s3.cell? ⟨A, 1, none⟩ = some (.int .i64 q.c) := by rw [hws]; simp [go_sem, hdA, hdC]
    have kA2 : s3.cell? ⟨A, 2, none⟩ = some (.int .i64 q.r) := by rw [hws]; simp [go_sem, hdA, hdC]
    have kA3 : s3.cell? ⟨A, 3, none⟩ = some (.bool q.fc) := by rw [hws]; simp [go_sem, hdA, hdC]
    have kA4 : s3.cell? ⟨A, 4, none⟩ = some (.bool q.fr) := by rw [hws]; simp [go_sem, hdA, hdC]
    have zA : A < s3.heap.size := by omega
    have lA : w.heap.size ≤ A := by have := Nat.le_refl w.heap.size; omega
    have kC0 : s3.cell? ⟨C, 0, none⟩ = some (.string ⟨#[]⟩) := by rw [hws]; simp [go_sem, hdA, hdC]
    have fC0 : s3.frozen? ⟨C, 0, none⟩ = false := by rw [hws]; simp [go_sem, hdA, hdC]
    have kC1 : s3.cell? ⟨C, 1, none⟩ = some (.int .i64 0) := by rw [hws]; simp [go_sem, hdA, hdC]
    have fC1 : s3.frozen? ⟨C, 1, none⟩ = false := by rw [hws]; simp [go_sem, hdA, hdC]
    have kC2 : s3.cell? ⟨C, 2, none⟩ = some (.int .i64 0) := by rw [hws]; simp [go_sem, hdA, hdC]
    have fC2 : s3.frozen? ⟨C, 2, none⟩ = false := by rw [hws]; simp [go_sem, hdA, hdC]
    have kC3 : s3.cell? ⟨C, 3, none⟩ = some (.bool false) := by rw [hws]; simp [go_sem, hdA, hdC]
    have fC3 : s3.frozen? ⟨C, 3, none⟩ = false := by rw [hws]; simp [go_sem, hdA, hdC]
    have kC4 : s3.cell? ⟨C, 4, none⟩ = some (.bool false) := by rw [hws]; simp [go_sem, hdA, hdC]
    have fC4 : s3.frozen? ⟨C, 4, none⟩ = false := by rw [hws]; simp [go_sem, hdA, hdC]
    have zC : C < s3.heap.size := by omega
    have lC : w.heap.size ≤ C := by have := Nat.le_refl w.heap.size; omega
    rw [← hws]
    try rw [← hdC]
    try rw [← hdA]
    clear hws hsz hdA hdC
    have hBo := hBs; clear hBs
    refine (HC.out _).mono ?_; rintro e s4 ⟨rfl, hb⟩
    replace kA0 := belK hb kA0 zA; replace kA1 := belK hb kA1 zA; replace kA2 := belK hb kA2 zA; replace kA3 := belK hb kA3 zA; replace kA4 := belK hb kA4 zA; replace zA := Nat.lt_of_lt_of_le zA hb.size
    replace kC0 := belK hb kC0 zC; replace fC0 := belF hb fC0 zC; replace kC1 := belK hb kC1 zC; replace fC1 := belF hb fC1 zC; replace kC2 := belK hb kC2 zC; replace fC2 := belF hb fC2 zC; replace kC3 := belK hb kC3 zC; replace fC3 := belF hb fC3 zC; replace kC4 := belK hb kC4 zC; replace fC4 := belF hb fC4 zC; replace zC := Nat.lt_of_lt_of_le zC hb.size
    replace hBo := hBo.trans (hb.mono hBo.size)
    clear hb
    go_wp2_with fail
    obtain ⟨s5, hws⟩ : ∃ s, s = (s4.alloc (.cells #[.int .i64 L, .int .i64 a, .int .i64 n, .func (.func g) #[] #[], .func (.func p) #[] #[]] 46)) := ⟨_, rfl⟩
    have hBs : Below w.heap.size w s5 := by rw [hws]; exact ((hBo).alloc (by exact hBo.size) _)
    obtain ⟨Q, hdQ⟩ : ∃ b, b = s4.heap.size := ⟨_, rfl⟩
    have hsz : s5.heap.size = s4.heap.size + 1 := by rw [hws]; simp
    have dCQ : C ≠ Q := by omega
    have hQC : ∀ p v, s4.cell? p = some v → s5.cell? p = some v := fun p v h => by rw [hws]; exact (alK h)
    have hQZ : ∀ b, b < s4.heap.size → b < s5.heap.size := fun b h => by omega
    have hQF : ∀ b j, b < s4.heap.size → s4.frozen? ⟨b, j, none⟩ = false → s5.frozen? ⟨b, j, none⟩ = false := fun b j z h => by rw [hws]; exact (alF z h)
    replace kA0 := hQC _ _ kA0; replace kA1 := hQC _ _ kA1; replace kA2 := hQC _ _ kA2; replace kA3 := hQC _ _ kA3; replace kA4 := hQC _ _ kA4; replace zA := hQZ _ zA
    replace kC0 := hQC _ _ kC0; replace fC0 := hQF _ _ zC fC0; replace kC1 := hQC _ _ kC1; replace fC1 := hQF _ _ zC fC1; replace kC2 := hQC _ _ kC2; replace fC2 := hQF _ _ zC fC2; replace kC3 := hQC _ _ kC3; replace fC3 := hQF _ _ zC fC3; replace kC4 := hQC _ _ kC4; replace fC4 := hQF _ _ zC fC4; replace zC := hQZ _ zC
    clear hQC hQZ hQF
    have kQ0 : s5.cell? ⟨Q, 0, none⟩ = some (.int .i64 L) := by rw [hws]; simp [go_sem, hdQ]
    have kQ1 : s5.cell? ⟨Q, 1, none⟩ = some (.int .i64 a) := by rw [hws]; simp [go_sem, hdQ]
    have kQ2 : s5.cell? ⟨Q, 2, none⟩ = some (.int .i64 n) := by rw [hws]; simp [go_sem, hdQ]
    have kQ3 : s5.cell? ⟨Q, 3, none⟩ = some (.func (.func g) #[] #[]) := by rw [hws]; simp [go_sem, hdQ]
    have kQ4 : s5.cell? ⟨Q, 4, none⟩ = some (.func (.func p) #[] #[]) := by rw [hws]; simp [go_sem, hdQ]
    have zQ : Q < s5.heap.size := by omega
    have lQ : w.heap.size ≤ Q := by have := hBo.size; omega
    rw [← hws]
    try rw [← hdQ]
    clear hBo
    clear hws hsz hdQ
    have hBo := hBs; clear hBs
    refine (HR.out _).mono ?_; rintro e s6 ⟨rfl, hb⟩
    replace kA0 := belK hb kA0 zA; replace kA1 := belK hb kA1 zA; replace kA2 := belK hb kA2 zA; replace kA3 := belK hb kA3 zA; replace kA4 := belK hb kA4 zA; replace zA := Nat.lt_of_lt_of_le zA hb.size
    replace kC0 := belK hb kC0 zC; replace fC0 := belF hb fC0 zC; replace kC1 := belK hb kC1 zC; replace fC1 := belF hb fC1 zC; replace kC2 := belK hb kC2 zC; replace fC2 := belF hb fC2 zC; replace kC3 := belK hb kC3 zC; replace fC3 := belF hb fC3 zC; replace kC4 := belK hb kC4 zC; replace fC4 := belF hb fC4 zC; replace zC := Nat.lt_of_lt_of_le zC hb.size
    replace kQ0 := belK hb kQ0 zQ; replace kQ1 := belK hb kQ1 zQ; replace kQ2 := belK hb kQ2 zQ; replace kQ3 := belK hb kQ3 zQ; replace kQ4 := belK hb kQ4 zQ; replace zQ := Nat.lt_of_lt_of_le zQ hb.size
    replace hBo := hBo.trans (hb.mono hBo.size)
    clear hb
    all_goals go_wp2_with fail
    all_goals refine bodyPost_ret (v := .tuple #[.agg #[.string ⟨#[]⟩, .int .i64 0, .int .i64 0, .bool false, .bool false], .bool false]) (by simp [results, Tryz.results21, go_sem, kC0, kC1, kC2, kC3, kC4, zC]) rfl ⟨rfl, ?_⟩
    all_goals exact (((((hBo.setCell lC _).setCell lC _).setCell lC _).setCell lC _).setCell lC _)
def chA (way a n : Int) (g p : Nat) : Value := .agg #[.int .i64 (lastZ way), .int .i64 a, .int .i64 n, .func (.func g) #[] #[], .func (.func p) #[] #[]]
set_option maxRecDepth 100000 in
set_option maxHeartbeats 4000000 in
theorem follow_yes (K : Nat) (HCF : ∀ (x y : Value) (w : World), (callFunc K #[x, y]).run Tryz.prog w = .ok (.enter K #[x, y]) w) (q : Rf) (way a n v : Int) (t : Rf) (b : Bool) (w : World) (hs : q.sh.size ≤ maxLen) (hm : mayB way a n = true) (hr : rgtR q = true)
    (HK : ∀ (g p : Nat) (w : World), Calls Tryz.prog K #[chA way a n g p, .int .i64 (plZ q way)] w fun e w' => e = .returned (.int .i64 v) ∧ Below w.heap.size w w')
    (h : ((v < 1 ∨ lastZ way < v) ∧ t = rf0 ∧ b = false) ∨ (1 ≤ v ∧ v ≤ lastZ way ∧ ptR q way v = t ∧ b = true)) :
    Calls Tryz.prog 21 #[.agg #[.string q.sh, .int .i64 q.c, .int .i64 q.r, .bool q.fc, .bool q.fr], .int .i64 way, .int .i64 a, .int .i64 n, .func (.func K) #[] #[]] w fun e w' => e = .returned (.tuple #[.agg #[.string t.sh, .int .i64 t.c, .int .i64 t.r, .bool t.fc, .bool t.fr], .bool b]) ∧ Below w.heap.size w w' := by
  have hud : undef = Value.tuple #[] := rfl
  have HC := Lib.hid (fun w => changeOf_yes way a n w hm)
  have HR := Lib.hid (fun w => right1_any q true w hs hr)
  have HG := Lib.hid (fun w => getF_any q way _ w rfl)
  have hcg := cfGet way
  have hcp := cfPut way
  have HP := Lib.hid (fun t w (h : ptR q way v = t) => putF_any q way v t w h)
  have HKK := Lib.hid (fun w => HK (getF way) (putF way) w)
  unfold chV at HC
  unfold chA at HKK
  generalize getF way = g at *
  generalize putF way = p at *
  generalize plZ q way = z at *
  generalize lastZ way = L at *
  clear hm hr HK
  rcases h with ⟨h1, rfl, rfl⟩ | ⟨h1, h2, h3, rfl⟩
  · rcases h1 with h1 | h1
    · clear hcp HP
      go_enter Tryz.func21, Tryz.ntmps21
      go_wp2_with fail
      obtain ⟨s7, hws⟩ : ∃ s, s = ((w.alloc (.cells #[.string q.sh, .int .i64 q.c, .int .i64 q.r, .bool q.fc, .bool q.fr] 23)).alloc (.cells #[.string ⟨#[]⟩, .int .i64 0, .int .i64 0, .bool false, .bool false] 23)) := ⟨_, rfl⟩
      have hBs : Below w.heap.size w s7 := by rw [hws]; exact (((Below.refl w.heap.size w).alloc (by simp) _).alloc (by simp) _)
      obtain ⟨A, hdA⟩ : ∃ b, b = w.heap.size := ⟨_, rfl⟩
      obtain ⟨C, hdC⟩ : ∃ b, b = w.heap.size + 1 := ⟨_, rfl⟩
      have hsz : s7.heap.size = w.heap.size + 1 + 1 := by rw [hws]; simp
      have dCA : C ≠ A := by omega
      have kA0 : s7.cell? ⟨A, 0, none⟩ = some (.string q.sh) := by rw [hws]; simp [go_sem, hdA, hdC]
      have kA1 : s7.cell? ⟨A, 1, none⟩ = some (.int .i64 q.c) := by rw [hws]; simp [go_sem, hdA, hdC]
      have kA2 : s7.cell? ⟨A, 2, none⟩ = some (.int .i64 q.r) := by rw [hws]; simp [go_sem, hdA, hdC]
      have kA3 : s7.cell? ⟨A, 3, none⟩ = some (.bool q.fc) := by rw [hws]; simp [go_sem, hdA, hdC]
      have kA4 : s7.cell? ⟨A, 4, none⟩ = some (.bool q.fr) := by rw [hws]; simp [go_sem, hdA, hdC]
      have zA : A < s7.heap.size := by omega
      have lA : w.heap.size ≤ A := by have := Nat.le_refl w.heap.size; omega
      have kC0 : s7.cell? ⟨C, 0, none⟩ = some (.string ⟨#[]⟩) := by rw [hws]; simp [go_sem, hdA, hdC]
      have fC0 : s7.frozen? ⟨C, 0, none⟩ = false := by rw [hws]; simp [go_sem, hdA, hdC]
      have kC1 : s7.cell? ⟨C, 1, none⟩ = some (.int .i64 0) := by rw [hws]; simp [go_sem, hdA, hdC]
      have fC1 : s7.frozen? ⟨C, 1, none⟩ = false := by rw [hws]; simp [go_sem, hdA, hdC]
      have kC2 : s7.cell? ⟨C, 2, none⟩ = some (.int .i64 0) := by rw [hws]; simp [go_sem, hdA, hdC]
      have fC2 : s7.frozen? ⟨C, 2, none⟩ = false := by rw [hws]; simp [go_sem, hdA, hdC]
      have kC3 : s7.cell? ⟨C, 3, none⟩ = some (.bool false) := by rw [hws]; simp [go_sem, hdA, hdC]
      have fC3 : s7.frozen? ⟨C, 3, none⟩ = false := by rw [hws]; simp [go_sem, hdA, hdC]
      have kC4 : s7.cell? ⟨C, 4, none⟩ = some (.bool false) := by rw [hws]; simp [go_sem, hdA, hdC]
      have fC4 : s7.frozen? ⟨C, 4, none⟩ = false := by rw [hws]; simp [go_sem, hdA, hdC]
      have zC : C < s7.heap.size := by omega
      have lC : w.heap.size ≤ C := by have := Nat.le_refl w.heap.size; omega
      rw [← hws]
      try rw [← hdC]
      try rw [← hdA]
      clear hws hsz hdA hdC
      have hBo := hBs; clear hBs
      refine (HC.out _).mono ?_; rintro e s8 ⟨rfl, hb⟩
      replace kA0 := belK hb kA0 zA; replace kA1 := belK hb kA1 zA; replace kA2 := belK hb kA2 zA; replace kA3 := belK hb kA3 zA; replace kA4 := belK hb kA4 zA; replace zA := Nat.lt_of_lt_of_le zA hb.size
      replace kC0 := belK hb kC0 zC; replace fC0 := belF hb fC0 zC; replace kC1 := belK hb kC1 zC; replace fC1 := belF hb fC1 zC; replace kC2 := belK hb kC2 zC; replace fC2 := belF hb fC2 zC; replace kC3 := belK hb kC3 zC; replace fC3 := belF hb fC3 zC; replace kC4 := belK hb kC4 zC; replace fC4 := belF hb fC4 zC; replace zC := Nat.lt_of_lt_of_le zC hb.size
      replace hBo := hBo.trans (hb.mono hBo.size)
      clear hb
      go_wp2_with fail
      obtain ⟨s9, hws⟩ : ∃ s, s = (s8.alloc (.cells #[.int .i64 L, .int .i64 a, .int .i64 n, .func (.func g) #[] #[], .func (.func p) #[] #[]] 46)) := ⟨_, rfl⟩
      have hBs : Below w.heap.size w s9 := by rw [hws]; exact ((hBo).alloc (by exact hBo.size) _)
      obtain ⟨Q, hdQ⟩ : ∃ b, b = s8.heap.size := ⟨_, rfl⟩
      have hsz : s9.heap.size = s8.heap.size + 1 := by rw [hws]; simp
      have dCQ : C ≠ Q := by omega
      have hQC : ∀ p v, s8.cell? p = some v → s9.cell? p = some v := fun p v h => by rw [hws]; exact (alK h)
      have hQZ : ∀ b, b < s8.heap.size → b < s9.heap.size := fun b h => by omega
      have hQF : ∀ b j, b < s8.heap.size → s8.frozen? ⟨b, j, none⟩ = false → s9.frozen? ⟨b, j, none⟩ = false := fun b j z h => by rw [hws]; exact (alF z h)
      replace kA0 := hQC _ _ kA0; replace kA1 := hQC _ _ kA1; replace kA2 := hQC _ _ kA2; replace kA3 := hQC _ _ kA3; replace kA4 := hQC _ _ kA4; replace zA := hQZ _ zA
      replace kC0 := hQC _ _ kC0; replace fC0 := hQF _ _ zC fC0; replace kC1 := hQC _ _ kC1; replace fC1 := hQF _ _ zC fC1; replace kC2 := hQC _ _ kC2; replace fC2 := hQF _ _ zC fC2; replace kC3 := hQC _ _ kC3; replace fC3 := hQF _ _ zC fC3; replace kC4 := hQC _ _ kC4; replace fC4 := hQF _ _ zC fC4; replace zC := hQZ _ zC
      clear hQC hQZ hQF
      have kQ0 : s9.cell? ⟨Q, 0, none⟩ = some (.int .i64 L) := by rw [hws]; simp [go_sem, hdQ]
      have kQ1 : s9.cell? ⟨Q, 1, none⟩ = some (.int .i64 a) := by rw [hws]; simp [go_sem, hdQ]
      have kQ2 : s9.cell? ⟨Q, 2, none⟩ = some (.int .i64 n) := by rw [hws]; simp [go_sem, hdQ]
      have kQ3 : s9.cell? ⟨Q, 3, none⟩ = some (.func (.func g) #[] #[]) := by rw [hws]; simp [go_sem, hdQ]
      have kQ4 : s9.cell? ⟨Q, 4, none⟩ = some (.func (.func p) #[] #[]) := by rw [hws]; simp [go_sem, hdQ]
      have zQ : Q < s9.heap.size := by omega
      have lQ : w.heap.size ≤ Q := by have := hBo.size; omega
      rw [← hws]
      try rw [← hdQ]
      clear hBo
      clear hws hsz hdQ
      have hBo := hBs; clear hBs
      refine (HR.out _).mono ?_; rintro e s10 ⟨rfl, hb⟩
      replace kA0 := belK hb kA0 zA; replace kA1 := belK hb kA1 zA; replace kA2 := belK hb kA2 zA; replace kA3 := belK hb kA3 zA; replace kA4 := belK hb kA4 zA; replace zA := Nat.lt_of_lt_of_le zA hb.size
      replace kC0 := belK hb kC0 zC; replace fC0 := belF hb fC0 zC; replace kC1 := belK hb kC1 zC; replace fC1 := belF hb fC1 zC; replace kC2 := belK hb kC2 zC; replace fC2 := belF hb fC2 zC; replace kC3 := belK hb kC3 zC; replace fC3 := belF hb fC3 zC; replace kC4 := belK hb kC4 zC; replace fC4 := belF hb fC4 zC; replace zC := Nat.lt_of_lt_of_le zC hb.size
      replace kQ0 := belK hb kQ0 zQ; replace kQ1 := belK hb kQ1 zQ; replace kQ2 := belK hb kQ2 zQ; replace kQ3 := belK hb kQ3 zQ; replace kQ4 := belK hb kQ4 zQ; replace zQ := Nat.lt_of_lt_of_le zQ hb.size
      replace hBo := hBo.trans (hb.mono hBo.size)
      clear hb
      go_wp2_with fail
      have HF : Hid (∀ W, Below s10.heap.size s10 W → Below w.heap.size w W) := fun W hW => hBo.trans (hW.mono hBo.size)
      clear hBo
      refine wp_region_held_drew (S := fun w' => w'.cell? ⟨A, 0, none⟩ = some (.string q.sh) ∧ w'.cell? ⟨A, 1, none⟩ = some (.int .i64 q.c) ∧ w'.cell? ⟨A, 2, none⟩ = some (.int .i64 q.r) ∧ w'.cell? ⟨A, 3, none⟩ = some (.bool q.fc) ∧ w'.cell? ⟨A, 4, none⟩ = some (.bool q.fr) ∧ w'.cell? ⟨Q, 0, none⟩ = some (.int .i64 L) ∧ w'.cell? ⟨Q, 1, none⟩ = some (.int .i64 a) ∧ w'.cell? ⟨Q, 2, none⟩ = some (.int .i64 n) ∧ w'.cell? ⟨Q, 3, none⟩ = some (.func (.func g) #[] #[]) ∧ w'.cell? ⟨Q, 4, none⟩ = some (.func (.func p) #[] #[])) (by kernel_rfl) (by ((try dsimp only); (go_keep))) (fun hHeld => ?_)
      refine wpAnyH_take (i := 0) (v := ?_) rfl (by kernel_rfl) (by kernel_rfl) (by kernel_rfl) (fun _ _ _ h => h) (Or.inl ⟨by rfl, ?_⟩) (by assumption) ?_
      rotate_left 1
      · (intro w hSw; (try dsimp only at hSw); go_simp; first | done | with_reducible rfl)
      try simp only [Act.put, List.getElem_toArray, List.getElem_cons_succ, List.getElem_cons_zero, List.setIfInBounds_toArray, List.set_cons_zero, List.set_cons_succ]
      refine wpAnyH_take (i := 1) (v := ?_) rfl (by kernel_rfl) (by kernel_rfl) (by kernel_rfl) (fun _ _ _ h => h) (Or.inl ⟨by rfl, ?_⟩) (by assumption) ?_
      rotate_left 1
      · (intro w hSw; (try dsimp only at hSw); go_simp; first | done | with_reducible rfl)
      try simp only [Act.put, List.getElem_toArray, List.getElem_cons_succ, List.getElem_cons_zero, List.setIfInBounds_toArray, List.set_cons_zero, List.set_cons_succ]
      refine wpAnyH_take (i := 2) (v := ?_) rfl (by kernel_rfl) (by kernel_rfl) (by kernel_rfl) (fun _ _ _ h => h) (Or.inl ⟨by rfl, ?_⟩) (by assumption) ?_
      rotate_left 1
      · (intro w hSw; (try dsimp only at hSw); go_simp; first | done | with_reducible rfl)
      try simp only [Act.put, List.getElem_toArray, List.getElem_cons_succ, List.getElem_cons_zero, List.setIfInBounds_toArray, List.set_cons_zero, List.set_cons_succ]
      refine wpAnyH_take (i := 3) (v := ?_) rfl (by kernel_rfl) (by kernel_rfl) (by kernel_rfl) (fun _ _ _ h => h) (Or.inl ⟨by rfl, ?_⟩) (by assumption) ?_
      rotate_left 1
      · (intro w hSw; (try dsimp only at hSw); go_simp; first | done | with_reducible rfl)
      try simp only [Act.put, List.getElem_toArray, List.getElem_cons_succ, List.getElem_cons_zero, List.setIfInBounds_toArray, List.set_cons_zero, List.set_cons_succ]
      refine wpAnyH_take (i := 4) (v := ?_) rfl (by kernel_rfl) (by kernel_rfl) (by kernel_rfl) (fun _ _ _ h => h) (Or.inl ⟨by rfl, ?_⟩) (by assumption) ?_
      rotate_left 1
      · (intro w hSw; (try dsimp only at hSw); go_simp; first | done | with_reducible rfl)
      try simp only [Act.put, List.getElem_toArray, List.getElem_cons_succ, List.getElem_cons_zero, List.setIfInBounds_toArray, List.set_cons_zero, List.set_cons_succ]
      refine wpAnyH_ready (rs := [5]) (by kernel_rfl) (by simp) ?_
      refine AllReadyH.cons rfl (fun K hK => ?_) AllReadyH.nil
      go_simp
      (refine (HG.out _).mono ?_; rintro e x11 ⟨rfl, hbx⟩; have hTx : Below s10.heap.size s10 x11 := (by first | exact (Below.refl _ _).drew.trans hbx | exact Below.trans (by assumption) (hbx.mono (Below.size (by assumption))) | exact (Below.refl _ _).trans hbx); obtain ⟨hcx, hfx⟩ := bcell hTx)
      try (go_wp2_with fail)
      refine hK.out _ _ (by ((try dsimp only); (go_keep))) (fun hHeld => ?_)
      clear hK K
      try simp only [Act.put, List.getElem_toArray, List.getElem_cons_succ, List.getElem_cons_zero, List.setIfInBounds_toArray, List.set_cons_zero, List.set_cons_succ]
      refine wpAnyH_ready (rs := [6]) (by kernel_rfl) (by simp) ?_
      refine AllReadyH.cons rfl (fun K hK => ?_) AllReadyH.nil
      go_simp
      (refine (HKK.out _).mono ?_; rintro e x11 ⟨rfl, hbx⟩; have hTx : Below s10.heap.size s10 x11 := (by first | exact (Below.refl _ _).drew.trans hbx | exact Below.trans (by assumption) (hbx.mono (Below.size (by assumption))) | exact (Below.refl _ _).trans hbx); obtain ⟨hcx, hfx⟩ := bcell hTx)
      try (go_wp2_with fail)
      refine hK.out _ _ (by ((try dsimp only); (go_keep))) (fun hHeld => ?_)
      clear hK K
      try simp only [Act.put, List.getElem_toArray, List.getElem_cons_succ, List.getElem_cons_zero, List.setIfInBounds_toArray, List.set_cons_zero, List.set_cons_succ]
      refine wpAnyH_take (i := 7) (v := ?_) rfl (by kernel_rfl) (by kernel_rfl) (by kernel_rfl) (fun _ _ _ h => h) (Or.inl ⟨by rfl, ?_⟩) (by assumption) ?_
      rotate_left 1
      · (intro w hSw; (try dsimp only at hSw); go_simp; first | done | with_reducible rfl)
      try simp only [Act.put, List.getElem_toArray, List.getElem_cons_succ, List.getElem_cons_zero, List.setIfInBounds_toArray, List.set_cons_zero, List.set_cons_succ]
      refine wpAnyH_done (by kernel_rfl) ?_ _
      all_goals go_wp2_with fail
      all_goals refine bodyPost_ret (v := .tuple #[.agg #[.string ⟨#[]⟩, .int .i64 0, .int .i64 0, .bool false, .bool false], .bool false]) (by simp [results, Tryz.results21, go_sem, hcx, kC0, kC1, kC2, kC3, kC4, zC]) rfl ⟨rfl, ?_⟩
      all_goals exact ((((((HF.out _ (by assumption)).setCell lC _).setCell lC _).setCell lC _).setCell lC _).setCell lC _)
    · have h1' : ¬ v < 1 ∨ v < 1 := by omega
      by_cases h5 : v < 1
      · clear hcp HP
        go_enter Tryz.func21, Tryz.ntmps21
        go_wp2_with fail
        obtain ⟨s12, hws⟩ : ∃ s, s = ((w.alloc (.cells #[.string q.sh, .int .i64 q.c, .int .i64 q.r, .bool q.fc, .bool q.fr] 23)).alloc (.cells #[.string ⟨#[]⟩, .int .i64 0, .int .i64 0, .bool false, .bool false] 23)) := ⟨_, rfl⟩
        have hBs : Below w.heap.size w s12 := by rw [hws]; exact (((Below.refl w.heap.size w).alloc (by simp) _).alloc (by simp) _)
        obtain ⟨A, hdA⟩ : ∃ b, b = w.heap.size := ⟨_, rfl⟩
        obtain ⟨C, hdC⟩ : ∃ b, b = w.heap.size + 1 := ⟨_, rfl⟩
        have hsz : s12.heap.size = w.heap.size + 1 + 1 := by rw [hws]; simp
        have dCA : C ≠ A := by omega
        have kA0 : s12.cell? ⟨A, 0, none⟩ = some (.string q.sh) := by rw [hws]; simp [go_sem, hdA, hdC]
        have kA1 : s12.cell? ⟨A, 1, none⟩ = some (.int .i64 q.c) := by rw [hws]; simp [go_sem, hdA, hdC]
        have kA2 : s12.cell? ⟨A, 2, none⟩ = some (.int .i64 q.r) := by rw [hws]; simp [go_sem, hdA, hdC]
        have kA3 : s12.cell? ⟨A, 3, none⟩ = some (.bool q.fc) := by rw [hws]; simp [go_sem, hdA, hdC]
        have kA4 : s12.cell? ⟨A, 4, none⟩ = some (.bool q.fr) := by rw [hws]; simp [go_sem, hdA, hdC]
        have zA : A < s12.heap.size := by omega
        have lA : w.heap.size ≤ A := by have := Nat.le_refl w.heap.size; omega
        have kC0 : s12.cell? ⟨C, 0, none⟩ = some (.string ⟨#[]⟩) := by rw [hws]; simp [go_sem, hdA, hdC]
        have fC0 : s12.frozen? ⟨C, 0, none⟩ = false := by rw [hws]; simp [go_sem, hdA, hdC]
        have kC1 : s12.cell? ⟨C, 1, none⟩ = some (.int .i64 0) := by rw [hws]; simp [go_sem, hdA, hdC]
        have fC1 : s12.frozen? ⟨C, 1, none⟩ = false := by rw [hws]; simp [go_sem, hdA, hdC]
        have kC2 : s12.cell? ⟨C, 2, none⟩ = some (.int .i64 0) := by rw [hws]; simp [go_sem, hdA, hdC]
        have fC2 : s12.frozen? ⟨C, 2, none⟩ = false := by rw [hws]; simp [go_sem, hdA, hdC]
        have kC3 : s12.cell? ⟨C, 3, none⟩ = some (.bool false) := by rw [hws]; simp [go_sem, hdA, hdC]
        have fC3 : s12.frozen? ⟨C, 3, none⟩ = false := by rw [hws]; simp [go_sem, hdA, hdC]
        have kC4 : s12.cell? ⟨C, 4, none⟩ = some (.bool false) := by rw [hws]; simp [go_sem, hdA, hdC]
        have fC4 : s12.frozen? ⟨C, 4, none⟩ = false := by rw [hws]; simp [go_sem, hdA, hdC]
        have zC : C < s12.heap.size := by omega
        have lC : w.heap.size ≤ C := by have := Nat.le_refl w.heap.size; omega
        rw [← hws]
        try rw [← hdC]
        try rw [← hdA]
        clear hws hsz hdA hdC
        have hBo := hBs; clear hBs
        refine (HC.out _).mono ?_; rintro e s13 ⟨rfl, hb⟩
        replace kA0 := belK hb kA0 zA; replace kA1 := belK hb kA1 zA; replace kA2 := belK hb kA2 zA; replace kA3 := belK hb kA3 zA; replace kA4 := belK hb kA4 zA; replace zA := Nat.lt_of_lt_of_le zA hb.size
        replace kC0 := belK hb kC0 zC; replace fC0 := belF hb fC0 zC; replace kC1 := belK hb kC1 zC; replace fC1 := belF hb fC1 zC; replace kC2 := belK hb kC2 zC; replace fC2 := belF hb fC2 zC; replace kC3 := belK hb kC3 zC; replace fC3 := belF hb fC3 zC; replace kC4 := belK hb kC4 zC; replace fC4 := belF hb fC4 zC; replace zC := Nat.lt_of_lt_of_le zC hb.size
        replace hBo := hBo.trans (hb.mono hBo.size)
        clear hb
        go_wp2_with fail
        obtain ⟨s14, hws⟩ : ∃ s, s = (s13.alloc (.cells #[.int .i64 L, .int .i64 a, .int .i64 n, .func (.func g) #[] #[], .func (.func p) #[] #[]] 46)) := ⟨_, rfl⟩
        have hBs : Below w.heap.size w s14 := by rw [hws]; exact ((hBo).alloc (by exact hBo.size) _)
        obtain ⟨Q, hdQ⟩ : ∃ b, b = s13.heap.size := ⟨_, rfl⟩
        have hsz : s14.heap.size = s13.heap.size + 1 := by rw [hws]; simp
        have dCQ : C ≠ Q := by omega
        have hQC : ∀ p v, s13.cell? p = some v → s14.cell? p = some v := fun p v h => by rw [hws]; exact (alK h)
        have hQZ : ∀ b, b < s13.heap.size → b < s14.heap.size := fun b h => by omega
        have hQF : ∀ b j, b < s13.heap.size → s13.frozen? ⟨b, j, none⟩ = false → s14.frozen? ⟨b, j, none⟩ = false := fun b j z h => by rw [hws]; exact (alF z h)
        replace kA0 := hQC _ _ kA0; replace kA1 := hQC _ _ kA1; replace kA2 := hQC _ _ kA2; replace kA3 := hQC _ _ kA3; replace kA4 := hQC _ _ kA4; replace zA := hQZ _ zA
        replace kC0 := hQC _ _ kC0; replace fC0 := hQF _ _ zC fC0; replace kC1 := hQC _ _ kC1; replace fC1 := hQF _ _ zC fC1; replace kC2 := hQC _ _ kC2; replace fC2 := hQF _ _ zC fC2; replace kC3 := hQC _ _ kC3; replace fC3 := hQF _ _ zC fC3; replace kC4 := hQC _ _ kC4; replace fC4 := hQF _ _ zC fC4; replace zC := hQZ _ zC
        clear hQC hQZ hQF
        have kQ0 : s14.cell? ⟨Q, 0, none⟩ = some (.int .i64 L) := by rw [hws]; simp [go_sem, hdQ]
        have kQ1 : s14.cell? ⟨Q, 1, none⟩ = some (.int .i64 a) := by rw [hws]; simp [go_sem, hdQ]
        have kQ2 : s14.cell? ⟨Q, 2, none⟩ = some (.int .i64 n) := by rw [hws]; simp [go_sem, hdQ]
        have kQ3 : s14.cell? ⟨Q, 3, none⟩ = some (.func (.func g) #[] #[]) := by rw [hws]; simp [go_sem, hdQ]
        have kQ4 : s14.cell? ⟨Q, 4, none⟩ = some (.func (.func p) #[] #[]) := by rw [hws]; simp [go_sem, hdQ]
        have zQ : Q < s14.heap.size := by omega
        have lQ : w.heap.size ≤ Q := by have := hBo.size; omega
        rw [← hws]
        try rw [← hdQ]
        clear hBo
        clear hws hsz hdQ
        have hBo := hBs; clear hBs
        refine (HR.out _).mono ?_; rintro e s15 ⟨rfl, hb⟩
        replace kA0 := belK hb kA0 zA; replace kA1 := belK hb kA1 zA; replace kA2 := belK hb kA2 zA; replace kA3 := belK hb kA3 zA; replace kA4 := belK hb kA4 zA; replace zA := Nat.lt_of_lt_of_le zA hb.size
        replace kC0 := belK hb kC0 zC; replace fC0 := belF hb fC0 zC; replace kC1 := belK hb kC1 zC; replace fC1 := belF hb fC1 zC; replace kC2 := belK hb kC2 zC; replace fC2 := belF hb fC2 zC; replace kC3 := belK hb kC3 zC; replace fC3 := belF hb fC3 zC; replace kC4 := belK hb kC4 zC; replace fC4 := belF hb fC4 zC; replace zC := Nat.lt_of_lt_of_le zC hb.size
        replace kQ0 := belK hb kQ0 zQ; replace kQ1 := belK hb kQ1 zQ; replace kQ2 := belK hb kQ2 zQ; replace kQ3 := belK hb kQ3 zQ; replace kQ4 := belK hb kQ4 zQ; replace zQ := Nat.lt_of_lt_of_le zQ hb.size
        replace hBo := hBo.trans (hb.mono hBo.size)
        clear hb
        go_wp2_with fail
        have HF : Hid (∀ W, Below s15.heap.size s15 W → Below w.heap.size w W) := fun W hW => hBo.trans (hW.mono hBo.size)
        clear hBo
        refine wp_region_held_drew (S := fun w' => w'.cell? ⟨A, 0, none⟩ = some (.string q.sh) ∧ w'.cell? ⟨A, 1, none⟩ = some (.int .i64 q.c) ∧ w'.cell? ⟨A, 2, none⟩ = some (.int .i64 q.r) ∧ w'.cell? ⟨A, 3, none⟩ = some (.bool q.fc) ∧ w'.cell? ⟨A, 4, none⟩ = some (.bool q.fr) ∧ w'.cell? ⟨Q, 0, none⟩ = some (.int .i64 L) ∧ w'.cell? ⟨Q, 1, none⟩ = some (.int .i64 a) ∧ w'.cell? ⟨Q, 2, none⟩ = some (.int .i64 n) ∧ w'.cell? ⟨Q, 3, none⟩ = some (.func (.func g) #[] #[]) ∧ w'.cell? ⟨Q, 4, none⟩ = some (.func (.func p) #[] #[])) (by kernel_rfl) (by ((try dsimp only); (go_keep))) (fun hHeld => ?_)
        refine wpAnyH_take (i := 0) (v := ?_) rfl (by kernel_rfl) (by kernel_rfl) (by kernel_rfl) (fun _ _ _ h => h) (Or.inl ⟨by rfl, ?_⟩) (by assumption) ?_
        rotate_left 1
        · (intro w hSw; (try dsimp only at hSw); go_simp; first | done | with_reducible rfl)
        try simp only [Act.put, List.getElem_toArray, List.getElem_cons_succ, List.getElem_cons_zero, List.setIfInBounds_toArray, List.set_cons_zero, List.set_cons_succ]
        refine wpAnyH_take (i := 1) (v := ?_) rfl (by kernel_rfl) (by kernel_rfl) (by kernel_rfl) (fun _ _ _ h => h) (Or.inl ⟨by rfl, ?_⟩) (by assumption) ?_
        rotate_left 1
        · (intro w hSw; (try dsimp only at hSw); go_simp; first | done | with_reducible rfl)
        try simp only [Act.put, List.getElem_toArray, List.getElem_cons_succ, List.getElem_cons_zero, List.setIfInBounds_toArray, List.set_cons_zero, List.set_cons_succ]
        refine wpAnyH_take (i := 2) (v := ?_) rfl (by kernel_rfl) (by kernel_rfl) (by kernel_rfl) (fun _ _ _ h => h) (Or.inl ⟨by rfl, ?_⟩) (by assumption) ?_
        rotate_left 1
        · (intro w hSw; (try dsimp only at hSw); go_simp; first | done | with_reducible rfl)
        try simp only [Act.put, List.getElem_toArray, List.getElem_cons_succ, List.getElem_cons_zero, List.setIfInBounds_toArray, List.set_cons_zero, List.set_cons_succ]
        refine wpAnyH_take (i := 3) (v := ?_) rfl (by kernel_rfl) (by kernel_rfl) (by kernel_rfl) (fun _ _ _ h => h) (Or.inl ⟨by rfl, ?_⟩) (by assumption) ?_
        rotate_left 1
        · (intro w hSw; (try dsimp only at hSw); go_simp; first | done | with_reducible rfl)
        try simp only [Act.put, List.getElem_toArray, List.getElem_cons_succ, List.getElem_cons_zero, List.setIfInBounds_toArray, List.set_cons_zero, List.set_cons_succ]
        refine wpAnyH_take (i := 4) (v := ?_) rfl (by kernel_rfl) (by kernel_rfl) (by kernel_rfl) (fun _ _ _ h => h) (Or.inl ⟨by rfl, ?_⟩) (by assumption) ?_
        rotate_left 1
        · (intro w hSw; (try dsimp only at hSw); go_simp; first | done | with_reducible rfl)
        try simp only [Act.put, List.getElem_toArray, List.getElem_cons_succ, List.getElem_cons_zero, List.setIfInBounds_toArray, List.set_cons_zero, List.set_cons_succ]
        refine wpAnyH_ready (rs := [5]) (by kernel_rfl) (by simp) ?_
        refine AllReadyH.cons rfl (fun K hK => ?_) AllReadyH.nil
        go_simp
        (refine (HG.out _).mono ?_; rintro e x16 ⟨rfl, hbx⟩; have hTx : Below s15.heap.size s15 x16 := (by first | exact (Below.refl _ _).drew.trans hbx | exact Below.trans (by assumption) (hbx.mono (Below.size (by assumption))) | exact (Below.refl _ _).trans hbx); obtain ⟨hcx, hfx⟩ := bcell hTx)
        try (go_wp2_with fail)
        refine hK.out _ _ (by ((try dsimp only); (go_keep))) (fun hHeld => ?_)
        clear hK K
        try simp only [Act.put, List.getElem_toArray, List.getElem_cons_succ, List.getElem_cons_zero, List.setIfInBounds_toArray, List.set_cons_zero, List.set_cons_succ]
        refine wpAnyH_ready (rs := [6]) (by kernel_rfl) (by simp) ?_
        refine AllReadyH.cons rfl (fun K hK => ?_) AllReadyH.nil
        go_simp
        (refine (HKK.out _).mono ?_; rintro e x16 ⟨rfl, hbx⟩; have hTx : Below s15.heap.size s15 x16 := (by first | exact (Below.refl _ _).drew.trans hbx | exact Below.trans (by assumption) (hbx.mono (Below.size (by assumption))) | exact (Below.refl _ _).trans hbx); obtain ⟨hcx, hfx⟩ := bcell hTx)
        try (go_wp2_with fail)
        refine hK.out _ _ (by ((try dsimp only); (go_keep))) (fun hHeld => ?_)
        clear hK K
        try simp only [Act.put, List.getElem_toArray, List.getElem_cons_succ, List.getElem_cons_zero, List.setIfInBounds_toArray, List.set_cons_zero, List.set_cons_succ]
        refine wpAnyH_take (i := 7) (v := ?_) rfl (by kernel_rfl) (by kernel_rfl) (by kernel_rfl) (fun _ _ _ h => h) (Or.inl ⟨by rfl, ?_⟩) (by assumption) ?_
        rotate_left 1
        · (intro w hSw; (try dsimp only at hSw); go_simp; first | done | with_reducible rfl)
        try simp only [Act.put, List.getElem_toArray, List.getElem_cons_succ, List.getElem_cons_zero, List.setIfInBounds_toArray, List.set_cons_zero, List.set_cons_succ]
        refine wpAnyH_done (by kernel_rfl) ?_ _
        all_goals go_wp2_with fail
        all_goals refine bodyPost_ret (v := .tuple #[.agg #[.string ⟨#[]⟩, .int .i64 0, .int .i64 0, .bool false, .bool false], .bool false]) (by simp [results, Tryz.results21, go_sem, hcx, kC0, kC1, kC2, kC3, kC4, zC]) rfl ⟨rfl, ?_⟩
        all_goals exact ((((((HF.out _ (by assumption)).setCell lC _).setCell lC _).setCell lC _).setCell lC _).setCell lC _)
      · clear hcp HP h1'
        go_enter Tryz.func21, Tryz.ntmps21
        go_wp2_with fail
        obtain ⟨s17, hws⟩ : ∃ s, s = ((w.alloc (.cells #[.string q.sh, .int .i64 q.c, .int .i64 q.r, .bool q.fc, .bool q.fr] 23)).alloc (.cells #[.string ⟨#[]⟩, .int .i64 0, .int .i64 0, .bool false, .bool false] 23)) := ⟨_, rfl⟩
        have hBs : Below w.heap.size w s17 := by rw [hws]; exact (((Below.refl w.heap.size w).alloc (by simp) _).alloc (by simp) _)
        obtain ⟨A, hdA⟩ : ∃ b, b = w.heap.size := ⟨_, rfl⟩
        obtain ⟨C, hdC⟩ : ∃ b, b = w.heap.size + 1 := ⟨_, rfl⟩
        have hsz : s17.heap.size = w.heap.size + 1 + 1 := by rw [hws]; simp
        have dCA : C ≠ A := by omega
        have kA0 : s17.cell? ⟨A, 0, none⟩ = some (.string q.sh) := by rw [hws]; simp [go_sem, hdA, hdC]
        have kA1 : s17.cell? ⟨A, 1, none⟩ = some (.int .i64 q.c) := by rw [hws]; simp [go_sem, hdA, hdC]
        have kA2 : s17.cell? ⟨A, 2, none⟩ = some (.int .i64 q.r) := by rw [hws]; simp [go_sem, hdA, hdC]
        have kA3 : s17.cell? ⟨A, 3, none⟩ = some (.bool q.fc) := by rw [hws]; simp [go_sem, hdA, hdC]
        have kA4 : s17.cell? ⟨A, 4, none⟩ = some (.bool q.fr) := by rw [hws]; simp [go_sem, hdA, hdC]
        have zA : A < s17.heap.size := by omega
        have lA : w.heap.size ≤ A := by have := Nat.le_refl w.heap.size; omega
        have kC0 : s17.cell? ⟨C, 0, none⟩ = some (.string ⟨#[]⟩) := by rw [hws]; simp [go_sem, hdA, hdC]
        have fC0 : s17.frozen? ⟨C, 0, none⟩ = false := by rw [hws]; simp [go_sem, hdA, hdC]
        have kC1 : s17.cell? ⟨C, 1, none⟩ = some (.int .i64 0) := by rw [hws]; simp [go_sem, hdA, hdC]
        have fC1 : s17.frozen? ⟨C, 1, none⟩ = false := by rw [hws]; simp [go_sem, hdA, hdC]
        have kC2 : s17.cell? ⟨C, 2, none⟩ = some (.int .i64 0) := by rw [hws]; simp [go_sem, hdA, hdC]
        have fC2 : s17.frozen? ⟨C, 2, none⟩ = false := by rw [hws]; simp [go_sem, hdA, hdC]
        have kC3 : s17.cell? ⟨C, 3, none⟩ = some (.bool false) := by rw [hws]; simp [go_sem, hdA, hdC]
        have fC3 : s17.frozen? ⟨C, 3, none⟩ = false := by rw [hws]; simp [go_sem, hdA, hdC]
        have kC4 : s17.cell? ⟨C, 4, none⟩ = some (.bool false) := by rw [hws]; simp [go_sem, hdA, hdC]
        have fC4 : s17.frozen? ⟨C, 4, none⟩ = false := by rw [hws]; simp [go_sem, hdA, hdC]
        have zC : C < s17.heap.size := by omega
        have lC : w.heap.size ≤ C := by have := Nat.le_refl w.heap.size; omega
        rw [← hws]
        try rw [← hdC]
        try rw [← hdA]
        clear hws hsz hdA hdC
        have hBo := hBs; clear hBs
        refine (HC.out _).mono ?_; rintro e s18 ⟨rfl, hb⟩
        replace kA0 := belK hb kA0 zA; replace kA1 := belK hb kA1 zA; replace kA2 := belK hb kA2 zA; replace kA3 := belK hb kA3 zA; replace kA4 := belK hb kA4 zA; replace zA := Nat.lt_of_lt_of_le zA hb.size
        replace kC0 := belK hb kC0 zC; replace fC0 := belF hb fC0 zC; replace kC1 := belK hb kC1 zC; replace fC1 := belF hb fC1 zC; replace kC2 := belK hb kC2 zC; replace fC2 := belF hb fC2 zC; replace kC3 := belK hb kC3 zC; replace fC3 := belF hb fC3 zC; replace kC4 := belK hb kC4 zC; replace fC4 := belF hb fC4 zC; replace zC := Nat.lt_of_lt_of_le zC hb.size
        replace hBo := hBo.trans (hb.mono hBo.size)
        clear hb
        go_wp2_with fail
        obtain ⟨s19, hws⟩ : ∃ s, s = (s18.alloc (.cells #[.int .i64 L, .int .i64 a, .int .i64 n, .func (.func g) #[] #[], .func (.func p) #[] #[]] 46)) := ⟨_, rfl⟩
        have hBs : Below w.heap.size w s19 := by rw [hws]; exact ((hBo).alloc (by exact hBo.size) _)
        obtain ⟨Q, hdQ⟩ : ∃ b, b = s18.heap.size := ⟨_, rfl⟩
        have hsz : s19.heap.size = s18.heap.size + 1 := by rw [hws]; simp
        have dCQ : C ≠ Q := by omega
        have hQC : ∀ p v, s18.cell? p = some v → s19.cell? p = some v := fun p v h => by rw [hws]; exact (alK h)
        have hQZ : ∀ b, b < s18.heap.size → b < s19.heap.size := fun b h => by omega
        have hQF : ∀ b j, b < s18.heap.size → s18.frozen? ⟨b, j, none⟩ = false → s19.frozen? ⟨b, j, none⟩ = false := fun b j z h => by rw [hws]; exact (alF z h)
        replace kA0 := hQC _ _ kA0; replace kA1 := hQC _ _ kA1; replace kA2 := hQC _ _ kA2; replace kA3 := hQC _ _ kA3; replace kA4 := hQC _ _ kA4; replace zA := hQZ _ zA
        replace kC0 := hQC _ _ kC0; replace fC0 := hQF _ _ zC fC0; replace kC1 := hQC _ _ kC1; replace fC1 := hQF _ _ zC fC1; replace kC2 := hQC _ _ kC2; replace fC2 := hQF _ _ zC fC2; replace kC3 := hQC _ _ kC3; replace fC3 := hQF _ _ zC fC3; replace kC4 := hQC _ _ kC4; replace fC4 := hQF _ _ zC fC4; replace zC := hQZ _ zC
        clear hQC hQZ hQF
        have kQ0 : s19.cell? ⟨Q, 0, none⟩ = some (.int .i64 L) := by rw [hws]; simp [go_sem, hdQ]
        have kQ1 : s19.cell? ⟨Q, 1, none⟩ = some (.int .i64 a) := by rw [hws]; simp [go_sem, hdQ]
        have kQ2 : s19.cell? ⟨Q, 2, none⟩ = some (.int .i64 n) := by rw [hws]; simp [go_sem, hdQ]
        have kQ3 : s19.cell? ⟨Q, 3, none⟩ = some (.func (.func g) #[] #[]) := by rw [hws]; simp [go_sem, hdQ]
        have kQ4 : s19.cell? ⟨Q, 4, none⟩ = some (.func (.func p) #[] #[]) := by rw [hws]; simp [go_sem, hdQ]
        have zQ : Q < s19.heap.size := by omega
        have lQ : w.heap.size ≤ Q := by have := hBo.size; omega
        rw [← hws]
        try rw [← hdQ]
        clear hBo
        clear hws hsz hdQ
        have hBo := hBs; clear hBs
        refine (HR.out _).mono ?_; rintro e s20 ⟨rfl, hb⟩
        replace kA0 := belK hb kA0 zA; replace kA1 := belK hb kA1 zA; replace kA2 := belK hb kA2 zA; replace kA3 := belK hb kA3 zA; replace kA4 := belK hb kA4 zA; replace zA := Nat.lt_of_lt_of_le zA hb.size
        replace kC0 := belK hb kC0 zC; replace fC0 := belF hb fC0 zC; replace kC1 := belK hb kC1 zC; replace fC1 := belF hb fC1 zC; replace kC2 := belK hb kC2 zC; replace fC2 := belF hb fC2 zC; replace kC3 := belK hb kC3 zC; replace fC3 := belF hb fC3 zC; replace kC4 := belK hb kC4 zC; replace fC4 := belF hb fC4 zC; replace zC := Nat.lt_of_lt_of_le zC hb.size
        replace kQ0 := belK hb kQ0 zQ; replace kQ1 := belK hb kQ1 zQ; replace kQ2 := belK hb kQ2 zQ; replace kQ3 := belK hb kQ3 zQ; replace kQ4 := belK hb kQ4 zQ; replace zQ := Nat.lt_of_lt_of_le zQ hb.size
        replace hBo := hBo.trans (hb.mono hBo.size)
        clear hb
        go_wp2_with fail
        have HF : Hid (∀ W, Below s20.heap.size s20 W → Below w.heap.size w W) := fun W hW => hBo.trans (hW.mono hBo.size)
        clear hBo
        refine wp_region_held_drew (S := fun w' => w'.cell? ⟨A, 0, none⟩ = some (.string q.sh) ∧ w'.cell? ⟨A, 1, none⟩ = some (.int .i64 q.c) ∧ w'.cell? ⟨A, 2, none⟩ = some (.int .i64 q.r) ∧ w'.cell? ⟨A, 3, none⟩ = some (.bool q.fc) ∧ w'.cell? ⟨A, 4, none⟩ = some (.bool q.fr) ∧ w'.cell? ⟨Q, 0, none⟩ = some (.int .i64 L) ∧ w'.cell? ⟨Q, 1, none⟩ = some (.int .i64 a) ∧ w'.cell? ⟨Q, 2, none⟩ = some (.int .i64 n) ∧ w'.cell? ⟨Q, 3, none⟩ = some (.func (.func g) #[] #[]) ∧ w'.cell? ⟨Q, 4, none⟩ = some (.func (.func p) #[] #[])) (by kernel_rfl) (by ((try dsimp only); (go_keep))) (fun hHeld => ?_)
        refine wpAnyH_take (i := 0) (v := ?_) rfl (by kernel_rfl) (by kernel_rfl) (by kernel_rfl) (fun _ _ _ h => h) (Or.inl ⟨by rfl, ?_⟩) (by assumption) ?_
        rotate_left 1
        · (intro w hSw; (try dsimp only at hSw); go_simp; first | done | with_reducible rfl)
        try simp only [Act.put, List.getElem_toArray, List.getElem_cons_succ, List.getElem_cons_zero, List.setIfInBounds_toArray, List.set_cons_zero, List.set_cons_succ]
        refine wpAnyH_take (i := 1) (v := ?_) rfl (by kernel_rfl) (by kernel_rfl) (by kernel_rfl) (fun _ _ _ h => h) (Or.inl ⟨by rfl, ?_⟩) (by assumption) ?_
        rotate_left 1
        · (intro w hSw; (try dsimp only at hSw); go_simp; first | done | with_reducible rfl)
        try simp only [Act.put, List.getElem_toArray, List.getElem_cons_succ, List.getElem_cons_zero, List.setIfInBounds_toArray, List.set_cons_zero, List.set_cons_succ]
        refine wpAnyH_take (i := 2) (v := ?_) rfl (by kernel_rfl) (by kernel_rfl) (by kernel_rfl) (fun _ _ _ h => h) (Or.inl ⟨by rfl, ?_⟩) (by assumption) ?_
        rotate_left 1
        · (intro w hSw; (try dsimp only at hSw); go_simp; first | done | with_reducible rfl)
        try simp only [Act.put, List.getElem_toArray, List.getElem_cons_succ, List.getElem_cons_zero, List.setIfInBounds_toArray, List.set_cons_zero, List.set_cons_succ]
        refine wpAnyH_take (i := 3) (v := ?_) rfl (by kernel_rfl) (by kernel_rfl) (by kernel_rfl) (fun _ _ _ h => h) (Or.inl ⟨by rfl, ?_⟩) (by assumption) ?_
        rotate_left 1
        · (intro w hSw; (try dsimp only at hSw); go_simp; first | done | with_reducible rfl)
        try simp only [Act.put, List.getElem_toArray, List.getElem_cons_succ, List.getElem_cons_zero, List.setIfInBounds_toArray, List.set_cons_zero, List.set_cons_succ]
        refine wpAnyH_take (i := 4) (v := ?_) rfl (by kernel_rfl) (by kernel_rfl) (by kernel_rfl) (fun _ _ _ h => h) (Or.inl ⟨by rfl, ?_⟩) (by assumption) ?_
        rotate_left 1
        · (intro w hSw; (try dsimp only at hSw); go_simp; first | done | with_reducible rfl)
        try simp only [Act.put, List.getElem_toArray, List.getElem_cons_succ, List.getElem_cons_zero, List.setIfInBounds_toArray, List.set_cons_zero, List.set_cons_succ]
        refine wpAnyH_ready (rs := [5]) (by kernel_rfl) (by simp) ?_
        refine AllReadyH.cons rfl (fun K hK => ?_) AllReadyH.nil
        go_simp
        (refine (HG.out _).mono ?_; rintro e x21 ⟨rfl, hbx⟩; have hTx : Below s20.heap.size s20 x21 := (by first | exact (Below.refl _ _).drew.trans hbx | exact Below.trans (by assumption) (hbx.mono (Below.size (by assumption))) | exact (Below.refl _ _).trans hbx); obtain ⟨hcx, hfx⟩ := bcell hTx)
        try (go_wp2_with fail)
        refine hK.out _ _ (by ((try dsimp only); (go_keep))) (fun hHeld => ?_)
        clear hK K
        try simp only [Act.put, List.getElem_toArray, List.getElem_cons_succ, List.getElem_cons_zero, List.setIfInBounds_toArray, List.set_cons_zero, List.set_cons_succ]
        refine wpAnyH_ready (rs := [6]) (by kernel_rfl) (by simp) ?_
        refine AllReadyH.cons rfl (fun K hK => ?_) AllReadyH.nil
        go_simp
        (refine (HKK.out _).mono ?_; rintro e x21 ⟨rfl, hbx⟩; have hTx : Below s20.heap.size s20 x21 := (by first | exact (Below.refl _ _).drew.trans hbx | exact Below.trans (by assumption) (hbx.mono (Below.size (by assumption))) | exact (Below.refl _ _).trans hbx); obtain ⟨hcx, hfx⟩ := bcell hTx)
        try (go_wp2_with fail)
        refine hK.out _ _ (by ((try dsimp only); (go_keep))) (fun hHeld => ?_)
        clear hK K
        try simp only [Act.put, List.getElem_toArray, List.getElem_cons_succ, List.getElem_cons_zero, List.setIfInBounds_toArray, List.set_cons_zero, List.set_cons_succ]
        refine wpAnyH_take (i := 7) (v := ?_) rfl (by kernel_rfl) (by kernel_rfl) (by kernel_rfl) (fun _ _ _ h => h) (Or.inl ⟨by rfl, ?_⟩) (by assumption) ?_
        rotate_left 1
        · (intro w hSw; (try dsimp only at hSw); go_simp; first | done | with_reducible rfl)
        try simp only [Act.put, List.getElem_toArray, List.getElem_cons_succ, List.getElem_cons_zero, List.setIfInBounds_toArray, List.set_cons_zero, List.set_cons_succ]
        refine wpAnyH_done (by kernel_rfl) ?_ _
        all_goals go_wp2_with fail
        all_goals refine bodyPost_ret (v := .tuple #[.agg #[.string ⟨#[]⟩, .int .i64 0, .int .i64 0, .bool false, .bool false], .bool false]) (by simp [results, Tryz.results21, go_sem, hcx, kC0, kC1, kC2, kC3, kC4, zC]) rfl ⟨rfl, ?_⟩
        all_goals exact ((((((HF.out _ (by assumption)).setCell lC _).setCell lC _).setCell lC _).setCell lC _).setCell lC _)
  · have HPP := Lib.hid (fun w => HP.out t w h3)
    clear HP h3
    go_enter Tryz.func21, Tryz.ntmps21
    go_wp2_with fail
    obtain ⟨s22, hws⟩ : ∃ s, s = ((w.alloc (.cells #[.string q.sh, .int .i64 q.c, .int .i64 q.r, .bool q.fc, .bool q.fr] 23)).alloc (.cells #[.string ⟨#[]⟩, .int .i64 0, .int .i64 0, .bool false, .bool false] 23)) := ⟨_, rfl⟩
    have hBs : Below w.heap.size w s22 := by rw [hws]; exact (((Below.refl w.heap.size w).alloc (by simp) _).alloc (by simp) _)
    obtain ⟨A, hdA⟩ : ∃ b, b = w.heap.size := ⟨_, rfl⟩
    obtain ⟨C, hdC⟩ : ∃ b, b = w.heap.size + 1 := ⟨_, rfl⟩
    have hsz : s22.heap.size = w.heap.size + 1 + 1 := by rw [hws]; simp
    have dCA : C ≠ A := by omega
    have kA0 : s22.cell? ⟨A, 0, none⟩ = some (.string q.sh) := by rw [hws]; simp [go_sem, hdA, hdC]
    have kA1 : s22.cell? ⟨A, 1, none⟩ = some (.int .i64 q.c) := by rw [hws]; simp [go_sem, hdA, hdC]
    have kA2 : s22.cell? ⟨A, 2, none⟩ = some (.int .i64 q.r) := by rw [hws]; simp [go_sem, hdA, hdC]
    have kA3 : s22.cell? ⟨A, 3, none⟩ = some (.bool q.fc) := by rw [hws]; simp [go_sem, hdA, hdC]
    have kA4 : s22.cell? ⟨A, 4, none⟩ = some (.bool q.fr) := by rw [hws]; simp [go_sem, hdA, hdC]
    have zA : A < s22.heap.size := by omega
    have lA : w.heap.size ≤ A := by have := Nat.le_refl w.heap.size; omega
    have kC0 : s22.cell? ⟨C, 0, none⟩ = some (.string ⟨#[]⟩) := by rw [hws]; simp [go_sem, hdA, hdC]
    have fC0 : s22.frozen? ⟨C, 0, none⟩ = false := by rw [hws]; simp [go_sem, hdA, hdC]
    have kC1 : s22.cell? ⟨C, 1, none⟩ = some (.int .i64 0) := by rw [hws]; simp [go_sem, hdA, hdC]
    have fC1 : s22.frozen? ⟨C, 1, none⟩ = false := by rw [hws]; simp [go_sem, hdA, hdC]
    have kC2 : s22.cell? ⟨C, 2, none⟩ = some (.int .i64 0) := by rw [hws]; simp [go_sem, hdA, hdC]
    have fC2 : s22.frozen? ⟨C, 2, none⟩ = false := by rw [hws]; simp [go_sem, hdA, hdC]
    have kC3 : s22.cell? ⟨C, 3, none⟩ = some (.bool false) := by rw [hws]; simp [go_sem, hdA, hdC]
    have fC3 : s22.frozen? ⟨C, 3, none⟩ = false := by rw [hws]; simp [go_sem, hdA, hdC]
    have kC4 : s22.cell? ⟨C, 4, none⟩ = some (.bool false) := by rw [hws]; simp [go_sem, hdA, hdC]
    have fC4 : s22.frozen? ⟨C, 4, none⟩ = false := by rw [hws]; simp [go_sem, hdA, hdC]
    have zC : C < s22.heap.size := by omega
    have lC : w.heap.size ≤ C := by have := Nat.le_refl w.heap.size; omega
    rw [← hws]
    try rw [← hdC]
    try rw [← hdA]
    clear hws hsz hdA hdC
    have hBo := hBs; clear hBs
    refine (HC.out _).mono ?_; rintro e s23 ⟨rfl, hb⟩
    replace kA0 := belK hb kA0 zA; replace kA1 := belK hb kA1 zA; replace kA2 := belK hb kA2 zA; replace kA3 := belK hb kA3 zA; replace kA4 := belK hb kA4 zA; replace zA := Nat.lt_of_lt_of_le zA hb.size
    replace kC0 := belK hb kC0 zC; replace fC0 := belF hb fC0 zC; replace kC1 := belK hb kC1 zC; replace fC1 := belF hb fC1 zC; replace kC2 := belK hb kC2 zC; replace fC2 := belF hb fC2 zC; replace kC3 := belK hb kC3 zC; replace fC3 := belF hb fC3 zC; replace kC4 := belK hb kC4 zC; replace fC4 := belF hb fC4 zC; replace zC := Nat.lt_of_lt_of_le zC hb.size
    replace hBo := hBo.trans (hb.mono hBo.size)
    clear hb
    go_wp2_with fail
    obtain ⟨s24, hws⟩ : ∃ s, s = (s23.alloc (.cells #[.int .i64 L, .int .i64 a, .int .i64 n, .func (.func g) #[] #[], .func (.func p) #[] #[]] 46)) := ⟨_, rfl⟩
    have hBs : Below w.heap.size w s24 := by rw [hws]; exact ((hBo).alloc (by exact hBo.size) _)
    obtain ⟨Q, hdQ⟩ : ∃ b, b = s23.heap.size := ⟨_, rfl⟩
    have hsz : s24.heap.size = s23.heap.size + 1 := by rw [hws]; simp
    have dCQ : C ≠ Q := by omega
    have hQC : ∀ p v, s23.cell? p = some v → s24.cell? p = some v := fun p v h => by rw [hws]; exact (alK h)
    have hQZ : ∀ b, b < s23.heap.size → b < s24.heap.size := fun b h => by omega
    have hQF : ∀ b j, b < s23.heap.size → s23.frozen? ⟨b, j, none⟩ = false → s24.frozen? ⟨b, j, none⟩ = false := fun b j z h => by rw [hws]; exact (alF z h)
    replace kA0 := hQC _ _ kA0; replace kA1 := hQC _ _ kA1; replace kA2 := hQC _ _ kA2; replace kA3 := hQC _ _ kA3; replace kA4 := hQC _ _ kA4; replace zA := hQZ _ zA
    replace kC0 := hQC _ _ kC0; replace fC0 := hQF _ _ zC fC0; replace kC1 := hQC _ _ kC1; replace fC1 := hQF _ _ zC fC1; replace kC2 := hQC _ _ kC2; replace fC2 := hQF _ _ zC fC2; replace kC3 := hQC _ _ kC3; replace fC3 := hQF _ _ zC fC3; replace kC4 := hQC _ _ kC4; replace fC4 := hQF _ _ zC fC4; replace zC := hQZ _ zC
    clear hQC hQZ hQF
    have kQ0 : s24.cell? ⟨Q, 0, none⟩ = some (.int .i64 L) := by rw [hws]; simp [go_sem, hdQ]
    have kQ1 : s24.cell? ⟨Q, 1, none⟩ = some (.int .i64 a) := by rw [hws]; simp [go_sem, hdQ]
    have kQ2 : s24.cell? ⟨Q, 2, none⟩ = some (.int .i64 n) := by rw [hws]; simp [go_sem, hdQ]
    have kQ3 : s24.cell? ⟨Q, 3, none⟩ = some (.func (.func g) #[] #[]) := by rw [hws]; simp [go_sem, hdQ]
    have kQ4 : s24.cell? ⟨Q, 4, none⟩ = some (.func (.func p) #[] #[]) := by rw [hws]; simp [go_sem, hdQ]
    have zQ : Q < s24.heap.size := by omega
    have lQ : w.heap.size ≤ Q := by have := hBo.size; omega
    rw [← hws]
    try rw [← hdQ]
    clear hBo
    clear hws hsz hdQ
    have hBo := hBs; clear hBs
    refine (HR.out _).mono ?_; rintro e s25 ⟨rfl, hb⟩
    replace kA0 := belK hb kA0 zA; replace kA1 := belK hb kA1 zA; replace kA2 := belK hb kA2 zA; replace kA3 := belK hb kA3 zA; replace kA4 := belK hb kA4 zA; replace zA := Nat.lt_of_lt_of_le zA hb.size
    replace kC0 := belK hb kC0 zC; replace fC0 := belF hb fC0 zC; replace kC1 := belK hb kC1 zC; replace fC1 := belF hb fC1 zC; replace kC2 := belK hb kC2 zC; replace fC2 := belF hb fC2 zC; replace kC3 := belK hb kC3 zC; replace fC3 := belF hb fC3 zC; replace kC4 := belK hb kC4 zC; replace fC4 := belF hb fC4 zC; replace zC := Nat.lt_of_lt_of_le zC hb.size
    replace kQ0 := belK hb kQ0 zQ; replace kQ1 := belK hb kQ1 zQ; replace kQ2 := belK hb kQ2 zQ; replace kQ3 := belK hb kQ3 zQ; replace kQ4 := belK hb kQ4 zQ; replace zQ := Nat.lt_of_lt_of_le zQ hb.size
    replace hBo := hBo.trans (hb.mono hBo.size)
    clear hb
    go_wp2_with fail
    have HF : Hid (∀ W, Below s25.heap.size s25 W → Below w.heap.size w W) := fun W hW => hBo.trans (hW.mono hBo.size)
    clear hBo
    refine wp_region_held_drew (S := fun w' => w'.cell? ⟨A, 0, none⟩ = some (.string q.sh) ∧ w'.cell? ⟨A, 1, none⟩ = some (.int .i64 q.c) ∧ w'.cell? ⟨A, 2, none⟩ = some (.int .i64 q.r) ∧ w'.cell? ⟨A, 3, none⟩ = some (.bool q.fc) ∧ w'.cell? ⟨A, 4, none⟩ = some (.bool q.fr) ∧ w'.cell? ⟨Q, 0, none⟩ = some (.int .i64 L) ∧ w'.cell? ⟨Q, 1, none⟩ = some (.int .i64 a) ∧ w'.cell? ⟨Q, 2, none⟩ = some (.int .i64 n) ∧ w'.cell? ⟨Q, 3, none⟩ = some (.func (.func g) #[] #[]) ∧ w'.cell? ⟨Q, 4, none⟩ = some (.func (.func p) #[] #[])) (by kernel_rfl) (by ((try dsimp only); (go_keep))) (fun hHeld => ?_)
    refine wpAnyH_take (i := 0) (v := ?_) rfl (by kernel_rfl) (by kernel_rfl) (by kernel_rfl) (fun _ _ _ h => h) (Or.inl ⟨by rfl, ?_⟩) (by assumption) ?_
    rotate_left 1
    · (intro w hSw; (try dsimp only at hSw); go_simp; first | done | with_reducible rfl)
    try simp only [Act.put, List.getElem_toArray, List.getElem_cons_succ, List.getElem_cons_zero, List.setIfInBounds_toArray, List.set_cons_zero, List.set_cons_succ]
    refine wpAnyH_take (i := 1) (v := ?_) rfl (by kernel_rfl) (by kernel_rfl) (by kernel_rfl) (fun _ _ _ h => h) (Or.inl ⟨by rfl, ?_⟩) (by assumption) ?_
    rotate_left 1
    · (intro w hSw; (try dsimp only at hSw); go_simp; first | done | with_reducible rfl)
    try simp only [Act.put, List.getElem_toArray, List.getElem_cons_succ, List.getElem_cons_zero, List.setIfInBounds_toArray, List.set_cons_zero, List.set_cons_succ]
    refine wpAnyH_take (i := 2) (v := ?_) rfl (by kernel_rfl) (by kernel_rfl) (by kernel_rfl) (fun _ _ _ h => h) (Or.inl ⟨by rfl, ?_⟩) (by assumption) ?_
    rotate_left 1
    · (intro w hSw; (try dsimp only at hSw); go_simp; first | done | with_reducible rfl)
    try simp only [Act.put, List.getElem_toArray, List.getElem_cons_succ, List.getElem_cons_zero, List.setIfInBounds_toArray, List.set_cons_zero, List.set_cons_succ]
    refine wpAnyH_take (i := 3) (v := ?_) rfl (by kernel_rfl) (by kernel_rfl) (by kernel_rfl) (fun _ _ _ h => h) (Or.inl ⟨by rfl, ?_⟩) (by assumption) ?_
    rotate_left 1
    · (intro w hSw; (try dsimp only at hSw); go_simp; first | done | with_reducible rfl)
    try simp only [Act.put, List.getElem_toArray, List.getElem_cons_succ, List.getElem_cons_zero, List.setIfInBounds_toArray, List.set_cons_zero, List.set_cons_succ]
    refine wpAnyH_take (i := 4) (v := ?_) rfl (by kernel_rfl) (by kernel_rfl) (by kernel_rfl) (fun _ _ _ h => h) (Or.inl ⟨by rfl, ?_⟩) (by assumption) ?_
    rotate_left 1
    · (intro w hSw; (try dsimp only at hSw); go_simp; first | done | with_reducible rfl)
    try simp only [Act.put, List.getElem_toArray, List.getElem_cons_succ, List.getElem_cons_zero, List.setIfInBounds_toArray, List.set_cons_zero, List.set_cons_succ]
    refine wpAnyH_ready (rs := [5]) (by kernel_rfl) (by simp) ?_
    refine AllReadyH.cons rfl (fun K hK => ?_) AllReadyH.nil
    go_simp
    (refine (HG.out _).mono ?_; rintro e x26 ⟨rfl, hbx⟩; have hTx : Below s25.heap.size s25 x26 := (by first | exact (Below.refl _ _).drew.trans hbx | exact Below.trans (by assumption) (hbx.mono (Below.size (by assumption))) | exact (Below.refl _ _).trans hbx); obtain ⟨hcx, hfx⟩ := bcell hTx)
    try (go_wp2_with fail)
    refine hK.out _ _ (by ((try dsimp only); (go_keep))) (fun hHeld => ?_)
    clear hK K
    try simp only [Act.put, List.getElem_toArray, List.getElem_cons_succ, List.getElem_cons_zero, List.setIfInBounds_toArray, List.set_cons_zero, List.set_cons_succ]
    refine wpAnyH_ready (rs := [6]) (by kernel_rfl) (by simp) ?_
    refine AllReadyH.cons rfl (fun K hK => ?_) AllReadyH.nil
    go_simp
    (refine (HKK.out _).mono ?_; rintro e x26 ⟨rfl, hbx⟩; have hTx : Below s25.heap.size s25 x26 := (by first | exact (Below.refl _ _).drew.trans hbx | exact Below.trans (by assumption) (hbx.mono (Below.size (by assumption))) | exact (Below.refl _ _).trans hbx); obtain ⟨hcx, hfx⟩ := bcell hTx)
    try (go_wp2_with fail)
    refine hK.out _ _ (by ((try dsimp only); (go_keep))) (fun hHeld => ?_)
    clear hK K
    try simp only [Act.put, List.getElem_toArray, List.getElem_cons_succ, List.getElem_cons_zero, List.setIfInBounds_toArray, List.set_cons_zero, List.set_cons_succ]
    refine wpAnyH_take (i := 7) (v := ?_) rfl (by kernel_rfl) (by kernel_rfl) (by kernel_rfl) (fun _ _ _ h => h) (Or.inl ⟨by rfl, ?_⟩) (by assumption) ?_
    rotate_left 1
    · (intro w hSw; (try dsimp only at hSw); go_simp; first | done | with_reducible rfl)
    try simp only [Act.put, List.getElem_toArray, List.getElem_cons_succ, List.getElem_cons_zero, List.setIfInBounds_toArray, List.set_cons_zero, List.set_cons_succ]
    refine wpAnyH_done (by kernel_rfl) ?_ _
    go_wp2_with fail
    replace kA0 := (hcx A 0 zA).trans kA0
    replace kA1 := (hcx A 1 zA).trans kA1
    replace kA2 := (hcx A 2 zA).trans kA2
    replace kA3 := (hcx A 3 zA).trans kA3
    replace kA4 := (hcx A 4 zA).trans kA4
    replace zA := Nat.lt_of_lt_of_le zA hTx.size
    replace kC0 := (hcx C 0 zC).trans kC0
    replace fC0 := (hfx C 0 zC).trans fC0
    replace kC1 := (hcx C 1 zC).trans kC1
    replace fC1 := (hfx C 1 zC).trans fC1
    replace kC2 := (hcx C 2 zC).trans kC2
    replace fC2 := (hfx C 2 zC).trans fC2
    replace kC3 := (hcx C 3 zC).trans kC3
    replace fC3 := (hfx C 3 zC).trans fC3
    replace kC4 := (hcx C 4 zC).trans kC4
    replace fC4 := (hfx C 4 zC).trans fC4
    replace zC := Nat.lt_of_lt_of_le zC hTx.size
    replace kQ0 := (hcx Q 0 zQ).trans kQ0
    replace kQ1 := (hcx Q 1 zQ).trans kQ1
    replace kQ2 := (hcx Q 2 zQ).trans kQ2
    replace kQ3 := (hcx Q 3 zQ).trans kQ3
    replace kQ4 := (hcx Q 4 zQ).trans kQ4
    replace zQ := Nat.lt_of_lt_of_le zQ hTx.size
    have hBo := HF.out _ hTx
    clear HF hcx hfx hTx
    refine (HPP.out _).mono ?_; rintro e s27 ⟨rfl, hb⟩
    replace kA0 := belK hb kA0 zA; replace kA1 := belK hb kA1 zA; replace kA2 := belK hb kA2 zA; replace kA3 := belK hb kA3 zA; replace kA4 := belK hb kA4 zA; replace zA := Nat.lt_of_lt_of_le zA hb.size
    replace kC0 := belK hb kC0 zC; replace fC0 := belF hb fC0 zC; replace kC1 := belK hb kC1 zC; replace fC1 := belF hb fC1 zC; replace kC2 := belK hb kC2 zC; replace fC2 := belF hb fC2 zC; replace kC3 := belK hb kC3 zC; replace fC3 := belF hb fC3 zC; replace kC4 := belK hb kC4 zC; replace fC4 := belF hb fC4 zC; replace zC := Nat.lt_of_lt_of_le zC hb.size
    replace kQ0 := belK hb kQ0 zQ; replace kQ1 := belK hb kQ1 zQ; replace kQ2 := belK hb kQ2 zQ; replace kQ3 := belK hb kQ3 zQ; replace kQ4 := belK hb kQ4 zQ; replace zQ := Nat.lt_of_lt_of_le zQ hb.size
    replace hBo := hBo.trans (hb.mono hBo.size)
    clear hb
    all_goals go_wp2_with fail
    all_goals refine bodyPost_ret (v := .tuple #[.agg #[.string t.sh, .int .i64 t.c, .int .i64 t.r, .bool t.fc, .bool t.fr], .bool true]) (by simp [results, Tryz.results21, go_sem, kC0, kC1, kC2, kC3, kC4, zC]) rfl ⟨rfl, ?_⟩
    all_goals exact (((((hBo.setCell lC _).setCell lC _).setCell lC _).setCell lC _).setCell lC _)

theorem insB_may {q : Rf} {way a n : Int} (hm : mayB way a n = true) (hr : rgtR q = true) : insB q way a n = decide (shP (plZ q way) a n ≤ lastZ way) := by unfold insB; rw [hm, hr]; rfl
theorem delB_may {q : Rf} {way a n : Int} (hm : mayB way a n = true) (hr : rgtR q = true) : delB q way a n = !(decide (a ≤ plZ q way) && decide (plZ q way < a + n)) := by unfold delB; rw [hm, hr]; rfl
set_option maxRecDepth 100000 in
set_option maxHeartbeats 4000000 in
theorem callIn_any (q : Rf) (way a n : Int) (t : Rf) (b : Bool) (w : World)
    (HF : ∀ w, Calls Tryz.prog 21 #[.agg #[.string q.sh, .int .i64 q.c, .int .i64 q.r, .bool q.fc, .bool q.fr], .int .i64 way, .int .i64 a, .int .i64 n, .func (.func 22) #[] #[]] w fun e w' => e = .returned (.tuple #[.agg #[.string t.sh, .int .i64 t.c, .int .i64 t.r, .bool t.fc, .bool t.fr], .bool b]) ∧ Below w.heap.size w w') :
    Calls Tryz.prog 8 #[.agg #[.string q.sh, .int .i64 q.c, .int .i64 q.r, .bool q.fc, .bool q.fr], .int .i64 way, .int .i64 a, .int .i64 n] w fun e w' => e = .returned (.tuple #[.agg #[.string t.sh, .int .i64 t.c, .int .i64 t.r, .bool t.fc, .bool t.fr], .bool b]) ∧ Below w.heap.size w w' := by
  have HFF := Lib.hid HF
  clear HF
  go_enter Tryz.func8, Tryz.ntmps8
  go_wp2_with fail
  obtain ⟨s28, hws⟩ : ∃ s, s = ((w.alloc (.cells #[.string q.sh, .int .i64 q.c, .int .i64 q.r, .bool q.fc, .bool q.fr] 23)).alloc (.cells #[.string ⟨#[]⟩, .int .i64 0, .int .i64 0, .bool false, .bool false] 23)) := ⟨_, rfl⟩
  have hBs : Below w.heap.size w s28 := by rw [hws]; exact (((Below.refl w.heap.size w).alloc (by simp) _).alloc (by simp) _)
  obtain ⟨A, hdA⟩ : ∃ b, b = w.heap.size := ⟨_, rfl⟩
  obtain ⟨C, hdC⟩ : ∃ b, b = w.heap.size + 1 := ⟨_, rfl⟩
  have hsz : s28.heap.size = w.heap.size + 1 + 1 := by rw [hws]; simp
  have dCA : C ≠ A := by omega
  have kA0 : s28.cell? ⟨A, 0, none⟩ = some (.string q.sh) := by rw [hws]; simp [go_sem, hdA, hdC]
  have kA1 : s28.cell? ⟨A, 1, none⟩ = some (.int .i64 q.c) := by rw [hws]; simp [go_sem, hdA, hdC]
  have kA2 : s28.cell? ⟨A, 2, none⟩ = some (.int .i64 q.r) := by rw [hws]; simp [go_sem, hdA, hdC]
  have kA3 : s28.cell? ⟨A, 3, none⟩ = some (.bool q.fc) := by rw [hws]; simp [go_sem, hdA, hdC]
  have kA4 : s28.cell? ⟨A, 4, none⟩ = some (.bool q.fr) := by rw [hws]; simp [go_sem, hdA, hdC]
  have zA : A < s28.heap.size := by omega
  have lA : w.heap.size ≤ A := by have := Nat.le_refl w.heap.size; omega
  have kC0 : s28.cell? ⟨C, 0, none⟩ = some (.string ⟨#[]⟩) := by rw [hws]; simp [go_sem, hdA, hdC]
  have fC0 : s28.frozen? ⟨C, 0, none⟩ = false := by rw [hws]; simp [go_sem, hdA, hdC]
  have kC1 : s28.cell? ⟨C, 1, none⟩ = some (.int .i64 0) := by rw [hws]; simp [go_sem, hdA, hdC]
  have fC1 : s28.frozen? ⟨C, 1, none⟩ = false := by rw [hws]; simp [go_sem, hdA, hdC]
  have kC2 : s28.cell? ⟨C, 2, none⟩ = some (.int .i64 0) := by rw [hws]; simp [go_sem, hdA, hdC]
  have fC2 : s28.frozen? ⟨C, 2, none⟩ = false := by rw [hws]; simp [go_sem, hdA, hdC]
  have kC3 : s28.cell? ⟨C, 3, none⟩ = some (.bool false) := by rw [hws]; simp [go_sem, hdA, hdC]
  have fC3 : s28.frozen? ⟨C, 3, none⟩ = false := by rw [hws]; simp [go_sem, hdA, hdC]
  have kC4 : s28.cell? ⟨C, 4, none⟩ = some (.bool false) := by rw [hws]; simp [go_sem, hdA, hdC]
  have fC4 : s28.frozen? ⟨C, 4, none⟩ = false := by rw [hws]; simp [go_sem, hdA, hdC]
  have zC : C < s28.heap.size := by omega
  have lC : w.heap.size ≤ C := by have := Nat.le_refl w.heap.size; omega
  rw [← hws]
  try rw [← hdC]
  try rw [← hdA]
  clear hws hsz hdA hdC
  have hBo := hBs; clear hBs
  refine (HFF.out _).mono ?_; rintro e s29 ⟨rfl, hb⟩
  replace kA0 := belK hb kA0 zA; replace kA1 := belK hb kA1 zA; replace kA2 := belK hb kA2 zA; replace kA3 := belK hb kA3 zA; replace kA4 := belK hb kA4 zA; replace zA := Nat.lt_of_lt_of_le zA hb.size
  replace kC0 := belK hb kC0 zC; replace fC0 := belF hb fC0 zC; replace kC1 := belK hb kC1 zC; replace fC1 := belF hb fC1 zC; replace kC2 := belK hb kC2 zC; replace fC2 := belF hb fC2 zC; replace kC3 := belK hb kC3 zC; replace fC3 := belF hb fC3 zC; replace kC4 := belK hb kC4 zC; replace fC4 := belF hb fC4 zC; replace zC := Nat.lt_of_lt_of_le zC hb.size
  replace hBo := hBo.trans (hb.mono hBo.size)
  clear hb
  all_goals go_wp2_with fail
  all_goals refine bodyPost_ret (v := .tuple #[.agg #[.string t.sh, .int .i64 t.c, .int .i64 t.r, .bool t.fc, .bool t.fr], .bool b]) (by simp [results, Tryz.results8, go_sem, kC0, kC1, kC2, kC3, kC4, zC]) rfl ⟨rfl, ?_⟩
  all_goals exact (((((hBo.setCell lC _).setCell lC _).setCell lC _).setCell lC _).setCell lC _)
set_option maxRecDepth 100000 in
set_option maxHeartbeats 4000000 in
theorem callOut_any (q : Rf) (way a n : Int) (t : Rf) (b : Bool) (w : World)
    (HF : ∀ w, Calls Tryz.prog 21 #[.agg #[.string q.sh, .int .i64 q.c, .int .i64 q.r, .bool q.fc, .bool q.fr], .int .i64 way, .int .i64 a, .int .i64 n, .func (.func 27) #[] #[]] w fun e w' => e = .returned (.tuple #[.agg #[.string t.sh, .int .i64 t.c, .int .i64 t.r, .bool t.fc, .bool t.fr], .bool b]) ∧ Below w.heap.size w w') :
    Calls Tryz.prog 10 #[.agg #[.string q.sh, .int .i64 q.c, .int .i64 q.r, .bool q.fc, .bool q.fr], .int .i64 way, .int .i64 a, .int .i64 n] w fun e w' => e = .returned (.tuple #[.agg #[.string t.sh, .int .i64 t.c, .int .i64 t.r, .bool t.fc, .bool t.fr], .bool b]) ∧ Below w.heap.size w w' := by
  have HFF := Lib.hid HF
  clear HF
  go_enter Tryz.func10, Tryz.ntmps10
  go_wp2_with fail
  obtain ⟨s30, hws⟩ : ∃ s, s = ((w.alloc (.cells #[.string q.sh, .int .i64 q.c, .int .i64 q.r, .bool q.fc, .bool q.fr] 23)).alloc (.cells #[.string ⟨#[]⟩, .int .i64 0, .int .i64 0, .bool false, .bool false] 23)) := ⟨_, rfl⟩
  have hBs : Below w.heap.size w s30 := by rw [hws]; exact (((Below.refl w.heap.size w).alloc (by simp) _).alloc (by simp) _)
  obtain ⟨A, hdA⟩ : ∃ b, b = w.heap.size := ⟨_, rfl⟩
  obtain ⟨C, hdC⟩ : ∃ b, b = w.heap.size + 1 := ⟨_, rfl⟩
  have hsz : s30.heap.size = w.heap.size + 1 + 1 := by rw [hws]; simp
  have dCA : C ≠ A := by omega
  have kA0 : s30.cell? ⟨A, 0, none⟩ = some (.string q.sh) := by rw [hws]; simp [go_sem, hdA, hdC]
  have kA1 : s30.cell? ⟨A, 1, none⟩ = some (.int .i64 q.c) := by rw [hws]; simp [go_sem, hdA, hdC]
  have kA2 : s30.cell? ⟨A, 2, none⟩ = some (.int .i64 q.r) := by rw [hws]; simp [go_sem, hdA, hdC]
  have kA3 : s30.cell? ⟨A, 3, none⟩ = some (.bool q.fc) := by rw [hws]; simp [go_sem, hdA, hdC]
  have kA4 : s30.cell? ⟨A, 4, none⟩ = some (.bool q.fr) := by rw [hws]; simp [go_sem, hdA, hdC]
  have zA : A < s30.heap.size := by omega
  have lA : w.heap.size ≤ A := by have := Nat.le_refl w.heap.size; omega
  have kC0 : s30.cell? ⟨C, 0, none⟩ = some (.string ⟨#[]⟩) := by rw [hws]; simp [go_sem, hdA, hdC]
  have fC0 : s30.frozen? ⟨C, 0, none⟩ = false := by rw [hws]; simp [go_sem, hdA, hdC]
  have kC1 : s30.cell? ⟨C, 1, none⟩ = some (.int .i64 0) := by rw [hws]; simp [go_sem, hdA, hdC]
  have fC1 : s30.frozen? ⟨C, 1, none⟩ = false := by rw [hws]; simp [go_sem, hdA, hdC]
  have kC2 : s30.cell? ⟨C, 2, none⟩ = some (.int .i64 0) := by rw [hws]; simp [go_sem, hdA, hdC]
  have fC2 : s30.frozen? ⟨C, 2, none⟩ = false := by rw [hws]; simp [go_sem, hdA, hdC]
  have kC3 : s30.cell? ⟨C, 3, none⟩ = some (.bool false) := by rw [hws]; simp [go_sem, hdA, hdC]
  have fC3 : s30.frozen? ⟨C, 3, none⟩ = false := by rw [hws]; simp [go_sem, hdA, hdC]
  have kC4 : s30.cell? ⟨C, 4, none⟩ = some (.bool false) := by rw [hws]; simp [go_sem, hdA, hdC]
  have fC4 : s30.frozen? ⟨C, 4, none⟩ = false := by rw [hws]; simp [go_sem, hdA, hdC]
  have zC : C < s30.heap.size := by omega
  have lC : w.heap.size ≤ C := by have := Nat.le_refl w.heap.size; omega
  rw [← hws]
  try rw [← hdC]
  try rw [← hdA]
  clear hws hsz hdA hdC
  have hBo := hBs; clear hBs
  refine (HFF.out _).mono ?_; rintro e s31 ⟨rfl, hb⟩
  replace kA0 := belK hb kA0 zA; replace kA1 := belK hb kA1 zA; replace kA2 := belK hb kA2 zA; replace kA3 := belK hb kA3 zA; replace kA4 := belK hb kA4 zA; replace zA := Nat.lt_of_lt_of_le zA hb.size
  replace kC0 := belK hb kC0 zC; replace fC0 := belF hb fC0 zC; replace kC1 := belK hb kC1 zC; replace fC1 := belF hb fC1 zC; replace kC2 := belK hb kC2 zC; replace fC2 := belF hb fC2 zC; replace kC3 := belK hb kC3 zC; replace fC3 := belF hb fC3 zC; replace kC4 := belK hb kC4 zC; replace fC4 := belF hb fC4 zC; replace zC := Nat.lt_of_lt_of_le zC hb.size
  replace hBo := hBo.trans (hb.mono hBo.size)
  clear hb
  all_goals go_wp2_with fail
  all_goals refine bodyPost_ret (v := .tuple #[.agg #[.string t.sh, .int .i64 t.c, .int .i64 t.r, .bool t.fc, .bool t.fr], .bool b]) (by simp [results, Tryz.results10, go_sem, kC0, kC1, kC2, kC3, kC4, zC]) rfl ⟨rfl, ?_⟩
  all_goals exact (((((hBo.setCell lC _).setCell lC _).setCell lC _).setCell lC _).setCell lC _)
theorem insert_any (q : Rf) (way a n : Int) (t : Rf) (b : Bool) (w : World) (hs : q.sh.size ≤ maxLen) (ht : insR q way a n = t) (hb : insB q way a n = b) :
    Calls Tryz.prog 8 #[.agg #[.string q.sh, .int .i64 q.c, .int .i64 q.r, .bool q.fc, .bool q.fr], .int .i64 way, .int .i64 a, .int .i64 n] w fun e w' => e = .returned (.tuple #[.agg #[.string t.sh, .int .i64 t.c, .int .i64 t.r, .bool t.fc, .bool t.fr], .bool b]) ∧ Below w.heap.size w w' := by
  refine callIn_any q way a n t b w fun w => ?_
  by_cases hm : mayB way a n = true
  · by_cases hr : rgtR q = true
    · obtain ⟨k0, k1, k2, k3, k4, k5, k6⟩ := may_yes hm
      obtain ⟨p1, p2⟩ := pl_in hr k0
      refine follow_yes _ cfIn q way a n (shP (plZ q way) a n) t b w hs hm hr (fun g p w => putIn_any _ a n g p _ w (by omega) (by omega) (by omega) (by omega)) ?_
      rw [insB_may hm hr] at hb
      have hge : 1 ≤ shP (plZ q way) a n := by unfold shP; split <;> omega
      cases b with
      | false =>
        left
        have h2 := of_decide_eq_false hb
        exact ⟨Or.inr (by omega), ht.symm.trans (insR_no ((insB_may hm hr).trans hb)), rfl⟩
      | true =>
        right
        exact ⟨hge, of_decide_eq_true hb, (insR_yes ((insB_may hm hr).trans hb)).symm.trans ht, rfl⟩
    · have hr' : rgtR q = false := by simpa using hr
      have h2 : insB q way a n = false := by unfold insB; rw [hr', Bool.false_and, Bool.false_and]
      obtain rfl : rf0 = t := (insR_no h2).symm.trans ht
      obtain rfl : false = b := h2.symm.trans hb
      exact follow_no _ q way a n w hs (Or.inr hr')
  · have hm' : mayB way a n = false := by simpa using hm
    have h2 : insB q way a n = false := by unfold insB; rw [hm', Bool.and_false, Bool.false_and]
    obtain rfl : rf0 = t := (insR_no h2).symm.trans ht
    obtain rfl : false = b := h2.symm.trans hb
    exact follow_no _ q way a n w hs (Or.inl hm')
theorem delete_any (q : Rf) (way a n : Int) (t : Rf) (b : Bool) (w : World) (hs : q.sh.size ≤ maxLen) (ht : delR q way a n = t) (hb : delB q way a n = b) :
    Calls Tryz.prog 10 #[.agg #[.string q.sh, .int .i64 q.c, .int .i64 q.r, .bool q.fc, .bool q.fr], .int .i64 way, .int .i64 a, .int .i64 n] w fun e w' => e = .returned (.tuple #[.agg #[.string t.sh, .int .i64 t.c, .int .i64 t.r, .bool t.fc, .bool t.fr], .bool b]) ∧ Below w.heap.size w w' := by
  refine callOut_any q way a n t b w fun w => ?_
  by_cases hm : mayB way a n = true
  · by_cases hr : rgtR q = true
    · obtain ⟨k0, k1, k2, k3, k4, k5, k6⟩ := may_yes hm
      obtain ⟨p1, p2⟩ := pl_in hr k0
      refine follow_yes _ cfOut q way a n (tkP (plZ q way) a n) t b w hs hm hr (fun g p w => takenOut_any _ a n g p _ w (by omega) (by omega) (by omega) (by omega) (by omega) (by omega)) ?_
      rw [delB_may hm hr] at hb
      cases b with
      | false =>
        left
        have h2 : a ≤ plZ q way ∧ plZ q way < a + n := by simpa using hb
        have h3 : tkP (plZ q way) a n = 0 := by unfold tkP; rw [if_neg (by omega), if_pos h2.1]
        exact ⟨Or.inl (by omega), ht.symm.trans (delR_no ((delB_may hm hr).trans hb)), rfl⟩
      | true =>
        right
        have h2 : ¬ (a ≤ plZ q way ∧ plZ q way < a + n) := by
          intro h; rw [decide_eq_true h.1, decide_eq_true h.2] at hb; cases hb
        have h3 : tkP (plZ q way) a n = dlP (plZ q way) a n := by
          unfold tkP dlP
          split
          · rfl
          · rw [if_neg (by omega)]
        have h4 : 1 ≤ dlP (plZ q way) a n ∧ dlP (plZ q way) a n ≤ lastZ way := by unfold dlP; split <;> omega
        rw [h3]
        exact ⟨h4.1, h4.2, (delR_yes ((delB_may hm hr).trans hb)).symm.trans ht, rfl⟩
    · have hr' : rgtR q = false := by simpa using hr
      have h2 : delB q way a n = false := by unfold delB; rw [hr', Bool.false_and, Bool.false_and]
      obtain rfl : rf0 = t := (delR_no h2).symm.trans ht
      obtain rfl : false = b := h2.symm.trans hb
      exact follow_no _ q way a n w hs (Or.inr hr')
  · have hm' : mayB way a n = false := by simpa using hm
    have h2 : delB q way a n = false := by unfold delB; rw [hm', Bool.and_false, Bool.false_and]
    obtain rfl : rf0 = t := (delR_no h2).symm.trans ht
    obtain rfl : false = b := h2.symm.trans hb
    exact follow_no _ q way a n w hs (Or.inl hm')
end Go.Proofs.YtlpjaflolnggnaaGreatDoor
