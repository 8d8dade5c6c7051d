/-
  LAYER 10, AREAS: isNorm, Size, Has of the program.
-/
import Derived.Test.YtkgkgdgbkkhblaaDoorAddr7
namespace Go.Proofs.YtkgkgdgbkkhblaaDoor
open Go.RowKit Go.Shelf
set_option linter.unusedSimpArgs false
set_option linter.unusedVariables false

/-- is it as Norm tells it? -/
def nrmB (a b c d : Int) : Bool := decide (nrmE a b c d = 0) && decide (a ≤ c) && decide (b ≤ d)
theorem nrmB_iff (a b c d : Int) : nrmB a b c d = true ↔ nrmE a b c d = 0 ∧ a ≤ c ∧ b ≤ d := by
  unfold nrmB; simp only [Bool.and_eq_true, decide_eq_true_eq, and_assoc]
theorem nrmB_no {a b c d : Int} (h : ¬ (nrmE a b c d = 0 ∧ a ≤ c ∧ b ≤ d)) : nrmB a b c d = false := by
  cases hb : nrmB a b c d with
  | false => rfl
  | true => exact absurd ((nrmB_iff _ _ _ _).1 hb) h
theorem nrm_facts {a b c d : Int} (h : nrmB a b c d = true) : 1 ≤ a ∧ a ≤ 52 ∧ 1 ≤ b ∧ b ≤ 99 ∧ 1 ≤ c ∧ c ≤ 52 ∧ 1 ≤ d ∧ d ≤ 99 ∧ a ≤ c ∧ b ≤ d ∧ cnt a b c d ≤ 200 := by
  obtain ⟨h1, h2, h3⟩ := (nrmB_iff _ _ _ _).1 h
  unfold nrmE at h1
  split at h1
  · cases h1
  · rename_i hg
    have hg' : (inG a b && inG c d) = true := by simpa using hg
    obtain ⟨g1, g2⟩ := Bool.and_eq_true_iff.1 hg'
    obtain ⟨a1, a2, b1, b2⟩ := (inG_iff _ _).1 g1
    obtain ⟨c1, c2, d1, d2⟩ := (inG_iff _ _).1 g2
    split at h1
    · cases h1
    · rename_i hc
      rw [Int.min_eq_left h2, Int.min_eq_left h3, Int.max_eq_right h2, Int.max_eq_right h3] at hc
      exact ⟨a1, a2, b1, b2, c1, c2, d1, d2, h2, h3, by omega⟩
theorem nrmV_agg (a b c d : Int) : ∃ x y z u, nrmV a b c d = areaV x y z u := by
  unfold nrmV
  split
  · exact ⟨_, _, _, _, rfl⟩
  · exact ⟨_, _, _, _, rfl⟩
theorem nrmE_ne {a b c d : Int} (h : nrmE a b c d ≠ 0) : (nrmE a b c d == 0) = false := by simpa using h
set_option maxRecDepth 100000 in
set_option maxHeartbeats 4000000 in
theorem isNorm_any (a b c d : Int) (w : World) :
    Calls Tryd.prog 34 #[areaV a b c d] w fun e w' => e = .returned (.bool (nrmB a b c d)) ∧ Below w.heap.size w w' := by
  have hn := fun w => areaNorm_any a b c d w
  have hud : undef = Value.tuple #[] := rfl
  by_cases h0 : nrmE a b c d = 0
  · have hv : nrmV a b c d = areaV (min a c) (min b d) (max a c) (max b d) := if_pos h0
    rw [hv, h0] at hn
    by_cases h1 : a ≤ c ∧ b ≤ d
    · have hr : nrmB a b c d = true := (nrmB_iff _ _ _ _).2 ⟨h0, h1⟩
      rw [hr]
      rw [Int.min_eq_left h1.1, Int.min_eq_left h1.2, Int.max_eq_right h1.1, Int.max_eq_right h1.2] at hn
      have HN := Lib.hid hn
      clear hn hr h1 h0 hv
      go_enter Tryd.func34, Tryd.ntmps34
      go_wp2_with fail
      obtain ⟨s1, hws⟩ : ∃ s, s = (w.alloc (.cells #[.int .i64 a, .int .i64 b, .int .i64 c, .int .i64 d] 34)) := ⟨_, rfl⟩
      have hBs : Below w.heap.size w s1 := by rw [hws]; exact ((Below.refl w.heap.size w).alloc (by simp) _)
      obtain ⟨A, hdA⟩ : ∃ b, b = w.heap.size := ⟨_, rfl⟩
      have hsz : s1.heap.size = w.heap.size + 1 := by rw [hws]; simp
      have kA0 : s1.cell? ⟨A, 0, none⟩ = some (.int .i64 a) := by rw [hws]; simp [go_sem, hdA]
      have kA1 : s1.cell? ⟨A, 1, none⟩ = some (.int .i64 b) := by rw [hws]; simp [go_sem, hdA]
      have kA2 : s1.cell? ⟨A, 2, none⟩ = some (.int .i64 c) := by rw [hws]; simp [go_sem, hdA]
      have kA3 : s1.cell? ⟨A, 3, none⟩ = some (.int .i64 d) := by rw [hws]; simp [go_sem, hdA]
      have zA : A < s1.heap.size := by omega
      have lA : w.heap.size ≤ A := by have := Nat.le_refl w.heap.size; omega
      rw [← hws]
      try rw [← hdA]
      clear hws hsz hdA
      have hBo := hBs; clear hBs
      refine (HN.out _).mono ?_; rintro e s2 ⟨rfl, hb⟩
      replace kA0 := belK hb kA0 zA; replace kA1 := belK hb kA1 zA; replace kA2 := belK hb kA2 zA; replace kA3 := belK hb kA3 zA; replace zA := Nat.lt_of_lt_of_le zA hb.size
      replace hBo := hBo.trans (hb.mono hBo.size)
      clear hb
      all_goals go_wp2_with fail
      all_goals first | go_ret | go_ret2
      all_goals exact ⟨rfl, ((hBo).alloc (by first | exact hBo.size | (have := hBo.size; simp; omega)) _)⟩
    · have hr : nrmB a b c d = false := nrmB_no fun h => h1 h.2
      rw [hr]
      have HN := Lib.hid hn
      obtain ⟨p, hp⟩ : ∃ p, p = min a c := ⟨_, rfl⟩
      obtain ⟨q, hq⟩ : ∃ q, q = min b d := ⟨_, rfl⟩
      have hne : p ≠ a ∨ q ≠ b := by omega
      rw [← hp, ← hq] at HN
      clear hn hr h1 h0 hv hp hq
      by_cases hpa : p = a
      · subst hpa
        have hqb : (q == b) = false := by simp; omega
        clear hne
        go_enter Tryd.func34, Tryd.ntmps34
        go_wp2_with fail
        obtain ⟨s3, hws⟩ : ∃ s, s = (w.alloc (.cells #[.int .i64 p, .int .i64 b, .int .i64 c, .int .i64 d] 34)) := ⟨_, rfl⟩
        have hBs : Below w.heap.size w s3 := by rw [hws]; exact ((Below.refl w.heap.size w).alloc (by simp) _)
        obtain ⟨A, hdA⟩ : ∃ b, b = w.heap.size := ⟨_, rfl⟩
        have hsz : s3.heap.size = w.heap.size + 1 := by rw [hws]; simp
        have kA0 : s3.cell? ⟨A, 0, none⟩ = some (.int .i64 p) := by rw [hws]; simp [go_sem, hdA]
        have kA1 : s3.cell? ⟨A, 1, none⟩ = some (.int .i64 b) := by rw [hws]; simp [go_sem, hdA]
        have kA2 : s3.cell? ⟨A, 2, none⟩ = some (.int .i64 c) := by rw [hws]; simp [go_sem, hdA]
        have kA3 : s3.cell? ⟨A, 3, none⟩ = some (.int .i64 d) := by rw [hws]; simp [go_sem, hdA]
        have zA : A < s3.heap.size := by omega
        have lA : w.heap.size ≤ A := by have := Nat.le_refl w.heap.size; omega
        rw [← hws]
        try rw [← hdA]
        clear hws hsz hdA
        have hBo := hBs; clear hBs
        refine (HN.out _).mono ?_; rintro e s4 ⟨rfl, hb⟩
        replace kA0 := belK hb kA0 zA; replace kA1 := belK hb kA1 zA; replace kA2 := belK hb kA2 zA; replace kA3 := belK hb kA3 zA; replace zA := Nat.lt_of_lt_of_le zA hb.size
        replace hBo := hBo.trans (hb.mono hBo.size)
        clear hb
        all_goals go_wp2_with fail
        all_goals first | go_ret | go_ret2
        all_goals exact ⟨rfl, ((hBo).alloc (by first | exact hBo.size | (have := hBo.size; simp; omega)) _)⟩
      · have hpb : (p == a) = false := by simp; omega
        clear hne hpa
        go_enter Tryd.func34, Tryd.ntmps34
        go_wp2_with fail
        obtain ⟨s5, hws⟩ : ∃ s, s = (w.alloc (.cells #[.int .i64 a, .int .i64 b, .int .i64 c, .int .i64 d] 34)) := ⟨_, rfl⟩
        have hBs : Below w.heap.size w s5 := by rw [hws]; exact ((Below.refl w.heap.size w).alloc (by simp) _)
        obtain ⟨A, hdA⟩ : ∃ b, b = w.heap.size := ⟨_, rfl⟩
        have hsz : s5.heap.size = w.heap.size + 1 := by rw [hws]; simp
        have kA0 : s5.cell? ⟨A, 0, none⟩ = some (.int .i64 a) := by rw [hws]; simp [go_sem, hdA]
        have kA1 : s5.cell? ⟨A, 1, none⟩ = some (.int .i64 b) := by rw [hws]; simp [go_sem, hdA]
        have kA2 : s5.cell? ⟨A, 2, none⟩ = some (.int .i64 c) := by rw [hws]; simp [go_sem, hdA]
        have kA3 : s5.cell? ⟨A, 3, none⟩ = some (.int .i64 d) := by rw [hws]; simp [go_sem, hdA]
        have zA : A < s5.heap.size := by omega
        have lA : w.heap.size ≤ A := by have := Nat.le_refl w.heap.size; omega
        rw [← hws]
        try rw [← hdA]
        clear hws hsz hdA
        have hBo := hBs; clear hBs
        refine (HN.out _).mono ?_; rintro e s6 ⟨rfl, hb⟩
        replace kA0 := belK hb kA0 zA; replace kA1 := belK hb kA1 zA; replace kA2 := belK hb kA2 zA; replace kA3 := belK hb kA3 zA; replace zA := Nat.lt_of_lt_of_le zA hb.size
        replace hBo := hBo.trans (hb.mono hBo.size)
        clear hb
        all_goals go_wp2_with fail
        all_goals first | go_ret | go_ret2
        all_goals exact ⟨rfl, ((hBo).alloc (by first | exact hBo.size | (have := hBo.size; simp; omega)) _)⟩
  · have hr : nrmB a b c d = false := nrmB_no fun h => h0 h.1
    rw [hr]
    obtain ⟨x, y, z, u, hv⟩ := nrmV_agg a b c d
    rw [hv] at hn
    have he := nrmE_ne h0
    generalize nrmE a b c d = e at *
    have HN := Lib.hid hn
    clear hn hr hv h0
    go_enter Tryd.func34, Tryd.ntmps34
    go_wp2_with fail
    obtain ⟨s7, hws⟩ : ∃ s, s = (w.alloc (.cells #[.int .i64 a, .int .i64 b, .int .i64 c, .int .i64 d] 34)) := ⟨_, rfl⟩
    have hBs : Below w.heap.size w s7 := by rw [hws]; exact ((Below.refl w.heap.size w).alloc (by simp) _)
    obtain ⟨A, hdA⟩ : ∃ b, b = w.heap.size := ⟨_, rfl⟩
    have hsz : s7.heap.size = w.heap.size + 1 := by rw [hws]; simp
    have kA0 : s7.cell? ⟨A, 0, none⟩ = some (.int .i64 a) := by rw [hws]; simp [go_sem, hdA]
    have kA1 : s7.cell? ⟨A, 1, none⟩ = some (.int .i64 b) := by rw [hws]; simp [go_sem, hdA]
    have kA2 : s7.cell? ⟨A, 2, none⟩ = some (.int .i64 c) := by rw [hws]; simp [go_sem, hdA]
    have kA3 : s7.cell? ⟨A, 3, none⟩ = some (.int .i64 d) := by rw [hws]; simp [go_sem, hdA]
    have zA : A < s7.heap.size := by omega
    have lA : w.heap.size ≤ A := by have := Nat.le_refl w.heap.size; omega
    rw [← hws]
    try rw [← hdA]
    clear hws hsz hdA
    have hBo := hBs; clear hBs
    refine (HN.out _).mono ?_; rintro e s8 ⟨rfl, hb⟩
    replace kA0 := belK hb kA0 zA; replace kA1 := belK hb kA1 zA; replace kA2 := belK hb kA2 zA; replace kA3 := belK hb kA3 zA; replace zA := Nat.lt_of_lt_of_le zA hb.size
    replace hBo := hBo.trans (hb.mono hBo.size)
    clear hb
    all_goals go_wp2_with fail
    all_goals first | go_ret | go_ret2
    all_goals exact ⟨rfl, ((hBo).alloc (by first | exact hBo.size | (have := hBo.size; simp; omega)) _)⟩
/-- how many cells. -/
def sizeI (a b c d : Int) : Int := if nrmB a b c d then cnt a b c d else 0
set_option maxRecDepth 100000 in
set_option maxHeartbeats 4000000 in
theorem areaSize_any (a b c d : Int) (w : World) :
    Calls Tryd.prog 21 #[areaV a b c d] w fun e w' => e = .returned (.int .i64 (sizeI a b c d)) ∧ Below w.heap.size w w' := by
  have hn := fun w => isNorm_any a b c d w
  cases hb : nrmB a b c d with
  | false =>
    have hr : sizeI a b c d = 0 := by unfold sizeI; rw [hb]; rfl
    rw [hr]
    rw [hb] at hn
    have HN := Lib.hid hn
    clear hn hb hr
    go_enter Tryd.func21, Tryd.ntmps21
    go_wp2_with fail
    obtain ⟨s9, hws⟩ : ∃ s, s = (w.alloc (.cells #[.int .i64 a, .int .i64 b, .int .i64 c, .int .i64 d] 34)) := ⟨_, rfl⟩
    have hBs : Below w.heap.size w s9 := by rw [hws]; exact ((Below.refl w.heap.size w).alloc (by simp) _)
    obtain ⟨A, hdA⟩ : ∃ b, b = w.heap.size := ⟨_, rfl⟩
    have hsz : s9.heap.size = w.heap.size + 1 := by rw [hws]; simp
    have kA0 : s9.cell? ⟨A, 0, none⟩ = some (.int .i64 a) := by rw [hws]; simp [go_sem, hdA]
    have kA1 : s9.cell? ⟨A, 1, none⟩ = some (.int .i64 b) := by rw [hws]; simp [go_sem, hdA]
    have kA2 : s9.cell? ⟨A, 2, none⟩ = some (.int .i64 c) := by rw [hws]; simp [go_sem, hdA]
    have kA3 : s9.cell? ⟨A, 3, none⟩ = some (.int .i64 d) := by rw [hws]; simp [go_sem, hdA]
    have zA : A < s9.heap.size := by omega
    have lA : w.heap.size ≤ A := by have := Nat.le_refl w.heap.size; omega
    rw [← hws]
    try rw [← hdA]
    clear hws hsz hdA
    have hBo := hBs; clear hBs
    refine (HN.out _).mono ?_; rintro e s10 ⟨rfl, hb⟩
    replace kA0 := belK hb kA0 zA; replace kA1 := belK hb kA1 zA; replace kA2 := belK hb kA2 zA; replace kA3 := belK hb kA3 zA; replace zA := Nat.lt_of_lt_of_le zA hb.size
    replace hBo := hBo.trans (hb.mono hBo.size)
    clear hb
    all_goals go_wp2_with fail
    all_goals first | go_ret | go_ret2
    all_goals exact ⟨rfl, hBo⟩
  | true =>
    have hr : sizeI a b c d = cnt a b c d := by unfold sizeI; rw [hb]; rfl
    rw [hr]
    rw [hb] at hn
    obtain ⟨a1, a2, b1, b2, c1, c2, d1, d2, _, _, _⟩ := nrm_facts hb
    have HC := Lib.hid (fun w => count_any a b c d w ⟨a1, a2⟩ ⟨b1, b2⟩ ⟨c1, c2⟩ ⟨d1, d2⟩)
    generalize cnt a b c d = n at *
    have HN := Lib.hid hn
    clear hn hb hr a1 a2 b1 b2 c1 c2 d1 d2
    go_enter Tryd.func21, Tryd.ntmps21
    go_wp2_with fail
    obtain ⟨s11, hws⟩ : ∃ s, s = (w.alloc (.cells #[.int .i64 a, .int .i64 b, .int .i64 c, .int .i64 d] 34)) := ⟨_, rfl⟩
    have hBs : Below w.heap.size w s11 := by rw [hws]; exact ((Below.refl w.heap.size w).alloc (by simp) _)
    obtain ⟨A, hdA⟩ : ∃ b, b = w.heap.size := ⟨_, rfl⟩
    have hsz : s11.heap.size = w.heap.size + 1 := by rw [hws]; simp
    have kA0 : s11.cell? ⟨A, 0, none⟩ = some (.int .i64 a) := by rw [hws]; simp [go_sem, hdA]
    have kA1 : s11.cell? ⟨A, 1, none⟩ = some (.int .i64 b) := by rw [hws]; simp [go_sem, hdA]
    have kA2 : s11.cell? ⟨A, 2, none⟩ = some (.int .i64 c) := by rw [hws]; simp [go_sem, hdA]
    have kA3 : s11.cell? ⟨A, 3, none⟩ = some (.int .i64 d) := by rw [hws]; simp [go_sem, hdA]
    have zA : A < s11.heap.size := by omega
    have lA : w.heap.size ≤ A := by have := Nat.le_refl w.heap.size; omega
    rw [← hws]
    try rw [← hdA]
    clear hws hsz hdA
    have hBo := hBs; clear hBs
    refine (HN.out _).mono ?_; rintro e s12 ⟨rfl, hb⟩
    replace kA0 := belK hb kA0 zA; replace kA1 := belK hb kA1 zA; replace kA2 := belK hb kA2 zA; replace kA3 := belK hb kA3 zA; replace zA := Nat.lt_of_lt_of_le zA hb.size
    replace hBo := hBo.trans (hb.mono hBo.size)
    clear hb
    go_wp2_with fail
    refine (HC.out _).mono ?_; rintro e s13 ⟨rfl, hb⟩
    replace kA0 := belK hb kA0 zA; replace kA1 := belK hb kA1 zA; replace kA2 := belK hb kA2 zA; replace kA3 := belK hb kA3 zA; replace zA := Nat.lt_of_lt_of_le zA hb.size
    replace hBo := hBo.trans (hb.mono hBo.size)
    clear hb
    all_goals go_wp2_with fail
    all_goals first | go_ret | go_ret2
    all_goals exact ⟨rfl, hBo⟩
/-- has it the cell? -/
def hasB (a b c d x y : Int) : Bool := nrmB a b c d && decide (a ≤ x) && decide (x ≤ c) && decide (b ≤ y) && decide (y ≤ d)
set_option maxRecDepth 100000 in
set_option maxHeartbeats 4000000 in
theorem areaHas_any (a b c d x y : Int) (w : World) :
    Calls Tryd.prog 22 #[areaV a b c d, .int .i64 x, .int .i64 y] w fun e w' => e = .returned (.bool (hasB a b c d x y)) ∧ Below w.heap.size w w' := by
  have hn := fun w => isNorm_any a b c d w
  have hud : undef = Value.tuple #[] := rfl
  cases hb : nrmB a b c d with
  | false =>
    have hr : hasB a b c d x y = false := by unfold hasB; rw [hb]; rfl
    rw [hr]
    rw [hb] at hn
    have HN := Lib.hid hn
    clear hn hb hr
    go_enter Tryd.func22, Tryd.ntmps22
    go_wp2_with fail
    obtain ⟨s14, hws⟩ : ∃ s, s = (w.alloc (.cells #[.int .i64 a, .int .i64 b, .int .i64 c, .int .i64 d] 34)) := ⟨_, rfl⟩
    have hBs : Below w.heap.size w s14 := by rw [hws]; exact ((Below.refl w.heap.size w).alloc (by simp) _)
    obtain ⟨A, hdA⟩ : ∃ b, b = w.heap.size := ⟨_, rfl⟩
    have hsz : s14.heap.size = w.heap.size + 1 := by rw [hws]; simp
    have kA0 : s14.cell? ⟨A, 0, none⟩ = some (.int .i64 a) := by rw [hws]; simp [go_sem, hdA]
    have kA1 : s14.cell? ⟨A, 1, none⟩ = some (.int .i64 b) := by rw [hws]; simp [go_sem, hdA]
    have kA2 : s14.cell? ⟨A, 2, none⟩ = some (.int .i64 c) := by rw [hws]; simp [go_sem, hdA]
    have kA3 : s14.cell? ⟨A, 3, none⟩ = some (.int .i64 d) := by rw [hws]; simp [go_sem, hdA]
    have zA : A < s14.heap.size := by omega
    have lA : w.heap.size ≤ A := by have := Nat.le_refl w.heap.size; omega
    rw [← hws]
    try rw [← hdA]
    clear hws hsz hdA
    have hBo := hBs; clear hBs
    refine (HN.out _).mono ?_; rintro e s15 ⟨rfl, hb⟩
    replace kA0 := belK hb kA0 zA; replace kA1 := belK hb kA1 zA; replace kA2 := belK hb kA2 zA; replace kA3 := belK hb kA3 zA; replace zA := Nat.lt_of_lt_of_le zA hb.size
    replace hBo := hBo.trans (hb.mono hBo.size)
    clear hb
    all_goals go_wp2_with fail
    all_goals first | go_ret | go_ret2
    all_goals exact ⟨rfl, hBo⟩
  | true =>
    have hr : hasB a b c d x y = (decide (a ≤ x) && decide (x ≤ c) && decide (b ≤ y) && decide (y ≤ d)) := by unfold hasB; rw [hb]; rfl
    rw [hr]
    rw [hb] at hn
    have HN := Lib.hid hn
    clear hn hb hr
    go_enter Tryd.func22, Tryd.ntmps22
    go_wp2_with fail
    obtain ⟨s16, hws⟩ : ∃ s, s = (w.alloc (.cells #[.int .i64 a, .int .i64 b, .int .i64 c, .int .i64 d] 34)) := ⟨_, rfl⟩
    have hBs : Below w.heap.size w s16 := by rw [hws]; exact ((Below.refl w.heap.size w).alloc (by simp) _)
    obtain ⟨A, hdA⟩ : ∃ b, b = w.heap.size := ⟨_, rfl⟩
    have hsz : s16.heap.size = w.heap.size + 1 := by rw [hws]; simp
    have kA0 : s16.cell? ⟨A, 0, none⟩ = some (.int .i64 a) := by rw [hws]; simp [go_sem, hdA]
    have kA1 : s16.cell? ⟨A, 1, none⟩ = some (.int .i64 b) := by rw [hws]; simp [go_sem, hdA]
    have kA2 : s16.cell? ⟨A, 2, none⟩ = some (.int .i64 c) := by rw [hws]; simp [go_sem, hdA]
    have kA3 : s16.cell? ⟨A, 3, none⟩ = some (.int .i64 d) := by rw [hws]; simp [go_sem, hdA]
    have zA : A < s16.heap.size := by omega
    have lA : w.heap.size ≤ A := by have := Nat.le_refl w.heap.size; omega
    rw [← hws]
    try rw [← hdA]
    clear hws hsz hdA
    have hBo := hBs; clear hBs
    refine (HN.out _).mono ?_; rintro e s17 ⟨rfl, hb⟩
    replace kA0 := belK hb kA0 zA; replace kA1 := belK hb kA1 zA; replace kA2 := belK hb kA2 zA; replace kA3 := belK hb kA3 zA; replace zA := Nat.lt_of_lt_of_le zA hb.size
    replace hBo := hBo.trans (hb.mono hBo.size)
    clear hb
    go_wp2_with fail
    all_goals go_ret
    all_goals exact ⟨ret_bool (by simp; try omega), hBo⟩
end Go.Proofs.YtkgkgdgbkkhblaaDoor
