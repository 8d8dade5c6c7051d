/-
  LAYER 10, AREAS: count, Norm of both.
-/
import Derived.Test.YtkgkgdgbkkhblaaDoorAddr2
import Derived.Test.YtkgkgdgbkkhblaaDoorBox
import Derived.KernelRfl
namespace Go.Proofs.YtkgkgdgbkkhblaaDoor
open Go.RowKit Go.Shelf
set_option linter.unusedSimpArgs false
set_option linter.unusedVariables false

/-- an area's value. -/
abbrev areaV (a b c d : Int) : Value := .agg #[.int .i64 a, .int .i64 b, .int .i64 c, .int .i64 d]
def cnt (a b c d : Int) : Int := (c - a + 1) * (d - b + 1)
/-- why there is none. -/
def nrmE (a b c d : Int) : Int := if (inG a b && inG c d) = false then 6 else if 200 < cnt (min a c) (min b d) (max a c) (max b d) then 7 else 0
def nrmV (a b c d : Int) : Value := if nrmE a b c d = 0 then areaV (min a c) (min b d) (max a c) (max b d) else areaV 0 0 0 0
theorem nrm_six {a b c d : Int} (h : inG a b = false ∨ inG c d = false) : nrmE a b c d = 6 ∧ nrmV a b c d = areaV 0 0 0 0 := by
  have h1 : nrmE a b c d = 6 := by
    unfold nrmE
    rw [if_pos (by rcases h with h | h <;> rw [h] <;> simp)]
  refine ⟨h1, ?_⟩
  unfold nrmV; rw [h1]; rfl
theorem nrm_seven {a b c d : Int} (h1 : inG a b = true) (h2 : inG c d = true) (h : 200 < cnt (min a c) (min b d) (max a c) (max b d)) : nrmE a b c d = 7 ∧ nrmV a b c d = areaV 0 0 0 0 := by
  have h1 : nrmE a b c d = 7 := by
    unfold nrmE
    rw [h1, h2, if_neg (by decide), if_pos h]
  refine ⟨h1, ?_⟩
  unfold nrmV; rw [h1]; rfl
theorem nrm_ok {a b c d : Int} (h1 : inG a b = true) (h2 : inG c d = true) (h : ¬ 200 < cnt (min a c) (min b d) (max a c) (max b d)) : nrmE a b c d = 0 ∧ nrmV a b c d = areaV (min a c) (min b d) (max a c) (max b d) := by
  have h1 : nrmE a b c d = 0 := by
    unfold nrmE
    rw [h1, h2, if_neg (by decide), if_neg h]
  refine ⟨h1, ?_⟩
  unfold nrmV; rw [h1]; rfl
/-- small enough for machine numbers. -/
theorem cnt_small {a b c d : Int} (ha : 1 ≤ a ∧ a ≤ 52) (hb : 1 ≤ b ∧ b ≤ 99) (hc : 1 ≤ c ∧ c ≤ 52) (hd : 1 ≤ d ∧ d ≤ 99) : -10000 ≤ cnt a b c d ∧ cnt a b c d ≤ 10000 := by
  unfold cnt
  have h1 : -51 ≤ c - a + 1 ∧ c - a + 1 ≤ 52 := by omega
  have h2 : -98 ≤ d - b + 1 ∧ d - b + 1 ≤ 99 := by omega
  generalize c - a + 1 = x at *
  generalize d - b + 1 = y at *
  obtain ⟨x1, x2⟩ := h1
  obtain ⟨y1, y2⟩ := h2
  have e : (52 - x) * (99 - y) ≥ 0 := Int.mul_nonneg (by omega) (by omega)
  have f : (52 - x) * (y + 98) ≥ 0 := Int.mul_nonneg (by omega) (by omega)
  have g : (x + 51) * (99 - y) ≥ 0 := Int.mul_nonneg (by omega) (by omega)
  have k : (x + 51) * (y + 98) ≥ 0 := Int.mul_nonneg (by omega) (by omega)
  simp only [Int.sub_mul, Int.mul_sub, Int.add_mul, Int.mul_add] at e f g k
  generalize x * y = z at *
  constructor <;> omega
set_option maxRecDepth 100000 in
set_option maxHeartbeats 1000000 in
theorem count_any (a b c d : Int) (w : World) (ha : 1 ≤ a ∧ a ≤ 52) (hb : 1 ≤ b ∧ b ≤ 99) (hc : 1 ≤ c ∧ c ≤ 52) (hd : 1 ≤ d ∧ d ≤ 99) :
    Calls Tryd.prog 32 #[areaV a b c d] w fun e w' => e = .returned (.int .i64 (cnt a b c d)) ∧ Below w.heap.size w w' := by
  obtain ⟨u1, u2⟩ := cnt_small ha hb hc hd
  have hw : cnt a b c d = wrap64 ((c - a + 1) * (d - b + 1)) := by
    unfold cnt at *
    generalize (c - a + 1) * (d - b + 1) = x at *
    unfold wrap64; omega
  have HW := Lib.hid hw
  clear hw
  obtain ⟨a1, a2⟩ := ha
  obtain ⟨b1, b2⟩ := hb
  obtain ⟨c1, c2⟩ := hc
  obtain ⟨d1, d2⟩ := hd
  go_enter Tryd.func32, Tryd.ntmps32
  go_wp2
  go_ret
  exact ⟨ret_int HW.out.symm, (Below.refl _ _).alloc (Nat.le_refl _) _⟩
set_option maxRecDepth 100000 in
set_option maxHeartbeats 4000000 in
theorem areaNorm_any (a b c d : Int) (w : World) :
    Calls Tryd.prog 16 #[areaV a b c d] w fun e w' => e = .returned (.tuple #[nrmV a b c d, .int .i64 (nrmE a b c d)]) ∧ Below w.heap.size w w' := by
  have h1 := fun w => quietC (addrIn_any a b w)
  have h2 := fun w => quietC (addrIn_any c d w)
  have hud : undef = Value.tuple #[] := rfl
  cases g1 : inG a b with
  | false =>
    obtain ⟨e1, e2⟩ := nrm_six (Or.inl g1 : inG a b = false ∨ inG c d = false)
    rw [e1, e2]
    rw [g1] at h1
    have H1 := Lib.hid h1
    clear h1 h2 g1 e1 e2
    go_enter Tryd.func16, Tryd.ntmps16
    go_wp2_with fail
    obtain ⟨s1, hws⟩ : ∃ s, s = ((w.alloc (.cells #[.int .i64 a, .int .i64 b, .int .i64 c, .int .i64 d] 34)).alloc (.cells #[.int .i64 0, .int .i64 0, .int .i64 0, .int .i64 0] 34)) := ⟨_, rfl⟩
    have hBs : Below w.heap.size w s1 := by rw [hws]; exact (((Below.refl w.heap.size w).alloc (by simp) _).alloc (by simp) _)
    obtain ⟨A, hdA⟩ : ∃ b, b = w.heap.size := ⟨_, rfl⟩
    obtain ⟨C, hdC⟩ : ∃ b, b = w.heap.size + 1 := ⟨_, rfl⟩
    have hsz : s1.heap.size = w.heap.size + 1 + 1 := by rw [hws]; simp
    have dCA : C ≠ A := by omega
    have kA0 : s1.cell? ⟨A, 0, none⟩ = some (.int .i64 a) := by rw [hws]; simp [go_sem, hdA, hdC]
    have kA1 : s1.cell? ⟨A, 1, none⟩ = some (.int .i64 b) := by rw [hws]; simp [go_sem, hdA, hdC]
    have kA2 : s1.cell? ⟨A, 2, none⟩ = some (.int .i64 c) := by rw [hws]; simp [go_sem, hdA, hdC]
    have kA3 : s1.cell? ⟨A, 3, none⟩ = some (.int .i64 d) := by rw [hws]; simp [go_sem, hdA, hdC]
    have zA : A < s1.heap.size := by omega
    have lA : w.heap.size ≤ A := by have := Nat.le_refl w.heap.size; omega
    have kC0 : s1.cell? ⟨C, 0, none⟩ = some (.int .i64 0) := by rw [hws]; simp [go_sem, hdA, hdC]
    have fC0 : s1.frozen? ⟨C, 0, none⟩ = false := by rw [hws]; simp [go_sem, hdA, hdC]
    have kC1 : s1.cell? ⟨C, 1, none⟩ = some (.int .i64 0) := by rw [hws]; simp [go_sem, hdA, hdC]
    have fC1 : s1.frozen? ⟨C, 1, none⟩ = false := by rw [hws]; simp [go_sem, hdA, hdC]
    have kC2 : s1.cell? ⟨C, 2, none⟩ = some (.int .i64 0) := by rw [hws]; simp [go_sem, hdA, hdC]
    have fC2 : s1.frozen? ⟨C, 2, none⟩ = false := by rw [hws]; simp [go_sem, hdA, hdC]
    have kC3 : s1.cell? ⟨C, 3, none⟩ = some (.int .i64 0) := by rw [hws]; simp [go_sem, hdA, hdC]
    have fC3 : s1.frozen? ⟨C, 3, none⟩ = false := by rw [hws]; simp [go_sem, hdA, hdC]
    have zC : C < s1.heap.size := by omega
    have lC : w.heap.size ≤ C := by have := Nat.le_refl w.heap.size; omega
    rw [← hws]
    try rw [← hdC]
    try rw [← hdA]
    clear hws hsz hdA hdC
    have hBo := hBs; clear hBs
    refine (H1.out _).mono ?_; rintro e s2 ⟨rfl, hb⟩
    replace kA0 := belK hb kA0 zA; replace kA1 := belK hb kA1 zA; replace kA2 := belK hb kA2 zA; replace kA3 := belK hb kA3 zA; replace zA := Nat.lt_of_lt_of_le zA hb.size
    replace kC0 := belK hb kC0 zC; replace fC0 := belF hb fC0 zC; replace kC1 := belK hb kC1 zC; replace fC1 := belF hb fC1 zC; replace kC2 := belK hb kC2 zC; replace fC2 := belF hb fC2 zC; replace kC3 := belK hb kC3 zC; replace fC3 := belF hb fC3 zC; replace zC := Nat.lt_of_lt_of_le zC hb.size
    replace hBo := hBo.trans (hb.mono hBo.size)
    clear hb
    all_goals go_wp2_with fail
    all_goals refine bodyPost_ret (v := .tuple #[areaV 0 0 0 0, .int .i64 6]) (by simp [results, Tryd.results16, go_sem, kC0, kC1, kC2, kC3, zC]) rfl ⟨rfl, ?_⟩
    all_goals exact ((((hBo.setCell lC _).setCell lC _).setCell lC _).setCell lC _)
  | true =>
    rw [g1] at h1
    have H1 := Lib.hid h1
    cases g2 : inG c d with
    | false =>
      obtain ⟨e1, e2⟩ := nrm_six (Or.inr g2 : inG a b = false ∨ inG c d = false)
      rw [e1, e2]
      rw [g2] at h2
      have H2 := Lib.hid h2
      clear h1 h2 g1 g2 e1 e2
      go_enter Tryd.func16, Tryd.ntmps16
      go_wp2_with fail
      obtain ⟨s3, hws⟩ : ∃ s, s = ((w.alloc (.cells #[.int .i64 a, .int .i64 b, .int .i64 c, .int .i64 d] 34)).alloc (.cells #[.int .i64 0, .int .i64 0, .int .i64 0, .int .i64 0] 34)) := ⟨_, rfl⟩
      have hBs : Below w.heap.size w s3 := by rw [hws]; exact (((Below.refl w.heap.size w).alloc (by simp) _).alloc (by simp) _)
      obtain ⟨A, hdA⟩ : ∃ b, b = w.heap.size := ⟨_, rfl⟩
      obtain ⟨C, hdC⟩ : ∃ b, b = w.heap.size + 1 := ⟨_, rfl⟩
      have hsz : s3.heap.size = w.heap.size + 1 + 1 := by rw [hws]; simp
      have dCA : C ≠ A := by omega
      have kA0 : s3.cell? ⟨A, 0, none⟩ = some (.int .i64 a) := by rw [hws]; simp [go_sem, hdA, hdC]
      have kA1 : s3.cell? ⟨A, 1, none⟩ = some (.int .i64 b) := by rw [hws]; simp [go_sem, hdA, hdC]
      have kA2 : s3.cell? ⟨A, 2, none⟩ = some (.int .i64 c) := by rw [hws]; simp [go_sem, hdA, hdC]
      have kA3 : s3.cell? ⟨A, 3, none⟩ = some (.int .i64 d) := by rw [hws]; simp [go_sem, hdA, hdC]
      have zA : A < s3.heap.size := by omega
      have lA : w.heap.size ≤ A := by have := Nat.le_refl w.heap.size; omega
      have kC0 : s3.cell? ⟨C, 0, none⟩ = some (.int .i64 0) := by rw [hws]; simp [go_sem, hdA, hdC]
      have fC0 : s3.frozen? ⟨C, 0, none⟩ = false := by rw [hws]; simp [go_sem, hdA, hdC]
      have kC1 : s3.cell? ⟨C, 1, none⟩ = some (.int .i64 0) := by rw [hws]; simp [go_sem, hdA, hdC]
      have fC1 : s3.frozen? ⟨C, 1, none⟩ = false := by rw [hws]; simp [go_sem, hdA, hdC]
      have kC2 : s3.cell? ⟨C, 2, none⟩ = some (.int .i64 0) := by rw [hws]; simp [go_sem, hdA, hdC]
      have fC2 : s3.frozen? ⟨C, 2, none⟩ = false := by rw [hws]; simp [go_sem, hdA, hdC]
      have kC3 : s3.cell? ⟨C, 3, none⟩ = some (.int .i64 0) := by rw [hws]; simp [go_sem, hdA, hdC]
      have fC3 : s3.frozen? ⟨C, 3, none⟩ = false := by rw [hws]; simp [go_sem, hdA, hdC]
      have zC : C < s3.heap.size := by omega
      have lC : w.heap.size ≤ C := by have := Nat.le_refl w.heap.size; omega
      rw [← hws]
      try rw [← hdC]
      try rw [← hdA]
      clear hws hsz hdA hdC
      have hBo := hBs; clear hBs
      refine (H1.out _).mono ?_; rintro e s4 ⟨rfl, hb⟩
      replace kA0 := belK hb kA0 zA; replace kA1 := belK hb kA1 zA; replace kA2 := belK hb kA2 zA; replace kA3 := belK hb kA3 zA; replace zA := Nat.lt_of_lt_of_le zA hb.size
      replace kC0 := belK hb kC0 zC; replace fC0 := belF hb fC0 zC; replace kC1 := belK hb kC1 zC; replace fC1 := belF hb fC1 zC; replace kC2 := belK hb kC2 zC; replace fC2 := belF hb fC2 zC; replace kC3 := belK hb kC3 zC; replace fC3 := belF hb fC3 zC; replace zC := Nat.lt_of_lt_of_le zC hb.size
      replace hBo := hBo.trans (hb.mono hBo.size)
      clear hb
      go_wp2_with fail
      refine (H2.out _).mono ?_; rintro e s5 ⟨rfl, hb⟩
      replace kA0 := belK hb kA0 zA; replace kA1 := belK hb kA1 zA; replace kA2 := belK hb kA2 zA; replace kA3 := belK hb kA3 zA; replace zA := Nat.lt_of_lt_of_le zA hb.size
      replace kC0 := belK hb kC0 zC; replace fC0 := belF hb fC0 zC; replace kC1 := belK hb kC1 zC; replace fC1 := belF hb fC1 zC; replace kC2 := belK hb kC2 zC; replace fC2 := belF hb fC2 zC; replace kC3 := belK hb kC3 zC; replace fC3 := belF hb fC3 zC; replace zC := Nat.lt_of_lt_of_le zC hb.size
      replace hBo := hBo.trans (hb.mono hBo.size)
      clear hb
      all_goals go_wp2_with fail
      all_goals refine bodyPost_ret (v := .tuple #[areaV 0 0 0 0, .int .i64 6]) (by simp [results, Tryd.results16, go_sem, kC0, kC1, kC2, kC3, zC]) rfl ⟨rfl, ?_⟩
      all_goals exact ((((hBo.setCell lC _).setCell lC _).setCell lC _).setCell lC _)
    | true =>
      rw [g2] at h2
      have H2 := Lib.hid h2
      obtain ⟨a1, a2, b1, b2⟩ := (inG_iff _ _).1 g1
      obtain ⟨c1, c2, d1, d2⟩ := (inG_iff _ _).1 g2
      have HC := Lib.hid (fun w => count_any (min a c) (min b d) (max a c) (max b d) w (by omega) (by omega) (by omega) (by omega))
      by_cases hm : 200 < cnt (min a c) (min b d) (max a c) (max b d)
      · obtain ⟨e1, e2⟩ := nrm_seven g1 g2 hm
        rw [e1, e2]
        obtain ⟨n, hn⟩ : ∃ n, n = cnt (min a c) (min b d) (max a c) (max b d) := ⟨_, rfl⟩
        rw [← hn] at hm HC
        have HN := Lib.hid hn
        clear h1 h2 g1 g2 e1 e2 hn
        go_enter Tryd.func16, Tryd.ntmps16
        go_wp2_with fail
        obtain ⟨s6, hws⟩ : ∃ s, s = ((w.alloc (.cells #[.int .i64 a, .int .i64 b, .int .i64 c, .int .i64 d] 34)).alloc (.cells #[.int .i64 0, .int .i64 0, .int .i64 0, .int .i64 0] 34)) := ⟨_, rfl⟩
        have hBs : Below w.heap.size w s6 := by rw [hws]; exact (((Below.refl w.heap.size w).alloc (by simp) _).alloc (by simp) _)
        obtain ⟨A, hdA⟩ : ∃ b, b = w.heap.size := ⟨_, rfl⟩
        obtain ⟨C, hdC⟩ : ∃ b, b = w.heap.size + 1 := ⟨_, rfl⟩
        have hsz : s6.heap.size = w.heap.size + 1 + 1 := by rw [hws]; simp
        have dCA : C ≠ A := by omega
        have kA0 : s6.cell? ⟨A, 0, none⟩ = some (.int .i64 a) := by rw [hws]; simp [go_sem, hdA, hdC]
        have kA1 : s6.cell? ⟨A, 1, none⟩ = some (.int .i64 b) := by rw [hws]; simp [go_sem, hdA, hdC]
        have kA2 : s6.cell? ⟨A, 2, none⟩ = some (.int .i64 c) := by rw [hws]; simp [go_sem, hdA, hdC]
        have kA3 : s6.cell? ⟨A, 3, none⟩ = some (.int .i64 d) := by rw [hws]; simp [go_sem, hdA, hdC]
        have zA : A < s6.heap.size := by omega
        have lA : w.heap.size ≤ A := by have := Nat.le_refl w.heap.size; omega
        have kC0 : s6.cell? ⟨C, 0, none⟩ = some (.int .i64 0) := by rw [hws]; simp [go_sem, hdA, hdC]
        have fC0 : s6.frozen? ⟨C, 0, none⟩ = false := by rw [hws]; simp [go_sem, hdA, hdC]
        have kC1 : s6.cell? ⟨C, 1, none⟩ = some (.int .i64 0) := by rw [hws]; simp [go_sem, hdA, hdC]
        have fC1 : s6.frozen? ⟨C, 1, none⟩ = false := by rw [hws]; simp [go_sem, hdA, hdC]
        have kC2 : s6.cell? ⟨C, 2, none⟩ = some (.int .i64 0) := by rw [hws]; simp [go_sem, hdA, hdC]
        have fC2 : s6.frozen? ⟨C, 2, none⟩ = false := by rw [hws]; simp [go_sem, hdA, hdC]
        have kC3 : s6.cell? ⟨C, 3, none⟩ = some (.int .i64 0) := by rw [hws]; simp [go_sem, hdA, hdC]
        have fC3 : s6.frozen? ⟨C, 3, none⟩ = false := by rw [hws]; simp [go_sem, hdA, hdC]
        have zC : C < s6.heap.size := by omega
        have lC : w.heap.size ≤ C := by have := Nat.le_refl w.heap.size; omega
        rw [← hws]
        try rw [← hdC]
        try rw [← hdA]
        clear hws hsz hdA hdC
        have hBo := hBs; clear hBs
        refine (H1.out _).mono ?_; rintro e s7 ⟨rfl, hb⟩
        replace kA0 := belK hb kA0 zA; replace kA1 := belK hb kA1 zA; replace kA2 := belK hb kA2 zA; replace kA3 := belK hb kA3 zA; replace zA := Nat.lt_of_lt_of_le zA hb.size
        replace kC0 := belK hb kC0 zC; replace fC0 := belF hb fC0 zC; replace kC1 := belK hb kC1 zC; replace fC1 := belF hb fC1 zC; replace kC2 := belK hb kC2 zC; replace fC2 := belF hb fC2 zC; replace kC3 := belK hb kC3 zC; replace fC3 := belF hb fC3 zC; replace zC := Nat.lt_of_lt_of_le zC hb.size
        replace hBo := hBo.trans (hb.mono hBo.size)
        clear hb
        go_wp2_with fail
        refine (H2.out _).mono ?_; rintro e s8 ⟨rfl, hb⟩
        replace kA0 := belK hb kA0 zA; replace kA1 := belK hb kA1 zA; replace kA2 := belK hb kA2 zA; replace kA3 := belK hb kA3 zA; replace zA := Nat.lt_of_lt_of_le zA hb.size
        replace kC0 := belK hb kC0 zC; replace fC0 := belF hb fC0 zC; replace kC1 := belK hb kC1 zC; replace fC1 := belF hb fC1 zC; replace kC2 := belK hb kC2 zC; replace fC2 := belF hb fC2 zC; replace kC3 := belK hb kC3 zC; replace fC3 := belF hb fC3 zC; replace zC := Nat.lt_of_lt_of_le zC hb.size
        replace hBo := hBo.trans (hb.mono hBo.size)
        clear hb
        go_wp2_with fail
        obtain ⟨s9, hws⟩ : ∃ s, s = (s8.alloc (.cells #[.int .i64 (min a c), .int .i64 (min b d), .int .i64 (max a c), .int .i64 (max b d)] 34)) := ⟨_, rfl⟩
        have hBs : Below w.heap.size w s9 := by rw [hws]; exact ((hBo).alloc (by exact hBo.size) _)
        obtain ⟨E, hdE⟩ : ∃ b, b = s8.heap.size := ⟨_, rfl⟩
        have hsz : s9.heap.size = s8.heap.size + 1 := by rw [hws]; simp
        have dCE : C ≠ E := by omega
        have hQC : ∀ p v, s8.cell? p = some v → s9.cell? p = some v := fun p v h => by rw [hws]; exact (alK h)
        have hQZ : ∀ b, b < s8.heap.size → b < s9.heap.size := fun b h => by omega
        have hQF : ∀ b j, b < s8.heap.size → s8.frozen? ⟨b, j, none⟩ = false → s9.frozen? ⟨b, j, none⟩ = false := fun b j z h => by rw [hws]; exact (alF z h)
        replace kA0 := hQC _ _ kA0; replace kA1 := hQC _ _ kA1; replace kA2 := hQC _ _ kA2; replace kA3 := hQC _ _ kA3; replace zA := hQZ _ zA
        replace kC0 := hQC _ _ kC0; replace fC0 := hQF _ _ zC fC0; replace kC1 := hQC _ _ kC1; replace fC1 := hQF _ _ zC fC1; replace kC2 := hQC _ _ kC2; replace fC2 := hQF _ _ zC fC2; replace kC3 := hQC _ _ kC3; replace fC3 := hQF _ _ zC fC3; replace zC := hQZ _ zC
        clear hQC hQZ hQF
        have kE0 : s9.cell? ⟨E, 0, none⟩ = some (.int .i64 (min a c)) := by rw [hws]; simp [go_sem, hdE]
        have kE1 : s9.cell? ⟨E, 1, none⟩ = some (.int .i64 (min b d)) := by rw [hws]; simp [go_sem, hdE]
        have kE2 : s9.cell? ⟨E, 2, none⟩ = some (.int .i64 (max a c)) := by rw [hws]; simp [go_sem, hdE]
        have kE3 : s9.cell? ⟨E, 3, none⟩ = some (.int .i64 (max b d)) := by rw [hws]; simp [go_sem, hdE]
        have zE : E < s9.heap.size := by omega
        have lE : w.heap.size ≤ E := by have := hBo.size; omega
        rw [← hws]
        try rw [← hdE]
        clear hBo
        clear hws hsz hdE
        have hBo := hBs; clear hBs
        refine (HC.out _).mono ?_; rintro e s10 ⟨rfl, hb⟩
        replace kA0 := belK hb kA0 zA; replace kA1 := belK hb kA1 zA; replace kA2 := belK hb kA2 zA; replace kA3 := belK hb kA3 zA; replace zA := Nat.lt_of_lt_of_le zA hb.size
        replace kC0 := belK hb kC0 zC; replace fC0 := belF hb fC0 zC; replace kC1 := belK hb kC1 zC; replace fC1 := belF hb fC1 zC; replace kC2 := belK hb kC2 zC; replace fC2 := belF hb fC2 zC; replace kC3 := belK hb kC3 zC; replace fC3 := belF hb fC3 zC; replace zC := Nat.lt_of_lt_of_le zC hb.size
        replace kE0 := belK hb kE0 zE; replace kE1 := belK hb kE1 zE; replace kE2 := belK hb kE2 zE; replace kE3 := belK hb kE3 zE; replace zE := Nat.lt_of_lt_of_le zE hb.size
        replace hBo := hBo.trans (hb.mono hBo.size)
        clear hb
        all_goals go_wp2_with fail
        all_goals refine bodyPost_ret (v := .tuple #[areaV 0 0 0 0, .int .i64 7]) (by simp [results, Tryd.results16, go_sem, kC0, kC1, kC2, kC3, zC]) rfl ⟨rfl, ?_⟩
        all_goals exact ((((hBo.setCell lC _).setCell lC _).setCell lC _).setCell lC _)
      · obtain ⟨e1, e2⟩ := nrm_ok g1 g2 hm
        rw [e1, e2]
        obtain ⟨n, hn⟩ : ∃ n, n = cnt (min a c) (min b d) (max a c) (max b d) := ⟨_, rfl⟩
        rw [← hn] at hm HC
        have HN := Lib.hid hn
        clear h1 h2 g1 g2 e1 e2 hn
        go_enter Tryd.func16, Tryd.ntmps16
        go_wp2_with fail
        obtain ⟨s11, hws⟩ : ∃ s, s = ((w.alloc (.cells #[.int .i64 a, .int .i64 b, .int .i64 c, .int .i64 d] 34)).alloc (.cells #[.int .i64 0, .int .i64 0, .int .i64 0, .int .i64 0] 34)) := ⟨_, rfl⟩
        have hBs : Below w.heap.size w s11 := by rw [hws]; exact (((Below.refl w.heap.size w).alloc (by simp) _).alloc (by simp) _)
        obtain ⟨A, hdA⟩ : ∃ b, b = w.heap.size := ⟨_, rfl⟩
        obtain ⟨C, hdC⟩ : ∃ b, b = w.heap.size + 1 := ⟨_, rfl⟩
        have hsz : s11.heap.size = w.heap.size + 1 + 1 := by rw [hws]; simp
        have dCA : C ≠ A := by omega
        have kA0 : s11.cell? ⟨A, 0, none⟩ = some (.int .i64 a) := by rw [hws]; simp [go_sem, hdA, hdC]
        have kA1 : s11.cell? ⟨A, 1, none⟩ = some (.int .i64 b) := by rw [hws]; simp [go_sem, hdA, hdC]
        have kA2 : s11.cell? ⟨A, 2, none⟩ = some (.int .i64 c) := by rw [hws]; simp [go_sem, hdA, hdC]
        have kA3 : s11.cell? ⟨A, 3, none⟩ = some (.int .i64 d) := by rw [hws]; simp [go_sem, hdA, hdC]
        have zA : A < s11.heap.size := by omega
        have lA : w.heap.size ≤ A := by have := Nat.le_refl w.heap.size; omega
        have kC0 : s11.cell? ⟨C, 0, none⟩ = some (.int .i64 0) := by rw [hws]; simp [go_sem, hdA, hdC]
        have fC0 : s11.frozen? ⟨C, 0, none⟩ = false := by rw [hws]; simp [go_sem, hdA, hdC]
        have kC1 : s11.cell? ⟨C, 1, none⟩ = some (.int .i64 0) := by rw [hws]; simp [go_sem, hdA, hdC]
        have fC1 : s11.frozen? ⟨C, 1, none⟩ = false := by rw [hws]; simp [go_sem, hdA, hdC]
        have kC2 : s11.cell? ⟨C, 2, none⟩ = some (.int .i64 0) := by rw [hws]; simp [go_sem, hdA, hdC]
        have fC2 : s11.frozen? ⟨C, 2, none⟩ = false := by rw [hws]; simp [go_sem, hdA, hdC]
        have kC3 : s11.cell? ⟨C, 3, none⟩ = some (.int .i64 0) := by rw [hws]; simp [go_sem, hdA, hdC]
        have fC3 : s11.frozen? ⟨C, 3, none⟩ = false := by rw [hws]; simp [go_sem, hdA, hdC]
        have zC : C < s11.heap.size := by omega
        have lC : w.heap.size ≤ C := by have := Nat.le_refl w.heap.size; omega
        rw [← hws]
        try rw [← hdC]
        try rw [← hdA]
        clear hws hsz hdA hdC
        have hBo := hBs; clear hBs
        refine (H1.out _).mono ?_; rintro e s12 ⟨rfl, hb⟩
        replace kA0 := belK hb kA0 zA; replace kA1 := belK hb kA1 zA; replace kA2 := belK hb kA2 zA; replace kA3 := belK hb kA3 zA; replace zA := Nat.lt_of_lt_of_le zA hb.size
        replace kC0 := belK hb kC0 zC; replace fC0 := belF hb fC0 zC; replace kC1 := belK hb kC1 zC; replace fC1 := belF hb fC1 zC; replace kC2 := belK hb kC2 zC; replace fC2 := belF hb fC2 zC; replace kC3 := belK hb kC3 zC; replace fC3 := belF hb fC3 zC; replace zC := Nat.lt_of_lt_of_le zC hb.size
        replace hBo := hBo.trans (hb.mono hBo.size)
        clear hb
        go_wp2_with fail
        refine (H2.out _).mono ?_; rintro e s13 ⟨rfl, hb⟩
        replace kA0 := belK hb kA0 zA; replace kA1 := belK hb kA1 zA; replace kA2 := belK hb kA2 zA; replace kA3 := belK hb kA3 zA; replace zA := Nat.lt_of_lt_of_le zA hb.size
        replace kC0 := belK hb kC0 zC; replace fC0 := belF hb fC0 zC; replace kC1 := belK hb kC1 zC; replace fC1 := belF hb fC1 zC; replace kC2 := belK hb kC2 zC; replace fC2 := belF hb fC2 zC; replace kC3 := belK hb kC3 zC; replace fC3 := belF hb fC3 zC; replace zC := Nat.lt_of_lt_of_le zC hb.size
        replace hBo := hBo.trans (hb.mono hBo.size)
        clear hb
        go_wp2_with fail
        obtain ⟨s14, hws⟩ : ∃ s, s = (s13.alloc (.cells #[.int .i64 (min a c), .int .i64 (min b d), .int .i64 (max a c), .int .i64 (max b d)] 34)) := ⟨_, rfl⟩
        have hBs : Below w.heap.size w s14 := by rw [hws]; exact ((hBo).alloc (by exact hBo.size) _)
        obtain ⟨E, hdE⟩ : ∃ b, b = s13.heap.size := ⟨_, rfl⟩
        have hsz : s14.heap.size = s13.heap.size + 1 := by rw [hws]; simp
        have dCE : C ≠ E := by omega
        have hQC : ∀ p v, s13.cell? p = some v → s14.cell? p = some v := fun p v h => by rw [hws]; exact (alK h)
        have hQZ : ∀ b, b < s13.heap.size → b < s14.heap.size := fun b h => by omega
        have hQF : ∀ b j, b < s13.heap.size → s13.frozen? ⟨b, j, none⟩ = false → s14.frozen? ⟨b, j, none⟩ = false := fun b j z h => by rw [hws]; exact (alF z h)
        replace kA0 := hQC _ _ kA0; replace kA1 := hQC _ _ kA1; replace kA2 := hQC _ _ kA2; replace kA3 := hQC _ _ kA3; replace zA := hQZ _ zA
        replace kC0 := hQC _ _ kC0; replace fC0 := hQF _ _ zC fC0; replace kC1 := hQC _ _ kC1; replace fC1 := hQF _ _ zC fC1; replace kC2 := hQC _ _ kC2; replace fC2 := hQF _ _ zC fC2; replace kC3 := hQC _ _ kC3; replace fC3 := hQF _ _ zC fC3; replace zC := hQZ _ zC
        clear hQC hQZ hQF
        have kE0 : s14.cell? ⟨E, 0, none⟩ = some (.int .i64 (min a c)) := by rw [hws]; simp [go_sem, hdE]
        have kE1 : s14.cell? ⟨E, 1, none⟩ = some (.int .i64 (min b d)) := by rw [hws]; simp [go_sem, hdE]
        have kE2 : s14.cell? ⟨E, 2, none⟩ = some (.int .i64 (max a c)) := by rw [hws]; simp [go_sem, hdE]
        have kE3 : s14.cell? ⟨E, 3, none⟩ = some (.int .i64 (max b d)) := by rw [hws]; simp [go_sem, hdE]
        have zE : E < s14.heap.size := by omega
        have lE : w.heap.size ≤ E := by have := hBo.size; omega
        rw [← hws]
        try rw [← hdE]
        clear hBo
        clear hws hsz hdE
        have hBo := hBs; clear hBs
        refine (HC.out _).mono ?_; rintro e s15 ⟨rfl, hb⟩
        replace kA0 := belK hb kA0 zA; replace kA1 := belK hb kA1 zA; replace kA2 := belK hb kA2 zA; replace kA3 := belK hb kA3 zA; replace zA := Nat.lt_of_lt_of_le zA hb.size
        replace kC0 := belK hb kC0 zC; replace fC0 := belF hb fC0 zC; replace kC1 := belK hb kC1 zC; replace fC1 := belF hb fC1 zC; replace kC2 := belK hb kC2 zC; replace fC2 := belF hb fC2 zC; replace kC3 := belK hb kC3 zC; replace fC3 := belF hb fC3 zC; replace zC := Nat.lt_of_lt_of_le zC hb.size
        replace kE0 := belK hb kE0 zE; replace kE1 := belK hb kE1 zE; replace kE2 := belK hb kE2 zE; replace kE3 := belK hb kE3 zE; replace zE := Nat.lt_of_lt_of_le zE hb.size
        replace hBo := hBo.trans (hb.mono hBo.size)
        clear hb
        all_goals go_wp2_with fail
        all_goals refine bodyPost_ret (v := .tuple #[areaV (min a c) (min b d) (max a c) (max b d), .int .i64 0]) (by simp [results, Tryd.results16, go_sem, kC0, kC1, kC2, kC3, zC]) rfl ⟨rfl, ?_⟩
        all_goals exact ((((hBo.setCell lC _).setCell lC _).setCell lC _).setCell lC _)
set_option maxRecDepth 100000 in
set_option maxHeartbeats 4000000 in
theorem refNorm_any (a b c d : Int) (w : World) :
    Calls Tryd.prog 17 #[areaV a b c d] w fun e w' => e = .returned (.tuple #[nrmV a b c d, .int .i64 (nrmE a b c d)]) ∧ Below w.heap.size w w' := by
  have h1 := fun w => quietC (refIn_any a b w)
  have h2 := fun w => quietC (refIn_any c d w)
  have hud : undef = Value.tuple #[] := rfl
  cases g1 : inG a b with
  | false =>
    obtain ⟨e1, e2⟩ := nrm_six (Or.inl g1 : inG a b = false ∨ inG c d = false)
    rw [e1, e2]
    rw [g1] at h1
    have H1 := Lib.hid h1
    clear h1 h2 g1 e1 e2
    go_enter Tryd.func17, Tryd.ntmps17
    go_wp2_with fail
    obtain ⟨s16, hws⟩ : ∃ s, s = ((w.alloc (.cells #[.int .i64 a, .int .i64 b, .int .i64 c, .int .i64 d] 33)).alloc (.cells #[.int .i64 0, .int .i64 0, .int .i64 0, .int .i64 0] 33)) := ⟨_, rfl⟩
    have hBs : Below w.heap.size w s16 := by rw [hws]; exact (((Below.refl w.heap.size w).alloc (by simp) _).alloc (by simp) _)
    obtain ⟨A, hdA⟩ : ∃ b, b = w.heap.size := ⟨_, rfl⟩
    obtain ⟨C, hdC⟩ : ∃ b, b = w.heap.size + 1 := ⟨_, rfl⟩
    have hsz : s16.heap.size = w.heap.size + 1 + 1 := by rw [hws]; simp
    have dCA : C ≠ A := by omega
    have kA0 : s16.cell? ⟨A, 0, none⟩ = some (.int .i64 a) := by rw [hws]; simp [go_sem, hdA, hdC]
    have kA1 : s16.cell? ⟨A, 1, none⟩ = some (.int .i64 b) := by rw [hws]; simp [go_sem, hdA, hdC]
    have kA2 : s16.cell? ⟨A, 2, none⟩ = some (.int .i64 c) := by rw [hws]; simp [go_sem, hdA, hdC]
    have kA3 : s16.cell? ⟨A, 3, none⟩ = some (.int .i64 d) := by rw [hws]; simp [go_sem, hdA, hdC]
    have zA : A < s16.heap.size := by omega
    have lA : w.heap.size ≤ A := by have := Nat.le_refl w.heap.size; omega
    have kC0 : s16.cell? ⟨C, 0, none⟩ = some (.int .i64 0) := by rw [hws]; simp [go_sem, hdA, hdC]
    have fC0 : s16.frozen? ⟨C, 0, none⟩ = false := by rw [hws]; simp [go_sem, hdA, hdC]
    have kC1 : s16.cell? ⟨C, 1, none⟩ = some (.int .i64 0) := by rw [hws]; simp [go_sem, hdA, hdC]
    have fC1 : s16.frozen? ⟨C, 1, none⟩ = false := by rw [hws]; simp [go_sem, hdA, hdC]
    have kC2 : s16.cell? ⟨C, 2, none⟩ = some (.int .i64 0) := by rw [hws]; simp [go_sem, hdA, hdC]
    have fC2 : s16.frozen? ⟨C, 2, none⟩ = false := by rw [hws]; simp [go_sem, hdA, hdC]
    have kC3 : s16.cell? ⟨C, 3, none⟩ = some (.int .i64 0) := by rw [hws]; simp [go_sem, hdA, hdC]
    have fC3 : s16.frozen? ⟨C, 3, none⟩ = false := by rw [hws]; simp [go_sem, hdA, hdC]
    have zC : C < s16.heap.size := by omega
    have lC : w.heap.size ≤ C := by have := Nat.le_refl w.heap.size; omega
    rw [← hws]
    try rw [← hdC]
    try rw [← hdA]
    clear hws hsz hdA hdC
    have hBo := hBs; clear hBs
    refine (H1.out _).mono ?_; rintro e s17 ⟨rfl, hb⟩
    replace kA0 := belK hb kA0 zA; replace kA1 := belK hb kA1 zA; replace kA2 := belK hb kA2 zA; replace kA3 := belK hb kA3 zA; replace zA := Nat.lt_of_lt_of_le zA hb.size
    replace kC0 := belK hb kC0 zC; replace fC0 := belF hb fC0 zC; replace kC1 := belK hb kC1 zC; replace fC1 := belF hb fC1 zC; replace kC2 := belK hb kC2 zC; replace fC2 := belF hb fC2 zC; replace kC3 := belK hb kC3 zC; replace fC3 := belF hb fC3 zC; replace zC := Nat.lt_of_lt_of_le zC hb.size
    replace hBo := hBo.trans (hb.mono hBo.size)
    clear hb
    all_goals go_wp2_with fail
    all_goals refine bodyPost_ret (v := .tuple #[areaV 0 0 0 0, .int .i64 6]) (by simp [results, Tryd.results17, go_sem, kC0, kC1, kC2, kC3, zC]) rfl ⟨rfl, ?_⟩
    all_goals exact ((((hBo.setCell lC _).setCell lC _).setCell lC _).setCell lC _)
  | true =>
    rw [g1] at h1
    have H1 := Lib.hid h1
    cases g2 : inG c d with
    | false =>
      obtain ⟨e1, e2⟩ := nrm_six (Or.inr g2 : inG a b = false ∨ inG c d = false)
      rw [e1, e2]
      rw [g2] at h2
      have H2 := Lib.hid h2
      clear h1 h2 g1 g2 e1 e2
      go_enter Tryd.func17, Tryd.ntmps17
      go_wp2_with fail
      obtain ⟨s18, hws⟩ : ∃ s, s = ((w.alloc (.cells #[.int .i64 a, .int .i64 b, .int .i64 c, .int .i64 d] 33)).alloc (.cells #[.int .i64 0, .int .i64 0, .int .i64 0, .int .i64 0] 33)) := ⟨_, rfl⟩
      have hBs : Below w.heap.size w s18 := by rw [hws]; exact (((Below.refl w.heap.size w).alloc (by simp) _).alloc (by simp) _)
      obtain ⟨A, hdA⟩ : ∃ b, b = w.heap.size := ⟨_, rfl⟩
      obtain ⟨C, hdC⟩ : ∃ b, b = w.heap.size + 1 := ⟨_, rfl⟩
      have hsz : s18.heap.size = w.heap.size + 1 + 1 := by rw [hws]; simp
      have dCA : C ≠ A := by omega
      have kA0 : s18.cell? ⟨A, 0, none⟩ = some (.int .i64 a) := by rw [hws]; simp [go_sem, hdA, hdC]
      have kA1 : s18.cell? ⟨A, 1, none⟩ = some (.int .i64 b) := by rw [hws]; simp [go_sem, hdA, hdC]
      have kA2 : s18.cell? ⟨A, 2, none⟩ = some (.int .i64 c) := by rw [hws]; simp [go_sem, hdA, hdC]
      have kA3 : s18.cell? ⟨A, 3, none⟩ = some (.int .i64 d) := by rw [hws]; simp [go_sem, hdA, hdC]
      have zA : A < s18.heap.size := by omega
      have lA : w.heap.size ≤ A := by have := Nat.le_refl w.heap.size; omega
      have kC0 : s18.cell? ⟨C, 0, none⟩ = some (.int .i64 0) := by rw [hws]; simp [go_sem, hdA, hdC]
      have fC0 : s18.frozen? ⟨C, 0, none⟩ = false := by rw [hws]; simp [go_sem, hdA, hdC]
      have kC1 : s18.cell? ⟨C, 1, none⟩ = some (.int .i64 0) := by rw [hws]; simp [go_sem, hdA, hdC]
      have fC1 : s18.frozen? ⟨C, 1, none⟩ = false := by rw [hws]; simp [go_sem, hdA, hdC]
      have kC2 : s18.cell? ⟨C, 2, none⟩ = some (.int .i64 0) := by rw [hws]; simp [go_sem, hdA, hdC]
      have fC2 : s18.frozen? ⟨C, 2, none⟩ = false := by rw [hws]; simp [go_sem, hdA, hdC]
      have kC3 : s18.cell? ⟨C, 3, none⟩ = some (.int .i64 0) := by rw [hws]; simp [go_sem, hdA, hdC]
      have fC3 : s18.frozen? ⟨C, 3, none⟩ = false := by rw [hws]; simp [go_sem, hdA, hdC]
      have zC : C < s18.heap.size := by omega
      have lC : w.heap.size ≤ C := by have := Nat.le_refl w.heap.size; omega
      rw [← hws]
      try rw [← hdC]
      try rw [← hdA]
      clear hws hsz hdA hdC
      have hBo := hBs; clear hBs
      refine (H1.out _).mono ?_; rintro e s19 ⟨rfl, hb⟩
      replace kA0 := belK hb kA0 zA; replace kA1 := belK hb kA1 zA; replace kA2 := belK hb kA2 zA; replace kA3 := belK hb kA3 zA; replace zA := Nat.lt_of_lt_of_le zA hb.size
      replace kC0 := belK hb kC0 zC; replace fC0 := belF hb fC0 zC; replace kC1 := belK hb kC1 zC; replace fC1 := belF hb fC1 zC; replace kC2 := belK hb kC2 zC; replace fC2 := belF hb fC2 zC; replace kC3 := belK hb kC3 zC; replace fC3 := belF hb fC3 zC; replace zC := Nat.lt_of_lt_of_le zC hb.size
      replace hBo := hBo.trans (hb.mono hBo.size)
      clear hb
      go_wp2_with fail
      refine (H2.out _).mono ?_; rintro e s20 ⟨rfl, hb⟩
      replace kA0 := belK hb kA0 zA; replace kA1 := belK hb kA1 zA; replace kA2 := belK hb kA2 zA; replace kA3 := belK hb kA3 zA; replace zA := Nat.lt_of_lt_of_le zA hb.size
      replace kC0 := belK hb kC0 zC; replace fC0 := belF hb fC0 zC; replace kC1 := belK hb kC1 zC; replace fC1 := belF hb fC1 zC; replace kC2 := belK hb kC2 zC; replace fC2 := belF hb fC2 zC; replace kC3 := belK hb kC3 zC; replace fC3 := belF hb fC3 zC; replace zC := Nat.lt_of_lt_of_le zC hb.size
      replace hBo := hBo.trans (hb.mono hBo.size)
      clear hb
      all_goals go_wp2_with fail
      all_goals refine bodyPost_ret (v := .tuple #[areaV 0 0 0 0, .int .i64 6]) (by simp [results, Tryd.results17, go_sem, kC0, kC1, kC2, kC3, zC]) rfl ⟨rfl, ?_⟩
      all_goals exact ((((hBo.setCell lC _).setCell lC _).setCell lC _).setCell lC _)
    | true =>
      rw [g2] at h2
      have H2 := Lib.hid h2
      obtain ⟨a1, a2, b1, b2⟩ := (inG_iff _ _).1 g1
      obtain ⟨c1, c2, d1, d2⟩ := (inG_iff _ _).1 g2
      by_cases hm : 200 < cnt (min a c) (min b d) (max a c) (max b d)
      · obtain ⟨e1, e2⟩ := nrm_seven g1 g2 hm
        rw [e1, e2]
        obtain ⟨n, hn⟩ : ∃ n, n = cnt (min a c) (min b d) (max a c) (max b d) := ⟨_, rfl⟩
        rw [← hn] at hm
        have hw : wrap64 ((max a c - min a c + 1) * (max b d - min b d + 1)) = n := by
          have hs := cnt_small (a := min a c) (b := min b d) (c := max a c) (d := max b d) (by omega) (by omega) (by omega) (by omega)
          rw [← hn] at hs
          have : (max a c - min a c + 1) * (max b d - min b d + 1) = n := hn.symm
          rw [this]; unfold wrap64; omega
        have HN := Lib.hid hn
        clear h1 h2 g1 g2 e1 e2 hn
        go_enter Tryd.func17, Tryd.ntmps17
        go_wp2_with fail
        obtain ⟨s21, hws⟩ : ∃ s, s = ((w.alloc (.cells #[.int .i64 a, .int .i64 b, .int .i64 c, .int .i64 d] 33)).alloc (.cells #[.int .i64 0, .int .i64 0, .int .i64 0, .int .i64 0] 33)) := ⟨_, rfl⟩
        have hBs : Below w.heap.size w s21 := by rw [hws]; exact (((Below.refl w.heap.size w).alloc (by simp) _).alloc (by simp) _)
        obtain ⟨A, hdA⟩ : ∃ b, b = w.heap.size := ⟨_, rfl⟩
        obtain ⟨C, hdC⟩ : ∃ b, b = w.heap.size + 1 := ⟨_, rfl⟩
        have hsz : s21.heap.size = w.heap.size + 1 + 1 := by rw [hws]; simp
        have dCA : C ≠ A := by omega
        have kA0 : s21.cell? ⟨A, 0, none⟩ = some (.int .i64 a) := by rw [hws]; simp [go_sem, hdA, hdC]
        have kA1 : s21.cell? ⟨A, 1, none⟩ = some (.int .i64 b) := by rw [hws]; simp [go_sem, hdA, hdC]
        have kA2 : s21.cell? ⟨A, 2, none⟩ = some (.int .i64 c) := by rw [hws]; simp [go_sem, hdA, hdC]
        have kA3 : s21.cell? ⟨A, 3, none⟩ = some (.int .i64 d) := by rw [hws]; simp [go_sem, hdA, hdC]
        have zA : A < s21.heap.size := by omega
        have lA : w.heap.size ≤ A := by have := Nat.le_refl w.heap.size; omega
        have kC0 : s21.cell? ⟨C, 0, none⟩ = some (.int .i64 0) := by rw [hws]; simp [go_sem, hdA, hdC]
        have fC0 : s21.frozen? ⟨C, 0, none⟩ = false := by rw [hws]; simp [go_sem, hdA, hdC]
        have kC1 : s21.cell? ⟨C, 1, none⟩ = some (.int .i64 0) := by rw [hws]; simp [go_sem, hdA, hdC]
        have fC1 : s21.frozen? ⟨C, 1, none⟩ = false := by rw [hws]; simp [go_sem, hdA, hdC]
        have kC2 : s21.cell? ⟨C, 2, none⟩ = some (.int .i64 0) := by rw [hws]; simp [go_sem, hdA, hdC]
        have fC2 : s21.frozen? ⟨C, 2, none⟩ = false := by rw [hws]; simp [go_sem, hdA, hdC]
        have kC3 : s21.cell? ⟨C, 3, none⟩ = some (.int .i64 0) := by rw [hws]; simp [go_sem, hdA, hdC]
        have fC3 : s21.frozen? ⟨C, 3, none⟩ = false := by rw [hws]; simp [go_sem, hdA, hdC]
        have zC : C < s21.heap.size := by omega
        have lC : w.heap.size ≤ C := by have := Nat.le_refl w.heap.size; omega
        rw [← hws]
        try rw [← hdC]
        try rw [← hdA]
        clear hws hsz hdA hdC
        have hBo := hBs; clear hBs
        refine (H1.out _).mono ?_; rintro e s22 ⟨rfl, hb⟩
        replace kA0 := belK hb kA0 zA; replace kA1 := belK hb kA1 zA; replace kA2 := belK hb kA2 zA; replace kA3 := belK hb kA3 zA; replace zA := Nat.lt_of_lt_of_le zA hb.size
        replace kC0 := belK hb kC0 zC; replace fC0 := belF hb fC0 zC; replace kC1 := belK hb kC1 zC; replace fC1 := belF hb fC1 zC; replace kC2 := belK hb kC2 zC; replace fC2 := belF hb fC2 zC; replace kC3 := belK hb kC3 zC; replace fC3 := belF hb fC3 zC; replace zC := Nat.lt_of_lt_of_le zC hb.size
        replace hBo := hBo.trans (hb.mono hBo.size)
        clear hb
        go_wp2_with fail
        refine (H2.out _).mono ?_; rintro e s23 ⟨rfl, hb⟩
        replace kA0 := belK hb kA0 zA; replace kA1 := belK hb kA1 zA; replace kA2 := belK hb kA2 zA; replace kA3 := belK hb kA3 zA; replace zA := Nat.lt_of_lt_of_le zA hb.size
        replace kC0 := belK hb kC0 zC; replace fC0 := belF hb fC0 zC; replace kC1 := belK hb kC1 zC; replace fC1 := belF hb fC1 zC; replace kC2 := belK hb kC2 zC; replace fC2 := belF hb fC2 zC; replace kC3 := belK hb kC3 zC; replace fC3 := belF hb fC3 zC; replace zC := Nat.lt_of_lt_of_le zC hb.size
        replace hBo := hBo.trans (hb.mono hBo.size)
        clear hb
        all_goals go_wp2_with fail
        all_goals refine bodyPost_ret (v := .tuple #[areaV 0 0 0 0, .int .i64 7]) (by simp [results, Tryd.results17, go_sem, kC0, kC1, kC2, kC3, zC]) rfl ⟨rfl, ?_⟩
        all_goals exact (((((hBo.setCell lC _).setCell lC _).setCell lC _).setCell lC _).alloc (by first | exact hBo.size | (have := hBo.size; simp; omega) | (have := (HF.out _ (by assumption)).size; simp; omega)) _)
      · obtain ⟨e1, e2⟩ := nrm_ok g1 g2 hm
        rw [e1, e2]
        obtain ⟨n, hn⟩ : ∃ n, n = cnt (min a c) (min b d) (max a c) (max b d) := ⟨_, rfl⟩
        rw [← hn] at hm
        have hw : wrap64 ((max a c - min a c + 1) * (max b d - min b d + 1)) = n := by
          have hs := cnt_small (a := min a c) (b := min b d) (c := max a c) (d := max b d) (by omega) (by omega) (by omega) (by omega)
          rw [← hn] at hs
          have : (max a c - min a c + 1) * (max b d - min b d + 1) = n := hn.symm
          rw [this]; unfold wrap64; omega
        have HN := Lib.hid hn
        clear h1 h2 g1 g2 e1 e2 hn
        go_enter Tryd.func17, Tryd.ntmps17
        go_wp2_with fail
        obtain ⟨s24, hws⟩ : ∃ s, s = ((w.alloc (.cells #[.int .i64 a, .int .i64 b, .int .i64 c, .int .i64 d] 33)).alloc (.cells #[.int .i64 0, .int .i64 0, .int .i64 0, .int .i64 0] 33)) := ⟨_, rfl⟩
        have hBs : Below w.heap.size w s24 := by rw [hws]; exact (((Below.refl w.heap.size w).alloc (by simp) _).alloc (by simp) _)
        obtain ⟨A, hdA⟩ : ∃ b, b = w.heap.size := ⟨_, rfl⟩
        obtain ⟨C, hdC⟩ : ∃ b, b = w.heap.size + 1 := ⟨_, rfl⟩
        have hsz : s24.heap.size = w.heap.size + 1 + 1 := by rw [hws]; simp
        have dCA : C ≠ A := by omega
        have kA0 : s24.cell? ⟨A, 0, none⟩ = some (.int .i64 a) := by rw [hws]; simp [go_sem, hdA, hdC]
        have kA1 : s24.cell? ⟨A, 1, none⟩ = some (.int .i64 b) := by rw [hws]; simp [go_sem, hdA, hdC]
        have kA2 : s24.cell? ⟨A, 2, none⟩ = some (.int .i64 c) := by rw [hws]; simp [go_sem, hdA, hdC]
        have kA3 : s24.cell? ⟨A, 3, none⟩ = some (.int .i64 d) := by rw [hws]; simp [go_sem, hdA, hdC]
        have zA : A < s24.heap.size := by omega
        have lA : w.heap.size ≤ A := by have := Nat.le_refl w.heap.size; omega
        have kC0 : s24.cell? ⟨C, 0, none⟩ = some (.int .i64 0) := by rw [hws]; simp [go_sem, hdA, hdC]
        have fC0 : s24.frozen? ⟨C, 0, none⟩ = false := by rw [hws]; simp [go_sem, hdA, hdC]
        have kC1 : s24.cell? ⟨C, 1, none⟩ = some (.int .i64 0) := by rw [hws]; simp [go_sem, hdA, hdC]
        have fC1 : s24.frozen? ⟨C, 1, none⟩ = false := by rw [hws]; simp [go_sem, hdA, hdC]
        have kC2 : s24.cell? ⟨C, 2, none⟩ = some (.int .i64 0) := by rw [hws]; simp [go_sem, hdA, hdC]
        have fC2 : s24.frozen? ⟨C, 2, none⟩ = false := by rw [hws]; simp [go_sem, hdA, hdC]
        have kC3 : s24.cell? ⟨C, 3, none⟩ = some (.int .i64 0) := by rw [hws]; simp [go_sem, hdA, hdC]
        have fC3 : s24.frozen? ⟨C, 3, none⟩ = false := by rw [hws]; simp [go_sem, hdA, hdC]
        have zC : C < s24.heap.size := by omega
        have lC : w.heap.size ≤ C := by have := Nat.le_refl w.heap.size; omega
        rw [← hws]
        try rw [← hdC]
        try rw [← hdA]
        clear hws hsz hdA hdC
        have hBo := hBs; clear hBs
        refine (H1.out _).mono ?_; rintro e s25 ⟨rfl, hb⟩
        replace kA0 := belK hb kA0 zA; replace kA1 := belK hb kA1 zA; replace kA2 := belK hb kA2 zA; replace kA3 := belK hb kA3 zA; replace zA := Nat.lt_of_lt_of_le zA hb.size
        replace kC0 := belK hb kC0 zC; replace fC0 := belF hb fC0 zC; replace kC1 := belK hb kC1 zC; replace fC1 := belF hb fC1 zC; replace kC2 := belK hb kC2 zC; replace fC2 := belF hb fC2 zC; replace kC3 := belK hb kC3 zC; replace fC3 := belF hb fC3 zC; replace zC := Nat.lt_of_lt_of_le zC hb.size
        replace hBo := hBo.trans (hb.mono hBo.size)
        clear hb
        go_wp2_with fail
        refine (H2.out _).mono ?_; rintro e s26 ⟨rfl, hb⟩
        replace kA0 := belK hb kA0 zA; replace kA1 := belK hb kA1 zA; replace kA2 := belK hb kA2 zA; replace kA3 := belK hb kA3 zA; replace zA := Nat.lt_of_lt_of_le zA hb.size
        replace kC0 := belK hb kC0 zC; replace fC0 := belF hb fC0 zC; replace kC1 := belK hb kC1 zC; replace fC1 := belF hb fC1 zC; replace kC2 := belK hb kC2 zC; replace fC2 := belF hb fC2 zC; replace kC3 := belK hb kC3 zC; replace fC3 := belF hb fC3 zC; replace zC := Nat.lt_of_lt_of_le zC hb.size
        replace hBo := hBo.trans (hb.mono hBo.size)
        clear hb
        all_goals go_wp2_with fail
        all_goals refine bodyPost_ret (v := .tuple #[areaV (min a c) (min b d) (max a c) (max b d), .int .i64 0]) (by simp [results, Tryd.results17, go_sem, kC0, kC1, kC2, kC3, zC]) rfl ⟨rfl, ?_⟩
        all_goals exact (((((hBo.setCell lC _).setCell lC _).setCell lC _).setCell lC _).alloc (by first | exact hBo.size | (have := hBo.size; simp; omega) | (have := (HF.out _ (by assumption)).size; simp; omega)) _)
end Go.Proofs.YtkgkgdgbkkhblaaDoor
