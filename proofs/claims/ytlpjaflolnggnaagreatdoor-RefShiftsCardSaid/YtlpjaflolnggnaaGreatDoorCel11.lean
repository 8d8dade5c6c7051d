/-
  LAYER 11, REFERENCES: Insert and Delete (the document's).
-/
import Derived.Test.YtlpjaflolnggnaaGreatDoorCel10
namespace Go.Proofs.YtlpjaflolnggnaaGreatDoor
open Go.RowKit Go.Shelf
set_option linter.unusedSimpArgs false
set_option linter.unusedVariables false

set_option maxRecDepth 100000 in
set_option maxHeartbeats 4000000 in
theorem refInsert_any (q : Rf) (way a n : Int) (p : Rf) (b : Bool) (w : World) (hs : q.sh.size ≤ maxLen) (hp : insR q way a n = p) (hb : insB q way a n = b) :
    Calls Tryz.prog 9 #[.agg #[.string q.sh, .int .i64 q.c, .int .i64 q.r, .bool q.fc, .bool q.fr], .int .i64 way, .int .i64 a, .int .i64 n] w fun e w' => e = .returned (.tuple #[.agg #[.string p.sh, .int .i64 p.c, .int .i64 p.r, .bool p.fc, .bool p.fr], .bool b]) ∧ Below w.heap.size w w' := by
  have hud : undef = Value.tuple #[] := rfl
  cases h0 : rgtR q with
  | false =>
    have hb' : insB q way a n = false := by unfold insB; rw [h0, Bool.false_and, Bool.false_and]
    rw [insR_no hb'] at hp
    rw [hb'] at hb
    subst hp hb
    have HR := Lib.hid (fun w => right2_any q false w hs h0)
    clear h0 hb'
    go_enter Tryz.func9, Tryz.ntmps9
    go_wp2_with fail
    obtain ⟨s1, hws⟩ : ∃ s, s = ((w.alloc (.cells #[.string q.sh, .int .i64 q.c, .int .i64 q.r, .bool q.fc, .bool q.fr] 23)).alloc (.cells #[.string ⟨#[]⟩, .int .i64 0, .int .i64 0, .bool false, .bool false] 23)) := ⟨_, rfl⟩
    have hBs : Below w.heap.size w s1 := by rw [hws]; exact (((Below.refl w.heap.size w).alloc (by simp) _).alloc (by simp) _)
    obtain ⟨A, hdA⟩ : ∃ b, b = w.heap.size := ⟨_, rfl⟩
    obtain ⟨C, hdC⟩ : ∃ b, b = w.heap.size + 1 := ⟨_, rfl⟩
    have hsz : s1.heap.size = w.heap.size + 1 + 1 := by rw [hws]; simp
    have dCA : C ≠ A := by omega
    have kA0 : s1.cell? ⟨A, 0, none⟩ = some (.string q.sh) := by rw [hws]; simp [go_sem, hdA, hdC]
    have kA1 : s1.cell? ⟨A, 1, none⟩ = some (.int .i64 q.c) := by rw [hws]; simp [go_sem, hdA, hdC]
    have kA2 : s1.cell? ⟨A, 2, none⟩ = some (.int .i64 q.r) := by rw [hws]; simp [go_sem, hdA, hdC]
    have kA3 : s1.cell? ⟨A, 3, none⟩ = some (.bool q.fc) := by rw [hws]; simp [go_sem, hdA, hdC]
    have kA4 : s1.cell? ⟨A, 4, none⟩ = some (.bool q.fr) := by rw [hws]; simp [go_sem, hdA, hdC]
    have zA : A < s1.heap.size := by omega
    have lA : w.heap.size ≤ A := by have := Nat.le_refl w.heap.size; omega
    have kC0 : s1.cell? ⟨C, 0, none⟩ = some (.string ⟨#[]⟩) := by rw [hws]; simp [go_sem, hdA, hdC]
    have fC0 : s1.frozen? ⟨C, 0, none⟩ = false := by rw [hws]; simp [go_sem, hdA, hdC]
    have kC1 : s1.cell? ⟨C, 1, none⟩ = some (.int .i64 0) := by rw [hws]; simp [go_sem, hdA, hdC]
    have fC1 : s1.frozen? ⟨C, 1, none⟩ = false := by rw [hws]; simp [go_sem, hdA, hdC]
    have kC2 : s1.cell? ⟨C, 2, none⟩ = some (.int .i64 0) := by rw [hws]; simp [go_sem, hdA, hdC]
    have fC2 : s1.frozen? ⟨C, 2, none⟩ = false := by rw [hws]; simp [go_sem, hdA, hdC]
    have kC3 : s1.cell? ⟨C, 3, none⟩ = some (.bool false) := by rw [hws]; simp [go_sem, hdA, hdC]
    have fC3 : s1.frozen? ⟨C, 3, none⟩ = false := by rw [hws]; simp [go_sem, hdA, hdC]
    have kC4 : s1.cell? ⟨C, 4, none⟩ = some (.bool false) := by rw [hws]; simp [go_sem, hdA, hdC]
    have fC4 : s1.frozen? ⟨C, 4, none⟩ = false := by rw [hws]; simp [go_sem, hdA, hdC]
    have zC : C < s1.heap.size := by omega
    have lC : w.heap.size ≤ C := by have := Nat.le_refl w.heap.size; omega
    rw [← hws]
    try rw [← hdC]
    try rw [← hdA]
    clear hws hsz hdA hdC
    have hBo := hBs; clear hBs
    refine (HR.out _).mono ?_; rintro e s2 ⟨rfl, hb⟩
    replace kA0 := belK hb kA0 zA; replace kA1 := belK hb kA1 zA; replace kA2 := belK hb kA2 zA; replace kA3 := belK hb kA3 zA; replace kA4 := belK hb kA4 zA; replace zA := Nat.lt_of_lt_of_le zA hb.size
    replace kC0 := belK hb kC0 zC; replace fC0 := belF hb fC0 zC; replace kC1 := belK hb kC1 zC; replace fC1 := belF hb fC1 zC; replace kC2 := belK hb kC2 zC; replace fC2 := belF hb fC2 zC; replace kC3 := belK hb kC3 zC; replace fC3 := belF hb fC3 zC; replace kC4 := belK hb kC4 zC; replace fC4 := belF hb fC4 zC; replace zC := Nat.lt_of_lt_of_le zC hb.size
    replace hBo := hBo.trans (hb.mono hBo.size)
    clear hb
    all_goals go_wp2_with fail
    all_goals refine bodyPost_ret (v := .tuple #[.agg #[.string ⟨#[]⟩, .int .i64 0, .int .i64 0, .bool false, .bool false], .bool false]) (by simp [results, Tryz.results9, go_sem, kC0, kC1, kC2, kC3, kC4, zC]) rfl ⟨rfl, ?_⟩
    all_goals exact (((((hBo.setCell lC _).setCell lC _).setCell lC _).setCell lC _).setCell lC _)
  | true =>
  have HR := Lib.hid (fun w => right2_any q true w hs h0)
  cases h1 : mayB way a n with
  | false =>
    have hb' : insB q way a n = false := by unfold insB; rw [h1, Bool.and_false, Bool.false_and]
    rw [insR_no hb'] at hp
    rw [hb'] at hb
    subst hp hb
    have HM := Lib.hid (fun w => refMay_any way a n false w h1)
    clear h0 h1 hb'
    go_enter Tryz.func9, Tryz.ntmps9
    go_wp2_with fail
    obtain ⟨s3, hws⟩ : ∃ s, s = ((w.alloc (.cells #[.string q.sh, .int .i64 q.c, .int .i64 q.r, .bool q.fc, .bool q.fr] 23)).alloc (.cells #[.string ⟨#[]⟩, .int .i64 0, .int .i64 0, .bool false, .bool false] 23)) := ⟨_, rfl⟩
    have hBs : Below w.heap.size w s3 := by rw [hws]; exact (((Below.refl w.heap.size w).alloc (by simp) _).alloc (by simp) _)
    obtain ⟨A, hdA⟩ : ∃ b, b = w.heap.size := ⟨_, rfl⟩
    obtain ⟨C, hdC⟩ : ∃ b, b = w.heap.size + 1 := ⟨_, rfl⟩
    have hsz : s3.heap.size = w.heap.size + 1 + 1 := by rw [hws]; simp
    have dCA : C ≠ A := by omega
    have kA0 : s3.cell? ⟨A, 0, none⟩ = some (.string q.sh) := by rw [hws]; simp [go_sem, hdA, hdC]
    have kA1 : s3.cell? ⟨A, 1, none⟩ = some (.int .i64 q.c) := by rw [hws]; simp [go_sem, hdA, hdC]
    have kA2 : s3.cell? ⟨A, 2, none⟩ = some (.int .i64 q.r) := by rw [hws]; simp [go_sem, hdA, hdC]
    have kA3 : s3.cell? ⟨A, 3, none⟩ = some (.bool q.fc) := by rw [hws]; simp [go_sem, hdA, hdC]
    have kA4 : s3.cell? ⟨A, 4, none⟩ = some (.bool q.fr) := by rw [hws]; simp [go_sem, hdA, hdC]
    have zA : A < s3.heap.size := by omega
    have lA : w.heap.size ≤ A := by have := Nat.le_refl w.heap.size; omega
    have kC0 : s3.cell? ⟨C, 0, none⟩ = some (.string ⟨#[]⟩) := by rw [hws]; simp [go_sem, hdA, hdC]
    have fC0 : s3.frozen? ⟨C, 0, none⟩ = false := by rw [hws]; simp [go_sem, hdA, hdC]
    have kC1 : s3.cell? ⟨C, 1, none⟩ = some (.int .i64 0) := by rw [hws]; simp [go_sem, hdA, hdC]
    have fC1 : s3.frozen? ⟨C, 1, none⟩ = false := by rw [hws]; simp [go_sem, hdA, hdC]
    have kC2 : s3.cell? ⟨C, 2, none⟩ = some (.int .i64 0) := by rw [hws]; simp [go_sem, hdA, hdC]
    have fC2 : s3.frozen? ⟨C, 2, none⟩ = false := by rw [hws]; simp [go_sem, hdA, hdC]
    have kC3 : s3.cell? ⟨C, 3, none⟩ = some (.bool false) := by rw [hws]; simp [go_sem, hdA, hdC]
    have fC3 : s3.frozen? ⟨C, 3, none⟩ = false := by rw [hws]; simp [go_sem, hdA, hdC]
    have kC4 : s3.cell? ⟨C, 4, none⟩ = some (.bool false) := by rw [hws]; simp [go_sem, hdA, hdC]
    have fC4 : s3.frozen? ⟨C, 4, none⟩ = false := by rw [hws]; simp [go_sem, hdA, hdC]
    have zC : C < s3.heap.size := by omega
    have lC : w.heap.size ≤ C := by have := Nat.le_refl w.heap.size; omega
    rw [← hws]
    try rw [← hdC]
    try rw [← hdA]
    clear hws hsz hdA hdC
    have hBo := hBs; clear hBs
    refine (HR.out _).mono ?_; rintro e s4 ⟨rfl, hb⟩
    replace kA0 := belK hb kA0 zA; replace kA1 := belK hb kA1 zA; replace kA2 := belK hb kA2 zA; replace kA3 := belK hb kA3 zA; replace kA4 := belK hb kA4 zA; replace zA := Nat.lt_of_lt_of_le zA hb.size
    replace kC0 := belK hb kC0 zC; replace fC0 := belF hb fC0 zC; replace kC1 := belK hb kC1 zC; replace fC1 := belF hb fC1 zC; replace kC2 := belK hb kC2 zC; replace fC2 := belF hb fC2 zC; replace kC3 := belK hb kC3 zC; replace fC3 := belF hb fC3 zC; replace kC4 := belK hb kC4 zC; replace fC4 := belF hb fC4 zC; replace zC := Nat.lt_of_lt_of_le zC hb.size
    replace hBo := hBo.trans (hb.mono hBo.size)
    clear hb
    go_wp2_with fail
    refine (HM.out _).mono ?_; rintro e wq ⟨rfl, rfl⟩
    all_goals go_wp2_with fail
    all_goals refine bodyPost_ret (v := .tuple #[.agg #[.string ⟨#[]⟩, .int .i64 0, .int .i64 0, .bool false, .bool false], .bool false]) (by simp [results, Tryz.results9, go_sem, kC0, kC1, kC2, kC3, kC4, zC]) rfl ⟨rfl, ?_⟩
    all_goals exact (((((hBo.setCell lC _).setCell lC _).setCell lC _).setCell lC _).setCell lC _)
  | true =>
  have HM := Lib.hid (fun w => refMay_any way a n true w h1)
  obtain ⟨k0, k1, k2, k3, k4, k5, k6⟩ := may_yes h1
  obtain ⟨k7, k8⟩ := pl_in h0 k0
  have HL := Lib.hid (fun w => refLast_any way w)
  have HP := Lib.hid (fun w => refPlace_any q way _ w rfl)
  have hb2 : insB q way a n = decide (shP (plZ q way) a n ≤ lastZ way) := by unfold insB; rw [h0, h1, Bool.true_and, Bool.true_and]
  have HT := Lib.hid (fun x t w (h : ptR q way x = t) => refPut_any q way x t w h)
  have HY := Lib.hid (@insR_yes q way a n)
  have HN := Lib.hid (@insR_no q way a n)
  generalize plZ q way = z at *
  generalize lastZ way = L at *
  clear h0 h1 k0
  unfold shP at hb2 HY
  by_cases ha : a ≤ z
  · rw [if_pos ha] at hb2 HY
    by_cases hL : L < z + n
    · rw [decide_eq_false (by omega)] at hb2
      rw [HN.out hb2] at hp
      rw [hb2] at hb
      subst hp hb
      clear hb2
      go_enter Tryz.func9, Tryz.ntmps9
      go_wp2_with fail
      obtain ⟨s5, hws⟩ : ∃ s, s = ((w.alloc (.cells #[.string q.sh, .int .i64 q.c, .int .i64 q.r, .bool q.fc, .bool q.fr] 23)).alloc (.cells #[.string ⟨#[]⟩, .int .i64 0, .int .i64 0, .bool false, .bool false] 23)) := ⟨_, rfl⟩
      have hBs : Below w.heap.size w s5 := by rw [hws]; exact (((Below.refl w.heap.size w).alloc (by simp) _).alloc (by simp) _)
      obtain ⟨A, hdA⟩ : ∃ b, b = w.heap.size := ⟨_, rfl⟩
      obtain ⟨C, hdC⟩ : ∃ b, b = w.heap.size + 1 := ⟨_, rfl⟩
      have hsz : s5.heap.size = w.heap.size + 1 + 1 := by rw [hws]; simp
      have dCA : C ≠ A := by omega
      have kA0 : s5.cell? ⟨A, 0, none⟩ = some (.string q.sh) := by rw [hws]; simp [go_sem, hdA, hdC]
      have kA1 : s5.cell? ⟨A, 1, none⟩ = some (.int .i64 q.c) := by rw [hws]; simp [go_sem, hdA, hdC]
      have kA2 : s5.cell? ⟨A, 2, none⟩ = some (.int .i64 q.r) := by rw [hws]; simp [go_sem, hdA, hdC]
      have kA3 : s5.cell? ⟨A, 3, none⟩ = some (.bool q.fc) := by rw [hws]; simp [go_sem, hdA, hdC]
      have kA4 : s5.cell? ⟨A, 4, none⟩ = some (.bool q.fr) := by rw [hws]; simp [go_sem, hdA, hdC]
      have zA : A < s5.heap.size := by omega
      have lA : w.heap.size ≤ A := by have := Nat.le_refl w.heap.size; omega
      have kC0 : s5.cell? ⟨C, 0, none⟩ = some (.string ⟨#[]⟩) := by rw [hws]; simp [go_sem, hdA, hdC]
      have fC0 : s5.frozen? ⟨C, 0, none⟩ = false := by rw [hws]; simp [go_sem, hdA, hdC]
      have kC1 : s5.cell? ⟨C, 1, none⟩ = some (.int .i64 0) := by rw [hws]; simp [go_sem, hdA, hdC]
      have fC1 : s5.frozen? ⟨C, 1, none⟩ = false := by rw [hws]; simp [go_sem, hdA, hdC]
      have kC2 : s5.cell? ⟨C, 2, none⟩ = some (.int .i64 0) := by rw [hws]; simp [go_sem, hdA, hdC]
      have fC2 : s5.frozen? ⟨C, 2, none⟩ = false := by rw [hws]; simp [go_sem, hdA, hdC]
      have kC3 : s5.cell? ⟨C, 3, none⟩ = some (.bool false) := by rw [hws]; simp [go_sem, hdA, hdC]
      have fC3 : s5.frozen? ⟨C, 3, none⟩ = false := by rw [hws]; simp [go_sem, hdA, hdC]
      have kC4 : s5.cell? ⟨C, 4, none⟩ = some (.bool false) := by rw [hws]; simp [go_sem, hdA, hdC]
      have fC4 : s5.frozen? ⟨C, 4, none⟩ = false := by rw [hws]; simp [go_sem, hdA, hdC]
      have zC : C < s5.heap.size := by omega
      have lC : w.heap.size ≤ C := by have := Nat.le_refl w.heap.size; omega
      rw [← hws]
      try rw [← hdC]
      try rw [← hdA]
      clear hws hsz hdA hdC
      have hBo := hBs; clear hBs
      refine (HR.out _).mono ?_; rintro e s6 ⟨rfl, hb⟩
      replace kA0 := belK hb kA0 zA; replace kA1 := belK hb kA1 zA; replace kA2 := belK hb kA2 zA; replace kA3 := belK hb kA3 zA; replace kA4 := belK hb kA4 zA; replace zA := Nat.lt_of_lt_of_le zA hb.size
      replace kC0 := belK hb kC0 zC; replace fC0 := belF hb fC0 zC; replace kC1 := belK hb kC1 zC; replace fC1 := belF hb fC1 zC; replace kC2 := belK hb kC2 zC; replace fC2 := belF hb fC2 zC; replace kC3 := belK hb kC3 zC; replace fC3 := belF hb fC3 zC; replace kC4 := belK hb kC4 zC; replace fC4 := belF hb fC4 zC; replace zC := Nat.lt_of_lt_of_le zC hb.size
      replace hBo := hBo.trans (hb.mono hBo.size)
      clear hb
      go_wp2_with fail
      refine (HM.out _).mono ?_; rintro e wq ⟨rfl, rfl⟩
      go_wp2_with fail
      refine (HP.out _).mono ?_; rintro e s7 ⟨rfl, hb⟩
      replace kA0 := belK hb kA0 zA; replace kA1 := belK hb kA1 zA; replace kA2 := belK hb kA2 zA; replace kA3 := belK hb kA3 zA; replace kA4 := belK hb kA4 zA; replace zA := Nat.lt_of_lt_of_le zA hb.size
      replace kC0 := belK hb kC0 zC; replace fC0 := belF hb fC0 zC; replace kC1 := belK hb kC1 zC; replace fC1 := belF hb fC1 zC; replace kC2 := belK hb kC2 zC; replace fC2 := belF hb fC2 zC; replace kC3 := belK hb kC3 zC; replace fC3 := belF hb fC3 zC; replace kC4 := belK hb kC4 zC; replace fC4 := belF hb fC4 zC; replace zC := Nat.lt_of_lt_of_le zC hb.size
      replace hBo := hBo.trans (hb.mono hBo.size)
      clear hb
      go_wp2_with fail
      refine (HL.out _).mono ?_; rintro e wq ⟨rfl, rfl⟩
      all_goals go_wp2_with fail
      all_goals refine bodyPost_ret (v := .tuple #[.agg #[.string ⟨#[]⟩, .int .i64 0, .int .i64 0, .bool false, .bool false], .bool false]) (by simp [results, Tryz.results9, go_sem, kC0, kC1, kC2, kC3, kC4, zC]) rfl ⟨rfl, ?_⟩
      all_goals exact (((((hBo.setCell lC _).setCell lC _).setCell lC _).setCell lC _).setCell lC _)
    · rw [decide_eq_true (by omega)] at hb2
      rw [HY.out hb2] at hp
      rw [hb2] at hb
      subst hb
      have HTT := Lib.hid (fun w => HT.out (z + n) p w hp)
      clear hb2 hp HT
      go_enter Tryz.func9, Tryz.ntmps9
      go_wp2_with fail
      obtain ⟨s8, hws⟩ : ∃ s, s = ((w.alloc (.cells #[.string q.sh, .int .i64 q.c, .int .i64 q.r, .bool q.fc, .bool q.fr] 23)).alloc (.cells #[.string ⟨#[]⟩, .int .i64 0, .int .i64 0, .bool false, .bool false] 23)) := ⟨_, rfl⟩
      have hBs : Below w.heap.size w s8 := by rw [hws]; exact (((Below.refl w.heap.size w).alloc (by simp) _).alloc (by simp) _)
      obtain ⟨A, hdA⟩ : ∃ b, b = w.heap.size := ⟨_, rfl⟩
      obtain ⟨C, hdC⟩ : ∃ b, b = w.heap.size + 1 := ⟨_, rfl⟩
      have hsz : s8.heap.size = w.heap.size + 1 + 1 := by rw [hws]; simp
      have dCA : C ≠ A := by omega
      have kA0 : s8.cell? ⟨A, 0, none⟩ = some (.string q.sh) := by rw [hws]; simp [go_sem, hdA, hdC]
      have kA1 : s8.cell? ⟨A, 1, none⟩ = some (.int .i64 q.c) := by rw [hws]; simp [go_sem, hdA, hdC]
      have kA2 : s8.cell? ⟨A, 2, none⟩ = some (.int .i64 q.r) := by rw [hws]; simp [go_sem, hdA, hdC]
      have kA3 : s8.cell? ⟨A, 3, none⟩ = some (.bool q.fc) := by rw [hws]; simp [go_sem, hdA, hdC]
      have kA4 : s8.cell? ⟨A, 4, none⟩ = some (.bool q.fr) := by rw [hws]; simp [go_sem, hdA, hdC]
      have zA : A < s8.heap.size := by omega
      have lA : w.heap.size ≤ A := by have := Nat.le_refl w.heap.size; omega
      have kC0 : s8.cell? ⟨C, 0, none⟩ = some (.string ⟨#[]⟩) := by rw [hws]; simp [go_sem, hdA, hdC]
      have fC0 : s8.frozen? ⟨C, 0, none⟩ = false := by rw [hws]; simp [go_sem, hdA, hdC]
      have kC1 : s8.cell? ⟨C, 1, none⟩ = some (.int .i64 0) := by rw [hws]; simp [go_sem, hdA, hdC]
      have fC1 : s8.frozen? ⟨C, 1, none⟩ = false := by rw [hws]; simp [go_sem, hdA, hdC]
      have kC2 : s8.cell? ⟨C, 2, none⟩ = some (.int .i64 0) := by rw [hws]; simp [go_sem, hdA, hdC]
      have fC2 : s8.frozen? ⟨C, 2, none⟩ = false := by rw [hws]; simp [go_sem, hdA, hdC]
      have kC3 : s8.cell? ⟨C, 3, none⟩ = some (.bool false) := by rw [hws]; simp [go_sem, hdA, hdC]
      have fC3 : s8.frozen? ⟨C, 3, none⟩ = false := by rw [hws]; simp [go_sem, hdA, hdC]
      have kC4 : s8.cell? ⟨C, 4, none⟩ = some (.bool false) := by rw [hws]; simp [go_sem, hdA, hdC]
      have fC4 : s8.frozen? ⟨C, 4, none⟩ = false := by rw [hws]; simp [go_sem, hdA, hdC]
      have zC : C < s8.heap.size := by omega
      have lC : w.heap.size ≤ C := by have := Nat.le_refl w.heap.size; omega
      rw [← hws]
      try rw [← hdC]
      try rw [← hdA]
      clear hws hsz hdA hdC
      have hBo := hBs; clear hBs
      refine (HR.out _).mono ?_; rintro e s9 ⟨rfl, hb⟩
      replace kA0 := belK hb kA0 zA; replace kA1 := belK hb kA1 zA; replace kA2 := belK hb kA2 zA; replace kA3 := belK hb kA3 zA; replace kA4 := belK hb kA4 zA; replace zA := Nat.lt_of_lt_of_le zA hb.size
      replace kC0 := belK hb kC0 zC; replace fC0 := belF hb fC0 zC; replace kC1 := belK hb kC1 zC; replace fC1 := belF hb fC1 zC; replace kC2 := belK hb kC2 zC; replace fC2 := belF hb fC2 zC; replace kC3 := belK hb kC3 zC; replace fC3 := belF hb fC3 zC; replace kC4 := belK hb kC4 zC; replace fC4 := belF hb fC4 zC; replace zC := Nat.lt_of_lt_of_le zC hb.size
      replace hBo := hBo.trans (hb.mono hBo.size)
      clear hb
      go_wp2_with fail
      refine (HM.out _).mono ?_; rintro e wq ⟨rfl, rfl⟩
      go_wp2_with fail
      refine (HP.out _).mono ?_; rintro e s10 ⟨rfl, hb⟩
      replace kA0 := belK hb kA0 zA; replace kA1 := belK hb kA1 zA; replace kA2 := belK hb kA2 zA; replace kA3 := belK hb kA3 zA; replace kA4 := belK hb kA4 zA; replace zA := Nat.lt_of_lt_of_le zA hb.size
      replace kC0 := belK hb kC0 zC; replace fC0 := belF hb fC0 zC; replace kC1 := belK hb kC1 zC; replace fC1 := belF hb fC1 zC; replace kC2 := belK hb kC2 zC; replace fC2 := belF hb fC2 zC; replace kC3 := belK hb kC3 zC; replace fC3 := belF hb fC3 zC; replace kC4 := belK hb kC4 zC; replace fC4 := belF hb fC4 zC; replace zC := Nat.lt_of_lt_of_le zC hb.size
      replace hBo := hBo.trans (hb.mono hBo.size)
      clear hb
      go_wp2_with fail
      refine (HL.out _).mono ?_; rintro e wq ⟨rfl, rfl⟩
      go_wp2_with fail
      refine (HTT.out _).mono ?_; rintro e s11 ⟨rfl, hb⟩
      replace kA0 := belK hb kA0 zA; replace kA1 := belK hb kA1 zA; replace kA2 := belK hb kA2 zA; replace kA3 := belK hb kA3 zA; replace kA4 := belK hb kA4 zA; replace zA := Nat.lt_of_lt_of_le zA hb.size
      replace kC0 := belK hb kC0 zC; replace fC0 := belF hb fC0 zC; replace kC1 := belK hb kC1 zC; replace fC1 := belF hb fC1 zC; replace kC2 := belK hb kC2 zC; replace fC2 := belF hb fC2 zC; replace kC3 := belK hb kC3 zC; replace fC3 := belF hb fC3 zC; replace kC4 := belK hb kC4 zC; replace fC4 := belF hb fC4 zC; replace zC := Nat.lt_of_lt_of_le zC hb.size
      replace hBo := hBo.trans (hb.mono hBo.size)
      clear hb
      all_goals go_wp2_with fail
      all_goals refine bodyPost_ret (v := .tuple #[.agg #[.string p.sh, .int .i64 p.c, .int .i64 p.r, .bool p.fc, .bool p.fr], .bool true]) (by simp [results, Tryz.results9, go_sem, kC0, kC1, kC2, kC3, kC4, zC]) rfl ⟨rfl, ?_⟩
      all_goals exact (((((hBo.setCell lC _).setCell lC _).setCell lC _).setCell lC _).setCell lC _)
  · rw [if_neg ha] at hb2 HY
    have hL : ¬ L < z := by omega
    rw [decide_eq_true (by omega)] at hb2
    rw [HY.out hb2] at hp
    rw [hb2] at hb
    subst hb
    have HTT := Lib.hid (fun w => HT.out z p w hp)
    clear hb2 hp HT
    go_enter Tryz.func9, Tryz.ntmps9
    go_wp2_with fail
    obtain ⟨s12, hws⟩ : ∃ s, s = ((w.alloc (.cells #[.string q.sh, .int .i64 q.c, .int .i64 q.r, .bool q.fc, .bool q.fr] 23)).alloc (.cells #[.string ⟨#[]⟩, .int .i64 0, .int .i64 0, .bool false, .bool false] 23)) := ⟨_, rfl⟩
    have hBs : Below w.heap.size w s12 := by rw [hws]; exact (((Below.refl w.heap.size w).alloc (by simp) _).alloc (by simp) _)
    obtain ⟨A, hdA⟩ : ∃ b, b = w.heap.size := ⟨_, rfl⟩
    obtain ⟨C, hdC⟩ : ∃ b, b = w.heap.size + 1 := ⟨_, rfl⟩
    have hsz : s12.heap.size = w.heap.size + 1 + 1 := by rw [hws]; simp
    have dCA : C ≠ A := by omega
    have kA0 : s12.cell? ⟨A, 0, none⟩ = some (.string q.sh) := by rw [hws]; simp [go_sem, hdA, hdC]
    have kA1 : s12.cell? ⟨A, 1, none⟩ = some (.int .i64 q.c) := by rw [hws]; simp [go_sem, hdA, hdC]
    have kA2 : s12.cell? ⟨A, 2, none⟩ = some (.int .i64 q.r) := by rw [hws]; simp [go_sem, hdA, hdC]
    have kA3 : s12.cell? ⟨A, 3, none⟩ = some (.bool q.fc) := by rw [hws]; simp [go_sem, hdA, hdC]
    have kA4 : s12.cell? ⟨A, 4, none⟩ = some (.bool q.fr) := by rw [hws]; simp [go_sem, hdA, hdC]
    have zA : A < s12.heap.size := by omega
    have lA : w.heap.size ≤ A := by have := Nat.le_refl w.heap.size; omega
    have kC0 : s12.cell? ⟨C, 0, none⟩ = some (.string ⟨#[]⟩) := by rw [hws]; simp [go_sem, hdA, hdC]
    have fC0 : s12.frozen? ⟨C, 0, none⟩ = false := by rw [hws]; simp [go_sem, hdA, hdC]
    have kC1 : s12.cell? ⟨C, 1, none⟩ = some (.int .i64 0) := by rw [hws]; simp [go_sem, hdA, hdC]
    have fC1 : s12.frozen? ⟨C, 1, none⟩ = false := by rw [hws]; simp [go_sem, hdA, hdC]
    have kC2 : s12.cell? ⟨C, 2, none⟩ = some (.int .i64 0) := by rw [hws]; simp [go_sem, hdA, hdC]
    have fC2 : s12.frozen? ⟨C, 2, none⟩ = false := by rw [hws]; simp [go_sem, hdA, hdC]
    have kC3 : s12.cell? ⟨C, 3, none⟩ = some (.bool false) := by rw [hws]; simp [go_sem, hdA, hdC]
    have fC3 : s12.frozen? ⟨C, 3, none⟩ = false := by rw [hws]; simp [go_sem, hdA, hdC]
    have kC4 : s12.cell? ⟨C, 4, none⟩ = some (.bool false) := by rw [hws]; simp [go_sem, hdA, hdC]
    have fC4 : s12.frozen? ⟨C, 4, none⟩ = false := by rw [hws]; simp [go_sem, hdA, hdC]
    have zC : C < s12.heap.size := by omega
    have lC : w.heap.size ≤ C := by have := Nat.le_refl w.heap.size; omega
    rw [← hws]
    try rw [← hdC]
    try rw [← hdA]
    clear hws hsz hdA hdC
    have hBo := hBs; clear hBs
    refine (HR.out _).mono ?_; rintro e s13 ⟨rfl, hb⟩
    replace kA0 := belK hb kA0 zA; replace kA1 := belK hb kA1 zA; replace kA2 := belK hb kA2 zA; replace kA3 := belK hb kA3 zA; replace kA4 := belK hb kA4 zA; replace zA := Nat.lt_of_lt_of_le zA hb.size
    replace kC0 := belK hb kC0 zC; replace fC0 := belF hb fC0 zC; replace kC1 := belK hb kC1 zC; replace fC1 := belF hb fC1 zC; replace kC2 := belK hb kC2 zC; replace fC2 := belF hb fC2 zC; replace kC3 := belK hb kC3 zC; replace fC3 := belF hb fC3 zC; replace kC4 := belK hb kC4 zC; replace fC4 := belF hb fC4 zC; replace zC := Nat.lt_of_lt_of_le zC hb.size
    replace hBo := hBo.trans (hb.mono hBo.size)
    clear hb
    go_wp2_with fail
    refine (HM.out _).mono ?_; rintro e wq ⟨rfl, rfl⟩
    go_wp2_with fail
    refine (HP.out _).mono ?_; rintro e s14 ⟨rfl, hb⟩
    replace kA0 := belK hb kA0 zA; replace kA1 := belK hb kA1 zA; replace kA2 := belK hb kA2 zA; replace kA3 := belK hb kA3 zA; replace kA4 := belK hb kA4 zA; replace zA := Nat.lt_of_lt_of_le zA hb.size
    replace kC0 := belK hb kC0 zC; replace fC0 := belF hb fC0 zC; replace kC1 := belK hb kC1 zC; replace fC1 := belF hb fC1 zC; replace kC2 := belK hb kC2 zC; replace fC2 := belF hb fC2 zC; replace kC3 := belK hb kC3 zC; replace fC3 := belF hb fC3 zC; replace kC4 := belK hb kC4 zC; replace fC4 := belF hb fC4 zC; replace zC := Nat.lt_of_lt_of_le zC hb.size
    replace hBo := hBo.trans (hb.mono hBo.size)
    clear hb
    go_wp2_with fail
    refine (HL.out _).mono ?_; rintro e wq ⟨rfl, rfl⟩
    go_wp2_with fail
    refine (HTT.out _).mono ?_; rintro e s15 ⟨rfl, hb⟩
    replace kA0 := belK hb kA0 zA; replace kA1 := belK hb kA1 zA; replace kA2 := belK hb kA2 zA; replace kA3 := belK hb kA3 zA; replace kA4 := belK hb kA4 zA; replace zA := Nat.lt_of_lt_of_le zA hb.size
    replace kC0 := belK hb kC0 zC; replace fC0 := belF hb fC0 zC; replace kC1 := belK hb kC1 zC; replace fC1 := belF hb fC1 zC; replace kC2 := belK hb kC2 zC; replace fC2 := belF hb fC2 zC; replace kC3 := belK hb kC3 zC; replace fC3 := belF hb fC3 zC; replace kC4 := belK hb kC4 zC; replace fC4 := belF hb fC4 zC; replace zC := Nat.lt_of_lt_of_le zC hb.size
    replace hBo := hBo.trans (hb.mono hBo.size)
    clear hb
    all_goals go_wp2_with fail
    all_goals refine bodyPost_ret (v := .tuple #[.agg #[.string p.sh, .int .i64 p.c, .int .i64 p.r, .bool p.fc, .bool p.fr], .bool true]) (by simp [results, Tryz.results9, go_sem, kC0, kC1, kC2, kC3, kC4, zC]) rfl ⟨rfl, ?_⟩
    all_goals exact (((((hBo.setCell lC _).setCell lC _).setCell lC _).setCell lC _).setCell lC _)
set_option maxRecDepth 100000 in
set_option maxHeartbeats 4000000 in
theorem refDelete_any (q : Rf) (way a n : Int) (p : Rf) (b : Bool) (w : World) (hs : q.sh.size ≤ maxLen) (hp : delR q way a n = p) (hb : delB q way a n = b) :
    Calls Tryz.prog 11 #[.agg #[.string q.sh, .int .i64 q.c, .int .i64 q.r, .bool q.fc, .bool q.fr], .int .i64 way, .int .i64 a, .int .i64 n] w fun e w' => e = .returned (.tuple #[.agg #[.string p.sh, .int .i64 p.c, .int .i64 p.r, .bool p.fc, .bool p.fr], .bool b]) ∧ Below w.heap.size w w' := by
  have hud : undef = Value.tuple #[] := rfl
  cases h0 : rgtR q with
  | false =>
    have hb' : delB q way a n = false := by unfold delB; rw [h0, Bool.false_and, Bool.false_and]
    rw [delR_no hb'] at hp
    rw [hb'] at hb
    subst hp hb
    have HR := Lib.hid (fun w => right2_any q false w hs h0)
    clear h0 hb'
    go_enter Tryz.func11, Tryz.ntmps11
    go_wp2_with fail
    obtain ⟨s16, hws⟩ : ∃ s, s = ((w.alloc (.cells #[.string q.sh, .int .i64 q.c, .int .i64 q.r, .bool q.fc, .bool q.fr] 23)).alloc (.cells #[.string ⟨#[]⟩, .int .i64 0, .int .i64 0, .bool false, .bool false] 23)) := ⟨_, rfl⟩
    have hBs : Below w.heap.size w s16 := by rw [hws]; exact (((Below.refl w.heap.size w).alloc (by simp) _).alloc (by simp) _)
    obtain ⟨A, hdA⟩ : ∃ b, b = w.heap.size := ⟨_, rfl⟩
    obtain ⟨C, hdC⟩ : ∃ b, b = w.heap.size + 1 := ⟨_, rfl⟩
    have hsz : s16.heap.size = w.heap.size + 1 + 1 := by rw [hws]; simp
    have dCA : C ≠ A := by omega
    have kA0 : s16.cell? ⟨A, 0, none⟩ = some (.string q.sh) := by rw [hws]; simp [go_sem, hdA, hdC]
    have kA1 : s16.cell? ⟨A, 1, none⟩ = some (.int .i64 q.c) := by rw [hws]; simp [go_sem, hdA, hdC]
    have kA2 : s16.cell? ⟨A, 2, none⟩ = some (.int .i64 q.r) := by rw [hws]; simp [go_sem, hdA, hdC]
    have kA3 : s16.cell? ⟨A, 3, none⟩ = some (.bool q.fc) := by rw [hws]; simp [go_sem, hdA, hdC]
    have kA4 : s16.cell? ⟨A, 4, none⟩ = some (.bool q.fr) := by rw [hws]; simp [go_sem, hdA, hdC]
    have zA : A < s16.heap.size := by omega
    have lA : w.heap.size ≤ A := by have := Nat.le_refl w.heap.size; omega
    have kC0 : s16.cell? ⟨C, 0, none⟩ = some (.string ⟨#[]⟩) := by rw [hws]; simp [go_sem, hdA, hdC]
    have fC0 : s16.frozen? ⟨C, 0, none⟩ = false := by rw [hws]; simp [go_sem, hdA, hdC]
    have kC1 : s16.cell? ⟨C, 1, none⟩ = some (.int .i64 0) := by rw [hws]; simp [go_sem, hdA, hdC]
    have fC1 : s16.frozen? ⟨C, 1, none⟩ = false := by rw [hws]; simp [go_sem, hdA, hdC]
    have kC2 : s16.cell? ⟨C, 2, none⟩ = some (.int .i64 0) := by rw [hws]; simp [go_sem, hdA, hdC]
    have fC2 : s16.frozen? ⟨C, 2, none⟩ = false := by rw [hws]; simp [go_sem, hdA, hdC]
    have kC3 : s16.cell? ⟨C, 3, none⟩ = some (.bool false) := by rw [hws]; simp [go_sem, hdA, hdC]
    have fC3 : s16.frozen? ⟨C, 3, none⟩ = false := by rw [hws]; simp [go_sem, hdA, hdC]
    have kC4 : s16.cell? ⟨C, 4, none⟩ = some (.bool false) := by rw [hws]; simp [go_sem, hdA, hdC]
    have fC4 : s16.frozen? ⟨C, 4, none⟩ = false := by rw [hws]; simp [go_sem, hdA, hdC]
    have zC : C < s16.heap.size := by omega
    have lC : w.heap.size ≤ C := by have := Nat.le_refl w.heap.size; omega
    rw [← hws]
    try rw [← hdC]
    try rw [← hdA]
    clear hws hsz hdA hdC
    have hBo := hBs; clear hBs
    refine (HR.out _).mono ?_; rintro e s17 ⟨rfl, hb⟩
    replace kA0 := belK hb kA0 zA; replace kA1 := belK hb kA1 zA; replace kA2 := belK hb kA2 zA; replace kA3 := belK hb kA3 zA; replace kA4 := belK hb kA4 zA; replace zA := Nat.lt_of_lt_of_le zA hb.size
    replace kC0 := belK hb kC0 zC; replace fC0 := belF hb fC0 zC; replace kC1 := belK hb kC1 zC; replace fC1 := belF hb fC1 zC; replace kC2 := belK hb kC2 zC; replace fC2 := belF hb fC2 zC; replace kC3 := belK hb kC3 zC; replace fC3 := belF hb fC3 zC; replace kC4 := belK hb kC4 zC; replace fC4 := belF hb fC4 zC; replace zC := Nat.lt_of_lt_of_le zC hb.size
    replace hBo := hBo.trans (hb.mono hBo.size)
    clear hb
    all_goals go_wp2_with fail
    all_goals refine bodyPost_ret (v := .tuple #[.agg #[.string ⟨#[]⟩, .int .i64 0, .int .i64 0, .bool false, .bool false], .bool false]) (by simp [results, Tryz.results11, go_sem, kC0, kC1, kC2, kC3, kC4, zC]) rfl ⟨rfl, ?_⟩
    all_goals exact (((((hBo.setCell lC _).setCell lC _).setCell lC _).setCell lC _).setCell lC _)
  | true =>
  have HR := Lib.hid (fun w => right2_any q true w hs h0)
  cases h1 : mayB way a n with
  | false =>
    have hb' : delB q way a n = false := by unfold delB; rw [h1, Bool.and_false, Bool.false_and]
    rw [delR_no hb'] at hp
    rw [hb'] at hb
    subst hp hb
    have HM := Lib.hid (fun w => refMay_any way a n false w h1)
    clear h0 h1 hb'
    go_enter Tryz.func11, Tryz.ntmps11
    go_wp2_with fail
    obtain ⟨s18, hws⟩ : ∃ s, s = ((w.alloc (.cells #[.string q.sh, .int .i64 q.c, .int .i64 q.r, .bool q.fc, .bool q.fr] 23)).alloc (.cells #[.string ⟨#[]⟩, .int .i64 0, .int .i64 0, .bool false, .bool false] 23)) := ⟨_, rfl⟩
    have hBs : Below w.heap.size w s18 := by rw [hws]; exact (((Below.refl w.heap.size w).alloc (by simp) _).alloc (by simp) _)
    obtain ⟨A, hdA⟩ : ∃ b, b = w.heap.size := ⟨_, rfl⟩
    obtain ⟨C, hdC⟩ : ∃ b, b = w.heap.size + 1 := ⟨_, rfl⟩
    have hsz : s18.heap.size = w.heap.size + 1 + 1 := by rw [hws]; simp
    have dCA : C ≠ A := by omega
    have kA0 : s18.cell? ⟨A, 0, none⟩ = some (.string q.sh) := by rw [hws]; simp [go_sem, hdA, hdC]
    have kA1 : s18.cell? ⟨A, 1, none⟩ = some (.int .i64 q.c) := by rw [hws]; simp [go_sem, hdA, hdC]
    have kA2 : s18.cell? ⟨A, 2, none⟩ = some (.int .i64 q.r) := by rw [hws]; simp [go_sem, hdA, hdC]
    have kA3 : s18.cell? ⟨A, 3, none⟩ = some (.bool q.fc) := by rw [hws]; simp [go_sem, hdA, hdC]
    have kA4 : s18.cell? ⟨A, 4, none⟩ = some (.bool q.fr) := by rw [hws]; simp [go_sem, hdA, hdC]
    have zA : A < s18.heap.size := by omega
    have lA : w.heap.size ≤ A := by have := Nat.le_refl w.heap.size; omega
    have kC0 : s18.cell? ⟨C, 0, none⟩ = some (.string ⟨#[]⟩) := by rw [hws]; simp [go_sem, hdA, hdC]
    have fC0 : s18.frozen? ⟨C, 0, none⟩ = false := by rw [hws]; simp [go_sem, hdA, hdC]
    have kC1 : s18.cell? ⟨C, 1, none⟩ = some (.int .i64 0) := by rw [hws]; simp [go_sem, hdA, hdC]
    have fC1 : s18.frozen? ⟨C, 1, none⟩ = false := by rw [hws]; simp [go_sem, hdA, hdC]
    have kC2 : s18.cell? ⟨C, 2, none⟩ = some (.int .i64 0) := by rw [hws]; simp [go_sem, hdA, hdC]
    have fC2 : s18.frozen? ⟨C, 2, none⟩ = false := by rw [hws]; simp [go_sem, hdA, hdC]
    have kC3 : s18.cell? ⟨C, 3, none⟩ = some (.bool false) := by rw [hws]; simp [go_sem, hdA, hdC]
    have fC3 : s18.frozen? ⟨C, 3, none⟩ = false := by rw [hws]; simp [go_sem, hdA, hdC]
    have kC4 : s18.cell? ⟨C, 4, none⟩ = some (.bool false) := by rw [hws]; simp [go_sem, hdA, hdC]
    have fC4 : s18.frozen? ⟨C, 4, none⟩ = false := by rw [hws]; simp [go_sem, hdA, hdC]
    have zC : C < s18.heap.size := by omega
    have lC : w.heap.size ≤ C := by have := Nat.le_refl w.heap.size; omega
    rw [← hws]
    try rw [← hdC]
    try rw [← hdA]
    clear hws hsz hdA hdC
    have hBo := hBs; clear hBs
    refine (HR.out _).mono ?_; rintro e s19 ⟨rfl, hb⟩
    replace kA0 := belK hb kA0 zA; replace kA1 := belK hb kA1 zA; replace kA2 := belK hb kA2 zA; replace kA3 := belK hb kA3 zA; replace kA4 := belK hb kA4 zA; replace zA := Nat.lt_of_lt_of_le zA hb.size
    replace kC0 := belK hb kC0 zC; replace fC0 := belF hb fC0 zC; replace kC1 := belK hb kC1 zC; replace fC1 := belF hb fC1 zC; replace kC2 := belK hb kC2 zC; replace fC2 := belF hb fC2 zC; replace kC3 := belK hb kC3 zC; replace fC3 := belF hb fC3 zC; replace kC4 := belK hb kC4 zC; replace fC4 := belF hb fC4 zC; replace zC := Nat.lt_of_lt_of_le zC hb.size
    replace hBo := hBo.trans (hb.mono hBo.size)
    clear hb
    go_wp2_with fail
    refine (HM.out _).mono ?_; rintro e wq ⟨rfl, rfl⟩
    all_goals go_wp2_with fail
    all_goals refine bodyPost_ret (v := .tuple #[.agg #[.string ⟨#[]⟩, .int .i64 0, .int .i64 0, .bool false, .bool false], .bool false]) (by simp [results, Tryz.results11, go_sem, kC0, kC1, kC2, kC3, kC4, zC]) rfl ⟨rfl, ?_⟩
    all_goals exact (((((hBo.setCell lC _).setCell lC _).setCell lC _).setCell lC _).setCell lC _)
  | true =>
  have HM := Lib.hid (fun w => refMay_any way a n true w h1)
  obtain ⟨k0, k1, k2, k3, k4, k5, k6⟩ := may_yes h1
  obtain ⟨k7, k8⟩ := pl_in h0 k0
  have HP := Lib.hid (fun w => refPlace_any q way _ w rfl)
  have hb2 : delB q way a n = !(decide (a ≤ plZ q way) && decide (plZ q way < a + n)) := by unfold delB; rw [h0, h1, Bool.true_and, Bool.true_and]
  have HT := Lib.hid (fun x t w (h : ptR q way x = t) => refPut_any q way x t w h)
  have HY := Lib.hid (@delR_yes q way a n)
  have HN := Lib.hid (@delR_no q way a n)
  generalize plZ q way = z at *
  generalize lastZ way = L at *
  clear h0 h1 k0
  unfold dlP at HY
  by_cases ha : a ≤ z
  · by_cases hL : z < a + n
    · rw [decide_eq_true ha, decide_eq_true hL] at hb2
      rw [HN.out hb2] at hp
      rw [hb2] at hb
      subst hp hb
      clear hb2
      go_enter Tryz.func11, Tryz.ntmps11
      go_wp2_with fail
      obtain ⟨s20, hws⟩ : ∃ s, s = ((w.alloc (.cells #[.string q.sh, .int .i64 q.c, .int .i64 q.r, .bool q.fc, .bool q.fr] 23)).alloc (.cells #[.string ⟨#[]⟩, .int .i64 0, .int .i64 0, .bool false, .bool false] 23)) := ⟨_, rfl⟩
      have hBs : Below w.heap.size w s20 := by rw [hws]; exact (((Below.refl w.heap.size w).alloc (by simp) _).alloc (by simp) _)
      obtain ⟨A, hdA⟩ : ∃ b, b = w.heap.size := ⟨_, rfl⟩
      obtain ⟨C, hdC⟩ : ∃ b, b = w.heap.size + 1 := ⟨_, rfl⟩
      have hsz : s20.heap.size = w.heap.size + 1 + 1 := by rw [hws]; simp
      have dCA : C ≠ A := by omega
      have kA0 : s20.cell? ⟨A, 0, none⟩ = some (.string q.sh) := by rw [hws]; simp [go_sem, hdA, hdC]
      have kA1 : s20.cell? ⟨A, 1, none⟩ = some (.int .i64 q.c) := by rw [hws]; simp [go_sem, hdA, hdC]
      have kA2 : s20.cell? ⟨A, 2, none⟩ = some (.int .i64 q.r) := by rw [hws]; simp [go_sem, hdA, hdC]
      have kA3 : s20.cell? ⟨A, 3, none⟩ = some (.bool q.fc) := by rw [hws]; simp [go_sem, hdA, hdC]
      have kA4 : s20.cell? ⟨A, 4, none⟩ = some (.bool q.fr) := by rw [hws]; simp [go_sem, hdA, hdC]
      have zA : A < s20.heap.size := by omega
      have lA : w.heap.size ≤ A := by have := Nat.le_refl w.heap.size; omega
      have kC0 : s20.cell? ⟨C, 0, none⟩ = some (.string ⟨#[]⟩) := by rw [hws]; simp [go_sem, hdA, hdC]
      have fC0 : s20.frozen? ⟨C, 0, none⟩ = false := by rw [hws]; simp [go_sem, hdA, hdC]
      have kC1 : s20.cell? ⟨C, 1, none⟩ = some (.int .i64 0) := by rw [hws]; simp [go_sem, hdA, hdC]
      have fC1 : s20.frozen? ⟨C, 1, none⟩ = false := by rw [hws]; simp [go_sem, hdA, hdC]
      have kC2 : s20.cell? ⟨C, 2, none⟩ = some (.int .i64 0) := by rw [hws]; simp [go_sem, hdA, hdC]
      have fC2 : s20.frozen? ⟨C, 2, none⟩ = false := by rw [hws]; simp [go_sem, hdA, hdC]
      have kC3 : s20.cell? ⟨C, 3, none⟩ = some (.bool false) := by rw [hws]; simp [go_sem, hdA, hdC]
      have fC3 : s20.frozen? ⟨C, 3, none⟩ = false := by rw [hws]; simp [go_sem, hdA, hdC]
      have kC4 : s20.cell? ⟨C, 4, none⟩ = some (.bool false) := by rw [hws]; simp [go_sem, hdA, hdC]
      have fC4 : s20.frozen? ⟨C, 4, none⟩ = false := by rw [hws]; simp [go_sem, hdA, hdC]
      have zC : C < s20.heap.size := by omega
      have lC : w.heap.size ≤ C := by have := Nat.le_refl w.heap.size; omega
      rw [← hws]
      try rw [← hdC]
      try rw [← hdA]
      clear hws hsz hdA hdC
      have hBo := hBs; clear hBs
      refine (HR.out _).mono ?_; rintro e s21 ⟨rfl, hb⟩
      replace kA0 := belK hb kA0 zA; replace kA1 := belK hb kA1 zA; replace kA2 := belK hb kA2 zA; replace kA3 := belK hb kA3 zA; replace kA4 := belK hb kA4 zA; replace zA := Nat.lt_of_lt_of_le zA hb.size
      replace kC0 := belK hb kC0 zC; replace fC0 := belF hb fC0 zC; replace kC1 := belK hb kC1 zC; replace fC1 := belF hb fC1 zC; replace kC2 := belK hb kC2 zC; replace fC2 := belF hb fC2 zC; replace kC3 := belK hb kC3 zC; replace fC3 := belF hb fC3 zC; replace kC4 := belK hb kC4 zC; replace fC4 := belF hb fC4 zC; replace zC := Nat.lt_of_lt_of_le zC hb.size
      replace hBo := hBo.trans (hb.mono hBo.size)
      clear hb
      go_wp2_with fail
      refine (HM.out _).mono ?_; rintro e wq ⟨rfl, rfl⟩
      go_wp2_with fail
      refine (HP.out _).mono ?_; rintro e s22 ⟨rfl, hb⟩
      replace kA0 := belK hb kA0 zA; replace kA1 := belK hb kA1 zA; replace kA2 := belK hb kA2 zA; replace kA3 := belK hb kA3 zA; replace kA4 := belK hb kA4 zA; replace zA := Nat.lt_of_lt_of_le zA hb.size
      replace kC0 := belK hb kC0 zC; replace fC0 := belF hb fC0 zC; replace kC1 := belK hb kC1 zC; replace fC1 := belF hb fC1 zC; replace kC2 := belK hb kC2 zC; replace fC2 := belF hb fC2 zC; replace kC3 := belK hb kC3 zC; replace fC3 := belF hb fC3 zC; replace kC4 := belK hb kC4 zC; replace fC4 := belF hb fC4 zC; replace zC := Nat.lt_of_lt_of_le zC hb.size
      replace hBo := hBo.trans (hb.mono hBo.size)
      clear hb
      all_goals go_wp2_with fail
      all_goals refine bodyPost_ret (v := .tuple #[.agg #[.string ⟨#[]⟩, .int .i64 0, .int .i64 0, .bool false, .bool false], .bool false]) (by simp [results, Tryz.results11, go_sem, kC0, kC1, kC2, kC3, kC4, zC]) rfl ⟨rfl, ?_⟩
      all_goals exact (((((hBo.setCell lC _).setCell lC _).setCell lC _).setCell lC _).setCell lC _)
    · rw [decide_eq_true ha, decide_eq_false hL] at hb2
      rw [if_pos (by omega)] at HY
      rw [HY.out hb2] at hp
      rw [hb2] at hb
      subst hb
      have HTT := Lib.hid (fun w => HT.out (z - n) p w hp)
      clear hb2 hp HT
      go_enter Tryz.func11, Tryz.ntmps11
      go_wp2_with fail
      obtain ⟨s23, hws⟩ : ∃ s, s = ((w.alloc (.cells #[.string q.sh, .int .i64 q.c, .int .i64 q.r, .bool q.fc, .bool q.fr] 23)).alloc (.cells #[.string ⟨#[]⟩, .int .i64 0, .int .i64 0, .bool false, .bool false] 23)) := ⟨_, rfl⟩
      have hBs : Below w.heap.size w s23 := by rw [hws]; exact (((Below.refl w.heap.size w).alloc (by simp) _).alloc (by simp) _)
      obtain ⟨A, hdA⟩ : ∃ b, b = w.heap.size := ⟨_, rfl⟩
      obtain ⟨C, hdC⟩ : ∃ b, b = w.heap.size + 1 := ⟨_, rfl⟩
      have hsz : s23.heap.size = w.heap.size + 1 + 1 := by rw [hws]; simp
      have dCA : C ≠ A := by omega
      have kA0 : s23.cell? ⟨A, 0, none⟩ = some (.string q.sh) := by rw [hws]; simp [go_sem, hdA, hdC]
      have kA1 : s23.cell? ⟨A, 1, none⟩ = some (.int .i64 q.c) := by rw [hws]; simp [go_sem, hdA, hdC]
      have kA2 : s23.cell? ⟨A, 2, none⟩ = some (.int .i64 q.r) := by rw [hws]; simp [go_sem, hdA, hdC]
      have kA3 : s23.cell? ⟨A, 3, none⟩ = some (.bool q.fc) := by rw [hws]; simp [go_sem, hdA, hdC]
      have kA4 : s23.cell? ⟨A, 4, none⟩ = some (.bool q.fr) := by rw [hws]; simp [go_sem, hdA, hdC]
      have zA : A < s23.heap.size := by omega
      have lA : w.heap.size ≤ A := by have := Nat.le_refl w.heap.size; omega
      have kC0 : s23.cell? ⟨C, 0, none⟩ = some (.string ⟨#[]⟩) := by rw [hws]; simp [go_sem, hdA, hdC]
      have fC0 : s23.frozen? ⟨C, 0, none⟩ = false := by rw [hws]; simp [go_sem, hdA, hdC]
      have kC1 : s23.cell? ⟨C, 1, none⟩ = some (.int .i64 0) := by rw [hws]; simp [go_sem, hdA, hdC]
      have fC1 : s23.frozen? ⟨C, 1, none⟩ = false := by rw [hws]; simp [go_sem, hdA, hdC]
      have kC2 : s23.cell? ⟨C, 2, none⟩ = some (.int .i64 0) := by rw [hws]; simp [go_sem, hdA, hdC]
      have fC2 : s23.frozen? ⟨C, 2, none⟩ = false := by rw [hws]; simp [go_sem, hdA, hdC]
      have kC3 : s23.cell? ⟨C, 3, none⟩ = some (.bool false) := by rw [hws]; simp [go_sem, hdA, hdC]
      have fC3 : s23.frozen? ⟨C, 3, none⟩ = false := by rw [hws]; simp [go_sem, hdA, hdC]
      have kC4 : s23.cell? ⟨C, 4, none⟩ = some (.bool false) := by rw [hws]; simp [go_sem, hdA, hdC]
      have fC4 : s23.frozen? ⟨C, 4, none⟩ = false := by rw [hws]; simp [go_sem, hdA, hdC]
      have zC : C < s23.heap.size := by omega
      have lC : w.heap.size ≤ C := by have := Nat.le_refl w.heap.size; omega
      rw [← hws]
      try rw [← hdC]
      try rw [← hdA]
      clear hws hsz hdA hdC
      have hBo := hBs; clear hBs
      refine (HR.out _).mono ?_; rintro e s24 ⟨rfl, hb⟩
      replace kA0 := belK hb kA0 zA; replace kA1 := belK hb kA1 zA; replace kA2 := belK hb kA2 zA; replace kA3 := belK hb kA3 zA; replace kA4 := belK hb kA4 zA; replace zA := Nat.lt_of_lt_of_le zA hb.size
      replace kC0 := belK hb kC0 zC; replace fC0 := belF hb fC0 zC; replace kC1 := belK hb kC1 zC; replace fC1 := belF hb fC1 zC; replace kC2 := belK hb kC2 zC; replace fC2 := belF hb fC2 zC; replace kC3 := belK hb kC3 zC; replace fC3 := belF hb fC3 zC; replace kC4 := belK hb kC4 zC; replace fC4 := belF hb fC4 zC; replace zC := Nat.lt_of_lt_of_le zC hb.size
      replace hBo := hBo.trans (hb.mono hBo.size)
      clear hb
      go_wp2_with fail
      refine (HM.out _).mono ?_; rintro e wq ⟨rfl, rfl⟩
      go_wp2_with fail
      refine (HP.out _).mono ?_; rintro e s25 ⟨rfl, hb⟩
      replace kA0 := belK hb kA0 zA; replace kA1 := belK hb kA1 zA; replace kA2 := belK hb kA2 zA; replace kA3 := belK hb kA3 zA; replace kA4 := belK hb kA4 zA; replace zA := Nat.lt_of_lt_of_le zA hb.size
      replace kC0 := belK hb kC0 zC; replace fC0 := belF hb fC0 zC; replace kC1 := belK hb kC1 zC; replace fC1 := belF hb fC1 zC; replace kC2 := belK hb kC2 zC; replace fC2 := belF hb fC2 zC; replace kC3 := belK hb kC3 zC; replace fC3 := belF hb fC3 zC; replace kC4 := belK hb kC4 zC; replace fC4 := belF hb fC4 zC; replace zC := Nat.lt_of_lt_of_le zC hb.size
      replace hBo := hBo.trans (hb.mono hBo.size)
      clear hb
      go_wp2_with fail
      refine (HTT.out _).mono ?_; rintro e s26 ⟨rfl, hb⟩
      replace kA0 := belK hb kA0 zA; replace kA1 := belK hb kA1 zA; replace kA2 := belK hb kA2 zA; replace kA3 := belK hb kA3 zA; replace kA4 := belK hb kA4 zA; replace zA := Nat.lt_of_lt_of_le zA hb.size
      replace kC0 := belK hb kC0 zC; replace fC0 := belF hb fC0 zC; replace kC1 := belK hb kC1 zC; replace fC1 := belF hb fC1 zC; replace kC2 := belK hb kC2 zC; replace fC2 := belF hb fC2 zC; replace kC3 := belK hb kC3 zC; replace fC3 := belF hb fC3 zC; replace kC4 := belK hb kC4 zC; replace fC4 := belF hb fC4 zC; replace zC := Nat.lt_of_lt_of_le zC hb.size
      replace hBo := hBo.trans (hb.mono hBo.size)
      clear hb
      all_goals go_wp2_with fail
      all_goals refine bodyPost_ret (v := .tuple #[.agg #[.string p.sh, .int .i64 p.c, .int .i64 p.r, .bool p.fc, .bool p.fr], .bool true]) (by simp [results, Tryz.results11, go_sem, kC0, kC1, kC2, kC3, kC4, zC]) rfl ⟨rfl, ?_⟩
      all_goals exact (((((hBo.setCell lC _).setCell lC _).setCell lC _).setCell lC _).setCell lC _)
  · rw [decide_eq_false ha] at hb2
    have hL : z < a + n := by omega
    rw [if_neg (by omega)] at HY
    rw [HY.out hb2] at hp
    rw [hb2] at hb
    subst hb
    have HTT := Lib.hid (fun w => HT.out z p w hp)
    clear hb2 hp HT
    go_enter Tryz.func11, Tryz.ntmps11
    go_wp2_with fail
    obtain ⟨s27, hws⟩ : ∃ s, s = ((w.alloc (.cells #[.string q.sh, .int .i64 q.c, .int .i64 q.r, .bool q.fc, .bool q.fr] 23)).alloc (.cells #[.string ⟨#[]⟩, .int .i64 0, .int .i64 0, .bool false, .bool false] 23)) := ⟨_, rfl⟩
    have hBs : Below w.heap.size w s27 := by rw [hws]; exact (((Below.refl w.heap.size w).alloc (by simp) _).alloc (by simp) _)
    obtain ⟨A, hdA⟩ : ∃ b, b = w.heap.size := ⟨_, rfl⟩
    obtain ⟨C, hdC⟩ : ∃ b, b = w.heap.size + 1 := ⟨_, rfl⟩
    have hsz : s27.heap.size = w.heap.size + 1 + 1 := by rw [hws]; simp
    have dCA : C ≠ A := by omega
    have kA0 : s27.cell? ⟨A, 0, none⟩ = some (.string q.sh) := by rw [hws]; simp [go_sem, hdA, hdC]
    have kA1 : s27.cell? ⟨A, 1, none⟩ = some (.int .i64 q.c) := by rw [hws]; simp [go_sem, hdA, hdC]
    have kA2 : s27.cell? ⟨A, 2, none⟩ = some (.int .i64 q.r) := by rw [hws]; simp [go_sem, hdA, hdC]
    have kA3 : s27.cell? ⟨A, 3, none⟩ = some (.bool q.fc) := by rw [hws]; simp [go_sem, hdA, hdC]
    have kA4 : s27.cell? ⟨A, 4, none⟩ = some (.bool q.fr) := by rw [hws]; simp [go_sem, hdA, hdC]
    have zA : A < s27.heap.size := by omega
    have lA : w.heap.size ≤ A := by have := Nat.le_refl w.heap.size; omega
    have kC0 : s27.cell? ⟨C, 0, none⟩ = some (.string ⟨#[]⟩) := by rw [hws]; simp [go_sem, hdA, hdC]
    have fC0 : s27.frozen? ⟨C, 0, none⟩ = false := by rw [hws]; simp [go_sem, hdA, hdC]
    have kC1 : s27.cell? ⟨C, 1, none⟩ = some (.int .i64 0) := by rw [hws]; simp [go_sem, hdA, hdC]
    have fC1 : s27.frozen? ⟨C, 1, none⟩ = false := by rw [hws]; simp [go_sem, hdA, hdC]
    have kC2 : s27.cell? ⟨C, 2, none⟩ = some (.int .i64 0) := by rw [hws]; simp [go_sem, hdA, hdC]
    have fC2 : s27.frozen? ⟨C, 2, none⟩ = false := by rw [hws]; simp [go_sem, hdA, hdC]
    have kC3 : s27.cell? ⟨C, 3, none⟩ = some (.bool false) := by rw [hws]; simp [go_sem, hdA, hdC]
    have fC3 : s27.frozen? ⟨C, 3, none⟩ = false := by rw [hws]; simp [go_sem, hdA, hdC]
    have kC4 : s27.cell? ⟨C, 4, none⟩ = some (.bool false) := by rw [hws]; simp [go_sem, hdA, hdC]
    have fC4 : s27.frozen? ⟨C, 4, none⟩ = false := by rw [hws]; simp [go_sem, hdA, hdC]
    have zC : C < s27.heap.size := by omega
    have lC : w.heap.size ≤ C := by have := Nat.le_refl w.heap.size; omega
    rw [← hws]
    try rw [← hdC]
    try rw [← hdA]
    clear hws hsz hdA hdC
    have hBo := hBs; clear hBs
    refine (HR.out _).mono ?_; rintro e s28 ⟨rfl, hb⟩
    replace kA0 := belK hb kA0 zA; replace kA1 := belK hb kA1 zA; replace kA2 := belK hb kA2 zA; replace kA3 := belK hb kA3 zA; replace kA4 := belK hb kA4 zA; replace zA := Nat.lt_of_lt_of_le zA hb.size
    replace kC0 := belK hb kC0 zC; replace fC0 := belF hb fC0 zC; replace kC1 := belK hb kC1 zC; replace fC1 := belF hb fC1 zC; replace kC2 := belK hb kC2 zC; replace fC2 := belF hb fC2 zC; replace kC3 := belK hb kC3 zC; replace fC3 := belF hb fC3 zC; replace kC4 := belK hb kC4 zC; replace fC4 := belF hb fC4 zC; replace zC := Nat.lt_of_lt_of_le zC hb.size
    replace hBo := hBo.trans (hb.mono hBo.size)
    clear hb
    go_wp2_with fail
    refine (HM.out _).mono ?_; rintro e wq ⟨rfl, rfl⟩
    go_wp2_with fail
    refine (HP.out _).mono ?_; rintro e s29 ⟨rfl, hb⟩
    replace kA0 := belK hb kA0 zA; replace kA1 := belK hb kA1 zA; replace kA2 := belK hb kA2 zA; replace kA3 := belK hb kA3 zA; replace kA4 := belK hb kA4 zA; replace zA := Nat.lt_of_lt_of_le zA hb.size
    replace kC0 := belK hb kC0 zC; replace fC0 := belF hb fC0 zC; replace kC1 := belK hb kC1 zC; replace fC1 := belF hb fC1 zC; replace kC2 := belK hb kC2 zC; replace fC2 := belF hb fC2 zC; replace kC3 := belK hb kC3 zC; replace fC3 := belF hb fC3 zC; replace kC4 := belK hb kC4 zC; replace fC4 := belF hb fC4 zC; replace zC := Nat.lt_of_lt_of_le zC hb.size
    replace hBo := hBo.trans (hb.mono hBo.size)
    clear hb
    go_wp2_with fail
    refine (HTT.out _).mono ?_; rintro e s30 ⟨rfl, hb⟩
    replace kA0 := belK hb kA0 zA; replace kA1 := belK hb kA1 zA; replace kA2 := belK hb kA2 zA; replace kA3 := belK hb kA3 zA; replace kA4 := belK hb kA4 zA; replace zA := Nat.lt_of_lt_of_le zA hb.size
    replace kC0 := belK hb kC0 zC; replace fC0 := belF hb fC0 zC; replace kC1 := belK hb kC1 zC; replace fC1 := belF hb fC1 zC; replace kC2 := belK hb kC2 zC; replace fC2 := belF hb fC2 zC; replace kC3 := belK hb kC3 zC; replace fC3 := belF hb fC3 zC; replace kC4 := belK hb kC4 zC; replace fC4 := belF hb fC4 zC; replace zC := Nat.lt_of_lt_of_le zC hb.size
    replace hBo := hBo.trans (hb.mono hBo.size)
    clear hb
    all_goals go_wp2_with fail
    all_goals refine bodyPost_ret (v := .tuple #[.agg #[.string p.sh, .int .i64 p.c, .int .i64 p.r, .bool p.fc, .bool p.fr], .bool true]) (by simp [results, Tryz.results11, go_sem, kC0, kC1, kC2, kC3, kC4, zC]) rfl ⟨rfl, ?_⟩
    all_goals exact (((((hBo.setCell lC _).setCell lC _).setCell lC _).setCell lC _).setCell lC _)
end Go.Proofs.YtlpjaflolnggnaaGreatDoor
