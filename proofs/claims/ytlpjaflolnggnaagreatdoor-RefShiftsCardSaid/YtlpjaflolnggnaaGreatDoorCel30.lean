/-
  LAYER 11, REFERENCES: RefShifts.
-/
import Derived.Test.YtlpjaflolnggnaaGreatDoorCel28
import Derived.Test.YtlpjaflolnggnaaGreatDoorCel26
import Derived.Test.YtlpjaflolnggnaaGreatDoorCel11
namespace Go.Proofs.YtlpjaflolnggnaaGreatDoor
open Go.RowKit Go.Shelf
set_option linter.unusedSimpArgs false
set_option linter.unusedVariables false

theorem sh_ins {q : Rf} {way a n : Int} (h : insB q way a n = true) : (insR q way a n).sh = q.sh := by rw [insR_yes h, sh_pt]
theorem pt_pt (q : Rf) (way y z : Int) : ptR (ptR q way y) way z = ptR q way z := by
  unfold ptR
  split <;> rfl
theorem pt_pl (q : Rf) (way : Int) : ptR q way (plZ q way) = q := by
  unfold ptR plZ
  split <;> rfl
/-- what was put in and taken out again leaves a reference as it was. -/
theorem ins_back {q : Rf} {way a n : Int} (h : insB q way a n = true) : delB (insR q way a n) way a n = true ∧ delR (insR q way a n) way a n = q := by
  have h0 := h
  unfold insB at h
  rw [Bool.and_eq_true, Bool.and_eq_true] at h
  obtain ⟨⟨h1, h2⟩, h3⟩ := h
  have h3' := of_decide_eq_true h3
  obtain ⟨k0, k1, k2, k3, k4, k5, k6⟩ := may_yes h2
  obtain ⟨p1, p2⟩ := pl_in h1 k0
  have hge : 1 ≤ shP (plZ q way) a n := by unfold shP; split <;> omega
  have hr : rgtR (insR q way a n) = true := by rw [insR_yes h0]; exact rgt_pt h1 k0 hge h3'
  have hp : plZ (insR q way a n) way = shP (plZ q way) a n := by rw [insR_yes h0, pl_pt]
  have hd : delB (insR q way a n) way a n = true := by
    rw [(delB_iff h2 hr).1, hp]
    unfold shP
    split <;> omega
  refine ⟨hd, ?_⟩
  rw [delR_yes hd, hp]
  have : dlP (shP (plZ q way) a n) a n = plZ q way := by
    unfold shP dlP
    split <;> split <;> omega
  rw [this, insR_yes h0, pt_pt, pt_pl]
set_option maxRecDepth 100000 in
set_option maxHeartbeats 8000000 in
theorem refShifts_any (a b : Rf) (way x n : Int) (w : World) (hs : a.sh.size ≤ maxLen) (hs2 : b.sh.size ≤ maxLen) :
    Calls Tryz.prog 4 #[.agg #[.string a.sh, .int .i64 a.c, .int .i64 a.r, .bool a.fc, .bool a.fr], .agg #[.string b.sh, .int .i64 b.c, .int .i64 b.r, .bool b.fc, .bool b.fr], .agg #[.int .i64 way, .int .i64 x, .int .i64 n]] w fun e w' => e = .returned (.bool true) ∧ Below w.heap.size w w' := by
  have hud : undef = Value.tuple #[] := rfl
  have HK := Lib.hid known11_any
  have hs3 := hs
  have hs4 := hs2
  unfold maxLen at hs3 hs4
  by_cases hbig : 200 < a.sh.size
  · clear hs hs2
    go_enter Tryz.func4, Tryz.ntmps4
    go_wp2_with fail
    obtain ⟨s1, hws⟩ : ∃ s, s = (((w.alloc (.cells #[.string a.sh, .int .i64 a.c, .int .i64 a.r, .bool a.fc, .bool a.fr] 23)).alloc (.cells #[.string b.sh, .int .i64 b.c, .int .i64 b.r, .bool b.fc, .bool b.fr] 23)).alloc (.cells #[.int .i64 way, .int .i64 x, .int .i64 n] 29)) := ⟨_, rfl⟩
    have hBs : Below w.heap.size w s1 := by rw [hws]; exact ((((Below.refl w.heap.size w).alloc (by simp) _).alloc (by simp) _).alloc (by simp; omega) _)
    obtain ⟨A, hdA⟩ : ∃ b, b = w.heap.size := ⟨_, rfl⟩
    obtain ⟨B, hdB⟩ : ∃ b, b = w.heap.size + 1 := ⟨_, rfl⟩
    obtain ⟨Q, hdQ⟩ : ∃ b, b = w.heap.size + 1 + 1 := ⟨_, rfl⟩
    have hsz : s1.heap.size = w.heap.size + 1 + 1 + 1 := by rw [hws]; simp
    have kA0 : s1.cell? ⟨A, 0, none⟩ = some (.string a.sh) := by rw [hws]; simp [go_sem, hdA, hdB, hdQ]
    have kA1 : s1.cell? ⟨A, 1, none⟩ = some (.int .i64 a.c) := by rw [hws]; simp [go_sem, hdA, hdB, hdQ]
    have kA2 : s1.cell? ⟨A, 2, none⟩ = some (.int .i64 a.r) := by rw [hws]; simp [go_sem, hdA, hdB, hdQ]
    have kA3 : s1.cell? ⟨A, 3, none⟩ = some (.bool a.fc) := by rw [hws]; simp [go_sem, hdA, hdB, hdQ]
    have kA4 : s1.cell? ⟨A, 4, none⟩ = some (.bool a.fr) := by rw [hws]; simp [go_sem, hdA, hdB, hdQ]
    have zA : A < s1.heap.size := by omega
    have lA : w.heap.size ≤ A := by have := Nat.le_refl w.heap.size; omega
    have kB0 : s1.cell? ⟨B, 0, none⟩ = some (.string b.sh) := by rw [hws]; simp [go_sem, hdA, hdB, hdQ]
    have kB1 : s1.cell? ⟨B, 1, none⟩ = some (.int .i64 b.c) := by rw [hws]; simp [go_sem, hdA, hdB, hdQ]
    have kB2 : s1.cell? ⟨B, 2, none⟩ = some (.int .i64 b.r) := by rw [hws]; simp [go_sem, hdA, hdB, hdQ]
    have kB3 : s1.cell? ⟨B, 3, none⟩ = some (.bool b.fc) := by rw [hws]; simp [go_sem, hdA, hdB, hdQ]
    have kB4 : s1.cell? ⟨B, 4, none⟩ = some (.bool b.fr) := by rw [hws]; simp [go_sem, hdA, hdB, hdQ]
    have zB : B < s1.heap.size := by omega
    have lB : w.heap.size ≤ B := by have := Nat.le_refl w.heap.size; omega
    have kQ0 : s1.cell? ⟨Q, 0, none⟩ = some (.int .i64 way) := by rw [hws]; simp [go_sem, hdA, hdB, hdQ]
    have kQ1 : s1.cell? ⟨Q, 1, none⟩ = some (.int .i64 x) := by rw [hws]; simp [go_sem, hdA, hdB, hdQ]
    have kQ2 : s1.cell? ⟨Q, 2, none⟩ = some (.int .i64 n) := by rw [hws]; simp [go_sem, hdA, hdB, hdQ]
    have zQ : Q < s1.heap.size := by omega
    have lQ : w.heap.size ≤ Q := by have := Nat.le_refl w.heap.size; omega
    rw [← hws]
    try rw [← hdQ]
    try rw [← hdB]
    try rw [← hdA]
    clear hws hsz hdA hdB hdQ
    have hBo := hBs; clear hBs
    refine (HK.out _).mono ?_; rintro e s2 ⟨rfl, hb⟩
    replace kA0 := belK hb kA0 zA; replace kA1 := belK hb kA1 zA; replace kA2 := belK hb kA2 zA; replace kA3 := belK hb kA3 zA; replace kA4 := belK hb kA4 zA; replace zA := Nat.lt_of_lt_of_le zA hb.size
    replace kB0 := belK hb kB0 zB; replace kB1 := belK hb kB1 zB; replace kB2 := belK hb kB2 zB; replace kB3 := belK hb kB3 zB; replace kB4 := belK hb kB4 zB; replace zB := Nat.lt_of_lt_of_le zB hb.size
    replace kQ0 := belK hb kQ0 zQ; replace kQ1 := belK hb kQ1 zQ; replace kQ2 := belK hb kQ2 zQ; replace zQ := Nat.lt_of_lt_of_le zQ hb.size
    replace hBo := hBo.trans (hb.mono hBo.size)
    clear hb
    all_goals go_wp2_with fail
    all_goals first | go_ret | go_ret2
    all_goals exact ⟨rfl, hBo⟩
  by_cases hbig2 : 200 < b.sh.size
  · clear hs hs2
    go_enter Tryz.func4, Tryz.ntmps4
    go_wp2_with fail
    obtain ⟨s3, hws⟩ : ∃ s, s = (((w.alloc (.cells #[.string a.sh, .int .i64 a.c, .int .i64 a.r, .bool a.fc, .bool a.fr] 23)).alloc (.cells #[.string b.sh, .int .i64 b.c, .int .i64 b.r, .bool b.fc, .bool b.fr] 23)).alloc (.cells #[.int .i64 way, .int .i64 x, .int .i64 n] 29)) := ⟨_, rfl⟩
    have hBs : Below w.heap.size w s3 := by rw [hws]; exact ((((Below.refl w.heap.size w).alloc (by simp) _).alloc (by simp) _).alloc (by simp; omega) _)
    obtain ⟨A, hdA⟩ : ∃ b, b = w.heap.size := ⟨_, rfl⟩
    obtain ⟨B, hdB⟩ : ∃ b, b = w.heap.size + 1 := ⟨_, rfl⟩
    obtain ⟨Q, hdQ⟩ : ∃ b, b = w.heap.size + 1 + 1 := ⟨_, rfl⟩
    have hsz : s3.heap.size = w.heap.size + 1 + 1 + 1 := by rw [hws]; simp
    have kA0 : s3.cell? ⟨A, 0, none⟩ = some (.string a.sh) := by rw [hws]; simp [go_sem, hdA, hdB, hdQ]
    have kA1 : s3.cell? ⟨A, 1, none⟩ = some (.int .i64 a.c) := by rw [hws]; simp [go_sem, hdA, hdB, hdQ]
    have kA2 : s3.cell? ⟨A, 2, none⟩ = some (.int .i64 a.r) := by rw [hws]; simp [go_sem, hdA, hdB, hdQ]
    have kA3 : s3.cell? ⟨A, 3, none⟩ = some (.bool a.fc) := by rw [hws]; simp [go_sem, hdA, hdB, hdQ]
    have kA4 : s3.cell? ⟨A, 4, none⟩ = some (.bool a.fr) := by rw [hws]; simp [go_sem, hdA, hdB, hdQ]
    have zA : A < s3.heap.size := by omega
    have lA : w.heap.size ≤ A := by have := Nat.le_refl w.heap.size; omega
    have kB0 : s3.cell? ⟨B, 0, none⟩ = some (.string b.sh) := by rw [hws]; simp [go_sem, hdA, hdB, hdQ]
    have kB1 : s3.cell? ⟨B, 1, none⟩ = some (.int .i64 b.c) := by rw [hws]; simp [go_sem, hdA, hdB, hdQ]
    have kB2 : s3.cell? ⟨B, 2, none⟩ = some (.int .i64 b.r) := by rw [hws]; simp [go_sem, hdA, hdB, hdQ]
    have kB3 : s3.cell? ⟨B, 3, none⟩ = some (.bool b.fc) := by rw [hws]; simp [go_sem, hdA, hdB, hdQ]
    have kB4 : s3.cell? ⟨B, 4, none⟩ = some (.bool b.fr) := by rw [hws]; simp [go_sem, hdA, hdB, hdQ]
    have zB : B < s3.heap.size := by omega
    have lB : w.heap.size ≤ B := by have := Nat.le_refl w.heap.size; omega
    have kQ0 : s3.cell? ⟨Q, 0, none⟩ = some (.int .i64 way) := by rw [hws]; simp [go_sem, hdA, hdB, hdQ]
    have kQ1 : s3.cell? ⟨Q, 1, none⟩ = some (.int .i64 x) := by rw [hws]; simp [go_sem, hdA, hdB, hdQ]
    have kQ2 : s3.cell? ⟨Q, 2, none⟩ = some (.int .i64 n) := by rw [hws]; simp [go_sem, hdA, hdB, hdQ]
    have zQ : Q < s3.heap.size := by omega
    have lQ : w.heap.size ≤ Q := by have := Nat.le_refl w.heap.size; omega
    rw [← hws]
    try rw [← hdQ]
    try rw [← hdB]
    try rw [← hdA]
    clear hws hsz hdA hdB hdQ
    have hBo := hBs; clear hBs
    refine (HK.out _).mono ?_; rintro e s4 ⟨rfl, hb⟩
    replace kA0 := belK hb kA0 zA; replace kA1 := belK hb kA1 zA; replace kA2 := belK hb kA2 zA; replace kA3 := belK hb kA3 zA; replace kA4 := belK hb kA4 zA; replace zA := Nat.lt_of_lt_of_le zA hb.size
    replace kB0 := belK hb kB0 zB; replace kB1 := belK hb kB1 zB; replace kB2 := belK hb kB2 zB; replace kB3 := belK hb kB3 zB; replace kB4 := belK hb kB4 zB; replace zB := Nat.lt_of_lt_of_le zB hb.size
    replace kQ0 := belK hb kQ0 zQ; replace kQ1 := belK hb kQ1 zQ; replace kQ2 := belK hb kQ2 zQ; replace zQ := Nat.lt_of_lt_of_le zQ hb.size
    replace hBo := hBo.trans (hb.mono hBo.size)
    clear hb
    all_goals go_wp2_with fail
    all_goals first | go_ret | go_ret2
    all_goals exact ⟨rfl, hBo⟩
  obtain ⟨p1, hp1⟩ : ∃ p, insR a way x n = p := ⟨_, rfl⟩
  obtain ⟨k1, hk1⟩ : ∃ k, insB a way x n = k := ⟨_, rfl⟩
  obtain ⟨p2, hp2⟩ : ∃ p, delR a way x n = p := ⟨_, rfl⟩
  obtain ⟨k2, hk2⟩ : ∃ k, delB a way x n = k := ⟨_, rfl⟩
  obtain ⟨p3, hp3⟩ : ∃ p, ins2a a b way x n = p := ⟨_, rfl⟩
  obtain ⟨q3, hq3⟩ : ∃ p, ins2b a b way x n = p := ⟨_, rfl⟩
  obtain ⟨k3, hk3⟩ : ∃ k, ins2B a b way x n = k := ⟨_, rfl⟩
  obtain ⟨p4, hp4⟩ : ∃ p, del2a a b way x n = p := ⟨_, rfl⟩
  obtain ⟨q4, hq4⟩ : ∃ p, del2b a b way x n = p := ⟨_, rfl⟩
  obtain ⟨k4, hk4⟩ : ∃ k, del2B a b way x n = k := ⟨_, rfl⟩
  have H1 := Lib.hid (fun w => insert_any a way x n p1 k1 w hs hp1 hk1)
  have H2 := Lib.hid (fun w => refInsert_any a way x n p1 k1 w hs hp1 hk1)
  have H3 := Lib.hid (fun w => delete_any a way x n p2 k2 w hs hp2 hk2)
  have H4 := Lib.hid (fun w => refDelete_any a way x n p2 k2 w hs hp2 hk2)
  have H5 := Lib.hid (fun w => insert2_any a b way x n p3 q3 k3 w hs hs2 hp3 hq3 hk3)
  have H6 := Lib.hid (fun w => refInsert2_any a b way x n p3 q3 k3 w hs hs2 hp3 hq3 hk3)
  have H7 := Lib.hid (fun w => delete2_any a b way x n p4 q4 k4 w hs hs2 hp4 hq4 hk4)
  have H8 := Lib.hid (fun w => refDelete2_any a b way x n p4 q4 k4 w hs hs2 hp4 hq4 hk4)
  clear hp2 hk2 hp3 hq3 hk3 hp4 hq4 hk4
  cases k1 with
  | true =>
    obtain ⟨e1, e2⟩ := ins_back hk1
    rw [hp1] at e1 e2
    have H9 := Lib.hid (fun w => delete_any p1 way x n a true w (by rw [← hp1, sh_ins hk1]; exact hs) e2 e1)
    clear hp1 hk1 hs hs2 e1 e2
    go_enter Tryz.func4, Tryz.ntmps4
    go_wp2_with fail
    obtain ⟨s5, hws⟩ : ∃ s, s = (((w.alloc (.cells #[.string a.sh, .int .i64 a.c, .int .i64 a.r, .bool a.fc, .bool a.fr] 23)).alloc (.cells #[.string b.sh, .int .i64 b.c, .int .i64 b.r, .bool b.fc, .bool b.fr] 23)).alloc (.cells #[.int .i64 way, .int .i64 x, .int .i64 n] 29)) := ⟨_, rfl⟩
    have hBs : Below w.heap.size w s5 := by rw [hws]; exact ((((Below.refl w.heap.size w).alloc (by simp) _).alloc (by simp) _).alloc (by simp; omega) _)
    obtain ⟨A, hdA⟩ : ∃ b, b = w.heap.size := ⟨_, rfl⟩
    obtain ⟨B, hdB⟩ : ∃ b, b = w.heap.size + 1 := ⟨_, rfl⟩
    obtain ⟨Q, hdQ⟩ : ∃ b, b = w.heap.size + 1 + 1 := ⟨_, rfl⟩
    have hsz : s5.heap.size = w.heap.size + 1 + 1 + 1 := by rw [hws]; simp
    have kA0 : s5.cell? ⟨A, 0, none⟩ = some (.string a.sh) := by rw [hws]; simp [go_sem, hdA, hdB, hdQ]
    have kA1 : s5.cell? ⟨A, 1, none⟩ = some (.int .i64 a.c) := by rw [hws]; simp [go_sem, hdA, hdB, hdQ]
    have kA2 : s5.cell? ⟨A, 2, none⟩ = some (.int .i64 a.r) := by rw [hws]; simp [go_sem, hdA, hdB, hdQ]
    have kA3 : s5.cell? ⟨A, 3, none⟩ = some (.bool a.fc) := by rw [hws]; simp [go_sem, hdA, hdB, hdQ]
    have kA4 : s5.cell? ⟨A, 4, none⟩ = some (.bool a.fr) := by rw [hws]; simp [go_sem, hdA, hdB, hdQ]
    have zA : A < s5.heap.size := by omega
    have lA : w.heap.size ≤ A := by have := Nat.le_refl w.heap.size; omega
    have kB0 : s5.cell? ⟨B, 0, none⟩ = some (.string b.sh) := by rw [hws]; simp [go_sem, hdA, hdB, hdQ]
    have kB1 : s5.cell? ⟨B, 1, none⟩ = some (.int .i64 b.c) := by rw [hws]; simp [go_sem, hdA, hdB, hdQ]
    have kB2 : s5.cell? ⟨B, 2, none⟩ = some (.int .i64 b.r) := by rw [hws]; simp [go_sem, hdA, hdB, hdQ]
    have kB3 : s5.cell? ⟨B, 3, none⟩ = some (.bool b.fc) := by rw [hws]; simp [go_sem, hdA, hdB, hdQ]
    have kB4 : s5.cell? ⟨B, 4, none⟩ = some (.bool b.fr) := by rw [hws]; simp [go_sem, hdA, hdB, hdQ]
    have zB : B < s5.heap.size := by omega
    have lB : w.heap.size ≤ B := by have := Nat.le_refl w.heap.size; omega
    have kQ0 : s5.cell? ⟨Q, 0, none⟩ = some (.int .i64 way) := by rw [hws]; simp [go_sem, hdA, hdB, hdQ]
    have kQ1 : s5.cell? ⟨Q, 1, none⟩ = some (.int .i64 x) := by rw [hws]; simp [go_sem, hdA, hdB, hdQ]
    have kQ2 : s5.cell? ⟨Q, 2, none⟩ = some (.int .i64 n) := by rw [hws]; simp [go_sem, hdA, hdB, hdQ]
    have zQ : Q < s5.heap.size := by omega
    have lQ : w.heap.size ≤ Q := by have := Nat.le_refl w.heap.size; omega
    rw [← hws]
    try rw [← hdQ]
    try rw [← hdB]
    try rw [← hdA]
    clear hws hsz hdA hdB hdQ
    have hBo := hBs; clear hBs
    refine (H1.out _).mono ?_; rintro e s6 ⟨rfl, hb⟩
    replace kA0 := belK hb kA0 zA; replace kA1 := belK hb kA1 zA; replace kA2 := belK hb kA2 zA; replace kA3 := belK hb kA3 zA; replace kA4 := belK hb kA4 zA; replace zA := Nat.lt_of_lt_of_le zA hb.size
    replace kB0 := belK hb kB0 zB; replace kB1 := belK hb kB1 zB; replace kB2 := belK hb kB2 zB; replace kB3 := belK hb kB3 zB; replace kB4 := belK hb kB4 zB; replace zB := Nat.lt_of_lt_of_le zB hb.size
    replace kQ0 := belK hb kQ0 zQ; replace kQ1 := belK hb kQ1 zQ; replace kQ2 := belK hb kQ2 zQ; replace zQ := Nat.lt_of_lt_of_le zQ hb.size
    replace hBo := hBo.trans (hb.mono hBo.size)
    clear hb
    go_wp2_with fail
    obtain ⟨s7, hws⟩ : ∃ s, s = (s6.alloc (.cells #[.string p1.sh, .int .i64 p1.c, .int .i64 p1.r, .bool p1.fc, .bool p1.fr] 23)) := ⟨_, rfl⟩
    have hBs : Below w.heap.size w s7 := by rw [hws]; exact ((hBo).alloc (by exact hBo.size) _)
    obtain ⟨C, hdC⟩ : ∃ b, b = s6.heap.size := ⟨_, rfl⟩
    have hsz : s7.heap.size = s6.heap.size + 1 := by rw [hws]; simp
    have hQC : ∀ p v, s6.cell? p = some v → s7.cell? p = some v := fun p v h => by rw [hws]; exact (alK h)
    have hQZ : ∀ b, b < s6.heap.size → b < s7.heap.size := fun b h => by omega
    replace kA0 := hQC _ _ kA0; replace kA1 := hQC _ _ kA1; replace kA2 := hQC _ _ kA2; replace kA3 := hQC _ _ kA3; replace kA4 := hQC _ _ kA4; replace zA := hQZ _ zA
    replace kB0 := hQC _ _ kB0; replace kB1 := hQC _ _ kB1; replace kB2 := hQC _ _ kB2; replace kB3 := hQC _ _ kB3; replace kB4 := hQC _ _ kB4; replace zB := hQZ _ zB
    replace kQ0 := hQC _ _ kQ0; replace kQ1 := hQC _ _ kQ1; replace kQ2 := hQC _ _ kQ2; replace zQ := hQZ _ zQ
    clear hQC hQZ
    have kC0 : s7.cell? ⟨C, 0, none⟩ = some (.string p1.sh) := by rw [hws]; simp [go_sem, hdC]
    have kC1 : s7.cell? ⟨C, 1, none⟩ = some (.int .i64 p1.c) := by rw [hws]; simp [go_sem, hdC]
    have kC2 : s7.cell? ⟨C, 2, none⟩ = some (.int .i64 p1.r) := by rw [hws]; simp [go_sem, hdC]
    have kC3 : s7.cell? ⟨C, 3, none⟩ = some (.bool p1.fc) := by rw [hws]; simp [go_sem, hdC]
    have kC4 : s7.cell? ⟨C, 4, none⟩ = some (.bool p1.fr) := by rw [hws]; simp [go_sem, hdC]
    have zC : C < s7.heap.size := by omega
    have lC : w.heap.size ≤ C := by have := hBo.size; omega
    rw [← hws]
    try rw [← hdC]
    clear hBo
    clear hws hsz hdC
    have hBo := hBs; clear hBs
    refine (H2.out _).mono ?_; rintro e s8 ⟨rfl, hb⟩
    replace kA0 := belK hb kA0 zA; replace kA1 := belK hb kA1 zA; replace kA2 := belK hb kA2 zA; replace kA3 := belK hb kA3 zA; replace kA4 := belK hb kA4 zA; replace zA := Nat.lt_of_lt_of_le zA hb.size
    replace kB0 := belK hb kB0 zB; replace kB1 := belK hb kB1 zB; replace kB2 := belK hb kB2 zB; replace kB3 := belK hb kB3 zB; replace kB4 := belK hb kB4 zB; replace zB := Nat.lt_of_lt_of_le zB hb.size
    replace kQ0 := belK hb kQ0 zQ; replace kQ1 := belK hb kQ1 zQ; replace kQ2 := belK hb kQ2 zQ; replace zQ := Nat.lt_of_lt_of_le zQ hb.size
    replace kC0 := belK hb kC0 zC; replace kC1 := belK hb kC1 zC; replace kC2 := belK hb kC2 zC; replace kC3 := belK hb kC3 zC; replace kC4 := belK hb kC4 zC; replace zC := Nat.lt_of_lt_of_le zC hb.size
    replace hBo := hBo.trans (hb.mono hBo.size)
    clear hb
    go_wp2_with fail
    obtain ⟨s9, hws⟩ : ∃ s, s = (s8.alloc (.cells #[.string p1.sh, .int .i64 p1.c, .int .i64 p1.r, .bool p1.fc, .bool p1.fr] 23)) := ⟨_, rfl⟩
    have hBs : Below w.heap.size w s9 := by rw [hws]; exact ((hBo).alloc (by exact hBo.size) _)
    obtain ⟨D, hdD⟩ : ∃ b, b = s8.heap.size := ⟨_, rfl⟩
    have hsz : s9.heap.size = s8.heap.size + 1 := by rw [hws]; simp
    have hQC : ∀ p v, s8.cell? p = some v → s9.cell? p = some v := fun p v h => by rw [hws]; exact (alK h)
    have hQZ : ∀ b, b < s8.heap.size → b < s9.heap.size := fun b h => by omega
    replace kA0 := hQC _ _ kA0; replace kA1 := hQC _ _ kA1; replace kA2 := hQC _ _ kA2; replace kA3 := hQC _ _ kA3; replace kA4 := hQC _ _ kA4; replace zA := hQZ _ zA
    replace kB0 := hQC _ _ kB0; replace kB1 := hQC _ _ kB1; replace kB2 := hQC _ _ kB2; replace kB3 := hQC _ _ kB3; replace kB4 := hQC _ _ kB4; replace zB := hQZ _ zB
    replace kQ0 := hQC _ _ kQ0; replace kQ1 := hQC _ _ kQ1; replace kQ2 := hQC _ _ kQ2; replace zQ := hQZ _ zQ
    replace kC0 := hQC _ _ kC0; replace kC1 := hQC _ _ kC1; replace kC2 := hQC _ _ kC2; replace kC3 := hQC _ _ kC3; replace kC4 := hQC _ _ kC4; replace zC := hQZ _ zC
    clear hQC hQZ
    have kD0 : s9.cell? ⟨D, 0, none⟩ = some (.string p1.sh) := by rw [hws]; simp [go_sem, hdD]
    have kD1 : s9.cell? ⟨D, 1, none⟩ = some (.int .i64 p1.c) := by rw [hws]; simp [go_sem, hdD]
    have kD2 : s9.cell? ⟨D, 2, none⟩ = some (.int .i64 p1.r) := by rw [hws]; simp [go_sem, hdD]
    have kD3 : s9.cell? ⟨D, 3, none⟩ = some (.bool p1.fc) := by rw [hws]; simp [go_sem, hdD]
    have kD4 : s9.cell? ⟨D, 4, none⟩ = some (.bool p1.fr) := by rw [hws]; simp [go_sem, hdD]
    have zD : D < s9.heap.size := by omega
    have lD : w.heap.size ≤ D := by have := hBo.size; omega
    rw [← hws]
    try rw [← hdD]
    clear hBo
    clear hws hsz hdD
    have hBo := hBs; clear hBs
    refine (H3.out _).mono ?_; rintro e s10 ⟨rfl, hb⟩
    replace kA0 := belK hb kA0 zA; replace kA1 := belK hb kA1 zA; replace kA2 := belK hb kA2 zA; replace kA3 := belK hb kA3 zA; replace kA4 := belK hb kA4 zA; replace zA := Nat.lt_of_lt_of_le zA hb.size
    replace kB0 := belK hb kB0 zB; replace kB1 := belK hb kB1 zB; replace kB2 := belK hb kB2 zB; replace kB3 := belK hb kB3 zB; replace kB4 := belK hb kB4 zB; replace zB := Nat.lt_of_lt_of_le zB hb.size
    replace kQ0 := belK hb kQ0 zQ; replace kQ1 := belK hb kQ1 zQ; replace kQ2 := belK hb kQ2 zQ; replace zQ := Nat.lt_of_lt_of_le zQ hb.size
    replace kC0 := belK hb kC0 zC; replace kC1 := belK hb kC1 zC; replace kC2 := belK hb kC2 zC; replace kC3 := belK hb kC3 zC; replace kC4 := belK hb kC4 zC; replace zC := Nat.lt_of_lt_of_le zC hb.size
    replace kD0 := belK hb kD0 zD; replace kD1 := belK hb kD1 zD; replace kD2 := belK hb kD2 zD; replace kD3 := belK hb kD3 zD; replace kD4 := belK hb kD4 zD; replace zD := Nat.lt_of_lt_of_le zD hb.size
    replace hBo := hBo.trans (hb.mono hBo.size)
    clear hb
    go_wp2_with fail
    obtain ⟨s11, hws⟩ : ∃ s, s = (s10.alloc (.cells #[.string p2.sh, .int .i64 p2.c, .int .i64 p2.r, .bool p2.fc, .bool p2.fr] 23)) := ⟨_, rfl⟩
    have hBs : Below w.heap.size w s11 := by rw [hws]; exact ((hBo).alloc (by exact hBo.size) _)
    obtain ⟨E, hdE⟩ : ∃ b, b = s10.heap.size := ⟨_, rfl⟩
    have hsz : s11.heap.size = s10.heap.size + 1 := by rw [hws]; simp
    have hQC : ∀ p v, s10.cell? p = some v → s11.cell? p = some v := fun p v h => by rw [hws]; exact (alK h)
    have hQZ : ∀ b, b < s10.heap.size → b < s11.heap.size := fun b h => by omega
    replace kA0 := hQC _ _ kA0; replace kA1 := hQC _ _ kA1; replace kA2 := hQC _ _ kA2; replace kA3 := hQC _ _ kA3; replace kA4 := hQC _ _ kA4; replace zA := hQZ _ zA
    replace kB0 := hQC _ _ kB0; replace kB1 := hQC _ _ kB1; replace kB2 := hQC _ _ kB2; replace kB3 := hQC _ _ kB3; replace kB4 := hQC _ _ kB4; replace zB := hQZ _ zB
    replace kQ0 := hQC _ _ kQ0; replace kQ1 := hQC _ _ kQ1; replace kQ2 := hQC _ _ kQ2; replace zQ := hQZ _ zQ
    replace kC0 := hQC _ _ kC0; replace kC1 := hQC _ _ kC1; replace kC2 := hQC _ _ kC2; replace kC3 := hQC _ _ kC3; replace kC4 := hQC _ _ kC4; replace zC := hQZ _ zC
    replace kD0 := hQC _ _ kD0; replace kD1 := hQC _ _ kD1; replace kD2 := hQC _ _ kD2; replace kD3 := hQC _ _ kD3; replace kD4 := hQC _ _ kD4; replace zD := hQZ _ zD
    clear hQC hQZ
    have kE0 : s11.cell? ⟨E, 0, none⟩ = some (.string p2.sh) := by rw [hws]; simp [go_sem, hdE]
    have kE1 : s11.cell? ⟨E, 1, none⟩ = some (.int .i64 p2.c) := by rw [hws]; simp [go_sem, hdE]
    have kE2 : s11.cell? ⟨E, 2, none⟩ = some (.int .i64 p2.r) := by rw [hws]; simp [go_sem, hdE]
    have kE3 : s11.cell? ⟨E, 3, none⟩ = some (.bool p2.fc) := by rw [hws]; simp [go_sem, hdE]
    have kE4 : s11.cell? ⟨E, 4, none⟩ = some (.bool p2.fr) := by rw [hws]; simp [go_sem, hdE]
    have zE : E < s11.heap.size := by omega
    have lE : w.heap.size ≤ E := by have := hBo.size; omega
    rw [← hws]
    try rw [← hdE]
    clear hBo
    clear hws hsz hdE
    have hBo := hBs; clear hBs
    refine (H4.out _).mono ?_; rintro e s12 ⟨rfl, hb⟩
    replace kA0 := belK hb kA0 zA; replace kA1 := belK hb kA1 zA; replace kA2 := belK hb kA2 zA; replace kA3 := belK hb kA3 zA; replace kA4 := belK hb kA4 zA; replace zA := Nat.lt_of_lt_of_le zA hb.size
    replace kB0 := belK hb kB0 zB; replace kB1 := belK hb kB1 zB; replace kB2 := belK hb kB2 zB; replace kB3 := belK hb kB3 zB; replace kB4 := belK hb kB4 zB; replace zB := Nat.lt_of_lt_of_le zB hb.size
    replace kQ0 := belK hb kQ0 zQ; replace kQ1 := belK hb kQ1 zQ; replace kQ2 := belK hb kQ2 zQ; replace zQ := Nat.lt_of_lt_of_le zQ hb.size
    replace kC0 := belK hb kC0 zC; replace kC1 := belK hb kC1 zC; replace kC2 := belK hb kC2 zC; replace kC3 := belK hb kC3 zC; replace kC4 := belK hb kC4 zC; replace zC := Nat.lt_of_lt_of_le zC hb.size
    replace kD0 := belK hb kD0 zD; replace kD1 := belK hb kD1 zD; replace kD2 := belK hb kD2 zD; replace kD3 := belK hb kD3 zD; replace kD4 := belK hb kD4 zD; replace zD := Nat.lt_of_lt_of_le zD hb.size
    replace kE0 := belK hb kE0 zE; replace kE1 := belK hb kE1 zE; replace kE2 := belK hb kE2 zE; replace kE3 := belK hb kE3 zE; replace kE4 := belK hb kE4 zE; replace zE := Nat.lt_of_lt_of_le zE hb.size
    replace hBo := hBo.trans (hb.mono hBo.size)
    clear hb
    go_wp2_with fail
    obtain ⟨s13, hws⟩ : ∃ s, s = (s12.alloc (.cells #[.string p2.sh, .int .i64 p2.c, .int .i64 p2.r, .bool p2.fc, .bool p2.fr] 23)) := ⟨_, rfl⟩
    have hBs : Below w.heap.size w s13 := by rw [hws]; exact ((hBo).alloc (by exact hBo.size) _)
    obtain ⟨G, hdG⟩ : ∃ b, b = s12.heap.size := ⟨_, rfl⟩
    have hsz : s13.heap.size = s12.heap.size + 1 := by rw [hws]; simp
    have hQC : ∀ p v, s12.cell? p = some v → s13.cell? p = some v := fun p v h => by rw [hws]; exact (alK h)
    have hQZ : ∀ b, b < s12.heap.size → b < s13.heap.size := fun b h => by omega
    replace kA0 := hQC _ _ kA0; replace kA1 := hQC _ _ kA1; replace kA2 := hQC _ _ kA2; replace kA3 := hQC _ _ kA3; replace kA4 := hQC _ _ kA4; replace zA := hQZ _ zA
    replace kB0 := hQC _ _ kB0; replace kB1 := hQC _ _ kB1; replace kB2 := hQC _ _ kB2; replace kB3 := hQC _ _ kB3; replace kB4 := hQC _ _ kB4; replace zB := hQZ _ zB
    replace kQ0 := hQC _ _ kQ0; replace kQ1 := hQC _ _ kQ1; replace kQ2 := hQC _ _ kQ2; replace zQ := hQZ _ zQ
    replace kC0 := hQC _ _ kC0; replace kC1 := hQC _ _ kC1; replace kC2 := hQC _ _ kC2; replace kC3 := hQC _ _ kC3; replace kC4 := hQC _ _ kC4; replace zC := hQZ _ zC
    replace kD0 := hQC _ _ kD0; replace kD1 := hQC _ _ kD1; replace kD2 := hQC _ _ kD2; replace kD3 := hQC _ _ kD3; replace kD4 := hQC _ _ kD4; replace zD := hQZ _ zD
    replace kE0 := hQC _ _ kE0; replace kE1 := hQC _ _ kE1; replace kE2 := hQC _ _ kE2; replace kE3 := hQC _ _ kE3; replace kE4 := hQC _ _ kE4; replace zE := hQZ _ zE
    clear hQC hQZ
    have kG0 : s13.cell? ⟨G, 0, none⟩ = some (.string p2.sh) := by rw [hws]; simp [go_sem, hdG]
    have kG1 : s13.cell? ⟨G, 1, none⟩ = some (.int .i64 p2.c) := by rw [hws]; simp [go_sem, hdG]
    have kG2 : s13.cell? ⟨G, 2, none⟩ = some (.int .i64 p2.r) := by rw [hws]; simp [go_sem, hdG]
    have kG3 : s13.cell? ⟨G, 3, none⟩ = some (.bool p2.fc) := by rw [hws]; simp [go_sem, hdG]
    have kG4 : s13.cell? ⟨G, 4, none⟩ = some (.bool p2.fr) := by rw [hws]; simp [go_sem, hdG]
    have zG : G < s13.heap.size := by omega
    have lG : w.heap.size ≤ G := by have := hBo.size; omega
    rw [← hws]
    try rw [← hdG]
    clear hBo
    clear hws hsz hdG
    have hBo := hBs; clear hBs
    refine (H5.out _).mono ?_; rintro e s14 ⟨rfl, hb⟩
    replace kA0 := belK hb kA0 zA; replace kA1 := belK hb kA1 zA; replace kA2 := belK hb kA2 zA; replace kA3 := belK hb kA3 zA; replace kA4 := belK hb kA4 zA; replace zA := Nat.lt_of_lt_of_le zA hb.size
    replace kB0 := belK hb kB0 zB; replace kB1 := belK hb kB1 zB; replace kB2 := belK hb kB2 zB; replace kB3 := belK hb kB3 zB; replace kB4 := belK hb kB4 zB; replace zB := Nat.lt_of_lt_of_le zB hb.size
    replace kQ0 := belK hb kQ0 zQ; replace kQ1 := belK hb kQ1 zQ; replace kQ2 := belK hb kQ2 zQ; replace zQ := Nat.lt_of_lt_of_le zQ hb.size
    replace kC0 := belK hb kC0 zC; replace kC1 := belK hb kC1 zC; replace kC2 := belK hb kC2 zC; replace kC3 := belK hb kC3 zC; replace kC4 := belK hb kC4 zC; replace zC := Nat.lt_of_lt_of_le zC hb.size
    replace kD0 := belK hb kD0 zD; replace kD1 := belK hb kD1 zD; replace kD2 := belK hb kD2 zD; replace kD3 := belK hb kD3 zD; replace kD4 := belK hb kD4 zD; replace zD := Nat.lt_of_lt_of_le zD hb.size
    replace kE0 := belK hb kE0 zE; replace kE1 := belK hb kE1 zE; replace kE2 := belK hb kE2 zE; replace kE3 := belK hb kE3 zE; replace kE4 := belK hb kE4 zE; replace zE := Nat.lt_of_lt_of_le zE hb.size
    replace kG0 := belK hb kG0 zG; replace kG1 := belK hb kG1 zG; replace kG2 := belK hb kG2 zG; replace kG3 := belK hb kG3 zG; replace kG4 := belK hb kG4 zG; replace zG := Nat.lt_of_lt_of_le zG hb.size
    replace hBo := hBo.trans (hb.mono hBo.size)
    clear hb
    go_wp2_with fail
    obtain ⟨s15, hws⟩ : ∃ s, s = ((s14.alloc (.cells #[.string p3.sh, .int .i64 p3.c, .int .i64 p3.r, .bool p3.fc, .bool p3.fr] 23)).alloc (.cells #[.string q3.sh, .int .i64 q3.c, .int .i64 q3.r, .bool q3.fc, .bool q3.fr] 23)) := ⟨_, rfl⟩
    have hBs : Below w.heap.size w s15 := by rw [hws]; exact (((hBo).alloc (by exact hBo.size) _).alloc (by have := hBo.size; simp; omega) _)
    obtain ⟨I, hdI⟩ : ∃ b, b = s14.heap.size := ⟨_, rfl⟩
    obtain ⟨J, hdJ⟩ : ∃ b, b = s14.heap.size + 1 := ⟨_, rfl⟩
    have hsz : s15.heap.size = s14.heap.size + 1 + 1 := by rw [hws]; simp
    have hQC : ∀ p v, s14.cell? p = some v → s15.cell? p = some v := fun p v h => by rw [hws]; exact (alK (alK h))
    have hQZ : ∀ b, b < s14.heap.size → b < s15.heap.size := fun b h => by omega
    replace kA0 := hQC _ _ kA0; replace kA1 := hQC _ _ kA1; replace kA2 := hQC _ _ kA2; replace kA3 := hQC _ _ kA3; replace kA4 := hQC _ _ kA4; replace zA := hQZ _ zA
    replace kB0 := hQC _ _ kB0; replace kB1 := hQC _ _ kB1; replace kB2 := hQC _ _ kB2; replace kB3 := hQC _ _ kB3; replace kB4 := hQC _ _ kB4; replace zB := hQZ _ zB
    replace kQ0 := hQC _ _ kQ0; replace kQ1 := hQC _ _ kQ1; replace kQ2 := hQC _ _ kQ2; replace zQ := hQZ _ zQ
    replace kC0 := hQC _ _ kC0; replace kC1 := hQC _ _ kC1; replace kC2 := hQC _ _ kC2; replace kC3 := hQC _ _ kC3; replace kC4 := hQC _ _ kC4; replace zC := hQZ _ zC
    replace kD0 := hQC _ _ kD0; replace kD1 := hQC _ _ kD1; replace kD2 := hQC _ _ kD2; replace kD3 := hQC _ _ kD3; replace kD4 := hQC _ _ kD4; replace zD := hQZ _ zD
    replace kE0 := hQC _ _ kE0; replace kE1 := hQC _ _ kE1; replace kE2 := hQC _ _ kE2; replace kE3 := hQC _ _ kE3; replace kE4 := hQC _ _ kE4; replace zE := hQZ _ zE
    replace kG0 := hQC _ _ kG0; replace kG1 := hQC _ _ kG1; replace kG2 := hQC _ _ kG2; replace kG3 := hQC _ _ kG3; replace kG4 := hQC _ _ kG4; replace zG := hQZ _ zG
    clear hQC hQZ
    have kI0 : s15.cell? ⟨I, 0, none⟩ = some (.string p3.sh) := by rw [hws]; simp [go_sem, hdI, hdJ]
    have kI1 : s15.cell? ⟨I, 1, none⟩ = some (.int .i64 p3.c) := by rw [hws]; simp [go_sem, hdI, hdJ]
    have kI2 : s15.cell? ⟨I, 2, none⟩ = some (.int .i64 p3.r) := by rw [hws]; simp [go_sem, hdI, hdJ]
    have kI3 : s15.cell? ⟨I, 3, none⟩ = some (.bool p3.fc) := by rw [hws]; simp [go_sem, hdI, hdJ]
    have kI4 : s15.cell? ⟨I, 4, none⟩ = some (.bool p3.fr) := by rw [hws]; simp [go_sem, hdI, hdJ]
    have zI : I < s15.heap.size := by omega
    have lI : w.heap.size ≤ I := by have := hBo.size; omega
    have kJ0 : s15.cell? ⟨J, 0, none⟩ = some (.string q3.sh) := by rw [hws]; simp [go_sem, hdI, hdJ]
    have kJ1 : s15.cell? ⟨J, 1, none⟩ = some (.int .i64 q3.c) := by rw [hws]; simp [go_sem, hdI, hdJ]
    have kJ2 : s15.cell? ⟨J, 2, none⟩ = some (.int .i64 q3.r) := by rw [hws]; simp [go_sem, hdI, hdJ]
    have kJ3 : s15.cell? ⟨J, 3, none⟩ = some (.bool q3.fc) := by rw [hws]; simp [go_sem, hdI, hdJ]
    have kJ4 : s15.cell? ⟨J, 4, none⟩ = some (.bool q3.fr) := by rw [hws]; simp [go_sem, hdI, hdJ]
    have zJ : J < s15.heap.size := by omega
    have lJ : w.heap.size ≤ J := by have := hBo.size; omega
    rw [← hws]
    try rw [← hdJ]
    try rw [← hdI]
    clear hBo
    clear hws hsz hdI hdJ
    have hBo := hBs; clear hBs
    refine (H6.out _).mono ?_; rintro e s16 ⟨rfl, hb⟩
    replace kA0 := belK hb kA0 zA; replace kA1 := belK hb kA1 zA; replace kA2 := belK hb kA2 zA; replace kA3 := belK hb kA3 zA; replace kA4 := belK hb kA4 zA; replace zA := Nat.lt_of_lt_of_le zA hb.size
    replace kB0 := belK hb kB0 zB; replace kB1 := belK hb kB1 zB; replace kB2 := belK hb kB2 zB; replace kB3 := belK hb kB3 zB; replace kB4 := belK hb kB4 zB; replace zB := Nat.lt_of_lt_of_le zB hb.size
    replace kQ0 := belK hb kQ0 zQ; replace kQ1 := belK hb kQ1 zQ; replace kQ2 := belK hb kQ2 zQ; replace zQ := Nat.lt_of_lt_of_le zQ hb.size
    replace kC0 := belK hb kC0 zC; replace kC1 := belK hb kC1 zC; replace kC2 := belK hb kC2 zC; replace kC3 := belK hb kC3 zC; replace kC4 := belK hb kC4 zC; replace zC := Nat.lt_of_lt_of_le zC hb.size
    replace kD0 := belK hb kD0 zD; replace kD1 := belK hb kD1 zD; replace kD2 := belK hb kD2 zD; replace kD3 := belK hb kD3 zD; replace kD4 := belK hb kD4 zD; replace zD := Nat.lt_of_lt_of_le zD hb.size
    replace kE0 := belK hb kE0 zE; replace kE1 := belK hb kE1 zE; replace kE2 := belK hb kE2 zE; replace kE3 := belK hb kE3 zE; replace kE4 := belK hb kE4 zE; replace zE := Nat.lt_of_lt_of_le zE hb.size
    replace kG0 := belK hb kG0 zG; replace kG1 := belK hb kG1 zG; replace kG2 := belK hb kG2 zG; replace kG3 := belK hb kG3 zG; replace kG4 := belK hb kG4 zG; replace zG := Nat.lt_of_lt_of_le zG hb.size
    replace kI0 := belK hb kI0 zI; replace kI1 := belK hb kI1 zI; replace kI2 := belK hb kI2 zI; replace kI3 := belK hb kI3 zI; replace kI4 := belK hb kI4 zI; replace zI := Nat.lt_of_lt_of_le zI hb.size
    replace kJ0 := belK hb kJ0 zJ; replace kJ1 := belK hb kJ1 zJ; replace kJ2 := belK hb kJ2 zJ; replace kJ3 := belK hb kJ3 zJ; replace kJ4 := belK hb kJ4 zJ; replace zJ := Nat.lt_of_lt_of_le zJ hb.size
    replace hBo := hBo.trans (hb.mono hBo.size)
    clear hb
    go_wp2_with fail
    obtain ⟨s17, hws⟩ : ∃ s, s = ((s16.alloc (.cells #[.string p3.sh, .int .i64 p3.c, .int .i64 p3.r, .bool p3.fc, .bool p3.fr] 23)).alloc (.cells #[.string q3.sh, .int .i64 q3.c, .int .i64 q3.r, .bool q3.fc, .bool q3.fr] 23)) := ⟨_, rfl⟩
    have hBs : Below w.heap.size w s17 := by rw [hws]; exact (((hBo).alloc (by exact hBo.size) _).alloc (by have := hBo.size; simp; omega) _)
    obtain ⟨L, hdL⟩ : ∃ b, b = s16.heap.size := ⟨_, rfl⟩
    obtain ⟨M, hdM⟩ : ∃ b, b = s16.heap.size + 1 := ⟨_, rfl⟩
    have hsz : s17.heap.size = s16.heap.size + 1 + 1 := by rw [hws]; simp
    have hQC : ∀ p v, s16.cell? p = some v → s17.cell? p = some v := fun p v h => by rw [hws]; exact (alK (alK h))
    have hQZ : ∀ b, b < s16.heap.size → b < s17.heap.size := fun b h => by omega
    replace kA0 := hQC _ _ kA0; replace kA1 := hQC _ _ kA1; replace kA2 := hQC _ _ kA2; replace kA3 := hQC _ _ kA3; replace kA4 := hQC _ _ kA4; replace zA := hQZ _ zA
    replace kB0 := hQC _ _ kB0; replace kB1 := hQC _ _ kB1; replace kB2 := hQC _ _ kB2; replace kB3 := hQC _ _ kB3; replace kB4 := hQC _ _ kB4; replace zB := hQZ _ zB
    replace kQ0 := hQC _ _ kQ0; replace kQ1 := hQC _ _ kQ1; replace kQ2 := hQC _ _ kQ2; replace zQ := hQZ _ zQ
    replace kC0 := hQC _ _ kC0; replace kC1 := hQC _ _ kC1; replace kC2 := hQC _ _ kC2; replace kC3 := hQC _ _ kC3; replace kC4 := hQC _ _ kC4; replace zC := hQZ _ zC
    replace kD0 := hQC _ _ kD0; replace kD1 := hQC _ _ kD1; replace kD2 := hQC _ _ kD2; replace kD3 := hQC _ _ kD3; replace kD4 := hQC _ _ kD4; replace zD := hQZ _ zD
    replace kE0 := hQC _ _ kE0; replace kE1 := hQC _ _ kE1; replace kE2 := hQC _ _ kE2; replace kE3 := hQC _ _ kE3; replace kE4 := hQC _ _ kE4; replace zE := hQZ _ zE
    replace kG0 := hQC _ _ kG0; replace kG1 := hQC _ _ kG1; replace kG2 := hQC _ _ kG2; replace kG3 := hQC _ _ kG3; replace kG4 := hQC _ _ kG4; replace zG := hQZ _ zG
    replace kI0 := hQC _ _ kI0; replace kI1 := hQC _ _ kI1; replace kI2 := hQC _ _ kI2; replace kI3 := hQC _ _ kI3; replace kI4 := hQC _ _ kI4; replace zI := hQZ _ zI
    replace kJ0 := hQC _ _ kJ0; replace kJ1 := hQC _ _ kJ1; replace kJ2 := hQC _ _ kJ2; replace kJ3 := hQC _ _ kJ3; replace kJ4 := hQC _ _ kJ4; replace zJ := hQZ _ zJ
    clear hQC hQZ
    have kL0 : s17.cell? ⟨L, 0, none⟩ = some (.string p3.sh) := by rw [hws]; simp [go_sem, hdL, hdM]
    have kL1 : s17.cell? ⟨L, 1, none⟩ = some (.int .i64 p3.c) := by rw [hws]; simp [go_sem, hdL, hdM]
    have kL2 : s17.cell? ⟨L, 2, none⟩ = some (.int .i64 p3.r) := by rw [hws]; simp [go_sem, hdL, hdM]
    have kL3 : s17.cell? ⟨L, 3, none⟩ = some (.bool p3.fc) := by rw [hws]; simp [go_sem, hdL, hdM]
    have kL4 : s17.cell? ⟨L, 4, none⟩ = some (.bool p3.fr) := by rw [hws]; simp [go_sem, hdL, hdM]
    have zL : L < s17.heap.size := by omega
    have lL : w.heap.size ≤ L := by have := hBo.size; omega
    have kM0 : s17.cell? ⟨M, 0, none⟩ = some (.string q3.sh) := by rw [hws]; simp [go_sem, hdL, hdM]
    have kM1 : s17.cell? ⟨M, 1, none⟩ = some (.int .i64 q3.c) := by rw [hws]; simp [go_sem, hdL, hdM]
    have kM2 : s17.cell? ⟨M, 2, none⟩ = some (.int .i64 q3.r) := by rw [hws]; simp [go_sem, hdL, hdM]
    have kM3 : s17.cell? ⟨M, 3, none⟩ = some (.bool q3.fc) := by rw [hws]; simp [go_sem, hdL, hdM]
    have kM4 : s17.cell? ⟨M, 4, none⟩ = some (.bool q3.fr) := by rw [hws]; simp [go_sem, hdL, hdM]
    have zM : M < s17.heap.size := by omega
    have lM : w.heap.size ≤ M := by have := hBo.size; omega
    rw [← hws]
    try rw [← hdM]
    try rw [← hdL]
    clear hBo
    clear hws hsz hdL hdM
    have hBo := hBs; clear hBs
    refine (H7.out _).mono ?_; rintro e s18 ⟨rfl, hb⟩
    replace kA0 := belK hb kA0 zA; replace kA1 := belK hb kA1 zA; replace kA2 := belK hb kA2 zA; replace kA3 := belK hb kA3 zA; replace kA4 := belK hb kA4 zA; replace zA := Nat.lt_of_lt_of_le zA hb.size
    replace kB0 := belK hb kB0 zB; replace kB1 := belK hb kB1 zB; replace kB2 := belK hb kB2 zB; replace kB3 := belK hb kB3 zB; replace kB4 := belK hb kB4 zB; replace zB := Nat.lt_of_lt_of_le zB hb.size
    replace kQ0 := belK hb kQ0 zQ; replace kQ1 := belK hb kQ1 zQ; replace kQ2 := belK hb kQ2 zQ; replace zQ := Nat.lt_of_lt_of_le zQ hb.size
    replace kC0 := belK hb kC0 zC; replace kC1 := belK hb kC1 zC; replace kC2 := belK hb kC2 zC; replace kC3 := belK hb kC3 zC; replace kC4 := belK hb kC4 zC; replace zC := Nat.lt_of_lt_of_le zC hb.size
    replace kD0 := belK hb kD0 zD; replace kD1 := belK hb kD1 zD; replace kD2 := belK hb kD2 zD; replace kD3 := belK hb kD3 zD; replace kD4 := belK hb kD4 zD; replace zD := Nat.lt_of_lt_of_le zD hb.size
    replace kE0 := belK hb kE0 zE; replace kE1 := belK hb kE1 zE; replace kE2 := belK hb kE2 zE; replace kE3 := belK hb kE3 zE; replace kE4 := belK hb kE4 zE; replace zE := Nat.lt_of_lt_of_le zE hb.size
    replace kG0 := belK hb kG0 zG; replace kG1 := belK hb kG1 zG; replace kG2 := belK hb kG2 zG; replace kG3 := belK hb kG3 zG; replace kG4 := belK hb kG4 zG; replace zG := Nat.lt_of_lt_of_le zG hb.size
    replace kI0 := belK hb kI0 zI; replace kI1 := belK hb kI1 zI; replace kI2 := belK hb kI2 zI; replace kI3 := belK hb kI3 zI; replace kI4 := belK hb kI4 zI; replace zI := Nat.lt_of_lt_of_le zI hb.size
    replace kJ0 := belK hb kJ0 zJ; replace kJ1 := belK hb kJ1 zJ; replace kJ2 := belK hb kJ2 zJ; replace kJ3 := belK hb kJ3 zJ; replace kJ4 := belK hb kJ4 zJ; replace zJ := Nat.lt_of_lt_of_le zJ hb.size
    replace kL0 := belK hb kL0 zL; replace kL1 := belK hb kL1 zL; replace kL2 := belK hb kL2 zL; replace kL3 := belK hb kL3 zL; replace kL4 := belK hb kL4 zL; replace zL := Nat.lt_of_lt_of_le zL hb.size
    replace kM0 := belK hb kM0 zM; replace kM1 := belK hb kM1 zM; replace kM2 := belK hb kM2 zM; replace kM3 := belK hb kM3 zM; replace kM4 := belK hb kM4 zM; replace zM := Nat.lt_of_lt_of_le zM hb.size
    replace hBo := hBo.trans (hb.mono hBo.size)
    clear hb
    go_wp2_with fail
    obtain ⟨s19, hws⟩ : ∃ s, s = ((s18.alloc (.cells #[.string p4.sh, .int .i64 p4.c, .int .i64 p4.r, .bool p4.fc, .bool p4.fr] 23)).alloc (.cells #[.string q4.sh, .int .i64 q4.c, .int .i64 q4.r, .bool q4.fc, .bool q4.fr] 23)) := ⟨_, rfl⟩
    have hBs : Below w.heap.size w s19 := by rw [hws]; exact (((hBo).alloc (by exact hBo.size) _).alloc (by have := hBo.size; simp; omega) _)
    obtain ⟨R, hdR⟩ : ∃ b, b = s18.heap.size := ⟨_, rfl⟩
    obtain ⟨S, hdS⟩ : ∃ b, b = s18.heap.size + 1 := ⟨_, rfl⟩
    have hsz : s19.heap.size = s18.heap.size + 1 + 1 := by rw [hws]; simp
    have hQC : ∀ p v, s18.cell? p = some v → s19.cell? p = some v := fun p v h => by rw [hws]; exact (alK (alK h))
    have hQZ : ∀ b, b < s18.heap.size → b < s19.heap.size := fun b h => by omega
    replace kA0 := hQC _ _ kA0; replace kA1 := hQC _ _ kA1; replace kA2 := hQC _ _ kA2; replace kA3 := hQC _ _ kA3; replace kA4 := hQC _ _ kA4; replace zA := hQZ _ zA
    replace kB0 := hQC _ _ kB0; replace kB1 := hQC _ _ kB1; replace kB2 := hQC _ _ kB2; replace kB3 := hQC _ _ kB3; replace kB4 := hQC _ _ kB4; replace zB := hQZ _ zB
    replace kQ0 := hQC _ _ kQ0; replace kQ1 := hQC _ _ kQ1; replace kQ2 := hQC _ _ kQ2; replace zQ := hQZ _ zQ
    replace kC0 := hQC _ _ kC0; replace kC1 := hQC _ _ kC1; replace kC2 := hQC _ _ kC2; replace kC3 := hQC _ _ kC3; replace kC4 := hQC _ _ kC4; replace zC := hQZ _ zC
    replace kD0 := hQC _ _ kD0; replace kD1 := hQC _ _ kD1; replace kD2 := hQC _ _ kD2; replace kD3 := hQC _ _ kD3; replace kD4 := hQC _ _ kD4; replace zD := hQZ _ zD
    replace kE0 := hQC _ _ kE0; replace kE1 := hQC _ _ kE1; replace kE2 := hQC _ _ kE2; replace kE3 := hQC _ _ kE3; replace kE4 := hQC _ _ kE4; replace zE := hQZ _ zE
    replace kG0 := hQC _ _ kG0; replace kG1 := hQC _ _ kG1; replace kG2 := hQC _ _ kG2; replace kG3 := hQC _ _ kG3; replace kG4 := hQC _ _ kG4; replace zG := hQZ _ zG
    replace kI0 := hQC _ _ kI0; replace kI1 := hQC _ _ kI1; replace kI2 := hQC _ _ kI2; replace kI3 := hQC _ _ kI3; replace kI4 := hQC _ _ kI4; replace zI := hQZ _ zI
    replace kJ0 := hQC _ _ kJ0; replace kJ1 := hQC _ _ kJ1; replace kJ2 := hQC _ _ kJ2; replace kJ3 := hQC _ _ kJ3; replace kJ4 := hQC _ _ kJ4; replace zJ := hQZ _ zJ
    replace kL0 := hQC _ _ kL0; replace kL1 := hQC _ _ kL1; replace kL2 := hQC _ _ kL2; replace kL3 := hQC _ _ kL3; replace kL4 := hQC _ _ kL4; replace zL := hQZ _ zL
    replace kM0 := hQC _ _ kM0; replace kM1 := hQC _ _ kM1; replace kM2 := hQC _ _ kM2; replace kM3 := hQC _ _ kM3; replace kM4 := hQC _ _ kM4; replace zM := hQZ _ zM
    clear hQC hQZ
    have kR0 : s19.cell? ⟨R, 0, none⟩ = some (.string p4.sh) := by rw [hws]; simp [go_sem, hdR, hdS]
    have kR1 : s19.cell? ⟨R, 1, none⟩ = some (.int .i64 p4.c) := by rw [hws]; simp [go_sem, hdR, hdS]
    have kR2 : s19.cell? ⟨R, 2, none⟩ = some (.int .i64 p4.r) := by rw [hws]; simp [go_sem, hdR, hdS]
    have kR3 : s19.cell? ⟨R, 3, none⟩ = some (.bool p4.fc) := by rw [hws]; simp [go_sem, hdR, hdS]
    have kR4 : s19.cell? ⟨R, 4, none⟩ = some (.bool p4.fr) := by rw [hws]; simp [go_sem, hdR, hdS]
    have zR : R < s19.heap.size := by omega
    have lR : w.heap.size ≤ R := by have := hBo.size; omega
    have kS0 : s19.cell? ⟨S, 0, none⟩ = some (.string q4.sh) := by rw [hws]; simp [go_sem, hdR, hdS]
    have kS1 : s19.cell? ⟨S, 1, none⟩ = some (.int .i64 q4.c) := by rw [hws]; simp [go_sem, hdR, hdS]
    have kS2 : s19.cell? ⟨S, 2, none⟩ = some (.int .i64 q4.r) := by rw [hws]; simp [go_sem, hdR, hdS]
    have kS3 : s19.cell? ⟨S, 3, none⟩ = some (.bool q4.fc) := by rw [hws]; simp [go_sem, hdR, hdS]
    have kS4 : s19.cell? ⟨S, 4, none⟩ = some (.bool q4.fr) := by rw [hws]; simp [go_sem, hdR, hdS]
    have zS : S < s19.heap.size := by omega
    have lS : w.heap.size ≤ S := by have := hBo.size; omega
    rw [← hws]
    try rw [← hdS]
    try rw [← hdR]
    clear hBo
    clear hws hsz hdR hdS
    have hBo := hBs; clear hBs
    refine (H8.out _).mono ?_; rintro e s20 ⟨rfl, hb⟩
    replace kA0 := belK hb kA0 zA; replace kA1 := belK hb kA1 zA; replace kA2 := belK hb kA2 zA; replace kA3 := belK hb kA3 zA; replace kA4 := belK hb kA4 zA; replace zA := Nat.lt_of_lt_of_le zA hb.size
    replace kB0 := belK hb kB0 zB; replace kB1 := belK hb kB1 zB; replace kB2 := belK hb kB2 zB; replace kB3 := belK hb kB3 zB; replace kB4 := belK hb kB4 zB; replace zB := Nat.lt_of_lt_of_le zB hb.size
    replace kQ0 := belK hb kQ0 zQ; replace kQ1 := belK hb kQ1 zQ; replace kQ2 := belK hb kQ2 zQ; replace zQ := Nat.lt_of_lt_of_le zQ hb.size
    replace kC0 := belK hb kC0 zC; replace kC1 := belK hb kC1 zC; replace kC2 := belK hb kC2 zC; replace kC3 := belK hb kC3 zC; replace kC4 := belK hb kC4 zC; replace zC := Nat.lt_of_lt_of_le zC hb.size
    replace kD0 := belK hb kD0 zD; replace kD1 := belK hb kD1 zD; replace kD2 := belK hb kD2 zD; replace kD3 := belK hb kD3 zD; replace kD4 := belK hb kD4 zD; replace zD := Nat.lt_of_lt_of_le zD hb.size
    replace kE0 := belK hb kE0 zE; replace kE1 := belK hb kE1 zE; replace kE2 := belK hb kE2 zE; replace kE3 := belK hb kE3 zE; replace kE4 := belK hb kE4 zE; replace zE := Nat.lt_of_lt_of_le zE hb.size
    replace kG0 := belK hb kG0 zG; replace kG1 := belK hb kG1 zG; replace kG2 := belK hb kG2 zG; replace kG3 := belK hb kG3 zG; replace kG4 := belK hb kG4 zG; replace zG := Nat.lt_of_lt_of_le zG hb.size
    replace kI0 := belK hb kI0 zI; replace kI1 := belK hb kI1 zI; replace kI2 := belK hb kI2 zI; replace kI3 := belK hb kI3 zI; replace kI4 := belK hb kI4 zI; replace zI := Nat.lt_of_lt_of_le zI hb.size
    replace kJ0 := belK hb kJ0 zJ; replace kJ1 := belK hb kJ1 zJ; replace kJ2 := belK hb kJ2 zJ; replace kJ3 := belK hb kJ3 zJ; replace kJ4 := belK hb kJ4 zJ; replace zJ := Nat.lt_of_lt_of_le zJ hb.size
    replace kL0 := belK hb kL0 zL; replace kL1 := belK hb kL1 zL; replace kL2 := belK hb kL2 zL; replace kL3 := belK hb kL3 zL; replace kL4 := belK hb kL4 zL; replace zL := Nat.lt_of_lt_of_le zL hb.size
    replace kM0 := belK hb kM0 zM; replace kM1 := belK hb kM1 zM; replace kM2 := belK hb kM2 zM; replace kM3 := belK hb kM3 zM; replace kM4 := belK hb kM4 zM; replace zM := Nat.lt_of_lt_of_le zM hb.size
    replace kR0 := belK hb kR0 zR; replace kR1 := belK hb kR1 zR; replace kR2 := belK hb kR2 zR; replace kR3 := belK hb kR3 zR; replace kR4 := belK hb kR4 zR; replace zR := Nat.lt_of_lt_of_le zR hb.size
    replace kS0 := belK hb kS0 zS; replace kS1 := belK hb kS1 zS; replace kS2 := belK hb kS2 zS; replace kS3 := belK hb kS3 zS; replace kS4 := belK hb kS4 zS; replace zS := Nat.lt_of_lt_of_le zS hb.size
    replace hBo := hBo.trans (hb.mono hBo.size)
    clear hb
    go_wp2_with fail
    obtain ⟨s21, hws⟩ : ∃ s, s = ((s20.alloc (.cells #[.string p4.sh, .int .i64 p4.c, .int .i64 p4.r, .bool p4.fc, .bool p4.fr] 23)).alloc (.cells #[.string q4.sh, .int .i64 q4.c, .int .i64 q4.r, .bool q4.fc, .bool q4.fr] 23)) := ⟨_, rfl⟩
    have hBs : Below w.heap.size w s21 := by rw [hws]; exact (((hBo).alloc (by exact hBo.size) _).alloc (by have := hBo.size; simp; omega) _)
    obtain ⟨U, hdU⟩ : ∃ b, b = s20.heap.size := ⟨_, rfl⟩
    obtain ⟨V, hdV⟩ : ∃ b, b = s20.heap.size + 1 := ⟨_, rfl⟩
    have hsz : s21.heap.size = s20.heap.size + 1 + 1 := by rw [hws]; simp
    have hQC : ∀ p v, s20.cell? p = some v → s21.cell? p = some v := fun p v h => by rw [hws]; exact (alK (alK h))
    have hQZ : ∀ b, b < s20.heap.size → b < s21.heap.size := fun b h => by omega
    replace kA0 := hQC _ _ kA0; replace kA1 := hQC _ _ kA1; replace kA2 := hQC _ _ kA2; replace kA3 := hQC _ _ kA3; replace kA4 := hQC _ _ kA4; replace zA := hQZ _ zA
    replace kB0 := hQC _ _ kB0; replace kB1 := hQC _ _ kB1; replace kB2 := hQC _ _ kB2; replace kB3 := hQC _ _ kB3; replace kB4 := hQC _ _ kB4; replace zB := hQZ _ zB
    replace kQ0 := hQC _ _ kQ0; replace kQ1 := hQC _ _ kQ1; replace kQ2 := hQC _ _ kQ2; replace zQ := hQZ _ zQ
    replace kC0 := hQC _ _ kC0; replace kC1 := hQC _ _ kC1; replace kC2 := hQC _ _ kC2; replace kC3 := hQC _ _ kC3; replace kC4 := hQC _ _ kC4; replace zC := hQZ _ zC
    replace kD0 := hQC _ _ kD0; replace kD1 := hQC _ _ kD1; replace kD2 := hQC _ _ kD2; replace kD3 := hQC _ _ kD3; replace kD4 := hQC _ _ kD4; replace zD := hQZ _ zD
    replace kE0 := hQC _ _ kE0; replace kE1 := hQC _ _ kE1; replace kE2 := hQC _ _ kE2; replace kE3 := hQC _ _ kE3; replace kE4 := hQC _ _ kE4; replace zE := hQZ _ zE
    replace kG0 := hQC _ _ kG0; replace kG1 := hQC _ _ kG1; replace kG2 := hQC _ _ kG2; replace kG3 := hQC _ _ kG3; replace kG4 := hQC _ _ kG4; replace zG := hQZ _ zG
    replace kI0 := hQC _ _ kI0; replace kI1 := hQC _ _ kI1; replace kI2 := hQC _ _ kI2; replace kI3 := hQC _ _ kI3; replace kI4 := hQC _ _ kI4; replace zI := hQZ _ zI
    replace kJ0 := hQC _ _ kJ0; replace kJ1 := hQC _ _ kJ1; replace kJ2 := hQC _ _ kJ2; replace kJ3 := hQC _ _ kJ3; replace kJ4 := hQC _ _ kJ4; replace zJ := hQZ _ zJ
    replace kL0 := hQC _ _ kL0; replace kL1 := hQC _ _ kL1; replace kL2 := hQC _ _ kL2; replace kL3 := hQC _ _ kL3; replace kL4 := hQC _ _ kL4; replace zL := hQZ _ zL
    replace kM0 := hQC _ _ kM0; replace kM1 := hQC _ _ kM1; replace kM2 := hQC _ _ kM2; replace kM3 := hQC _ _ kM3; replace kM4 := hQC _ _ kM4; replace zM := hQZ _ zM
    replace kR0 := hQC _ _ kR0; replace kR1 := hQC _ _ kR1; replace kR2 := hQC _ _ kR2; replace kR3 := hQC _ _ kR3; replace kR4 := hQC _ _ kR4; replace zR := hQZ _ zR
    replace kS0 := hQC _ _ kS0; replace kS1 := hQC _ _ kS1; replace kS2 := hQC _ _ kS2; replace kS3 := hQC _ _ kS3; replace kS4 := hQC _ _ kS4; replace zS := hQZ _ zS
    clear hQC hQZ
    have kU0 : s21.cell? ⟨U, 0, none⟩ = some (.string p4.sh) := by rw [hws]; simp [go_sem, hdU, hdV]
    have kU1 : s21.cell? ⟨U, 1, none⟩ = some (.int .i64 p4.c) := by rw [hws]; simp [go_sem, hdU, hdV]
    have kU2 : s21.cell? ⟨U, 2, none⟩ = some (.int .i64 p4.r) := by rw [hws]; simp [go_sem, hdU, hdV]
    have kU3 : s21.cell? ⟨U, 3, none⟩ = some (.bool p4.fc) := by rw [hws]; simp [go_sem, hdU, hdV]
    have kU4 : s21.cell? ⟨U, 4, none⟩ = some (.bool p4.fr) := by rw [hws]; simp [go_sem, hdU, hdV]
    have zU : U < s21.heap.size := by omega
    have lU : w.heap.size ≤ U := by have := hBo.size; omega
    have kV0 : s21.cell? ⟨V, 0, none⟩ = some (.string q4.sh) := by rw [hws]; simp [go_sem, hdU, hdV]
    have kV1 : s21.cell? ⟨V, 1, none⟩ = some (.int .i64 q4.c) := by rw [hws]; simp [go_sem, hdU, hdV]
    have kV2 : s21.cell? ⟨V, 2, none⟩ = some (.int .i64 q4.r) := by rw [hws]; simp [go_sem, hdU, hdV]
    have kV3 : s21.cell? ⟨V, 3, none⟩ = some (.bool q4.fc) := by rw [hws]; simp [go_sem, hdU, hdV]
    have kV4 : s21.cell? ⟨V, 4, none⟩ = some (.bool q4.fr) := by rw [hws]; simp [go_sem, hdU, hdV]
    have zV : V < s21.heap.size := by omega
    have lV : w.heap.size ≤ V := by have := hBo.size; omega
    rw [← hws]
    try rw [← hdV]
    try rw [← hdU]
    clear hBo
    clear hws hsz hdU hdV
    have hBo := hBs; clear hBs
    refine (H9.out _).mono ?_; rintro e s22 ⟨rfl, hb⟩
    replace kA0 := belK hb kA0 zA; replace kA1 := belK hb kA1 zA; replace kA2 := belK hb kA2 zA; replace kA3 := belK hb kA3 zA; replace kA4 := belK hb kA4 zA; replace zA := Nat.lt_of_lt_of_le zA hb.size
    replace kB0 := belK hb kB0 zB; replace kB1 := belK hb kB1 zB; replace kB2 := belK hb kB2 zB; replace kB3 := belK hb kB3 zB; replace kB4 := belK hb kB4 zB; replace zB := Nat.lt_of_lt_of_le zB hb.size
    replace kQ0 := belK hb kQ0 zQ; replace kQ1 := belK hb kQ1 zQ; replace kQ2 := belK hb kQ2 zQ; replace zQ := Nat.lt_of_lt_of_le zQ hb.size
    replace kC0 := belK hb kC0 zC; replace kC1 := belK hb kC1 zC; replace kC2 := belK hb kC2 zC; replace kC3 := belK hb kC3 zC; replace kC4 := belK hb kC4 zC; replace zC := Nat.lt_of_lt_of_le zC hb.size
    replace kD0 := belK hb kD0 zD; replace kD1 := belK hb kD1 zD; replace kD2 := belK hb kD2 zD; replace kD3 := belK hb kD3 zD; replace kD4 := belK hb kD4 zD; replace zD := Nat.lt_of_lt_of_le zD hb.size
    replace kE0 := belK hb kE0 zE; replace kE1 := belK hb kE1 zE; replace kE2 := belK hb kE2 zE; replace kE3 := belK hb kE3 zE; replace kE4 := belK hb kE4 zE; replace zE := Nat.lt_of_lt_of_le zE hb.size
    replace kG0 := belK hb kG0 zG; replace kG1 := belK hb kG1 zG; replace kG2 := belK hb kG2 zG; replace kG3 := belK hb kG3 zG; replace kG4 := belK hb kG4 zG; replace zG := Nat.lt_of_lt_of_le zG hb.size
    replace kI0 := belK hb kI0 zI; replace kI1 := belK hb kI1 zI; replace kI2 := belK hb kI2 zI; replace kI3 := belK hb kI3 zI; replace kI4 := belK hb kI4 zI; replace zI := Nat.lt_of_lt_of_le zI hb.size
    replace kJ0 := belK hb kJ0 zJ; replace kJ1 := belK hb kJ1 zJ; replace kJ2 := belK hb kJ2 zJ; replace kJ3 := belK hb kJ3 zJ; replace kJ4 := belK hb kJ4 zJ; replace zJ := Nat.lt_of_lt_of_le zJ hb.size
    replace kL0 := belK hb kL0 zL; replace kL1 := belK hb kL1 zL; replace kL2 := belK hb kL2 zL; replace kL3 := belK hb kL3 zL; replace kL4 := belK hb kL4 zL; replace zL := Nat.lt_of_lt_of_le zL hb.size
    replace kM0 := belK hb kM0 zM; replace kM1 := belK hb kM1 zM; replace kM2 := belK hb kM2 zM; replace kM3 := belK hb kM3 zM; replace kM4 := belK hb kM4 zM; replace zM := Nat.lt_of_lt_of_le zM hb.size
    replace kR0 := belK hb kR0 zR; replace kR1 := belK hb kR1 zR; replace kR2 := belK hb kR2 zR; replace kR3 := belK hb kR3 zR; replace kR4 := belK hb kR4 zR; replace zR := Nat.lt_of_lt_of_le zR hb.size
    replace kS0 := belK hb kS0 zS; replace kS1 := belK hb kS1 zS; replace kS2 := belK hb kS2 zS; replace kS3 := belK hb kS3 zS; replace kS4 := belK hb kS4 zS; replace zS := Nat.lt_of_lt_of_le zS hb.size
    replace kU0 := belK hb kU0 zU; replace kU1 := belK hb kU1 zU; replace kU2 := belK hb kU2 zU; replace kU3 := belK hb kU3 zU; replace kU4 := belK hb kU4 zU; replace zU := Nat.lt_of_lt_of_le zU hb.size
    replace kV0 := belK hb kV0 zV; replace kV1 := belK hb kV1 zV; replace kV2 := belK hb kV2 zV; replace kV3 := belK hb kV3 zV; replace kV4 := belK hb kV4 zV; replace zV := Nat.lt_of_lt_of_le zV hb.size
    replace hBo := hBo.trans (hb.mono hBo.size)
    clear hb
    go_wp2_with fail
    obtain ⟨s23, hws⟩ : ∃ s, s = (s22.alloc (.cells #[.string a.sh, .int .i64 a.c, .int .i64 a.r, .bool a.fc, .bool a.fr] 23)) := ⟨_, rfl⟩
    have hBs : Below w.heap.size w s23 := by rw [hws]; exact ((hBo).alloc (by exact hBo.size) _)
    obtain ⟨X, hdX⟩ : ∃ b, b = s22.heap.size := ⟨_, rfl⟩
    have hsz : s23.heap.size = s22.heap.size + 1 := by rw [hws]; simp
    have hQC : ∀ p v, s22.cell? p = some v → s23.cell? p = some v := fun p v h => by rw [hws]; exact (alK h)
    have hQZ : ∀ b, b < s22.heap.size → b < s23.heap.size := fun b h => by omega
    replace kA0 := hQC _ _ kA0; replace kA1 := hQC _ _ kA1; replace kA2 := hQC _ _ kA2; replace kA3 := hQC _ _ kA3; replace kA4 := hQC _ _ kA4; replace zA := hQZ _ zA
    replace kB0 := hQC _ _ kB0; replace kB1 := hQC _ _ kB1; replace kB2 := hQC _ _ kB2; replace kB3 := hQC _ _ kB3; replace kB4 := hQC _ _ kB4; replace zB := hQZ _ zB
    replace kQ0 := hQC _ _ kQ0; replace kQ1 := hQC _ _ kQ1; replace kQ2 := hQC _ _ kQ2; replace zQ := hQZ _ zQ
    replace kC0 := hQC _ _ kC0; replace kC1 := hQC _ _ kC1; replace kC2 := hQC _ _ kC2; replace kC3 := hQC _ _ kC3; replace kC4 := hQC _ _ kC4; replace zC := hQZ _ zC
    replace kD0 := hQC _ _ kD0; replace kD1 := hQC _ _ kD1; replace kD2 := hQC _ _ kD2; replace kD3 := hQC _ _ kD3; replace kD4 := hQC _ _ kD4; replace zD := hQZ _ zD
    replace kE0 := hQC _ _ kE0; replace kE1 := hQC _ _ kE1; replace kE2 := hQC _ _ kE2; replace kE3 := hQC _ _ kE3; replace kE4 := hQC _ _ kE4; replace zE := hQZ _ zE
    replace kG0 := hQC _ _ kG0; replace kG1 := hQC _ _ kG1; replace kG2 := hQC _ _ kG2; replace kG3 := hQC _ _ kG3; replace kG4 := hQC _ _ kG4; replace zG := hQZ _ zG
    replace kI0 := hQC _ _ kI0; replace kI1 := hQC _ _ kI1; replace kI2 := hQC _ _ kI2; replace kI3 := hQC _ _ kI3; replace kI4 := hQC _ _ kI4; replace zI := hQZ _ zI
    replace kJ0 := hQC _ _ kJ0; replace kJ1 := hQC _ _ kJ1; replace kJ2 := hQC _ _ kJ2; replace kJ3 := hQC _ _ kJ3; replace kJ4 := hQC _ _ kJ4; replace zJ := hQZ _ zJ
    replace kL0 := hQC _ _ kL0; replace kL1 := hQC _ _ kL1; replace kL2 := hQC _ _ kL2; replace kL3 := hQC _ _ kL3; replace kL4 := hQC _ _ kL4; replace zL := hQZ _ zL
    replace kM0 := hQC _ _ kM0; replace kM1 := hQC _ _ kM1; replace kM2 := hQC _ _ kM2; replace kM3 := hQC _ _ kM3; replace kM4 := hQC _ _ kM4; replace zM := hQZ _ zM
    replace kR0 := hQC _ _ kR0; replace kR1 := hQC _ _ kR1; replace kR2 := hQC _ _ kR2; replace kR3 := hQC _ _ kR3; replace kR4 := hQC _ _ kR4; replace zR := hQZ _ zR
    replace kS0 := hQC _ _ kS0; replace kS1 := hQC _ _ kS1; replace kS2 := hQC _ _ kS2; replace kS3 := hQC _ _ kS3; replace kS4 := hQC _ _ kS4; replace zS := hQZ _ zS
    replace kU0 := hQC _ _ kU0; replace kU1 := hQC _ _ kU1; replace kU2 := hQC _ _ kU2; replace kU3 := hQC _ _ kU3; replace kU4 := hQC _ _ kU4; replace zU := hQZ _ zU
    replace kV0 := hQC _ _ kV0; replace kV1 := hQC _ _ kV1; replace kV2 := hQC _ _ kV2; replace kV3 := hQC _ _ kV3; replace kV4 := hQC _ _ kV4; replace zV := hQZ _ zV
    clear hQC hQZ
    have kX0 : s23.cell? ⟨X, 0, none⟩ = some (.string a.sh) := by rw [hws]; simp [go_sem, hdX]
    have kX1 : s23.cell? ⟨X, 1, none⟩ = some (.int .i64 a.c) := by rw [hws]; simp [go_sem, hdX]
    have kX2 : s23.cell? ⟨X, 2, none⟩ = some (.int .i64 a.r) := by rw [hws]; simp [go_sem, hdX]
    have kX3 : s23.cell? ⟨X, 3, none⟩ = some (.bool a.fc) := by rw [hws]; simp [go_sem, hdX]
    have kX4 : s23.cell? ⟨X, 4, none⟩ = some (.bool a.fr) := by rw [hws]; simp [go_sem, hdX]
    have zX : X < s23.heap.size := by omega
    have lX : w.heap.size ≤ X := by have := hBo.size; omega
    rw [← hws]
    try rw [← hdX]
    clear hBo
    clear hws hsz hdX
    have hBo := hBs; clear hBs
    refine (HK.out _).mono ?_; rintro e s24 ⟨rfl, hb⟩
    replace kA0 := belK hb kA0 zA; replace kA1 := belK hb kA1 zA; replace kA2 := belK hb kA2 zA; replace kA3 := belK hb kA3 zA; replace kA4 := belK hb kA4 zA; replace zA := Nat.lt_of_lt_of_le zA hb.size
    replace kB0 := belK hb kB0 zB; replace kB1 := belK hb kB1 zB; replace kB2 := belK hb kB2 zB; replace kB3 := belK hb kB3 zB; replace kB4 := belK hb kB4 zB; replace zB := Nat.lt_of_lt_of_le zB hb.size
    replace kQ0 := belK hb kQ0 zQ; replace kQ1 := belK hb kQ1 zQ; replace kQ2 := belK hb kQ2 zQ; replace zQ := Nat.lt_of_lt_of_le zQ hb.size
    replace kC0 := belK hb kC0 zC; replace kC1 := belK hb kC1 zC; replace kC2 := belK hb kC2 zC; replace kC3 := belK hb kC3 zC; replace kC4 := belK hb kC4 zC; replace zC := Nat.lt_of_lt_of_le zC hb.size
    replace kD0 := belK hb kD0 zD; replace kD1 := belK hb kD1 zD; replace kD2 := belK hb kD2 zD; replace kD3 := belK hb kD3 zD; replace kD4 := belK hb kD4 zD; replace zD := Nat.lt_of_lt_of_le zD hb.size
    replace kE0 := belK hb kE0 zE; replace kE1 := belK hb kE1 zE; replace kE2 := belK hb kE2 zE; replace kE3 := belK hb kE3 zE; replace kE4 := belK hb kE4 zE; replace zE := Nat.lt_of_lt_of_le zE hb.size
    replace kG0 := belK hb kG0 zG; replace kG1 := belK hb kG1 zG; replace kG2 := belK hb kG2 zG; replace kG3 := belK hb kG3 zG; replace kG4 := belK hb kG4 zG; replace zG := Nat.lt_of_lt_of_le zG hb.size
    replace kI0 := belK hb kI0 zI; replace kI1 := belK hb kI1 zI; replace kI2 := belK hb kI2 zI; replace kI3 := belK hb kI3 zI; replace kI4 := belK hb kI4 zI; replace zI := Nat.lt_of_lt_of_le zI hb.size
    replace kJ0 := belK hb kJ0 zJ; replace kJ1 := belK hb kJ1 zJ; replace kJ2 := belK hb kJ2 zJ; replace kJ3 := belK hb kJ3 zJ; replace kJ4 := belK hb kJ4 zJ; replace zJ := Nat.lt_of_lt_of_le zJ hb.size
    replace kL0 := belK hb kL0 zL; replace kL1 := belK hb kL1 zL; replace kL2 := belK hb kL2 zL; replace kL3 := belK hb kL3 zL; replace kL4 := belK hb kL4 zL; replace zL := Nat.lt_of_lt_of_le zL hb.size
    replace kM0 := belK hb kM0 zM; replace kM1 := belK hb kM1 zM; replace kM2 := belK hb kM2 zM; replace kM3 := belK hb kM3 zM; replace kM4 := belK hb kM4 zM; replace zM := Nat.lt_of_lt_of_le zM hb.size
    replace kR0 := belK hb kR0 zR; replace kR1 := belK hb kR1 zR; replace kR2 := belK hb kR2 zR; replace kR3 := belK hb kR3 zR; replace kR4 := belK hb kR4 zR; replace zR := Nat.lt_of_lt_of_le zR hb.size
    replace kS0 := belK hb kS0 zS; replace kS1 := belK hb kS1 zS; replace kS2 := belK hb kS2 zS; replace kS3 := belK hb kS3 zS; replace kS4 := belK hb kS4 zS; replace zS := Nat.lt_of_lt_of_le zS hb.size
    replace kU0 := belK hb kU0 zU; replace kU1 := belK hb kU1 zU; replace kU2 := belK hb kU2 zU; replace kU3 := belK hb kU3 zU; replace kU4 := belK hb kU4 zU; replace zU := Nat.lt_of_lt_of_le zU hb.size
    replace kV0 := belK hb kV0 zV; replace kV1 := belK hb kV1 zV; replace kV2 := belK hb kV2 zV; replace kV3 := belK hb kV3 zV; replace kV4 := belK hb kV4 zV; replace zV := Nat.lt_of_lt_of_le zV hb.size
    replace kX0 := belK hb kX0 zX; replace kX1 := belK hb kX1 zX; replace kX2 := belK hb kX2 zX; replace kX3 := belK hb kX3 zX; replace kX4 := belK hb kX4 zX; replace zX := Nat.lt_of_lt_of_le zX hb.size
    replace hBo := hBo.trans (hb.mono hBo.size)
    clear hb
    all_goals go_wp2_with fail
    all_goals first | go_ret | go_ret2
    all_goals exact ⟨rfl, hBo⟩
  | false =>
    have e0 := insR_no hk1
    have H9 := Lib.hid (fun w => delete_any p1 way x n _ _ w (by rw [← hp1, e0]; decide) rfl rfl)
    generalize delR p1 way x n = p5 at *
    generalize delB p1 way x n = k5 at *
    clear hp1 hk1 hs hs2 e0
    go_enter Tryz.func4, Tryz.ntmps4
    go_wp2_with fail
    obtain ⟨s25, hws⟩ : ∃ s, s = (((w.alloc (.cells #[.string a.sh, .int .i64 a.c, .int .i64 a.r, .bool a.fc, .bool a.fr] 23)).alloc (.cells #[.string b.sh, .int .i64 b.c, .int .i64 b.r, .bool b.fc, .bool b.fr] 23)).alloc (.cells #[.int .i64 way, .int .i64 x, .int .i64 n] 29)) := ⟨_, rfl⟩
    have hBs : Below w.heap.size w s25 := by rw [hws]; exact ((((Below.refl w.heap.size w).alloc (by simp) _).alloc (by simp) _).alloc (by simp; omega) _)
    obtain ⟨A, hdA⟩ : ∃ b, b = w.heap.size := ⟨_, rfl⟩
    obtain ⟨B, hdB⟩ : ∃ b, b = w.heap.size + 1 := ⟨_, rfl⟩
    obtain ⟨Q, hdQ⟩ : ∃ b, b = w.heap.size + 1 + 1 := ⟨_, rfl⟩
    have hsz : s25.heap.size = w.heap.size + 1 + 1 + 1 := by rw [hws]; simp
    have kA0 : s25.cell? ⟨A, 0, none⟩ = some (.string a.sh) := by rw [hws]; simp [go_sem, hdA, hdB, hdQ]
    have kA1 : s25.cell? ⟨A, 1, none⟩ = some (.int .i64 a.c) := by rw [hws]; simp [go_sem, hdA, hdB, hdQ]
    have kA2 : s25.cell? ⟨A, 2, none⟩ = some (.int .i64 a.r) := by rw [hws]; simp [go_sem, hdA, hdB, hdQ]
    have kA3 : s25.cell? ⟨A, 3, none⟩ = some (.bool a.fc) := by rw [hws]; simp [go_sem, hdA, hdB, hdQ]
    have kA4 : s25.cell? ⟨A, 4, none⟩ = some (.bool a.fr) := by rw [hws]; simp [go_sem, hdA, hdB, hdQ]
    have zA : A < s25.heap.size := by omega
    have lA : w.heap.size ≤ A := by have := Nat.le_refl w.heap.size; omega
    have kB0 : s25.cell? ⟨B, 0, none⟩ = some (.string b.sh) := by rw [hws]; simp [go_sem, hdA, hdB, hdQ]
    have kB1 : s25.cell? ⟨B, 1, none⟩ = some (.int .i64 b.c) := by rw [hws]; simp [go_sem, hdA, hdB, hdQ]
    have kB2 : s25.cell? ⟨B, 2, none⟩ = some (.int .i64 b.r) := by rw [hws]; simp [go_sem, hdA, hdB, hdQ]
    have kB3 : s25.cell? ⟨B, 3, none⟩ = some (.bool b.fc) := by rw [hws]; simp [go_sem, hdA, hdB, hdQ]
    have kB4 : s25.cell? ⟨B, 4, none⟩ = some (.bool b.fr) := by rw [hws]; simp [go_sem, hdA, hdB, hdQ]
    have zB : B < s25.heap.size := by omega
    have lB : w.heap.size ≤ B := by have := Nat.le_refl w.heap.size; omega
    have kQ0 : s25.cell? ⟨Q, 0, none⟩ = some (.int .i64 way) := by rw [hws]; simp [go_sem, hdA, hdB, hdQ]
    have kQ1 : s25.cell? ⟨Q, 1, none⟩ = some (.int .i64 x) := by rw [hws]; simp [go_sem, hdA, hdB, hdQ]
    have kQ2 : s25.cell? ⟨Q, 2, none⟩ = some (.int .i64 n) := by rw [hws]; simp [go_sem, hdA, hdB, hdQ]
    have zQ : Q < s25.heap.size := by omega
    have lQ : w.heap.size ≤ Q := by have := Nat.le_refl w.heap.size; omega
    rw [← hws]
    try rw [← hdQ]
    try rw [← hdB]
    try rw [← hdA]
    clear hws hsz hdA hdB hdQ
    have hBo := hBs; clear hBs
    refine (H1.out _).mono ?_; rintro e s26 ⟨rfl, hb⟩
    replace kA0 := belK hb kA0 zA; replace kA1 := belK hb kA1 zA; replace kA2 := belK hb kA2 zA; replace kA3 := belK hb kA3 zA; replace kA4 := belK hb kA4 zA; replace zA := Nat.lt_of_lt_of_le zA hb.size
    replace kB0 := belK hb kB0 zB; replace kB1 := belK hb kB1 zB; replace kB2 := belK hb kB2 zB; replace kB3 := belK hb kB3 zB; replace kB4 := belK hb kB4 zB; replace zB := Nat.lt_of_lt_of_le zB hb.size
    replace kQ0 := belK hb kQ0 zQ; replace kQ1 := belK hb kQ1 zQ; replace kQ2 := belK hb kQ2 zQ; replace zQ := Nat.lt_of_lt_of_le zQ hb.size
    replace hBo := hBo.trans (hb.mono hBo.size)
    clear hb
    go_wp2_with fail
    obtain ⟨s27, hws⟩ : ∃ s, s = (s26.alloc (.cells #[.string p1.sh, .int .i64 p1.c, .int .i64 p1.r, .bool p1.fc, .bool p1.fr] 23)) := ⟨_, rfl⟩
    have hBs : Below w.heap.size w s27 := by rw [hws]; exact ((hBo).alloc (by exact hBo.size) _)
    obtain ⟨C, hdC⟩ : ∃ b, b = s26.heap.size := ⟨_, rfl⟩
    have hsz : s27.heap.size = s26.heap.size + 1 := by rw [hws]; simp
    have hQC : ∀ p v, s26.cell? p = some v → s27.cell? p = some v := fun p v h => by rw [hws]; exact (alK h)
    have hQZ : ∀ b, b < s26.heap.size → b < s27.heap.size := fun b h => by omega
    replace kA0 := hQC _ _ kA0; replace kA1 := hQC _ _ kA1; replace kA2 := hQC _ _ kA2; replace kA3 := hQC _ _ kA3; replace kA4 := hQC _ _ kA4; replace zA := hQZ _ zA
    replace kB0 := hQC _ _ kB0; replace kB1 := hQC _ _ kB1; replace kB2 := hQC _ _ kB2; replace kB3 := hQC _ _ kB3; replace kB4 := hQC _ _ kB4; replace zB := hQZ _ zB
    replace kQ0 := hQC _ _ kQ0; replace kQ1 := hQC _ _ kQ1; replace kQ2 := hQC _ _ kQ2; replace zQ := hQZ _ zQ
    clear hQC hQZ
    have kC0 : s27.cell? ⟨C, 0, none⟩ = some (.string p1.sh) := by rw [hws]; simp [go_sem, hdC]
    have kC1 : s27.cell? ⟨C, 1, none⟩ = some (.int .i64 p1.c) := by rw [hws]; simp [go_sem, hdC]
    have kC2 : s27.cell? ⟨C, 2, none⟩ = some (.int .i64 p1.r) := by rw [hws]; simp [go_sem, hdC]
    have kC3 : s27.cell? ⟨C, 3, none⟩ = some (.bool p1.fc) := by rw [hws]; simp [go_sem, hdC]
    have kC4 : s27.cell? ⟨C, 4, none⟩ = some (.bool p1.fr) := by rw [hws]; simp [go_sem, hdC]
    have zC : C < s27.heap.size := by omega
    have lC : w.heap.size ≤ C := by have := hBo.size; omega
    rw [← hws]
    try rw [← hdC]
    clear hBo
    clear hws hsz hdC
    have hBo := hBs; clear hBs
    refine (H2.out _).mono ?_; rintro e s28 ⟨rfl, hb⟩
    replace kA0 := belK hb kA0 zA; replace kA1 := belK hb kA1 zA; replace kA2 := belK hb kA2 zA; replace kA3 := belK hb kA3 zA; replace kA4 := belK hb kA4 zA; replace zA := Nat.lt_of_lt_of_le zA hb.size
    replace kB0 := belK hb kB0 zB; replace kB1 := belK hb kB1 zB; replace kB2 := belK hb kB2 zB; replace kB3 := belK hb kB3 zB; replace kB4 := belK hb kB4 zB; replace zB := Nat.lt_of_lt_of_le zB hb.size
    replace kQ0 := belK hb kQ0 zQ; replace kQ1 := belK hb kQ1 zQ; replace kQ2 := belK hb kQ2 zQ; replace zQ := Nat.lt_of_lt_of_le zQ hb.size
    replace kC0 := belK hb kC0 zC; replace kC1 := belK hb kC1 zC; replace kC2 := belK hb kC2 zC; replace kC3 := belK hb kC3 zC; replace kC4 := belK hb kC4 zC; replace zC := Nat.lt_of_lt_of_le zC hb.size
    replace hBo := hBo.trans (hb.mono hBo.size)
    clear hb
    go_wp2_with fail
    obtain ⟨s29, hws⟩ : ∃ s, s = (s28.alloc (.cells #[.string p1.sh, .int .i64 p1.c, .int .i64 p1.r, .bool p1.fc, .bool p1.fr] 23)) := ⟨_, rfl⟩
    have hBs : Below w.heap.size w s29 := by rw [hws]; exact ((hBo).alloc (by exact hBo.size) _)
    obtain ⟨D, hdD⟩ : ∃ b, b = s28.heap.size := ⟨_, rfl⟩
    have hsz : s29.heap.size = s28.heap.size + 1 := by rw [hws]; simp
    have hQC : ∀ p v, s28.cell? p = some v → s29.cell? p = some v := fun p v h => by rw [hws]; exact (alK h)
    have hQZ : ∀ b, b < s28.heap.size → b < s29.heap.size := fun b h => by omega
    replace kA0 := hQC _ _ kA0; replace kA1 := hQC _ _ kA1; replace kA2 := hQC _ _ kA2; replace kA3 := hQC _ _ kA3; replace kA4 := hQC _ _ kA4; replace zA := hQZ _ zA
    replace kB0 := hQC _ _ kB0; replace kB1 := hQC _ _ kB1; replace kB2 := hQC _ _ kB2; replace kB3 := hQC _ _ kB3; replace kB4 := hQC _ _ kB4; replace zB := hQZ _ zB
    replace kQ0 := hQC _ _ kQ0; replace kQ1 := hQC _ _ kQ1; replace kQ2 := hQC _ _ kQ2; replace zQ := hQZ _ zQ
    replace kC0 := hQC _ _ kC0; replace kC1 := hQC _ _ kC1; replace kC2 := hQC _ _ kC2; replace kC3 := hQC _ _ kC3; replace kC4 := hQC _ _ kC4; replace zC := hQZ _ zC
    clear hQC hQZ
    have kD0 : s29.cell? ⟨D, 0, none⟩ = some (.string p1.sh) := by rw [hws]; simp [go_sem, hdD]
    have kD1 : s29.cell? ⟨D, 1, none⟩ = some (.int .i64 p1.c) := by rw [hws]; simp [go_sem, hdD]
    have kD2 : s29.cell? ⟨D, 2, none⟩ = some (.int .i64 p1.r) := by rw [hws]; simp [go_sem, hdD]
    have kD3 : s29.cell? ⟨D, 3, none⟩ = some (.bool p1.fc) := by rw [hws]; simp [go_sem, hdD]
    have kD4 : s29.cell? ⟨D, 4, none⟩ = some (.bool p1.fr) := by rw [hws]; simp [go_sem, hdD]
    have zD : D < s29.heap.size := by omega
    have lD : w.heap.size ≤ D := by have := hBo.size; omega
    rw [← hws]
    try rw [← hdD]
    clear hBo
    clear hws hsz hdD
    have hBo := hBs; clear hBs
    refine (H3.out _).mono ?_; rintro e s30 ⟨rfl, hb⟩
    replace kA0 := belK hb kA0 zA; replace kA1 := belK hb kA1 zA; replace kA2 := belK hb kA2 zA; replace kA3 := belK hb kA3 zA; replace kA4 := belK hb kA4 zA; replace zA := Nat.lt_of_lt_of_le zA hb.size
    replace kB0 := belK hb kB0 zB; replace kB1 := belK hb kB1 zB; replace kB2 := belK hb kB2 zB; replace kB3 := belK hb kB3 zB; replace kB4 := belK hb kB4 zB; replace zB := Nat.lt_of_lt_of_le zB hb.size
    replace kQ0 := belK hb kQ0 zQ; replace kQ1 := belK hb kQ1 zQ; replace kQ2 := belK hb kQ2 zQ; replace zQ := Nat.lt_of_lt_of_le zQ hb.size
    replace kC0 := belK hb kC0 zC; replace kC1 := belK hb kC1 zC; replace kC2 := belK hb kC2 zC; replace kC3 := belK hb kC3 zC; replace kC4 := belK hb kC4 zC; replace zC := Nat.lt_of_lt_of_le zC hb.size
    replace kD0 := belK hb kD0 zD; replace kD1 := belK hb kD1 zD; replace kD2 := belK hb kD2 zD; replace kD3 := belK hb kD3 zD; replace kD4 := belK hb kD4 zD; replace zD := Nat.lt_of_lt_of_le zD hb.size
    replace hBo := hBo.trans (hb.mono hBo.size)
    clear hb
    go_wp2_with fail
    obtain ⟨s31, hws⟩ : ∃ s, s = (s30.alloc (.cells #[.string p2.sh, .int .i64 p2.c, .int .i64 p2.r, .bool p2.fc, .bool p2.fr] 23)) := ⟨_, rfl⟩
    have hBs : Below w.heap.size w s31 := by rw [hws]; exact ((hBo).alloc (by exact hBo.size) _)
    obtain ⟨E, hdE⟩ : ∃ b, b = s30.heap.size := ⟨_, rfl⟩
    have hsz : s31.heap.size = s30.heap.size + 1 := by rw [hws]; simp
    have hQC : ∀ p v, s30.cell? p = some v → s31.cell? p = some v := fun p v h => by rw [hws]; exact (alK h)
    have hQZ : ∀ b, b < s30.heap.size → b < s31.heap.size := fun b h => by omega
    replace kA0 := hQC _ _ kA0; replace kA1 := hQC _ _ kA1; replace kA2 := hQC _ _ kA2; replace kA3 := hQC _ _ kA3; replace kA4 := hQC _ _ kA4; replace zA := hQZ _ zA
    replace kB0 := hQC _ _ kB0; replace kB1 := hQC _ _ kB1; replace kB2 := hQC _ _ kB2; replace kB3 := hQC _ _ kB3; replace kB4 := hQC _ _ kB4; replace zB := hQZ _ zB
    replace kQ0 := hQC _ _ kQ0; replace kQ1 := hQC _ _ kQ1; replace kQ2 := hQC _ _ kQ2; replace zQ := hQZ _ zQ
    replace kC0 := hQC _ _ kC0; replace kC1 := hQC _ _ kC1; replace kC2 := hQC _ _ kC2; replace kC3 := hQC _ _ kC3; replace kC4 := hQC _ _ kC4; replace zC := hQZ _ zC
    replace kD0 := hQC _ _ kD0; replace kD1 := hQC _ _ kD1; replace kD2 := hQC _ _ kD2; replace kD3 := hQC _ _ kD3; replace kD4 := hQC _ _ kD4; replace zD := hQZ _ zD
    clear hQC hQZ
    have kE0 : s31.cell? ⟨E, 0, none⟩ = some (.string p2.sh) := by rw [hws]; simp [go_sem, hdE]
    have kE1 : s31.cell? ⟨E, 1, none⟩ = some (.int .i64 p2.c) := by rw [hws]; simp [go_sem, hdE]
    have kE2 : s31.cell? ⟨E, 2, none⟩ = some (.int .i64 p2.r) := by rw [hws]; simp [go_sem, hdE]
    have kE3 : s31.cell? ⟨E, 3, none⟩ = some (.bool p2.fc) := by rw [hws]; simp [go_sem, hdE]
    have kE4 : s31.cell? ⟨E, 4, none⟩ = some (.bool p2.fr) := by rw [hws]; simp [go_sem, hdE]
    have zE : E < s31.heap.size := by omega
    have lE : w.heap.size ≤ E := by have := hBo.size; omega
    rw [← hws]
    try rw [← hdE]
    clear hBo
    clear hws hsz hdE
    have hBo := hBs; clear hBs
    refine (H4.out _).mono ?_; rintro e s32 ⟨rfl, hb⟩
    replace kA0 := belK hb kA0 zA; replace kA1 := belK hb kA1 zA; replace kA2 := belK hb kA2 zA; replace kA3 := belK hb kA3 zA; replace kA4 := belK hb kA4 zA; replace zA := Nat.lt_of_lt_of_le zA hb.size
    replace kB0 := belK hb kB0 zB; replace kB1 := belK hb kB1 zB; replace kB2 := belK hb kB2 zB; replace kB3 := belK hb kB3 zB; replace kB4 := belK hb kB4 zB; replace zB := Nat.lt_of_lt_of_le zB hb.size
    replace kQ0 := belK hb kQ0 zQ; replace kQ1 := belK hb kQ1 zQ; replace kQ2 := belK hb kQ2 zQ; replace zQ := Nat.lt_of_lt_of_le zQ hb.size
    replace kC0 := belK hb kC0 zC; replace kC1 := belK hb kC1 zC; replace kC2 := belK hb kC2 zC; replace kC3 := belK hb kC3 zC; replace kC4 := belK hb kC4 zC; replace zC := Nat.lt_of_lt_of_le zC hb.size
    replace kD0 := belK hb kD0 zD; replace kD1 := belK hb kD1 zD; replace kD2 := belK hb kD2 zD; replace kD3 := belK hb kD3 zD; replace kD4 := belK hb kD4 zD; replace zD := Nat.lt_of_lt_of_le zD hb.size
    replace kE0 := belK hb kE0 zE; replace kE1 := belK hb kE1 zE; replace kE2 := belK hb kE2 zE; replace kE3 := belK hb kE3 zE; replace kE4 := belK hb kE4 zE; replace zE := Nat.lt_of_lt_of_le zE hb.size
    replace hBo := hBo.trans (hb.mono hBo.size)
    clear hb
    go_wp2_with fail
    obtain ⟨s33, hws⟩ : ∃ s, s = (s32.alloc (.cells #[.string p2.sh, .int .i64 p2.c, .int .i64 p2.r, .bool p2.fc, .bool p2.fr] 23)) := ⟨_, rfl⟩
    have hBs : Below w.heap.size w s33 := by rw [hws]; exact ((hBo).alloc (by exact hBo.size) _)
    obtain ⟨G, hdG⟩ : ∃ b, b = s32.heap.size := ⟨_, rfl⟩
    have hsz : s33.heap.size = s32.heap.size + 1 := by rw [hws]; simp
    have hQC : ∀ p v, s32.cell? p = some v → s33.cell? p = some v := fun p v h => by rw [hws]; exact (alK h)
    have hQZ : ∀ b, b < s32.heap.size → b < s33.heap.size := fun b h => by omega
    replace kA0 := hQC _ _ kA0; replace kA1 := hQC _ _ kA1; replace kA2 := hQC _ _ kA2; replace kA3 := hQC _ _ kA3; replace kA4 := hQC _ _ kA4; replace zA := hQZ _ zA
    replace kB0 := hQC _ _ kB0; replace kB1 := hQC _ _ kB1; replace kB2 := hQC _ _ kB2; replace kB3 := hQC _ _ kB3; replace kB4 := hQC _ _ kB4; replace zB := hQZ _ zB
    replace kQ0 := hQC _ _ kQ0; replace kQ1 := hQC _ _ kQ1; replace kQ2 := hQC _ _ kQ2; replace zQ := hQZ _ zQ
    replace kC0 := hQC _ _ kC0; replace kC1 := hQC _ _ kC1; replace kC2 := hQC _ _ kC2; replace kC3 := hQC _ _ kC3; replace kC4 := hQC _ _ kC4; replace zC := hQZ _ zC
    replace kD0 := hQC _ _ kD0; replace kD1 := hQC _ _ kD1; replace kD2 := hQC _ _ kD2; replace kD3 := hQC _ _ kD3; replace kD4 := hQC _ _ kD4; replace zD := hQZ _ zD
    replace kE0 := hQC _ _ kE0; replace kE1 := hQC _ _ kE1; replace kE2 := hQC _ _ kE2; replace kE3 := hQC _ _ kE3; replace kE4 := hQC _ _ kE4; replace zE := hQZ _ zE
    clear hQC hQZ
    have kG0 : s33.cell? ⟨G, 0, none⟩ = some (.string p2.sh) := by rw [hws]; simp [go_sem, hdG]
    have kG1 : s33.cell? ⟨G, 1, none⟩ = some (.int .i64 p2.c) := by rw [hws]; simp [go_sem, hdG]
    have kG2 : s33.cell? ⟨G, 2, none⟩ = some (.int .i64 p2.r) := by rw [hws]; simp [go_sem, hdG]
    have kG3 : s33.cell? ⟨G, 3, none⟩ = some (.bool p2.fc) := by rw [hws]; simp [go_sem, hdG]
    have kG4 : s33.cell? ⟨G, 4, none⟩ = some (.bool p2.fr) := by rw [hws]; simp [go_sem, hdG]
    have zG : G < s33.heap.size := by omega
    have lG : w.heap.size ≤ G := by have := hBo.size; omega
    rw [← hws]
    try rw [← hdG]
    clear hBo
    clear hws hsz hdG
    have hBo := hBs; clear hBs
    refine (H5.out _).mono ?_; rintro e s34 ⟨rfl, hb⟩
    replace kA0 := belK hb kA0 zA; replace kA1 := belK hb kA1 zA; replace kA2 := belK hb kA2 zA; replace kA3 := belK hb kA3 zA; replace kA4 := belK hb kA4 zA; replace zA := Nat.lt_of_lt_of_le zA hb.size
    replace kB0 := belK hb kB0 zB; replace kB1 := belK hb kB1 zB; replace kB2 := belK hb kB2 zB; replace kB3 := belK hb kB3 zB; replace kB4 := belK hb kB4 zB; replace zB := Nat.lt_of_lt_of_le zB hb.size
    replace kQ0 := belK hb kQ0 zQ; replace kQ1 := belK hb kQ1 zQ; replace kQ2 := belK hb kQ2 zQ; replace zQ := Nat.lt_of_lt_of_le zQ hb.size
    replace kC0 := belK hb kC0 zC; replace kC1 := belK hb kC1 zC; replace kC2 := belK hb kC2 zC; replace kC3 := belK hb kC3 zC; replace kC4 := belK hb kC4 zC; replace zC := Nat.lt_of_lt_of_le zC hb.size
    replace kD0 := belK hb kD0 zD; replace kD1 := belK hb kD1 zD; replace kD2 := belK hb kD2 zD; replace kD3 := belK hb kD3 zD; replace kD4 := belK hb kD4 zD; replace zD := Nat.lt_of_lt_of_le zD hb.size
    replace kE0 := belK hb kE0 zE; replace kE1 := belK hb kE1 zE; replace kE2 := belK hb kE2 zE; replace kE3 := belK hb kE3 zE; replace kE4 := belK hb kE4 zE; replace zE := Nat.lt_of_lt_of_le zE hb.size
    replace kG0 := belK hb kG0 zG; replace kG1 := belK hb kG1 zG; replace kG2 := belK hb kG2 zG; replace kG3 := belK hb kG3 zG; replace kG4 := belK hb kG4 zG; replace zG := Nat.lt_of_lt_of_le zG hb.size
    replace hBo := hBo.trans (hb.mono hBo.size)
    clear hb
    go_wp2_with fail
    obtain ⟨s35, hws⟩ : ∃ s, s = ((s34.alloc (.cells #[.string p3.sh, .int .i64 p3.c, .int .i64 p3.r, .bool p3.fc, .bool p3.fr] 23)).alloc (.cells #[.string q3.sh, .int .i64 q3.c, .int .i64 q3.r, .bool q3.fc, .bool q3.fr] 23)) := ⟨_, rfl⟩
    have hBs : Below w.heap.size w s35 := by rw [hws]; exact (((hBo).alloc (by exact hBo.size) _).alloc (by have := hBo.size; simp; omega) _)
    obtain ⟨I, hdI⟩ : ∃ b, b = s34.heap.size := ⟨_, rfl⟩
    obtain ⟨J, hdJ⟩ : ∃ b, b = s34.heap.size + 1 := ⟨_, rfl⟩
    have hsz : s35.heap.size = s34.heap.size + 1 + 1 := by rw [hws]; simp
    have hQC : ∀ p v, s34.cell? p = some v → s35.cell? p = some v := fun p v h => by rw [hws]; exact (alK (alK h))
    have hQZ : ∀ b, b < s34.heap.size → b < s35.heap.size := fun b h => by omega
    replace kA0 := hQC _ _ kA0; replace kA1 := hQC _ _ kA1; replace kA2 := hQC _ _ kA2; replace kA3 := hQC _ _ kA3; replace kA4 := hQC _ _ kA4; replace zA := hQZ _ zA
    replace kB0 := hQC _ _ kB0; replace kB1 := hQC _ _ kB1; replace kB2 := hQC _ _ kB2; replace kB3 := hQC _ _ kB3; replace kB4 := hQC _ _ kB4; replace zB := hQZ _ zB
    replace kQ0 := hQC _ _ kQ0; replace kQ1 := hQC _ _ kQ1; replace kQ2 := hQC _ _ kQ2; replace zQ := hQZ _ zQ
    replace kC0 := hQC _ _ kC0; replace kC1 := hQC _ _ kC1; replace kC2 := hQC _ _ kC2; replace kC3 := hQC _ _ kC3; replace kC4 := hQC _ _ kC4; replace zC := hQZ _ zC
    replace kD0 := hQC _ _ kD0; replace kD1 := hQC _ _ kD1; replace kD2 := hQC _ _ kD2; replace kD3 := hQC _ _ kD3; replace kD4 := hQC _ _ kD4; replace zD := hQZ _ zD
    replace kE0 := hQC _ _ kE0; replace kE1 := hQC _ _ kE1; replace kE2 := hQC _ _ kE2; replace kE3 := hQC _ _ kE3; replace kE4 := hQC _ _ kE4; replace zE := hQZ _ zE
    replace kG0 := hQC _ _ kG0; replace kG1 := hQC _ _ kG1; replace kG2 := hQC _ _ kG2; replace kG3 := hQC _ _ kG3; replace kG4 := hQC _ _ kG4; replace zG := hQZ _ zG
    clear hQC hQZ
    have kI0 : s35.cell? ⟨I, 0, none⟩ = some (.string p3.sh) := by rw [hws]; simp [go_sem, hdI, hdJ]
    have kI1 : s35.cell? ⟨I, 1, none⟩ = some (.int .i64 p3.c) := by rw [hws]; simp [go_sem, hdI, hdJ]
    have kI2 : s35.cell? ⟨I, 2, none⟩ = some (.int .i64 p3.r) := by rw [hws]; simp [go_sem, hdI, hdJ]
    have kI3 : s35.cell? ⟨I, 3, none⟩ = some (.bool p3.fc) := by rw [hws]; simp [go_sem, hdI, hdJ]
    have kI4 : s35.cell? ⟨I, 4, none⟩ = some (.bool p3.fr) := by rw [hws]; simp [go_sem, hdI, hdJ]
    have zI : I < s35.heap.size := by omega
    have lI : w.heap.size ≤ I := by have := hBo.size; omega
    have kJ0 : s35.cell? ⟨J, 0, none⟩ = some (.string q3.sh) := by rw [hws]; simp [go_sem, hdI, hdJ]
    have kJ1 : s35.cell? ⟨J, 1, none⟩ = some (.int .i64 q3.c) := by rw [hws]; simp [go_sem, hdI, hdJ]
    have kJ2 : s35.cell? ⟨J, 2, none⟩ = some (.int .i64 q3.r) := by rw [hws]; simp [go_sem, hdI, hdJ]
    have kJ3 : s35.cell? ⟨J, 3, none⟩ = some (.bool q3.fc) := by rw [hws]; simp [go_sem, hdI, hdJ]
    have kJ4 : s35.cell? ⟨J, 4, none⟩ = some (.bool q3.fr) := by rw [hws]; simp [go_sem, hdI, hdJ]
    have zJ : J < s35.heap.size := by omega
    have lJ : w.heap.size ≤ J := by have := hBo.size; omega
    rw [← hws]
    try rw [← hdJ]
    try rw [← hdI]
    clear hBo
    clear hws hsz hdI hdJ
    have hBo := hBs; clear hBs
    refine (H6.out _).mono ?_; rintro e s36 ⟨rfl, hb⟩
    replace kA0 := belK hb kA0 zA; replace kA1 := belK hb kA1 zA; replace kA2 := belK hb kA2 zA; replace kA3 := belK hb kA3 zA; replace kA4 := belK hb kA4 zA; replace zA := Nat.lt_of_lt_of_le zA hb.size
    replace kB0 := belK hb kB0 zB; replace kB1 := belK hb kB1 zB; replace kB2 := belK hb kB2 zB; replace kB3 := belK hb kB3 zB; replace kB4 := belK hb kB4 zB; replace zB := Nat.lt_of_lt_of_le zB hb.size
    replace kQ0 := belK hb kQ0 zQ; replace kQ1 := belK hb kQ1 zQ; replace kQ2 := belK hb kQ2 zQ; replace zQ := Nat.lt_of_lt_of_le zQ hb.size
    replace kC0 := belK hb kC0 zC; replace kC1 := belK hb kC1 zC; replace kC2 := belK hb kC2 zC; replace kC3 := belK hb kC3 zC; replace kC4 := belK hb kC4 zC; replace zC := Nat.lt_of_lt_of_le zC hb.size
    replace kD0 := belK hb kD0 zD; replace kD1 := belK hb kD1 zD; replace kD2 := belK hb kD2 zD; replace kD3 := belK hb kD3 zD; replace kD4 := belK hb kD4 zD; replace zD := Nat.lt_of_lt_of_le zD hb.size
    replace kE0 := belK hb kE0 zE; replace kE1 := belK hb kE1 zE; replace kE2 := belK hb kE2 zE; replace kE3 := belK hb kE3 zE; replace kE4 := belK hb kE4 zE; replace zE := Nat.lt_of_lt_of_le zE hb.size
    replace kG0 := belK hb kG0 zG; replace kG1 := belK hb kG1 zG; replace kG2 := belK hb kG2 zG; replace kG3 := belK hb kG3 zG; replace kG4 := belK hb kG4 zG; replace zG := Nat.lt_of_lt_of_le zG hb.size
    replace kI0 := belK hb kI0 zI; replace kI1 := belK hb kI1 zI; replace kI2 := belK hb kI2 zI; replace kI3 := belK hb kI3 zI; replace kI4 := belK hb kI4 zI; replace zI := Nat.lt_of_lt_of_le zI hb.size
    replace kJ0 := belK hb kJ0 zJ; replace kJ1 := belK hb kJ1 zJ; replace kJ2 := belK hb kJ2 zJ; replace kJ3 := belK hb kJ3 zJ; replace kJ4 := belK hb kJ4 zJ; replace zJ := Nat.lt_of_lt_of_le zJ hb.size
    replace hBo := hBo.trans (hb.mono hBo.size)
    clear hb
    go_wp2_with fail
    obtain ⟨s37, hws⟩ : ∃ s, s = ((s36.alloc (.cells #[.string p3.sh, .int .i64 p3.c, .int .i64 p3.r, .bool p3.fc, .bool p3.fr] 23)).alloc (.cells #[.string q3.sh, .int .i64 q3.c, .int .i64 q3.r, .bool q3.fc, .bool q3.fr] 23)) := ⟨_, rfl⟩
    have hBs : Below w.heap.size w s37 := by rw [hws]; exact (((hBo).alloc (by exact hBo.size) _).alloc (by have := hBo.size; simp; omega) _)
    obtain ⟨L, hdL⟩ : ∃ b, b = s36.heap.size := ⟨_, rfl⟩
    obtain ⟨M, hdM⟩ : ∃ b, b = s36.heap.size + 1 := ⟨_, rfl⟩
    have hsz : s37.heap.size = s36.heap.size + 1 + 1 := by rw [hws]; simp
    have hQC : ∀ p v, s36.cell? p = some v → s37.cell? p = some v := fun p v h => by rw [hws]; exact (alK (alK h))
    have hQZ : ∀ b, b < s36.heap.size → b < s37.heap.size := fun b h => by omega
    replace kA0 := hQC _ _ kA0; replace kA1 := hQC _ _ kA1; replace kA2 := hQC _ _ kA2; replace kA3 := hQC _ _ kA3; replace kA4 := hQC _ _ kA4; replace zA := hQZ _ zA
    replace kB0 := hQC _ _ kB0; replace kB1 := hQC _ _ kB1; replace kB2 := hQC _ _ kB2; replace kB3 := hQC _ _ kB3; replace kB4 := hQC _ _ kB4; replace zB := hQZ _ zB
    replace kQ0 := hQC _ _ kQ0; replace kQ1 := hQC _ _ kQ1; replace kQ2 := hQC _ _ kQ2; replace zQ := hQZ _ zQ
    replace kC0 := hQC _ _ kC0; replace kC1 := hQC _ _ kC1; replace kC2 := hQC _ _ kC2; replace kC3 := hQC _ _ kC3; replace kC4 := hQC _ _ kC4; replace zC := hQZ _ zC
    replace kD0 := hQC _ _ kD0; replace kD1 := hQC _ _ kD1; replace kD2 := hQC _ _ kD2; replace kD3 := hQC _ _ kD3; replace kD4 := hQC _ _ kD4; replace zD := hQZ _ zD
    replace kE0 := hQC _ _ kE0; replace kE1 := hQC _ _ kE1; replace kE2 := hQC _ _ kE2; replace kE3 := hQC _ _ kE3; replace kE4 := hQC _ _ kE4; replace zE := hQZ _ zE
    replace kG0 := hQC _ _ kG0; replace kG1 := hQC _ _ kG1; replace kG2 := hQC _ _ kG2; replace kG3 := hQC _ _ kG3; replace kG4 := hQC _ _ kG4; replace zG := hQZ _ zG
    replace kI0 := hQC _ _ kI0; replace kI1 := hQC _ _ kI1; replace kI2 := hQC _ _ kI2; replace kI3 := hQC _ _ kI3; replace kI4 := hQC _ _ kI4; replace zI := hQZ _ zI
    replace kJ0 := hQC _ _ kJ0; replace kJ1 := hQC _ _ kJ1; replace kJ2 := hQC _ _ kJ2; replace kJ3 := hQC _ _ kJ3; replace kJ4 := hQC _ _ kJ4; replace zJ := hQZ _ zJ
    clear hQC hQZ
    have kL0 : s37.cell? ⟨L, 0, none⟩ = some (.string p3.sh) := by rw [hws]; simp [go_sem, hdL, hdM]
    have kL1 : s37.cell? ⟨L, 1, none⟩ = some (.int .i64 p3.c) := by rw [hws]; simp [go_sem, hdL, hdM]
    have kL2 : s37.cell? ⟨L, 2, none⟩ = some (.int .i64 p3.r) := by rw [hws]; simp [go_sem, hdL, hdM]
    have kL3 : s37.cell? ⟨L, 3, none⟩ = some (.bool p3.fc) := by rw [hws]; simp [go_sem, hdL, hdM]
    have kL4 : s37.cell? ⟨L, 4, none⟩ = some (.bool p3.fr) := by rw [hws]; simp [go_sem, hdL, hdM]
    have zL : L < s37.heap.size := by omega
    have lL : w.heap.size ≤ L := by have := hBo.size; omega
    have kM0 : s37.cell? ⟨M, 0, none⟩ = some (.string q3.sh) := by rw [hws]; simp [go_sem, hdL, hdM]
    have kM1 : s37.cell? ⟨M, 1, none⟩ = some (.int .i64 q3.c) := by rw [hws]; simp [go_sem, hdL, hdM]
    have kM2 : s37.cell? ⟨M, 2, none⟩ = some (.int .i64 q3.r) := by rw [hws]; simp [go_sem, hdL, hdM]
    have kM3 : s37.cell? ⟨M, 3, none⟩ = some (.bool q3.fc) := by rw [hws]; simp [go_sem, hdL, hdM]
    have kM4 : s37.cell? ⟨M, 4, none⟩ = some (.bool q3.fr) := by rw [hws]; simp [go_sem, hdL, hdM]
    have zM : M < s37.heap.size := by omega
    have lM : w.heap.size ≤ M := by have := hBo.size; omega
    rw [← hws]
    try rw [← hdM]
    try rw [← hdL]
    clear hBo
    clear hws hsz hdL hdM
    have hBo := hBs; clear hBs
    refine (H7.out _).mono ?_; rintro e s38 ⟨rfl, hb⟩
    replace kA0 := belK hb kA0 zA; replace kA1 := belK hb kA1 zA; replace kA2 := belK hb kA2 zA; replace kA3 := belK hb kA3 zA; replace kA4 := belK hb kA4 zA; replace zA := Nat.lt_of_lt_of_le zA hb.size
    replace kB0 := belK hb kB0 zB; replace kB1 := belK hb kB1 zB; replace kB2 := belK hb kB2 zB; replace kB3 := belK hb kB3 zB; replace kB4 := belK hb kB4 zB; replace zB := Nat.lt_of_lt_of_le zB hb.size
    replace kQ0 := belK hb kQ0 zQ; replace kQ1 := belK hb kQ1 zQ; replace kQ2 := belK hb kQ2 zQ; replace zQ := Nat.lt_of_lt_of_le zQ hb.size
    replace kC0 := belK hb kC0 zC; replace kC1 := belK hb kC1 zC; replace kC2 := belK hb kC2 zC; replace kC3 := belK hb kC3 zC; replace kC4 := belK hb kC4 zC; replace zC := Nat.lt_of_lt_of_le zC hb.size
    replace kD0 := belK hb kD0 zD; replace kD1 := belK hb kD1 zD; replace kD2 := belK hb kD2 zD; replace kD3 := belK hb kD3 zD; replace kD4 := belK hb kD4 zD; replace zD := Nat.lt_of_lt_of_le zD hb.size
    replace kE0 := belK hb kE0 zE; replace kE1 := belK hb kE1 zE; replace kE2 := belK hb kE2 zE; replace kE3 := belK hb kE3 zE; replace kE4 := belK hb kE4 zE; replace zE := Nat.lt_of_lt_of_le zE hb.size
    replace kG0 := belK hb kG0 zG; replace kG1 := belK hb kG1 zG; replace kG2 := belK hb kG2 zG; replace kG3 := belK hb kG3 zG; replace kG4 := belK hb kG4 zG; replace zG := Nat.lt_of_lt_of_le zG hb.size
    replace kI0 := belK hb kI0 zI; replace kI1 := belK hb kI1 zI; replace kI2 := belK hb kI2 zI; replace kI3 := belK hb kI3 zI; replace kI4 := belK hb kI4 zI; replace zI := Nat.lt_of_lt_of_le zI hb.size
    replace kJ0 := belK hb kJ0 zJ; replace kJ1 := belK hb kJ1 zJ; replace kJ2 := belK hb kJ2 zJ; replace kJ3 := belK hb kJ3 zJ; replace kJ4 := belK hb kJ4 zJ; replace zJ := Nat.lt_of_lt_of_le zJ hb.size
    replace kL0 := belK hb kL0 zL; replace kL1 := belK hb kL1 zL; replace kL2 := belK hb kL2 zL; replace kL3 := belK hb kL3 zL; replace kL4 := belK hb kL4 zL; replace zL := Nat.lt_of_lt_of_le zL hb.size
    replace kM0 := belK hb kM0 zM; replace kM1 := belK hb kM1 zM; replace kM2 := belK hb kM2 zM; replace kM3 := belK hb kM3 zM; replace kM4 := belK hb kM4 zM; replace zM := Nat.lt_of_lt_of_le zM hb.size
    replace hBo := hBo.trans (hb.mono hBo.size)
    clear hb
    go_wp2_with fail
    obtain ⟨s39, hws⟩ : ∃ s, s = ((s38.alloc (.cells #[.string p4.sh, .int .i64 p4.c, .int .i64 p4.r, .bool p4.fc, .bool p4.fr] 23)).alloc (.cells #[.string q4.sh, .int .i64 q4.c, .int .i64 q4.r, .bool q4.fc, .bool q4.fr] 23)) := ⟨_, rfl⟩
    have hBs : Below w.heap.size w s39 := by rw [hws]; exact (((hBo).alloc (by exact hBo.size) _).alloc (by have := hBo.size; simp; omega) _)
    obtain ⟨R, hdR⟩ : ∃ b, b = s38.heap.size := ⟨_, rfl⟩
    obtain ⟨S, hdS⟩ : ∃ b, b = s38.heap.size + 1 := ⟨_, rfl⟩
    have hsz : s39.heap.size = s38.heap.size + 1 + 1 := by rw [hws]; simp
    have hQC : ∀ p v, s38.cell? p = some v → s39.cell? p = some v := fun p v h => by rw [hws]; exact (alK (alK h))
    have hQZ : ∀ b, b < s38.heap.size → b < s39.heap.size := fun b h => by omega
    replace kA0 := hQC _ _ kA0; replace kA1 := hQC _ _ kA1; replace kA2 := hQC _ _ kA2; replace kA3 := hQC _ _ kA3; replace kA4 := hQC _ _ kA4; replace zA := hQZ _ zA
    replace kB0 := hQC _ _ kB0; replace kB1 := hQC _ _ kB1; replace kB2 := hQC _ _ kB2; replace kB3 := hQC _ _ kB3; replace kB4 := hQC _ _ kB4; replace zB := hQZ _ zB
    replace kQ0 := hQC _ _ kQ0; replace kQ1 := hQC _ _ kQ1; replace kQ2 := hQC _ _ kQ2; replace zQ := hQZ _ zQ
    replace kC0 := hQC _ _ kC0; replace kC1 := hQC _ _ kC1; replace kC2 := hQC _ _ kC2; replace kC3 := hQC _ _ kC3; replace kC4 := hQC _ _ kC4; replace zC := hQZ _ zC
    replace kD0 := hQC _ _ kD0; replace kD1 := hQC _ _ kD1; replace kD2 := hQC _ _ kD2; replace kD3 := hQC _ _ kD3; replace kD4 := hQC _ _ kD4; replace zD := hQZ _ zD
    replace kE0 := hQC _ _ kE0; replace kE1 := hQC _ _ kE1; replace kE2 := hQC _ _ kE2; replace kE3 := hQC _ _ kE3; replace kE4 := hQC _ _ kE4; replace zE := hQZ _ zE
    replace kG0 := hQC _ _ kG0; replace kG1 := hQC _ _ kG1; replace kG2 := hQC _ _ kG2; replace kG3 := hQC _ _ kG3; replace kG4 := hQC _ _ kG4; replace zG := hQZ _ zG
    replace kI0 := hQC _ _ kI0; replace kI1 := hQC _ _ kI1; replace kI2 := hQC _ _ kI2; replace kI3 := hQC _ _ kI3; replace kI4 := hQC _ _ kI4; replace zI := hQZ _ zI
    replace kJ0 := hQC _ _ kJ0; replace kJ1 := hQC _ _ kJ1; replace kJ2 := hQC _ _ kJ2; replace kJ3 := hQC _ _ kJ3; replace kJ4 := hQC _ _ kJ4; replace zJ := hQZ _ zJ
    replace kL0 := hQC _ _ kL0; replace kL1 := hQC _ _ kL1; replace kL2 := hQC _ _ kL2; replace kL3 := hQC _ _ kL3; replace kL4 := hQC _ _ kL4; replace zL := hQZ _ zL
    replace kM0 := hQC _ _ kM0; replace kM1 := hQC _ _ kM1; replace kM2 := hQC _ _ kM2; replace kM3 := hQC _ _ kM3; replace kM4 := hQC _ _ kM4; replace zM := hQZ _ zM
    clear hQC hQZ
    have kR0 : s39.cell? ⟨R, 0, none⟩ = some (.string p4.sh) := by rw [hws]; simp [go_sem, hdR, hdS]
    have kR1 : s39.cell? ⟨R, 1, none⟩ = some (.int .i64 p4.c) := by rw [hws]; simp [go_sem, hdR, hdS]
    have kR2 : s39.cell? ⟨R, 2, none⟩ = some (.int .i64 p4.r) := by rw [hws]; simp [go_sem, hdR, hdS]
    have kR3 : s39.cell? ⟨R, 3, none⟩ = some (.bool p4.fc) := by rw [hws]; simp [go_sem, hdR, hdS]
    have kR4 : s39.cell? ⟨R, 4, none⟩ = some (.bool p4.fr) := by rw [hws]; simp [go_sem, hdR, hdS]
    have zR : R < s39.heap.size := by omega
    have lR : w.heap.size ≤ R := by have := hBo.size; omega
    have kS0 : s39.cell? ⟨S, 0, none⟩ = some (.string q4.sh) := by rw [hws]; simp [go_sem, hdR, hdS]
    have kS1 : s39.cell? ⟨S, 1, none⟩ = some (.int .i64 q4.c) := by rw [hws]; simp [go_sem, hdR, hdS]
    have kS2 : s39.cell? ⟨S, 2, none⟩ = some (.int .i64 q4.r) := by rw [hws]; simp [go_sem, hdR, hdS]
    have kS3 : s39.cell? ⟨S, 3, none⟩ = some (.bool q4.fc) := by rw [hws]; simp [go_sem, hdR, hdS]
    have kS4 : s39.cell? ⟨S, 4, none⟩ = some (.bool q4.fr) := by rw [hws]; simp [go_sem, hdR, hdS]
    have zS : S < s39.heap.size := by omega
    have lS : w.heap.size ≤ S := by have := hBo.size; omega
    rw [← hws]
    try rw [← hdS]
    try rw [← hdR]
    clear hBo
    clear hws hsz hdR hdS
    have hBo := hBs; clear hBs
    refine (H8.out _).mono ?_; rintro e s40 ⟨rfl, hb⟩
    replace kA0 := belK hb kA0 zA; replace kA1 := belK hb kA1 zA; replace kA2 := belK hb kA2 zA; replace kA3 := belK hb kA3 zA; replace kA4 := belK hb kA4 zA; replace zA := Nat.lt_of_lt_of_le zA hb.size
    replace kB0 := belK hb kB0 zB; replace kB1 := belK hb kB1 zB; replace kB2 := belK hb kB2 zB; replace kB3 := belK hb kB3 zB; replace kB4 := belK hb kB4 zB; replace zB := Nat.lt_of_lt_of_le zB hb.size
    replace kQ0 := belK hb kQ0 zQ; replace kQ1 := belK hb kQ1 zQ; replace kQ2 := belK hb kQ2 zQ; replace zQ := Nat.lt_of_lt_of_le zQ hb.size
    replace kC0 := belK hb kC0 zC; replace kC1 := belK hb kC1 zC; replace kC2 := belK hb kC2 zC; replace kC3 := belK hb kC3 zC; replace kC4 := belK hb kC4 zC; replace zC := Nat.lt_of_lt_of_le zC hb.size
    replace kD0 := belK hb kD0 zD; replace kD1 := belK hb kD1 zD; replace kD2 := belK hb kD2 zD; replace kD3 := belK hb kD3 zD; replace kD4 := belK hb kD4 zD; replace zD := Nat.lt_of_lt_of_le zD hb.size
    replace kE0 := belK hb kE0 zE; replace kE1 := belK hb kE1 zE; replace kE2 := belK hb kE2 zE; replace kE3 := belK hb kE3 zE; replace kE4 := belK hb kE4 zE; replace zE := Nat.lt_of_lt_of_le zE hb.size
    replace kG0 := belK hb kG0 zG; replace kG1 := belK hb kG1 zG; replace kG2 := belK hb kG2 zG; replace kG3 := belK hb kG3 zG; replace kG4 := belK hb kG4 zG; replace zG := Nat.lt_of_lt_of_le zG hb.size
    replace kI0 := belK hb kI0 zI; replace kI1 := belK hb kI1 zI; replace kI2 := belK hb kI2 zI; replace kI3 := belK hb kI3 zI; replace kI4 := belK hb kI4 zI; replace zI := Nat.lt_of_lt_of_le zI hb.size
    replace kJ0 := belK hb kJ0 zJ; replace kJ1 := belK hb kJ1 zJ; replace kJ2 := belK hb kJ2 zJ; replace kJ3 := belK hb kJ3 zJ; replace kJ4 := belK hb kJ4 zJ; replace zJ := Nat.lt_of_lt_of_le zJ hb.size
    replace kL0 := belK hb kL0 zL; replace kL1 := belK hb kL1 zL; replace kL2 := belK hb kL2 zL; replace kL3 := belK hb kL3 zL; replace kL4 := belK hb kL4 zL; replace zL := Nat.lt_of_lt_of_le zL hb.size
    replace kM0 := belK hb kM0 zM; replace kM1 := belK hb kM1 zM; replace kM2 := belK hb kM2 zM; replace kM3 := belK hb kM3 zM; replace kM4 := belK hb kM4 zM; replace zM := Nat.lt_of_lt_of_le zM hb.size
    replace kR0 := belK hb kR0 zR; replace kR1 := belK hb kR1 zR; replace kR2 := belK hb kR2 zR; replace kR3 := belK hb kR3 zR; replace kR4 := belK hb kR4 zR; replace zR := Nat.lt_of_lt_of_le zR hb.size
    replace kS0 := belK hb kS0 zS; replace kS1 := belK hb kS1 zS; replace kS2 := belK hb kS2 zS; replace kS3 := belK hb kS3 zS; replace kS4 := belK hb kS4 zS; replace zS := Nat.lt_of_lt_of_le zS hb.size
    replace hBo := hBo.trans (hb.mono hBo.size)
    clear hb
    go_wp2_with fail
    obtain ⟨s41, hws⟩ : ∃ s, s = ((s40.alloc (.cells #[.string p4.sh, .int .i64 p4.c, .int .i64 p4.r, .bool p4.fc, .bool p4.fr] 23)).alloc (.cells #[.string q4.sh, .int .i64 q4.c, .int .i64 q4.r, .bool q4.fc, .bool q4.fr] 23)) := ⟨_, rfl⟩
    have hBs : Below w.heap.size w s41 := by rw [hws]; exact (((hBo).alloc (by exact hBo.size) _).alloc (by have := hBo.size; simp; omega) _)
    obtain ⟨U, hdU⟩ : ∃ b, b = s40.heap.size := ⟨_, rfl⟩
    obtain ⟨V, hdV⟩ : ∃ b, b = s40.heap.size + 1 := ⟨_, rfl⟩
    have hsz : s41.heap.size = s40.heap.size + 1 + 1 := by rw [hws]; simp
    have hQC : ∀ p v, s40.cell? p = some v → s41.cell? p = some v := fun p v h => by rw [hws]; exact (alK (alK h))
    have hQZ : ∀ b, b < s40.heap.size → b < s41.heap.size := fun b h => by omega
    replace kA0 := hQC _ _ kA0; replace kA1 := hQC _ _ kA1; replace kA2 := hQC _ _ kA2; replace kA3 := hQC _ _ kA3; replace kA4 := hQC _ _ kA4; replace zA := hQZ _ zA
    replace kB0 := hQC _ _ kB0; replace kB1 := hQC _ _ kB1; replace kB2 := hQC _ _ kB2; replace kB3 := hQC _ _ kB3; replace kB4 := hQC _ _ kB4; replace zB := hQZ _ zB
    replace kQ0 := hQC _ _ kQ0; replace kQ1 := hQC _ _ kQ1; replace kQ2 := hQC _ _ kQ2; replace zQ := hQZ _ zQ
    replace kC0 := hQC _ _ kC0; replace kC1 := hQC _ _ kC1; replace kC2 := hQC _ _ kC2; replace kC3 := hQC _ _ kC3; replace kC4 := hQC _ _ kC4; replace zC := hQZ _ zC
    replace kD0 := hQC _ _ kD0; replace kD1 := hQC _ _ kD1; replace kD2 := hQC _ _ kD2; replace kD3 := hQC _ _ kD3; replace kD4 := hQC _ _ kD4; replace zD := hQZ _ zD
    replace kE0 := hQC _ _ kE0; replace kE1 := hQC _ _ kE1; replace kE2 := hQC _ _ kE2; replace kE3 := hQC _ _ kE3; replace kE4 := hQC _ _ kE4; replace zE := hQZ _ zE
    replace kG0 := hQC _ _ kG0; replace kG1 := hQC _ _ kG1; replace kG2 := hQC _ _ kG2; replace kG3 := hQC _ _ kG3; replace kG4 := hQC _ _ kG4; replace zG := hQZ _ zG
    replace kI0 := hQC _ _ kI0; replace kI1 := hQC _ _ kI1; replace kI2 := hQC _ _ kI2; replace kI3 := hQC _ _ kI3; replace kI4 := hQC _ _ kI4; replace zI := hQZ _ zI
    replace kJ0 := hQC _ _ kJ0; replace kJ1 := hQC _ _ kJ1; replace kJ2 := hQC _ _ kJ2; replace kJ3 := hQC _ _ kJ3; replace kJ4 := hQC _ _ kJ4; replace zJ := hQZ _ zJ
    replace kL0 := hQC _ _ kL0; replace kL1 := hQC _ _ kL1; replace kL2 := hQC _ _ kL2; replace kL3 := hQC _ _ kL3; replace kL4 := hQC _ _ kL4; replace zL := hQZ _ zL
    replace kM0 := hQC _ _ kM0; replace kM1 := hQC _ _ kM1; replace kM2 := hQC _ _ kM2; replace kM3 := hQC _ _ kM3; replace kM4 := hQC _ _ kM4; replace zM := hQZ _ zM
    replace kR0 := hQC _ _ kR0; replace kR1 := hQC _ _ kR1; replace kR2 := hQC _ _ kR2; replace kR3 := hQC _ _ kR3; replace kR4 := hQC _ _ kR4; replace zR := hQZ _ zR
    replace kS0 := hQC _ _ kS0; replace kS1 := hQC _ _ kS1; replace kS2 := hQC _ _ kS2; replace kS3 := hQC _ _ kS3; replace kS4 := hQC _ _ kS4; replace zS := hQZ _ zS
    clear hQC hQZ
    have kU0 : s41.cell? ⟨U, 0, none⟩ = some (.string p4.sh) := by rw [hws]; simp [go_sem, hdU, hdV]
    have kU1 : s41.cell? ⟨U, 1, none⟩ = some (.int .i64 p4.c) := by rw [hws]; simp [go_sem, hdU, hdV]
    have kU2 : s41.cell? ⟨U, 2, none⟩ = some (.int .i64 p4.r) := by rw [hws]; simp [go_sem, hdU, hdV]
    have kU3 : s41.cell? ⟨U, 3, none⟩ = some (.bool p4.fc) := by rw [hws]; simp [go_sem, hdU, hdV]
    have kU4 : s41.cell? ⟨U, 4, none⟩ = some (.bool p4.fr) := by rw [hws]; simp [go_sem, hdU, hdV]
    have zU : U < s41.heap.size := by omega
    have lU : w.heap.size ≤ U := by have := hBo.size; omega
    have kV0 : s41.cell? ⟨V, 0, none⟩ = some (.string q4.sh) := by rw [hws]; simp [go_sem, hdU, hdV]
    have kV1 : s41.cell? ⟨V, 1, none⟩ = some (.int .i64 q4.c) := by rw [hws]; simp [go_sem, hdU, hdV]
    have kV2 : s41.cell? ⟨V, 2, none⟩ = some (.int .i64 q4.r) := by rw [hws]; simp [go_sem, hdU, hdV]
    have kV3 : s41.cell? ⟨V, 3, none⟩ = some (.bool q4.fc) := by rw [hws]; simp [go_sem, hdU, hdV]
    have kV4 : s41.cell? ⟨V, 4, none⟩ = some (.bool q4.fr) := by rw [hws]; simp [go_sem, hdU, hdV]
    have zV : V < s41.heap.size := by omega
    have lV : w.heap.size ≤ V := by have := hBo.size; omega
    rw [← hws]
    try rw [← hdV]
    try rw [← hdU]
    clear hBo
    clear hws hsz hdU hdV
    have hBo := hBs; clear hBs
    refine (H9.out _).mono ?_; rintro e s42 ⟨rfl, hb⟩
    replace kA0 := belK hb kA0 zA; replace kA1 := belK hb kA1 zA; replace kA2 := belK hb kA2 zA; replace kA3 := belK hb kA3 zA; replace kA4 := belK hb kA4 zA; replace zA := Nat.lt_of_lt_of_le zA hb.size
    replace kB0 := belK hb kB0 zB; replace kB1 := belK hb kB1 zB; replace kB2 := belK hb kB2 zB; replace kB3 := belK hb kB3 zB; replace kB4 := belK hb kB4 zB; replace zB := Nat.lt_of_lt_of_le zB hb.size
    replace kQ0 := belK hb kQ0 zQ; replace kQ1 := belK hb kQ1 zQ; replace kQ2 := belK hb kQ2 zQ; replace zQ := Nat.lt_of_lt_of_le zQ hb.size
    replace kC0 := belK hb kC0 zC; replace kC1 := belK hb kC1 zC; replace kC2 := belK hb kC2 zC; replace kC3 := belK hb kC3 zC; replace kC4 := belK hb kC4 zC; replace zC := Nat.lt_of_lt_of_le zC hb.size
    replace kD0 := belK hb kD0 zD; replace kD1 := belK hb kD1 zD; replace kD2 := belK hb kD2 zD; replace kD3 := belK hb kD3 zD; replace kD4 := belK hb kD4 zD; replace zD := Nat.lt_of_lt_of_le zD hb.size
    replace kE0 := belK hb kE0 zE; replace kE1 := belK hb kE1 zE; replace kE2 := belK hb kE2 zE; replace kE3 := belK hb kE3 zE; replace kE4 := belK hb kE4 zE; replace zE := Nat.lt_of_lt_of_le zE hb.size
    replace kG0 := belK hb kG0 zG; replace kG1 := belK hb kG1 zG; replace kG2 := belK hb kG2 zG; replace kG3 := belK hb kG3 zG; replace kG4 := belK hb kG4 zG; replace zG := Nat.lt_of_lt_of_le zG hb.size
    replace kI0 := belK hb kI0 zI; replace kI1 := belK hb kI1 zI; replace kI2 := belK hb kI2 zI; replace kI3 := belK hb kI3 zI; replace kI4 := belK hb kI4 zI; replace zI := Nat.lt_of_lt_of_le zI hb.size
    replace kJ0 := belK hb kJ0 zJ; replace kJ1 := belK hb kJ1 zJ; replace kJ2 := belK hb kJ2 zJ; replace kJ3 := belK hb kJ3 zJ; replace kJ4 := belK hb kJ4 zJ; replace zJ := Nat.lt_of_lt_of_le zJ hb.size
    replace kL0 := belK hb kL0 zL; replace kL1 := belK hb kL1 zL; replace kL2 := belK hb kL2 zL; replace kL3 := belK hb kL3 zL; replace kL4 := belK hb kL4 zL; replace zL := Nat.lt_of_lt_of_le zL hb.size
    replace kM0 := belK hb kM0 zM; replace kM1 := belK hb kM1 zM; replace kM2 := belK hb kM2 zM; replace kM3 := belK hb kM3 zM; replace kM4 := belK hb kM4 zM; replace zM := Nat.lt_of_lt_of_le zM hb.size
    replace kR0 := belK hb kR0 zR; replace kR1 := belK hb kR1 zR; replace kR2 := belK hb kR2 zR; replace kR3 := belK hb kR3 zR; replace kR4 := belK hb kR4 zR; replace zR := Nat.lt_of_lt_of_le zR hb.size
    replace kS0 := belK hb kS0 zS; replace kS1 := belK hb kS1 zS; replace kS2 := belK hb kS2 zS; replace kS3 := belK hb kS3 zS; replace kS4 := belK hb kS4 zS; replace zS := Nat.lt_of_lt_of_le zS hb.size
    replace kU0 := belK hb kU0 zU; replace kU1 := belK hb kU1 zU; replace kU2 := belK hb kU2 zU; replace kU3 := belK hb kU3 zU; replace kU4 := belK hb kU4 zU; replace zU := Nat.lt_of_lt_of_le zU hb.size
    replace kV0 := belK hb kV0 zV; replace kV1 := belK hb kV1 zV; replace kV2 := belK hb kV2 zV; replace kV3 := belK hb kV3 zV; replace kV4 := belK hb kV4 zV; replace zV := Nat.lt_of_lt_of_le zV hb.size
    replace hBo := hBo.trans (hb.mono hBo.size)
    clear hb
    go_wp2_with fail
    obtain ⟨s43, hws⟩ : ∃ s, s = (s42.alloc (.cells #[.string p5.sh, .int .i64 p5.c, .int .i64 p5.r, .bool p5.fc, .bool p5.fr] 23)) := ⟨_, rfl⟩
    have hBs : Below w.heap.size w s43 := by rw [hws]; exact ((hBo).alloc (by exact hBo.size) _)
    obtain ⟨X, hdX⟩ : ∃ b, b = s42.heap.size := ⟨_, rfl⟩
    have hsz : s43.heap.size = s42.heap.size + 1 := by rw [hws]; simp
    have hQC : ∀ p v, s42.cell? p = some v → s43.cell? p = some v := fun p v h => by rw [hws]; exact (alK h)
    have hQZ : ∀ b, b < s42.heap.size → b < s43.heap.size := fun b h => by omega
    replace kA0 := hQC _ _ kA0; replace kA1 := hQC _ _ kA1; replace kA2 := hQC _ _ kA2; replace kA3 := hQC _ _ kA3; replace kA4 := hQC _ _ kA4; replace zA := hQZ _ zA
    replace kB0 := hQC _ _ kB0; replace kB1 := hQC _ _ kB1; replace kB2 := hQC _ _ kB2; replace kB3 := hQC _ _ kB3; replace kB4 := hQC _ _ kB4; replace zB := hQZ _ zB
    replace kQ0 := hQC _ _ kQ0; replace kQ1 := hQC _ _ kQ1; replace kQ2 := hQC _ _ kQ2; replace zQ := hQZ _ zQ
    replace kC0 := hQC _ _ kC0; replace kC1 := hQC _ _ kC1; replace kC2 := hQC _ _ kC2; replace kC3 := hQC _ _ kC3; replace kC4 := hQC _ _ kC4; replace zC := hQZ _ zC
    replace kD0 := hQC _ _ kD0; replace kD1 := hQC _ _ kD1; replace kD2 := hQC _ _ kD2; replace kD3 := hQC _ _ kD3; replace kD4 := hQC _ _ kD4; replace zD := hQZ _ zD
    replace kE0 := hQC _ _ kE0; replace kE1 := hQC _ _ kE1; replace kE2 := hQC _ _ kE2; replace kE3 := hQC _ _ kE3; replace kE4 := hQC _ _ kE4; replace zE := hQZ _ zE
    replace kG0 := hQC _ _ kG0; replace kG1 := hQC _ _ kG1; replace kG2 := hQC _ _ kG2; replace kG3 := hQC _ _ kG3; replace kG4 := hQC _ _ kG4; replace zG := hQZ _ zG
    replace kI0 := hQC _ _ kI0; replace kI1 := hQC _ _ kI1; replace kI2 := hQC _ _ kI2; replace kI3 := hQC _ _ kI3; replace kI4 := hQC _ _ kI4; replace zI := hQZ _ zI
    replace kJ0 := hQC _ _ kJ0; replace kJ1 := hQC _ _ kJ1; replace kJ2 := hQC _ _ kJ2; replace kJ3 := hQC _ _ kJ3; replace kJ4 := hQC _ _ kJ4; replace zJ := hQZ _ zJ
    replace kL0 := hQC _ _ kL0; replace kL1 := hQC _ _ kL1; replace kL2 := hQC _ _ kL2; replace kL3 := hQC _ _ kL3; replace kL4 := hQC _ _ kL4; replace zL := hQZ _ zL
    replace kM0 := hQC _ _ kM0; replace kM1 := hQC _ _ kM1; replace kM2 := hQC _ _ kM2; replace kM3 := hQC _ _ kM3; replace kM4 := hQC _ _ kM4; replace zM := hQZ _ zM
    replace kR0 := hQC _ _ kR0; replace kR1 := hQC _ _ kR1; replace kR2 := hQC _ _ kR2; replace kR3 := hQC _ _ kR3; replace kR4 := hQC _ _ kR4; replace zR := hQZ _ zR
    replace kS0 := hQC _ _ kS0; replace kS1 := hQC _ _ kS1; replace kS2 := hQC _ _ kS2; replace kS3 := hQC _ _ kS3; replace kS4 := hQC _ _ kS4; replace zS := hQZ _ zS
    replace kU0 := hQC _ _ kU0; replace kU1 := hQC _ _ kU1; replace kU2 := hQC _ _ kU2; replace kU3 := hQC _ _ kU3; replace kU4 := hQC _ _ kU4; replace zU := hQZ _ zU
    replace kV0 := hQC _ _ kV0; replace kV1 := hQC _ _ kV1; replace kV2 := hQC _ _ kV2; replace kV3 := hQC _ _ kV3; replace kV4 := hQC _ _ kV4; replace zV := hQZ _ zV
    clear hQC hQZ
    have kX0 : s43.cell? ⟨X, 0, none⟩ = some (.string p5.sh) := by rw [hws]; simp [go_sem, hdX]
    have kX1 : s43.cell? ⟨X, 1, none⟩ = some (.int .i64 p5.c) := by rw [hws]; simp [go_sem, hdX]
    have kX2 : s43.cell? ⟨X, 2, none⟩ = some (.int .i64 p5.r) := by rw [hws]; simp [go_sem, hdX]
    have kX3 : s43.cell? ⟨X, 3, none⟩ = some (.bool p5.fc) := by rw [hws]; simp [go_sem, hdX]
    have kX4 : s43.cell? ⟨X, 4, none⟩ = some (.bool p5.fr) := by rw [hws]; simp [go_sem, hdX]
    have zX : X < s43.heap.size := by omega
    have lX : w.heap.size ≤ X := by have := hBo.size; omega
    rw [← hws]
    try rw [← hdX]
    clear hBo
    clear hws hsz hdX
    have hBo := hBs; clear hBs
    refine (HK.out _).mono ?_; rintro e s44 ⟨rfl, hb⟩
    replace kA0 := belK hb kA0 zA; replace kA1 := belK hb kA1 zA; replace kA2 := belK hb kA2 zA; replace kA3 := belK hb kA3 zA; replace kA4 := belK hb kA4 zA; replace zA := Nat.lt_of_lt_of_le zA hb.size
    replace kB0 := belK hb kB0 zB; replace kB1 := belK hb kB1 zB; replace kB2 := belK hb kB2 zB; replace kB3 := belK hb kB3 zB; replace kB4 := belK hb kB4 zB; replace zB := Nat.lt_of_lt_of_le zB hb.size
    replace kQ0 := belK hb kQ0 zQ; replace kQ1 := belK hb kQ1 zQ; replace kQ2 := belK hb kQ2 zQ; replace zQ := Nat.lt_of_lt_of_le zQ hb.size
    replace kC0 := belK hb kC0 zC; replace kC1 := belK hb kC1 zC; replace kC2 := belK hb kC2 zC; replace kC3 := belK hb kC3 zC; replace kC4 := belK hb kC4 zC; replace zC := Nat.lt_of_lt_of_le zC hb.size
    replace kD0 := belK hb kD0 zD; replace kD1 := belK hb kD1 zD; replace kD2 := belK hb kD2 zD; replace kD3 := belK hb kD3 zD; replace kD4 := belK hb kD4 zD; replace zD := Nat.lt_of_lt_of_le zD hb.size
    replace kE0 := belK hb kE0 zE; replace kE1 := belK hb kE1 zE; replace kE2 := belK hb kE2 zE; replace kE3 := belK hb kE3 zE; replace kE4 := belK hb kE4 zE; replace zE := Nat.lt_of_lt_of_le zE hb.size
    replace kG0 := belK hb kG0 zG; replace kG1 := belK hb kG1 zG; replace kG2 := belK hb kG2 zG; replace kG3 := belK hb kG3 zG; replace kG4 := belK hb kG4 zG; replace zG := Nat.lt_of_lt_of_le zG hb.size
    replace kI0 := belK hb kI0 zI; replace kI1 := belK hb kI1 zI; replace kI2 := belK hb kI2 zI; replace kI3 := belK hb kI3 zI; replace kI4 := belK hb kI4 zI; replace zI := Nat.lt_of_lt_of_le zI hb.size
    replace kJ0 := belK hb kJ0 zJ; replace kJ1 := belK hb kJ1 zJ; replace kJ2 := belK hb kJ2 zJ; replace kJ3 := belK hb kJ3 zJ; replace kJ4 := belK hb kJ4 zJ; replace zJ := Nat.lt_of_lt_of_le zJ hb.size
    replace kL0 := belK hb kL0 zL; replace kL1 := belK hb kL1 zL; replace kL2 := belK hb kL2 zL; replace kL3 := belK hb kL3 zL; replace kL4 := belK hb kL4 zL; replace zL := Nat.lt_of_lt_of_le zL hb.size
    replace kM0 := belK hb kM0 zM; replace kM1 := belK hb kM1 zM; replace kM2 := belK hb kM2 zM; replace kM3 := belK hb kM3 zM; replace kM4 := belK hb kM4 zM; replace zM := Nat.lt_of_lt_of_le zM hb.size
    replace kR0 := belK hb kR0 zR; replace kR1 := belK hb kR1 zR; replace kR2 := belK hb kR2 zR; replace kR3 := belK hb kR3 zR; replace kR4 := belK hb kR4 zR; replace zR := Nat.lt_of_lt_of_le zR hb.size
    replace kS0 := belK hb kS0 zS; replace kS1 := belK hb kS1 zS; replace kS2 := belK hb kS2 zS; replace kS3 := belK hb kS3 zS; replace kS4 := belK hb kS4 zS; replace zS := Nat.lt_of_lt_of_le zS hb.size
    replace kU0 := belK hb kU0 zU; replace kU1 := belK hb kU1 zU; replace kU2 := belK hb kU2 zU; replace kU3 := belK hb kU3 zU; replace kU4 := belK hb kU4 zU; replace zU := Nat.lt_of_lt_of_le zU hb.size
    replace kV0 := belK hb kV0 zV; replace kV1 := belK hb kV1 zV; replace kV2 := belK hb kV2 zV; replace kV3 := belK hb kV3 zV; replace kV4 := belK hb kV4 zV; replace zV := Nat.lt_of_lt_of_le zV hb.size
    replace kX0 := belK hb kX0 zX; replace kX1 := belK hb kX1 zX; replace kX2 := belK hb kX2 zX; replace kX3 := belK hb kX3 zX; replace kX4 := belK hb kX4 zX; replace zX := Nat.lt_of_lt_of_le zX hb.size
    replace hBo := hBo.trans (hb.mono hBo.size)
    clear hb
    all_goals go_wp2_with fail
    all_goals first | go_ret | go_ret2
    all_goals exact ⟨rfl, hBo⟩
end Go.Proofs.YtlpjaflolnggnaaGreatDoor
