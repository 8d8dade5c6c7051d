/-
  LAYER 11, REFERENCES: RefMoves.
-/
import Derived.Test.YtlpjaflolnggnaaGreatDoorCel28
import Derived.Test.YtlpjaflolnggnaaGreatDoorCel9
namespace Go.Proofs.YtlpjaflolnggnaaGreatDoor
open Go.RowKit Go.Shelf
set_option linter.unusedSimpArgs false
set_option linter.unusedVariables false

theorem mvC_back (f : Bool) (c d : Int) : mvC f (mvC f c d) (-d) = c := by unfold mvC; cases f <;> simp <;> omega
theorem mv_back {q p : Rf} {d e : Int} (h : mvB q d e = true) (hp : mvR q d e = p) : mvB p (-d) (-e) = true ∧ mvR p (-d) (-e) = q ∧ p.sh = q.sh := by
  rw [mvR_yes h] at hp
  subst hp
  have h2 : mvB ⟨q.sh, mvC q.fc q.c d, mvC q.fr q.r e, q.fc, q.fr⟩ (-d) (-e) = true := by
    unfold mvB at h ⊢
    rw [Bool.and_eq_true] at h ⊢
    dsimp only
    rw [mvC_back, mvC_back]
    exact ⟨h.2, h.1⟩
  refine ⟨h2, ?_, rfl⟩
  rw [mvR_yes h2]
  dsimp only
  rw [mvC_back, mvC_back]
set_option maxRecDepth 100000 in
set_option maxHeartbeats 8000000 in
theorem refMoves_any (q : Rf) (c d : Int) (w : World) (hs : q.sh.size ≤ maxLen) (hc1 : -9223372036854775808 ≤ c) (hc2 : c ≤ 9223372036854775807) (hd1 : -9223372036854775808 ≤ d) (hd2 : d ≤ 9223372036854775807) :
    Calls Tryz.prog 3 #[.agg #[.string q.sh, .int .i64 q.c, .int .i64 q.r, .bool q.fc, .bool q.fr], .int .i64 c, .int .i64 d] w fun e w' => e = .returned (.bool true) ∧ Below w.heap.size w w' := by
  have hud : undef = Value.tuple #[] := rfl
  have HK := Lib.hid known11_any
  obtain ⟨p, hp⟩ : ∃ p, mvR q c d = p := ⟨_, rfl⟩
  obtain ⟨k, hk⟩ : ∃ k, mvB q c d = k := ⟨_, rfl⟩
  have H1 := Lib.hid (fun w => move_any q c d p k w hs hc1 hc2 hd1 hd2 hp hk)
  have H2 := Lib.hid (fun w => refMove_any q c d p k w hs hc1 hc2 hd1 hd2 hp hk)
  have hs3 := hs
  unfold maxLen at hs3
  by_cases hbig : 200 < q.sh.size
  · clear H1 H2 hp hk hs hc1 hc2 hd1 hd2
    go_enter Tryz.func3, Tryz.ntmps3
    go_wp2_with fail
    obtain ⟨s1, hws⟩ : ∃ s, s = (w.alloc (.cells #[.string q.sh, .int .i64 q.c, .int .i64 q.r, .bool q.fc, .bool q.fr] 23)) := ⟨_, rfl⟩
    have hBs : Below w.heap.size w s1 := by rw [hws]; exact ((Below.refl w.heap.size w).alloc (by simp) _)
    obtain ⟨A, hdA⟩ : ∃ b, b = w.heap.size := ⟨_, rfl⟩
    have hsz : s1.heap.size = w.heap.size + 1 := by rw [hws]; simp
    have kA0 : s1.cell? ⟨A, 0, none⟩ = some (.string q.sh) := by rw [hws]; simp [go_sem, hdA]
    have kA1 : s1.cell? ⟨A, 1, none⟩ = some (.int .i64 q.c) := by rw [hws]; simp [go_sem, hdA]
    have kA2 : s1.cell? ⟨A, 2, none⟩ = some (.int .i64 q.r) := by rw [hws]; simp [go_sem, hdA]
    have kA3 : s1.cell? ⟨A, 3, none⟩ = some (.bool q.fc) := by rw [hws]; simp [go_sem, hdA]
    have kA4 : s1.cell? ⟨A, 4, none⟩ = some (.bool q.fr) := by rw [hws]; simp [go_sem, hdA]
    have zA : A < s1.heap.size := by omega
    have lA : w.heap.size ≤ A := by have := Nat.le_refl w.heap.size; omega
    rw [← hws]
    try rw [← hdA]
    clear hws hsz hdA
    have hBo := hBs; clear hBs
    refine (HK.out _).mono ?_; rintro e s2 ⟨rfl, hb⟩
    replace kA0 := belK hb kA0 zA; replace kA1 := belK hb kA1 zA; replace kA2 := belK hb kA2 zA; replace kA3 := belK hb kA3 zA; replace kA4 := belK hb kA4 zA; replace zA := Nat.lt_of_lt_of_le zA hb.size
    replace hBo := hBo.trans (hb.mono hBo.size)
    clear hb
    all_goals go_wp2_with fail
    all_goals first | go_ret | go_ret2
    all_goals exact ⟨rfl, hBo⟩
  cases k with
  | false =>
    clear hp hk hs hc1 hc2 hd1 hd2
    go_enter Tryz.func3, Tryz.ntmps3
    go_wp2_with fail
    obtain ⟨s3, hws⟩ : ∃ s, s = (w.alloc (.cells #[.string q.sh, .int .i64 q.c, .int .i64 q.r, .bool q.fc, .bool q.fr] 23)) := ⟨_, rfl⟩
    have hBs : Below w.heap.size w s3 := by rw [hws]; exact ((Below.refl w.heap.size w).alloc (by simp) _)
    obtain ⟨A, hdA⟩ : ∃ b, b = w.heap.size := ⟨_, rfl⟩
    have hsz : s3.heap.size = w.heap.size + 1 := by rw [hws]; simp
    have kA0 : s3.cell? ⟨A, 0, none⟩ = some (.string q.sh) := by rw [hws]; simp [go_sem, hdA]
    have kA1 : s3.cell? ⟨A, 1, none⟩ = some (.int .i64 q.c) := by rw [hws]; simp [go_sem, hdA]
    have kA2 : s3.cell? ⟨A, 2, none⟩ = some (.int .i64 q.r) := by rw [hws]; simp [go_sem, hdA]
    have kA3 : s3.cell? ⟨A, 3, none⟩ = some (.bool q.fc) := by rw [hws]; simp [go_sem, hdA]
    have kA4 : s3.cell? ⟨A, 4, none⟩ = some (.bool q.fr) := by rw [hws]; simp [go_sem, hdA]
    have zA : A < s3.heap.size := by omega
    have lA : w.heap.size ≤ A := by have := Nat.le_refl w.heap.size; omega
    rw [← hws]
    try rw [← hdA]
    clear hws hsz hdA
    have hBo := hBs; clear hBs
    refine (H1.out _).mono ?_; rintro e s4 ⟨rfl, hb⟩
    replace kA0 := belK hb kA0 zA; replace kA1 := belK hb kA1 zA; replace kA2 := belK hb kA2 zA; replace kA3 := belK hb kA3 zA; replace kA4 := belK hb kA4 zA; replace zA := Nat.lt_of_lt_of_le zA hb.size
    replace hBo := hBo.trans (hb.mono hBo.size)
    clear hb
    go_wp2_with fail
    obtain ⟨s5, hws⟩ : ∃ s, s = (s4.alloc (.cells #[.string p.sh, .int .i64 p.c, .int .i64 p.r, .bool p.fc, .bool p.fr] 23)) := ⟨_, rfl⟩
    have hBs : Below w.heap.size w s5 := by rw [hws]; exact ((hBo).alloc (by exact hBo.size) _)
    obtain ⟨X, hdX⟩ : ∃ b, b = s4.heap.size := ⟨_, rfl⟩
    have hsz : s5.heap.size = s4.heap.size + 1 := by rw [hws]; simp
    have hQC : ∀ p v, s4.cell? p = some v → s5.cell? p = some v := fun p v h => by rw [hws]; exact (alK h)
    have hQZ : ∀ b, b < s4.heap.size → b < s5.heap.size := fun b h => by omega
    replace kA0 := hQC _ _ kA0; replace kA1 := hQC _ _ kA1; replace kA2 := hQC _ _ kA2; replace kA3 := hQC _ _ kA3; replace kA4 := hQC _ _ kA4; replace zA := hQZ _ zA
    clear hQC hQZ
    have kX0 : s5.cell? ⟨X, 0, none⟩ = some (.string p.sh) := by rw [hws]; simp [go_sem, hdX]
    have kX1 : s5.cell? ⟨X, 1, none⟩ = some (.int .i64 p.c) := by rw [hws]; simp [go_sem, hdX]
    have kX2 : s5.cell? ⟨X, 2, none⟩ = some (.int .i64 p.r) := by rw [hws]; simp [go_sem, hdX]
    have kX3 : s5.cell? ⟨X, 3, none⟩ = some (.bool p.fc) := by rw [hws]; simp [go_sem, hdX]
    have kX4 : s5.cell? ⟨X, 4, none⟩ = some (.bool p.fr) := by rw [hws]; simp [go_sem, hdX]
    have zX : X < s5.heap.size := by omega
    have lX : w.heap.size ≤ X := by have := hBo.size; omega
    rw [← hws]
    try rw [← hdX]
    clear hBo
    clear hws hsz hdX
    have hBo := hBs; clear hBs
    refine (H2.out _).mono ?_; rintro e s6 ⟨rfl, hb⟩
    replace kA0 := belK hb kA0 zA; replace kA1 := belK hb kA1 zA; replace kA2 := belK hb kA2 zA; replace kA3 := belK hb kA3 zA; replace kA4 := belK hb kA4 zA; replace zA := Nat.lt_of_lt_of_le zA hb.size
    replace kX0 := belK hb kX0 zX; replace kX1 := belK hb kX1 zX; replace kX2 := belK hb kX2 zX; replace kX3 := belK hb kX3 zX; replace kX4 := belK hb kX4 zX; replace zX := Nat.lt_of_lt_of_le zX hb.size
    replace hBo := hBo.trans (hb.mono hBo.size)
    clear hb
    go_wp2_with fail
    obtain ⟨s7, hws⟩ : ∃ s, s = (s6.alloc (.cells #[.string p.sh, .int .i64 p.c, .int .i64 p.r, .bool p.fc, .bool p.fr] 23)) := ⟨_, rfl⟩
    have hBs : Below w.heap.size w s7 := by rw [hws]; exact ((hBo).alloc (by exact hBo.size) _)
    obtain ⟨Y, hdY⟩ : ∃ b, b = s6.heap.size := ⟨_, rfl⟩
    have hsz : s7.heap.size = s6.heap.size + 1 := by rw [hws]; simp
    have hQC : ∀ p v, s6.cell? p = some v → s7.cell? p = some v := fun p v h => by rw [hws]; exact (alK h)
    have hQZ : ∀ b, b < s6.heap.size → b < s7.heap.size := fun b h => by omega
    replace kA0 := hQC _ _ kA0; replace kA1 := hQC _ _ kA1; replace kA2 := hQC _ _ kA2; replace kA3 := hQC _ _ kA3; replace kA4 := hQC _ _ kA4; replace zA := hQZ _ zA
    replace kX0 := hQC _ _ kX0; replace kX1 := hQC _ _ kX1; replace kX2 := hQC _ _ kX2; replace kX3 := hQC _ _ kX3; replace kX4 := hQC _ _ kX4; replace zX := hQZ _ zX
    clear hQC hQZ
    have kY0 : s7.cell? ⟨Y, 0, none⟩ = some (.string p.sh) := by rw [hws]; simp [go_sem, hdY]
    have kY1 : s7.cell? ⟨Y, 1, none⟩ = some (.int .i64 p.c) := by rw [hws]; simp [go_sem, hdY]
    have kY2 : s7.cell? ⟨Y, 2, none⟩ = some (.int .i64 p.r) := by rw [hws]; simp [go_sem, hdY]
    have kY3 : s7.cell? ⟨Y, 3, none⟩ = some (.bool p.fc) := by rw [hws]; simp [go_sem, hdY]
    have kY4 : s7.cell? ⟨Y, 4, none⟩ = some (.bool p.fr) := by rw [hws]; simp [go_sem, hdY]
    have zY : Y < s7.heap.size := by omega
    have lY : w.heap.size ≤ Y := by have := hBo.size; omega
    rw [← hws]
    try rw [← hdY]
    clear hBo
    clear hws hsz hdY
    have hBo := hBs; clear hBs
    refine (HK.out _).mono ?_; rintro e s8 ⟨rfl, hb⟩
    replace kA0 := belK hb kA0 zA; replace kA1 := belK hb kA1 zA; replace kA2 := belK hb kA2 zA; replace kA3 := belK hb kA3 zA; replace kA4 := belK hb kA4 zA; replace zA := Nat.lt_of_lt_of_le zA hb.size
    replace kX0 := belK hb kX0 zX; replace kX1 := belK hb kX1 zX; replace kX2 := belK hb kX2 zX; replace kX3 := belK hb kX3 zX; replace kX4 := belK hb kX4 zX; replace zX := Nat.lt_of_lt_of_le zX hb.size
    replace kY0 := belK hb kY0 zY; replace kY1 := belK hb kY1 zY; replace kY2 := belK hb kY2 zY; replace kY3 := belK hb kY3 zY; replace kY4 := belK hb kY4 zY; replace zY := Nat.lt_of_lt_of_le zY hb.size
    replace hBo := hBo.trans (hb.mono hBo.size)
    clear hb
    all_goals go_wp2_with fail
    all_goals first | go_ret | go_ret2
    all_goals exact ⟨rfl, hBo⟩
  | true =>
  obtain ⟨e1, e2, e3⟩ := mv_back hk hp
  have h3 : -200 ≤ c → c ≤ 200 → -200 ≤ d → d ≤ 200 → ∀ w, Calls Tryz.prog 6 #[.agg #[.string p.sh, .int .i64 p.c, .int .i64 p.r, .bool p.fc, .bool p.fr], .int .i64 (-c), .int .i64 (-d)] w fun e w' => e = .returned (.tuple #[.agg #[.string q.sh, .int .i64 q.c, .int .i64 q.r, .bool q.fc, .bool q.fr], .bool true]) ∧ Below w.heap.size w w' :=
    fun _ _ _ _ w => move_any p (-c) (-d) q true w (by rw [e3]; exact hs) (by omega) (by omega) (by omega) (by omega) e2 e1
  have h4 : c < -200 ∨ (¬ c < -200 ∧ 200 < c) ∨ (¬ c < -200 ∧ ¬ 200 < c ∧ d < -200) ∨ (¬ c < -200 ∧ ¬ 200 < c ∧ ¬ d < -200 ∧ 200 < d) ∨ (-200 ≤ c ∧ c ≤ 200 ∧ -200 ≤ d ∧ d ≤ 200) := by omega
  clear hp hk hs hc1 hc2 hd1 hd2 e1 e2 e3
  rcases h4 with h4 | ⟨h4, h5⟩ | ⟨h4, h5, h6⟩ | ⟨h4, h5, h6, h7⟩ | ⟨h4, h5, h6, h7⟩
  · clear h3
    go_enter Tryz.func3, Tryz.ntmps3
    go_wp2_with fail
    obtain ⟨s9, hws⟩ : ∃ s, s = (w.alloc (.cells #[.string q.sh, .int .i64 q.c, .int .i64 q.r, .bool q.fc, .bool q.fr] 23)) := ⟨_, rfl⟩
    have hBs : Below w.heap.size w s9 := by rw [hws]; exact ((Below.refl w.heap.size w).alloc (by simp) _)
    obtain ⟨A, hdA⟩ : ∃ b, b = w.heap.size := ⟨_, rfl⟩
    have hsz : s9.heap.size = w.heap.size + 1 := by rw [hws]; simp
    have kA0 : s9.cell? ⟨A, 0, none⟩ = some (.string q.sh) := by rw [hws]; simp [go_sem, hdA]
    have kA1 : s9.cell? ⟨A, 1, none⟩ = some (.int .i64 q.c) := by rw [hws]; simp [go_sem, hdA]
    have kA2 : s9.cell? ⟨A, 2, none⟩ = some (.int .i64 q.r) := by rw [hws]; simp [go_sem, hdA]
    have kA3 : s9.cell? ⟨A, 3, none⟩ = some (.bool q.fc) := by rw [hws]; simp [go_sem, hdA]
    have kA4 : s9.cell? ⟨A, 4, none⟩ = some (.bool q.fr) := by rw [hws]; simp [go_sem, hdA]
    have zA : A < s9.heap.size := by omega
    have lA : w.heap.size ≤ A := by have := Nat.le_refl w.heap.size; omega
    rw [← hws]
    try rw [← hdA]
    clear hws hsz hdA
    have hBo := hBs; clear hBs
    refine (H1.out _).mono ?_; rintro e s10 ⟨rfl, hb⟩
    replace kA0 := belK hb kA0 zA; replace kA1 := belK hb kA1 zA; replace kA2 := belK hb kA2 zA; replace kA3 := belK hb kA3 zA; replace kA4 := belK hb kA4 zA; replace zA := Nat.lt_of_lt_of_le zA hb.size
    replace hBo := hBo.trans (hb.mono hBo.size)
    clear hb
    go_wp2_with fail
    obtain ⟨s11, hws⟩ : ∃ s, s = (s10.alloc (.cells #[.string p.sh, .int .i64 p.c, .int .i64 p.r, .bool p.fc, .bool p.fr] 23)) := ⟨_, rfl⟩
    have hBs : Below w.heap.size w s11 := by rw [hws]; exact ((hBo).alloc (by exact hBo.size) _)
    obtain ⟨X, hdX⟩ : ∃ b, b = s10.heap.size := ⟨_, rfl⟩
    have hsz : s11.heap.size = s10.heap.size + 1 := by rw [hws]; simp
    have hQC : ∀ p v, s10.cell? p = some v → s11.cell? p = some v := fun p v h => by rw [hws]; exact (alK h)
    have hQZ : ∀ b, b < s10.heap.size → b < s11.heap.size := fun b h => by omega
    replace kA0 := hQC _ _ kA0; replace kA1 := hQC _ _ kA1; replace kA2 := hQC _ _ kA2; replace kA3 := hQC _ _ kA3; replace kA4 := hQC _ _ kA4; replace zA := hQZ _ zA
    clear hQC hQZ
    have kX0 : s11.cell? ⟨X, 0, none⟩ = some (.string p.sh) := by rw [hws]; simp [go_sem, hdX]
    have kX1 : s11.cell? ⟨X, 1, none⟩ = some (.int .i64 p.c) := by rw [hws]; simp [go_sem, hdX]
    have kX2 : s11.cell? ⟨X, 2, none⟩ = some (.int .i64 p.r) := by rw [hws]; simp [go_sem, hdX]
    have kX3 : s11.cell? ⟨X, 3, none⟩ = some (.bool p.fc) := by rw [hws]; simp [go_sem, hdX]
    have kX4 : s11.cell? ⟨X, 4, none⟩ = some (.bool p.fr) := by rw [hws]; simp [go_sem, hdX]
    have zX : X < s11.heap.size := by omega
    have lX : w.heap.size ≤ X := by have := hBo.size; omega
    rw [← hws]
    try rw [← hdX]
    clear hBo
    clear hws hsz hdX
    have hBo := hBs; clear hBs
    refine (H2.out _).mono ?_; rintro e s12 ⟨rfl, hb⟩
    replace kA0 := belK hb kA0 zA; replace kA1 := belK hb kA1 zA; replace kA2 := belK hb kA2 zA; replace kA3 := belK hb kA3 zA; replace kA4 := belK hb kA4 zA; replace zA := Nat.lt_of_lt_of_le zA hb.size
    replace kX0 := belK hb kX0 zX; replace kX1 := belK hb kX1 zX; replace kX2 := belK hb kX2 zX; replace kX3 := belK hb kX3 zX; replace kX4 := belK hb kX4 zX; replace zX := Nat.lt_of_lt_of_le zX hb.size
    replace hBo := hBo.trans (hb.mono hBo.size)
    clear hb
    go_wp2_with fail
    obtain ⟨s13, hws⟩ : ∃ s, s = (s12.alloc (.cells #[.string p.sh, .int .i64 p.c, .int .i64 p.r, .bool p.fc, .bool p.fr] 23)) := ⟨_, rfl⟩
    have hBs : Below w.heap.size w s13 := by rw [hws]; exact ((hBo).alloc (by exact hBo.size) _)
    obtain ⟨Y, hdY⟩ : ∃ b, b = s12.heap.size := ⟨_, rfl⟩
    have hsz : s13.heap.size = s12.heap.size + 1 := by rw [hws]; simp
    have hQC : ∀ p v, s12.cell? p = some v → s13.cell? p = some v := fun p v h => by rw [hws]; exact (alK h)
    have hQZ : ∀ b, b < s12.heap.size → b < s13.heap.size := fun b h => by omega
    replace kA0 := hQC _ _ kA0; replace kA1 := hQC _ _ kA1; replace kA2 := hQC _ _ kA2; replace kA3 := hQC _ _ kA3; replace kA4 := hQC _ _ kA4; replace zA := hQZ _ zA
    replace kX0 := hQC _ _ kX0; replace kX1 := hQC _ _ kX1; replace kX2 := hQC _ _ kX2; replace kX3 := hQC _ _ kX3; replace kX4 := hQC _ _ kX4; replace zX := hQZ _ zX
    clear hQC hQZ
    have kY0 : s13.cell? ⟨Y, 0, none⟩ = some (.string p.sh) := by rw [hws]; simp [go_sem, hdY]
    have kY1 : s13.cell? ⟨Y, 1, none⟩ = some (.int .i64 p.c) := by rw [hws]; simp [go_sem, hdY]
    have kY2 : s13.cell? ⟨Y, 2, none⟩ = some (.int .i64 p.r) := by rw [hws]; simp [go_sem, hdY]
    have kY3 : s13.cell? ⟨Y, 3, none⟩ = some (.bool p.fc) := by rw [hws]; simp [go_sem, hdY]
    have kY4 : s13.cell? ⟨Y, 4, none⟩ = some (.bool p.fr) := by rw [hws]; simp [go_sem, hdY]
    have zY : Y < s13.heap.size := by omega
    have lY : w.heap.size ≤ Y := by have := hBo.size; omega
    rw [← hws]
    try rw [← hdY]
    clear hBo
    clear hws hsz hdY
    have hBo := hBs; clear hBs
    refine (HK.out _).mono ?_; rintro e s14 ⟨rfl, hb⟩
    replace kA0 := belK hb kA0 zA; replace kA1 := belK hb kA1 zA; replace kA2 := belK hb kA2 zA; replace kA3 := belK hb kA3 zA; replace kA4 := belK hb kA4 zA; replace zA := Nat.lt_of_lt_of_le zA hb.size
    replace kX0 := belK hb kX0 zX; replace kX1 := belK hb kX1 zX; replace kX2 := belK hb kX2 zX; replace kX3 := belK hb kX3 zX; replace kX4 := belK hb kX4 zX; replace zX := Nat.lt_of_lt_of_le zX hb.size
    replace kY0 := belK hb kY0 zY; replace kY1 := belK hb kY1 zY; replace kY2 := belK hb kY2 zY; replace kY3 := belK hb kY3 zY; replace kY4 := belK hb kY4 zY; replace zY := Nat.lt_of_lt_of_le zY hb.size
    replace hBo := hBo.trans (hb.mono hBo.size)
    clear hb
    all_goals go_wp2_with fail
    all_goals first | go_ret | go_ret2
    all_goals exact ⟨rfl, hBo⟩
  · clear h3
    go_enter Tryz.func3, Tryz.ntmps3
    go_wp2_with fail
    obtain ⟨s15, hws⟩ : ∃ s, s = (w.alloc (.cells #[.string q.sh, .int .i64 q.c, .int .i64 q.r, .bool q.fc, .bool q.fr] 23)) := ⟨_, rfl⟩
    have hBs : Below w.heap.size w s15 := by rw [hws]; exact ((Below.refl w.heap.size w).alloc (by simp) _)
    obtain ⟨A, hdA⟩ : ∃ b, b = w.heap.size := ⟨_, rfl⟩
    have hsz : s15.heap.size = w.heap.size + 1 := by rw [hws]; simp
    have kA0 : s15.cell? ⟨A, 0, none⟩ = some (.string q.sh) := by rw [hws]; simp [go_sem, hdA]
    have kA1 : s15.cell? ⟨A, 1, none⟩ = some (.int .i64 q.c) := by rw [hws]; simp [go_sem, hdA]
    have kA2 : s15.cell? ⟨A, 2, none⟩ = some (.int .i64 q.r) := by rw [hws]; simp [go_sem, hdA]
    have kA3 : s15.cell? ⟨A, 3, none⟩ = some (.bool q.fc) := by rw [hws]; simp [go_sem, hdA]
    have kA4 : s15.cell? ⟨A, 4, none⟩ = some (.bool q.fr) := by rw [hws]; simp [go_sem, hdA]
    have zA : A < s15.heap.size := by omega
    have lA : w.heap.size ≤ A := by have := Nat.le_refl w.heap.size; omega
    rw [← hws]
    try rw [← hdA]
    clear hws hsz hdA
    have hBo := hBs; clear hBs
    refine (H1.out _).mono ?_; rintro e s16 ⟨rfl, hb⟩
    replace kA0 := belK hb kA0 zA; replace kA1 := belK hb kA1 zA; replace kA2 := belK hb kA2 zA; replace kA3 := belK hb kA3 zA; replace kA4 := belK hb kA4 zA; replace zA := Nat.lt_of_lt_of_le zA hb.size
    replace hBo := hBo.trans (hb.mono hBo.size)
    clear hb
    go_wp2_with fail
    obtain ⟨s17, hws⟩ : ∃ s, s = (s16.alloc (.cells #[.string p.sh, .int .i64 p.c, .int .i64 p.r, .bool p.fc, .bool p.fr] 23)) := ⟨_, rfl⟩
    have hBs : Below w.heap.size w s17 := by rw [hws]; exact ((hBo).alloc (by exact hBo.size) _)
    obtain ⟨X, hdX⟩ : ∃ b, b = s16.heap.size := ⟨_, rfl⟩
    have hsz : s17.heap.size = s16.heap.size + 1 := by rw [hws]; simp
    have hQC : ∀ p v, s16.cell? p = some v → s17.cell? p = some v := fun p v h => by rw [hws]; exact (alK h)
    have hQZ : ∀ b, b < s16.heap.size → b < s17.heap.size := fun b h => by omega
    replace kA0 := hQC _ _ kA0; replace kA1 := hQC _ _ kA1; replace kA2 := hQC _ _ kA2; replace kA3 := hQC _ _ kA3; replace kA4 := hQC _ _ kA4; replace zA := hQZ _ zA
    clear hQC hQZ
    have kX0 : s17.cell? ⟨X, 0, none⟩ = some (.string p.sh) := by rw [hws]; simp [go_sem, hdX]
    have kX1 : s17.cell? ⟨X, 1, none⟩ = some (.int .i64 p.c) := by rw [hws]; simp [go_sem, hdX]
    have kX2 : s17.cell? ⟨X, 2, none⟩ = some (.int .i64 p.r) := by rw [hws]; simp [go_sem, hdX]
    have kX3 : s17.cell? ⟨X, 3, none⟩ = some (.bool p.fc) := by rw [hws]; simp [go_sem, hdX]
    have kX4 : s17.cell? ⟨X, 4, none⟩ = some (.bool p.fr) := by rw [hws]; simp [go_sem, hdX]
    have zX : X < s17.heap.size := by omega
    have lX : w.heap.size ≤ X := by have := hBo.size; omega
    rw [← hws]
    try rw [← hdX]
    clear hBo
    clear hws hsz hdX
    have hBo := hBs; clear hBs
    refine (H2.out _).mono ?_; rintro e s18 ⟨rfl, hb⟩
    replace kA0 := belK hb kA0 zA; replace kA1 := belK hb kA1 zA; replace kA2 := belK hb kA2 zA; replace kA3 := belK hb kA3 zA; replace kA4 := belK hb kA4 zA; replace zA := Nat.lt_of_lt_of_le zA hb.size
    replace kX0 := belK hb kX0 zX; replace kX1 := belK hb kX1 zX; replace kX2 := belK hb kX2 zX; replace kX3 := belK hb kX3 zX; replace kX4 := belK hb kX4 zX; replace zX := Nat.lt_of_lt_of_le zX hb.size
    replace hBo := hBo.trans (hb.mono hBo.size)
    clear hb
    go_wp2_with fail
    obtain ⟨s19, hws⟩ : ∃ s, s = (s18.alloc (.cells #[.string p.sh, .int .i64 p.c, .int .i64 p.r, .bool p.fc, .bool p.fr] 23)) := ⟨_, rfl⟩
    have hBs : Below w.heap.size w s19 := by rw [hws]; exact ((hBo).alloc (by exact hBo.size) _)
    obtain ⟨Y, hdY⟩ : ∃ b, b = s18.heap.size := ⟨_, rfl⟩
    have hsz : s19.heap.size = s18.heap.size + 1 := by rw [hws]; simp
    have hQC : ∀ p v, s18.cell? p = some v → s19.cell? p = some v := fun p v h => by rw [hws]; exact (alK h)
    have hQZ : ∀ b, b < s18.heap.size → b < s19.heap.size := fun b h => by omega
    replace kA0 := hQC _ _ kA0; replace kA1 := hQC _ _ kA1; replace kA2 := hQC _ _ kA2; replace kA3 := hQC _ _ kA3; replace kA4 := hQC _ _ kA4; replace zA := hQZ _ zA
    replace kX0 := hQC _ _ kX0; replace kX1 := hQC _ _ kX1; replace kX2 := hQC _ _ kX2; replace kX3 := hQC _ _ kX3; replace kX4 := hQC _ _ kX4; replace zX := hQZ _ zX
    clear hQC hQZ
    have kY0 : s19.cell? ⟨Y, 0, none⟩ = some (.string p.sh) := by rw [hws]; simp [go_sem, hdY]
    have kY1 : s19.cell? ⟨Y, 1, none⟩ = some (.int .i64 p.c) := by rw [hws]; simp [go_sem, hdY]
    have kY2 : s19.cell? ⟨Y, 2, none⟩ = some (.int .i64 p.r) := by rw [hws]; simp [go_sem, hdY]
    have kY3 : s19.cell? ⟨Y, 3, none⟩ = some (.bool p.fc) := by rw [hws]; simp [go_sem, hdY]
    have kY4 : s19.cell? ⟨Y, 4, none⟩ = some (.bool p.fr) := by rw [hws]; simp [go_sem, hdY]
    have zY : Y < s19.heap.size := by omega
    have lY : w.heap.size ≤ Y := by have := hBo.size; omega
    rw [← hws]
    try rw [← hdY]
    clear hBo
    clear hws hsz hdY
    have hBo := hBs; clear hBs
    refine (HK.out _).mono ?_; rintro e s20 ⟨rfl, hb⟩
    replace kA0 := belK hb kA0 zA; replace kA1 := belK hb kA1 zA; replace kA2 := belK hb kA2 zA; replace kA3 := belK hb kA3 zA; replace kA4 := belK hb kA4 zA; replace zA := Nat.lt_of_lt_of_le zA hb.size
    replace kX0 := belK hb kX0 zX; replace kX1 := belK hb kX1 zX; replace kX2 := belK hb kX2 zX; replace kX3 := belK hb kX3 zX; replace kX4 := belK hb kX4 zX; replace zX := Nat.lt_of_lt_of_le zX hb.size
    replace kY0 := belK hb kY0 zY; replace kY1 := belK hb kY1 zY; replace kY2 := belK hb kY2 zY; replace kY3 := belK hb kY3 zY; replace kY4 := belK hb kY4 zY; replace zY := Nat.lt_of_lt_of_le zY hb.size
    replace hBo := hBo.trans (hb.mono hBo.size)
    clear hb
    all_goals go_wp2_with fail
    all_goals first | go_ret | go_ret2
    all_goals exact ⟨rfl, hBo⟩
  · clear h3
    go_enter Tryz.func3, Tryz.ntmps3
    go_wp2_with fail
    obtain ⟨s21, hws⟩ : ∃ s, s = (w.alloc (.cells #[.string q.sh, .int .i64 q.c, .int .i64 q.r, .bool q.fc, .bool q.fr] 23)) := ⟨_, rfl⟩
    have hBs : Below w.heap.size w s21 := by rw [hws]; exact ((Below.refl w.heap.size w).alloc (by simp) _)
    obtain ⟨A, hdA⟩ : ∃ b, b = w.heap.size := ⟨_, rfl⟩
    have hsz : s21.heap.size = w.heap.size + 1 := by rw [hws]; simp
    have kA0 : s21.cell? ⟨A, 0, none⟩ = some (.string q.sh) := by rw [hws]; simp [go_sem, hdA]
    have kA1 : s21.cell? ⟨A, 1, none⟩ = some (.int .i64 q.c) := by rw [hws]; simp [go_sem, hdA]
    have kA2 : s21.cell? ⟨A, 2, none⟩ = some (.int .i64 q.r) := by rw [hws]; simp [go_sem, hdA]
    have kA3 : s21.cell? ⟨A, 3, none⟩ = some (.bool q.fc) := by rw [hws]; simp [go_sem, hdA]
    have kA4 : s21.cell? ⟨A, 4, none⟩ = some (.bool q.fr) := by rw [hws]; simp [go_sem, hdA]
    have zA : A < s21.heap.size := by omega
    have lA : w.heap.size ≤ A := by have := Nat.le_refl w.heap.size; omega
    rw [← hws]
    try rw [← hdA]
    clear hws hsz hdA
    have hBo := hBs; clear hBs
    refine (H1.out _).mono ?_; rintro e s22 ⟨rfl, hb⟩
    replace kA0 := belK hb kA0 zA; replace kA1 := belK hb kA1 zA; replace kA2 := belK hb kA2 zA; replace kA3 := belK hb kA3 zA; replace kA4 := belK hb kA4 zA; replace zA := Nat.lt_of_lt_of_le zA hb.size
    replace hBo := hBo.trans (hb.mono hBo.size)
    clear hb
    go_wp2_with fail
    obtain ⟨s23, hws⟩ : ∃ s, s = (s22.alloc (.cells #[.string p.sh, .int .i64 p.c, .int .i64 p.r, .bool p.fc, .bool p.fr] 23)) := ⟨_, rfl⟩
    have hBs : Below w.heap.size w s23 := by rw [hws]; exact ((hBo).alloc (by exact hBo.size) _)
    obtain ⟨X, hdX⟩ : ∃ b, b = s22.heap.size := ⟨_, rfl⟩
    have hsz : s23.heap.size = s22.heap.size + 1 := by rw [hws]; simp
    have hQC : ∀ p v, s22.cell? p = some v → s23.cell? p = some v := fun p v h => by rw [hws]; exact (alK h)
    have hQZ : ∀ b, b < s22.heap.size → b < s23.heap.size := fun b h => by omega
    replace kA0 := hQC _ _ kA0; replace kA1 := hQC _ _ kA1; replace kA2 := hQC _ _ kA2; replace kA3 := hQC _ _ kA3; replace kA4 := hQC _ _ kA4; replace zA := hQZ _ zA
    clear hQC hQZ
    have kX0 : s23.cell? ⟨X, 0, none⟩ = some (.string p.sh) := by rw [hws]; simp [go_sem, hdX]
    have kX1 : s23.cell? ⟨X, 1, none⟩ = some (.int .i64 p.c) := by rw [hws]; simp [go_sem, hdX]
    have kX2 : s23.cell? ⟨X, 2, none⟩ = some (.int .i64 p.r) := by rw [hws]; simp [go_sem, hdX]
    have kX3 : s23.cell? ⟨X, 3, none⟩ = some (.bool p.fc) := by rw [hws]; simp [go_sem, hdX]
    have kX4 : s23.cell? ⟨X, 4, none⟩ = some (.bool p.fr) := by rw [hws]; simp [go_sem, hdX]
    have zX : X < s23.heap.size := by omega
    have lX : w.heap.size ≤ X := by have := hBo.size; omega
    rw [← hws]
    try rw [← hdX]
    clear hBo
    clear hws hsz hdX
    have hBo := hBs; clear hBs
    refine (H2.out _).mono ?_; rintro e s24 ⟨rfl, hb⟩
    replace kA0 := belK hb kA0 zA; replace kA1 := belK hb kA1 zA; replace kA2 := belK hb kA2 zA; replace kA3 := belK hb kA3 zA; replace kA4 := belK hb kA4 zA; replace zA := Nat.lt_of_lt_of_le zA hb.size
    replace kX0 := belK hb kX0 zX; replace kX1 := belK hb kX1 zX; replace kX2 := belK hb kX2 zX; replace kX3 := belK hb kX3 zX; replace kX4 := belK hb kX4 zX; replace zX := Nat.lt_of_lt_of_le zX hb.size
    replace hBo := hBo.trans (hb.mono hBo.size)
    clear hb
    go_wp2_with fail
    obtain ⟨s25, hws⟩ : ∃ s, s = (s24.alloc (.cells #[.string p.sh, .int .i64 p.c, .int .i64 p.r, .bool p.fc, .bool p.fr] 23)) := ⟨_, rfl⟩
    have hBs : Below w.heap.size w s25 := by rw [hws]; exact ((hBo).alloc (by exact hBo.size) _)
    obtain ⟨Y, hdY⟩ : ∃ b, b = s24.heap.size := ⟨_, rfl⟩
    have hsz : s25.heap.size = s24.heap.size + 1 := by rw [hws]; simp
    have hQC : ∀ p v, s24.cell? p = some v → s25.cell? p = some v := fun p v h => by rw [hws]; exact (alK h)
    have hQZ : ∀ b, b < s24.heap.size → b < s25.heap.size := fun b h => by omega
    replace kA0 := hQC _ _ kA0; replace kA1 := hQC _ _ kA1; replace kA2 := hQC _ _ kA2; replace kA3 := hQC _ _ kA3; replace kA4 := hQC _ _ kA4; replace zA := hQZ _ zA
    replace kX0 := hQC _ _ kX0; replace kX1 := hQC _ _ kX1; replace kX2 := hQC _ _ kX2; replace kX3 := hQC _ _ kX3; replace kX4 := hQC _ _ kX4; replace zX := hQZ _ zX
    clear hQC hQZ
    have kY0 : s25.cell? ⟨Y, 0, none⟩ = some (.string p.sh) := by rw [hws]; simp [go_sem, hdY]
    have kY1 : s25.cell? ⟨Y, 1, none⟩ = some (.int .i64 p.c) := by rw [hws]; simp [go_sem, hdY]
    have kY2 : s25.cell? ⟨Y, 2, none⟩ = some (.int .i64 p.r) := by rw [hws]; simp [go_sem, hdY]
    have kY3 : s25.cell? ⟨Y, 3, none⟩ = some (.bool p.fc) := by rw [hws]; simp [go_sem, hdY]
    have kY4 : s25.cell? ⟨Y, 4, none⟩ = some (.bool p.fr) := by rw [hws]; simp [go_sem, hdY]
    have zY : Y < s25.heap.size := by omega
    have lY : w.heap.size ≤ Y := by have := hBo.size; omega
    rw [← hws]
    try rw [← hdY]
    clear hBo
    clear hws hsz hdY
    have hBo := hBs; clear hBs
    refine (HK.out _).mono ?_; rintro e s26 ⟨rfl, hb⟩
    replace kA0 := belK hb kA0 zA; replace kA1 := belK hb kA1 zA; replace kA2 := belK hb kA2 zA; replace kA3 := belK hb kA3 zA; replace kA4 := belK hb kA4 zA; replace zA := Nat.lt_of_lt_of_le zA hb.size
    replace kX0 := belK hb kX0 zX; replace kX1 := belK hb kX1 zX; replace kX2 := belK hb kX2 zX; replace kX3 := belK hb kX3 zX; replace kX4 := belK hb kX4 zX; replace zX := Nat.lt_of_lt_of_le zX hb.size
    replace kY0 := belK hb kY0 zY; replace kY1 := belK hb kY1 zY; replace kY2 := belK hb kY2 zY; replace kY3 := belK hb kY3 zY; replace kY4 := belK hb kY4 zY; replace zY := Nat.lt_of_lt_of_le zY hb.size
    replace hBo := hBo.trans (hb.mono hBo.size)
    clear hb
    all_goals go_wp2_with fail
    all_goals first | go_ret | go_ret2
    all_goals exact ⟨rfl, hBo⟩
  · clear h3
    go_enter Tryz.func3, Tryz.ntmps3
    go_wp2_with fail
    obtain ⟨s27, hws⟩ : ∃ s, s = (w.alloc (.cells #[.string q.sh, .int .i64 q.c, .int .i64 q.r, .bool q.fc, .bool q.fr] 23)) := ⟨_, rfl⟩
    have hBs : Below w.heap.size w s27 := by rw [hws]; exact ((Below.refl w.heap.size w).alloc (by simp) _)
    obtain ⟨A, hdA⟩ : ∃ b, b = w.heap.size := ⟨_, rfl⟩
    have hsz : s27.heap.size = w.heap.size + 1 := by rw [hws]; simp
    have kA0 : s27.cell? ⟨A, 0, none⟩ = some (.string q.sh) := by rw [hws]; simp [go_sem, hdA]
    have kA1 : s27.cell? ⟨A, 1, none⟩ = some (.int .i64 q.c) := by rw [hws]; simp [go_sem, hdA]
    have kA2 : s27.cell? ⟨A, 2, none⟩ = some (.int .i64 q.r) := by rw [hws]; simp [go_sem, hdA]
    have kA3 : s27.cell? ⟨A, 3, none⟩ = some (.bool q.fc) := by rw [hws]; simp [go_sem, hdA]
    have kA4 : s27.cell? ⟨A, 4, none⟩ = some (.bool q.fr) := by rw [hws]; simp [go_sem, hdA]
    have zA : A < s27.heap.size := by omega
    have lA : w.heap.size ≤ A := by have := Nat.le_refl w.heap.size; omega
    rw [← hws]
    try rw [← hdA]
    clear hws hsz hdA
    have hBo := hBs; clear hBs
    refine (H1.out _).mono ?_; rintro e s28 ⟨rfl, hb⟩
    replace kA0 := belK hb kA0 zA; replace kA1 := belK hb kA1 zA; replace kA2 := belK hb kA2 zA; replace kA3 := belK hb kA3 zA; replace kA4 := belK hb kA4 zA; replace zA := Nat.lt_of_lt_of_le zA hb.size
    replace hBo := hBo.trans (hb.mono hBo.size)
    clear hb
    go_wp2_with fail
    obtain ⟨s29, hws⟩ : ∃ s, s = (s28.alloc (.cells #[.string p.sh, .int .i64 p.c, .int .i64 p.r, .bool p.fc, .bool p.fr] 23)) := ⟨_, rfl⟩
    have hBs : Below w.heap.size w s29 := by rw [hws]; exact ((hBo).alloc (by exact hBo.size) _)
    obtain ⟨X, hdX⟩ : ∃ b, b = s28.heap.size := ⟨_, rfl⟩
    have hsz : s29.heap.size = s28.heap.size + 1 := by rw [hws]; simp
    have hQC : ∀ p v, s28.cell? p = some v → s29.cell? p = some v := fun p v h => by rw [hws]; exact (alK h)
    have hQZ : ∀ b, b < s28.heap.size → b < s29.heap.size := fun b h => by omega
    replace kA0 := hQC _ _ kA0; replace kA1 := hQC _ _ kA1; replace kA2 := hQC _ _ kA2; replace kA3 := hQC _ _ kA3; replace kA4 := hQC _ _ kA4; replace zA := hQZ _ zA
    clear hQC hQZ
    have kX0 : s29.cell? ⟨X, 0, none⟩ = some (.string p.sh) := by rw [hws]; simp [go_sem, hdX]
    have kX1 : s29.cell? ⟨X, 1, none⟩ = some (.int .i64 p.c) := by rw [hws]; simp [go_sem, hdX]
    have kX2 : s29.cell? ⟨X, 2, none⟩ = some (.int .i64 p.r) := by rw [hws]; simp [go_sem, hdX]
    have kX3 : s29.cell? ⟨X, 3, none⟩ = some (.bool p.fc) := by rw [hws]; simp [go_sem, hdX]
    have kX4 : s29.cell? ⟨X, 4, none⟩ = some (.bool p.fr) := by rw [hws]; simp [go_sem, hdX]
    have zX : X < s29.heap.size := by omega
    have lX : w.heap.size ≤ X := by have := hBo.size; omega
    rw [← hws]
    try rw [← hdX]
    clear hBo
    clear hws hsz hdX
    have hBo := hBs; clear hBs
    refine (H2.out _).mono ?_; rintro e s30 ⟨rfl, hb⟩
    replace kA0 := belK hb kA0 zA; replace kA1 := belK hb kA1 zA; replace kA2 := belK hb kA2 zA; replace kA3 := belK hb kA3 zA; replace kA4 := belK hb kA4 zA; replace zA := Nat.lt_of_lt_of_le zA hb.size
    replace kX0 := belK hb kX0 zX; replace kX1 := belK hb kX1 zX; replace kX2 := belK hb kX2 zX; replace kX3 := belK hb kX3 zX; replace kX4 := belK hb kX4 zX; replace zX := Nat.lt_of_lt_of_le zX hb.size
    replace hBo := hBo.trans (hb.mono hBo.size)
    clear hb
    go_wp2_with fail
    obtain ⟨s31, hws⟩ : ∃ s, s = (s30.alloc (.cells #[.string p.sh, .int .i64 p.c, .int .i64 p.r, .bool p.fc, .bool p.fr] 23)) := ⟨_, rfl⟩
    have hBs : Below w.heap.size w s31 := by rw [hws]; exact ((hBo).alloc (by exact hBo.size) _)
    obtain ⟨Y, hdY⟩ : ∃ b, b = s30.heap.size := ⟨_, rfl⟩
    have hsz : s31.heap.size = s30.heap.size + 1 := by rw [hws]; simp
    have hQC : ∀ p v, s30.cell? p = some v → s31.cell? p = some v := fun p v h => by rw [hws]; exact (alK h)
    have hQZ : ∀ b, b < s30.heap.size → b < s31.heap.size := fun b h => by omega
    replace kA0 := hQC _ _ kA0; replace kA1 := hQC _ _ kA1; replace kA2 := hQC _ _ kA2; replace kA3 := hQC _ _ kA3; replace kA4 := hQC _ _ kA4; replace zA := hQZ _ zA
    replace kX0 := hQC _ _ kX0; replace kX1 := hQC _ _ kX1; replace kX2 := hQC _ _ kX2; replace kX3 := hQC _ _ kX3; replace kX4 := hQC _ _ kX4; replace zX := hQZ _ zX
    clear hQC hQZ
    have kY0 : s31.cell? ⟨Y, 0, none⟩ = some (.string p.sh) := by rw [hws]; simp [go_sem, hdY]
    have kY1 : s31.cell? ⟨Y, 1, none⟩ = some (.int .i64 p.c) := by rw [hws]; simp [go_sem, hdY]
    have kY2 : s31.cell? ⟨Y, 2, none⟩ = some (.int .i64 p.r) := by rw [hws]; simp [go_sem, hdY]
    have kY3 : s31.cell? ⟨Y, 3, none⟩ = some (.bool p.fc) := by rw [hws]; simp [go_sem, hdY]
    have kY4 : s31.cell? ⟨Y, 4, none⟩ = some (.bool p.fr) := by rw [hws]; simp [go_sem, hdY]
    have zY : Y < s31.heap.size := by omega
    have lY : w.heap.size ≤ Y := by have := hBo.size; omega
    rw [← hws]
    try rw [← hdY]
    clear hBo
    clear hws hsz hdY
    have hBo := hBs; clear hBs
    refine (HK.out _).mono ?_; rintro e s32 ⟨rfl, hb⟩
    replace kA0 := belK hb kA0 zA; replace kA1 := belK hb kA1 zA; replace kA2 := belK hb kA2 zA; replace kA3 := belK hb kA3 zA; replace kA4 := belK hb kA4 zA; replace zA := Nat.lt_of_lt_of_le zA hb.size
    replace kX0 := belK hb kX0 zX; replace kX1 := belK hb kX1 zX; replace kX2 := belK hb kX2 zX; replace kX3 := belK hb kX3 zX; replace kX4 := belK hb kX4 zX; replace zX := Nat.lt_of_lt_of_le zX hb.size
    replace kY0 := belK hb kY0 zY; replace kY1 := belK hb kY1 zY; replace kY2 := belK hb kY2 zY; replace kY3 := belK hb kY3 zY; replace kY4 := belK hb kY4 zY; replace zY := Nat.lt_of_lt_of_le zY hb.size
    replace hBo := hBo.trans (hb.mono hBo.size)
    clear hb
    all_goals go_wp2_with fail
    all_goals first | go_ret | go_ret2
    all_goals exact ⟨rfl, hBo⟩
  · have H3 := Lib.hid (h3 h4 h5 h6 h7)
    have q1 : ¬ c < -200 := by omega
    have q2 : ¬ 200 < c := by omega
    have q3 : ¬ d < -200 := by omega
    have q4 : ¬ 200 < d := by omega
    clear h3
    go_enter Tryz.func3, Tryz.ntmps3
    go_wp2_with fail
    obtain ⟨s33, hws⟩ : ∃ s, s = (w.alloc (.cells #[.string q.sh, .int .i64 q.c, .int .i64 q.r, .bool q.fc, .bool q.fr] 23)) := ⟨_, rfl⟩
    have hBs : Below w.heap.size w s33 := by rw [hws]; exact ((Below.refl w.heap.size w).alloc (by simp) _)
    obtain ⟨A, hdA⟩ : ∃ b, b = w.heap.size := ⟨_, rfl⟩
    have hsz : s33.heap.size = w.heap.size + 1 := by rw [hws]; simp
    have kA0 : s33.cell? ⟨A, 0, none⟩ = some (.string q.sh) := by rw [hws]; simp [go_sem, hdA]
    have kA1 : s33.cell? ⟨A, 1, none⟩ = some (.int .i64 q.c) := by rw [hws]; simp [go_sem, hdA]
    have kA2 : s33.cell? ⟨A, 2, none⟩ = some (.int .i64 q.r) := by rw [hws]; simp [go_sem, hdA]
    have kA3 : s33.cell? ⟨A, 3, none⟩ = some (.bool q.fc) := by rw [hws]; simp [go_sem, hdA]
    have kA4 : s33.cell? ⟨A, 4, none⟩ = some (.bool q.fr) := by rw [hws]; simp [go_sem, hdA]
    have zA : A < s33.heap.size := by omega
    have lA : w.heap.size ≤ A := by have := Nat.le_refl w.heap.size; omega
    rw [← hws]
    try rw [← hdA]
    clear hws hsz hdA
    have hBo := hBs; clear hBs
    refine (H1.out _).mono ?_; rintro e s34 ⟨rfl, hb⟩
    replace kA0 := belK hb kA0 zA; replace kA1 := belK hb kA1 zA; replace kA2 := belK hb kA2 zA; replace kA3 := belK hb kA3 zA; replace kA4 := belK hb kA4 zA; replace zA := Nat.lt_of_lt_of_le zA hb.size
    replace hBo := hBo.trans (hb.mono hBo.size)
    clear hb
    go_wp2_with fail
    obtain ⟨s35, hws⟩ : ∃ s, s = (s34.alloc (.cells #[.string p.sh, .int .i64 p.c, .int .i64 p.r, .bool p.fc, .bool p.fr] 23)) := ⟨_, rfl⟩
    have hBs : Below w.heap.size w s35 := by rw [hws]; exact ((hBo).alloc (by exact hBo.size) _)
    obtain ⟨X, hdX⟩ : ∃ b, b = s34.heap.size := ⟨_, rfl⟩
    have hsz : s35.heap.size = s34.heap.size + 1 := by rw [hws]; simp
    have hQC : ∀ p v, s34.cell? p = some v → s35.cell? p = some v := fun p v h => by rw [hws]; exact (alK h)
    have hQZ : ∀ b, b < s34.heap.size → b < s35.heap.size := fun b h => by omega
    replace kA0 := hQC _ _ kA0; replace kA1 := hQC _ _ kA1; replace kA2 := hQC _ _ kA2; replace kA3 := hQC _ _ kA3; replace kA4 := hQC _ _ kA4; replace zA := hQZ _ zA
    clear hQC hQZ
    have kX0 : s35.cell? ⟨X, 0, none⟩ = some (.string p.sh) := by rw [hws]; simp [go_sem, hdX]
    have kX1 : s35.cell? ⟨X, 1, none⟩ = some (.int .i64 p.c) := by rw [hws]; simp [go_sem, hdX]
    have kX2 : s35.cell? ⟨X, 2, none⟩ = some (.int .i64 p.r) := by rw [hws]; simp [go_sem, hdX]
    have kX3 : s35.cell? ⟨X, 3, none⟩ = some (.bool p.fc) := by rw [hws]; simp [go_sem, hdX]
    have kX4 : s35.cell? ⟨X, 4, none⟩ = some (.bool p.fr) := by rw [hws]; simp [go_sem, hdX]
    have zX : X < s35.heap.size := by omega
    have lX : w.heap.size ≤ X := by have := hBo.size; omega
    rw [← hws]
    try rw [← hdX]
    clear hBo
    clear hws hsz hdX
    have hBo := hBs; clear hBs
    refine (H2.out _).mono ?_; rintro e s36 ⟨rfl, hb⟩
    replace kA0 := belK hb kA0 zA; replace kA1 := belK hb kA1 zA; replace kA2 := belK hb kA2 zA; replace kA3 := belK hb kA3 zA; replace kA4 := belK hb kA4 zA; replace zA := Nat.lt_of_lt_of_le zA hb.size
    replace kX0 := belK hb kX0 zX; replace kX1 := belK hb kX1 zX; replace kX2 := belK hb kX2 zX; replace kX3 := belK hb kX3 zX; replace kX4 := belK hb kX4 zX; replace zX := Nat.lt_of_lt_of_le zX hb.size
    replace hBo := hBo.trans (hb.mono hBo.size)
    clear hb
    go_wp2_with fail
    obtain ⟨s37, hws⟩ : ∃ s, s = (s36.alloc (.cells #[.string p.sh, .int .i64 p.c, .int .i64 p.r, .bool p.fc, .bool p.fr] 23)) := ⟨_, rfl⟩
    have hBs : Below w.heap.size w s37 := by rw [hws]; exact ((hBo).alloc (by exact hBo.size) _)
    obtain ⟨Y, hdY⟩ : ∃ b, b = s36.heap.size := ⟨_, rfl⟩
    have hsz : s37.heap.size = s36.heap.size + 1 := by rw [hws]; simp
    have hQC : ∀ p v, s36.cell? p = some v → s37.cell? p = some v := fun p v h => by rw [hws]; exact (alK h)
    have hQZ : ∀ b, b < s36.heap.size → b < s37.heap.size := fun b h => by omega
    replace kA0 := hQC _ _ kA0; replace kA1 := hQC _ _ kA1; replace kA2 := hQC _ _ kA2; replace kA3 := hQC _ _ kA3; replace kA4 := hQC _ _ kA4; replace zA := hQZ _ zA
    replace kX0 := hQC _ _ kX0; replace kX1 := hQC _ _ kX1; replace kX2 := hQC _ _ kX2; replace kX3 := hQC _ _ kX3; replace kX4 := hQC _ _ kX4; replace zX := hQZ _ zX
    clear hQC hQZ
    have kY0 : s37.cell? ⟨Y, 0, none⟩ = some (.string p.sh) := by rw [hws]; simp [go_sem, hdY]
    have kY1 : s37.cell? ⟨Y, 1, none⟩ = some (.int .i64 p.c) := by rw [hws]; simp [go_sem, hdY]
    have kY2 : s37.cell? ⟨Y, 2, none⟩ = some (.int .i64 p.r) := by rw [hws]; simp [go_sem, hdY]
    have kY3 : s37.cell? ⟨Y, 3, none⟩ = some (.bool p.fc) := by rw [hws]; simp [go_sem, hdY]
    have kY4 : s37.cell? ⟨Y, 4, none⟩ = some (.bool p.fr) := by rw [hws]; simp [go_sem, hdY]
    have zY : Y < s37.heap.size := by omega
    have lY : w.heap.size ≤ Y := by have := hBo.size; omega
    rw [← hws]
    try rw [← hdY]
    clear hBo
    clear hws hsz hdY
    have hBo := hBs; clear hBs
    refine (H3.out _).mono ?_; rintro e s38 ⟨rfl, hb⟩
    replace kA0 := belK hb kA0 zA; replace kA1 := belK hb kA1 zA; replace kA2 := belK hb kA2 zA; replace kA3 := belK hb kA3 zA; replace kA4 := belK hb kA4 zA; replace zA := Nat.lt_of_lt_of_le zA hb.size
    replace kX0 := belK hb kX0 zX; replace kX1 := belK hb kX1 zX; replace kX2 := belK hb kX2 zX; replace kX3 := belK hb kX3 zX; replace kX4 := belK hb kX4 zX; replace zX := Nat.lt_of_lt_of_le zX hb.size
    replace kY0 := belK hb kY0 zY; replace kY1 := belK hb kY1 zY; replace kY2 := belK hb kY2 zY; replace kY3 := belK hb kY3 zY; replace kY4 := belK hb kY4 zY; replace zY := Nat.lt_of_lt_of_le zY hb.size
    replace hBo := hBo.trans (hb.mono hBo.size)
    clear hb
    go_wp2_with fail
    obtain ⟨s39, hws⟩ : ∃ s, s = (s38.alloc (.cells #[.string q.sh, .int .i64 q.c, .int .i64 q.r, .bool q.fc, .bool q.fr] 23)) := ⟨_, rfl⟩
    have hBs : Below w.heap.size w s39 := by rw [hws]; exact ((hBo).alloc (by exact hBo.size) _)
    obtain ⟨Z, hdZ⟩ : ∃ b, b = s38.heap.size := ⟨_, rfl⟩
    have hsz : s39.heap.size = s38.heap.size + 1 := by rw [hws]; simp
    have hQC : ∀ p v, s38.cell? p = some v → s39.cell? p = some v := fun p v h => by rw [hws]; exact (alK h)
    have hQZ : ∀ b, b < s38.heap.size → b < s39.heap.size := fun b h => by omega
    replace kA0 := hQC _ _ kA0; replace kA1 := hQC _ _ kA1; replace kA2 := hQC _ _ kA2; replace kA3 := hQC _ _ kA3; replace kA4 := hQC _ _ kA4; replace zA := hQZ _ zA
    replace kX0 := hQC _ _ kX0; replace kX1 := hQC _ _ kX1; replace kX2 := hQC _ _ kX2; replace kX3 := hQC _ _ kX3; replace kX4 := hQC _ _ kX4; replace zX := hQZ _ zX
    replace kY0 := hQC _ _ kY0; replace kY1 := hQC _ _ kY1; replace kY2 := hQC _ _ kY2; replace kY3 := hQC _ _ kY3; replace kY4 := hQC _ _ kY4; replace zY := hQZ _ zY
    clear hQC hQZ
    have kZ0 : s39.cell? ⟨Z, 0, none⟩ = some (.string q.sh) := by rw [hws]; simp [go_sem, hdZ]
    have kZ1 : s39.cell? ⟨Z, 1, none⟩ = some (.int .i64 q.c) := by rw [hws]; simp [go_sem, hdZ]
    have kZ2 : s39.cell? ⟨Z, 2, none⟩ = some (.int .i64 q.r) := by rw [hws]; simp [go_sem, hdZ]
    have kZ3 : s39.cell? ⟨Z, 3, none⟩ = some (.bool q.fc) := by rw [hws]; simp [go_sem, hdZ]
    have kZ4 : s39.cell? ⟨Z, 4, none⟩ = some (.bool q.fr) := by rw [hws]; simp [go_sem, hdZ]
    have zZ : Z < s39.heap.size := by omega
    have lZ : w.heap.size ≤ Z := by have := hBo.size; omega
    rw [← hws]
    try rw [← hdZ]
    clear hBo
    clear hws hsz hdZ
    have hBo := hBs; clear hBs
    refine (HK.out _).mono ?_; rintro e s40 ⟨rfl, hb⟩
    replace kA0 := belK hb kA0 zA; replace kA1 := belK hb kA1 zA; replace kA2 := belK hb kA2 zA; replace kA3 := belK hb kA3 zA; replace kA4 := belK hb kA4 zA; replace zA := Nat.lt_of_lt_of_le zA hb.size
    replace kX0 := belK hb kX0 zX; replace kX1 := belK hb kX1 zX; replace kX2 := belK hb kX2 zX; replace kX3 := belK hb kX3 zX; replace kX4 := belK hb kX4 zX; replace zX := Nat.lt_of_lt_of_le zX hb.size
    replace kY0 := belK hb kY0 zY; replace kY1 := belK hb kY1 zY; replace kY2 := belK hb kY2 zY; replace kY3 := belK hb kY3 zY; replace kY4 := belK hb kY4 zY; replace zY := Nat.lt_of_lt_of_le zY hb.size
    replace kZ0 := belK hb kZ0 zZ; replace kZ1 := belK hb kZ1 zZ; replace kZ2 := belK hb kZ2 zZ; replace kZ3 := belK hb kZ3 zZ; replace kZ4 := belK hb kZ4 zZ; replace zZ := Nat.lt_of_lt_of_le zZ hb.size
    replace hBo := hBo.trans (hb.mono hBo.size)
    clear hb
    all_goals go_wp2_with fail
    all_goals first | go_ret | go_ret2
    all_goals exact ⟨rfl, hBo⟩
end Go.Proofs.YtlpjaflolnggnaaGreatDoor
