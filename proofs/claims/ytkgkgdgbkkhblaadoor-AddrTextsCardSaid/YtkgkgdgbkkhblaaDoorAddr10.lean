/-
  LAYER 10, AREAS: the document's Cells.
-/
import Derived.Test.YtkgkgdgbkkhblaaDoorAddr9
namespace Go.Proofs.YtkgkgdgbkkhblaaDoor
open Go.RowKit Go.Shelf
set_option linter.unusedSimpArgs false
set_option linter.unusedVariables false

theorem cntN_no {a b c d : Int} (h : nrmB a b c d = false) : cntN a b c d = 0 := by unfold cntN; rw [h]; rfl
theorem cntN_yes {a b c d : Int} (h : nrmB a b c d = true) : cntN a b c d = (c - a + 1).toNat * (d - b + 1).toNat := by unfold cntN; rw [h]; rfl
theorem cntN_cnt {a b c d : Int} (h : nrmB a b c d = true) : ((cntN a b c d : Nat) : Int) = cnt a b c d := by
  obtain ⟨a1, a2, b1, b2, c1, c2, d1, d2, h1, h2, _⟩ := nrm_facts h
  rw [cntN_yes h]; unfold cnt
  rw [Int.natCast_mul, Int.toNat_of_nonneg (by omega), Int.toNat_of_nonneg (by omega)]
theorem grid_le {j i nc nr : Nat} (hj : j < nr) (hi : i ≤ nc) : j * nc + i ≤ nc * nr := by
  have h1 : (j + 1) * nc ≤ nr * nc := Nat.mul_le_mul_right nc hj
  rw [Nat.add_mul, Nat.one_mul] at h1
  rw [Nat.mul_comm nc nr]; omega
/-- so many cells were gathered: j rows, and i more. -/
def InRel (t0 : World) (t : TypeId) (sheet a b : Int) (nc j : Nat) (v r : Value) (wr : World) : Prop := ∃ i : Nat, i ≤ nc ∧ r = .int .i64 (a + i) ∧ wr.ownsRow t0.heap.size t 3 v (j * nc + i) (cellsF sheet a b nc (j * nc + i)) ∧ Below t0.heap.size t0 wr
def OutRel (t0 : World) (t : TypeId) (sheet a b : Int) (nc nr : Nat) (v r : Value) (wr : World) : Prop := ∃ j : Nat, j ≤ nr ∧ r = .int .i64 (b + j) ∧ wr.ownsRow t0.heap.size t 3 v (j * nc) (cellsF sheet a b nc (j * nc)) ∧ Below t0.heap.size t0 wr
def CellsPost (w : World) (n : Nat) (sheet a b : Int) (nc : Nat) (e : Ending) (w' : World) : Prop := (∃ v, e = .returned v ∧ CellsAt w' v n sheet a b nc) ∧ Below w.heap.size w w'
set_option maxRecDepth 100000 in
set_option maxHeartbeats 4000000 in
theorem refCells_no (a b c d sheet : Int) (w : World) (hno : nrmB a b c d = false) :
    Calls Tryd.prog 20 #[areaV a b c d, .int .i64 sheet] w fun e w' => e = .returned (.slice none 0 0) ∧ Below w.heap.size w w' := by
  have hn := fun w => refNorm_any a b c d w
  have hud : undef = Value.tuple #[] := rfl
  by_cases h0 : nrmE a b c d = 0
  · have hv : nrmV a b c d = areaV (min a c) (min b d) (max a c) (max b d) := if_pos h0
    rw [hv, h0] at hn
    have h1 : ¬ (a ≤ c ∧ b ≤ d) := fun h1 => by rw [(nrmB_iff _ _ _ _).2 ⟨h0, h1⟩] at hno; cases hno
    have HN := Lib.hid hn
    obtain ⟨p, hp⟩ : ∃ p, p = min a c := ⟨_, rfl⟩
    obtain ⟨q, hq⟩ : ∃ q, q = min b d := ⟨_, rfl⟩
    have hne : p ≠ a ∨ q ≠ b := by omega
    rw [← hp, ← hq] at HN
    clear hn h1 h0 hv hp hq hno
    by_cases hpa : p = a
    · subst hpa
      have hqb : (b == q) = false := by simp; omega
      clear hne
      go_enter Tryd.func20, Tryd.ntmps20
      go_wp2_with fail
      obtain ⟨s1, hws⟩ : ∃ s, s = (w.alloc (.cells #[.int .i64 p, .int .i64 b, .int .i64 c, .int .i64 d] 33)) := ⟨_, rfl⟩
      have hBs : Below w.heap.size w s1 := by rw [hws]; exact ((Below.refl w.heap.size w).alloc (by simp) _)
      obtain ⟨A, hdA⟩ : ∃ b, b = w.heap.size := ⟨_, rfl⟩
      have hsz : s1.heap.size = w.heap.size + 1 := by rw [hws]; simp
      have kA0 : s1.cell? ⟨A, 0, none⟩ = some (.int .i64 p) := by rw [hws]; simp [go_sem, hdA]
      have kA1 : s1.cell? ⟨A, 1, none⟩ = some (.int .i64 b) := by rw [hws]; simp [go_sem, hdA]
      have kA2 : s1.cell? ⟨A, 2, none⟩ = some (.int .i64 c) := by rw [hws]; simp [go_sem, hdA]
      have kA3 : s1.cell? ⟨A, 3, none⟩ = some (.int .i64 d) := by rw [hws]; simp [go_sem, hdA]
      have zA : A < s1.heap.size := by omega
      have lA : w.heap.size ≤ A := by have := Nat.le_refl w.heap.size; omega
      rw [← hws]
      try rw [← hdA]
      clear hws hsz hdA
      have hBo := hBs; clear hBs
      refine (HN.out _).mono ?_; rintro e s2 ⟨rfl, hb⟩
      replace kA0 := belK hb kA0 zA; replace kA1 := belK hb kA1 zA; replace kA2 := belK hb kA2 zA; replace kA3 := belK hb kA3 zA; replace zA := Nat.lt_of_lt_of_le zA hb.size
      replace hBo := hBo.trans (hb.mono hBo.size)
      clear hb
      all_goals go_wp2_with fail
      all_goals first | go_ret | go_ret2
      all_goals exact ⟨rfl, ((hBo).alloc (by first | exact hBo.size | (have := hBo.size; simp; omega)) _)⟩
    · have hpb : (a == p) = false := by simp; omega
      clear hne hpa
      go_enter Tryd.func20, Tryd.ntmps20
      go_wp2_with fail
      obtain ⟨s3, hws⟩ : ∃ s, s = (w.alloc (.cells #[.int .i64 a, .int .i64 b, .int .i64 c, .int .i64 d] 33)) := ⟨_, rfl⟩
      have hBs : Below w.heap.size w s3 := by rw [hws]; exact ((Below.refl w.heap.size w).alloc (by simp) _)
      obtain ⟨A, hdA⟩ : ∃ b, b = w.heap.size := ⟨_, rfl⟩
      have hsz : s3.heap.size = w.heap.size + 1 := by rw [hws]; simp
      have kA0 : s3.cell? ⟨A, 0, none⟩ = some (.int .i64 a) := by rw [hws]; simp [go_sem, hdA]
      have kA1 : s3.cell? ⟨A, 1, none⟩ = some (.int .i64 b) := by rw [hws]; simp [go_sem, hdA]
      have kA2 : s3.cell? ⟨A, 2, none⟩ = some (.int .i64 c) := by rw [hws]; simp [go_sem, hdA]
      have kA3 : s3.cell? ⟨A, 3, none⟩ = some (.int .i64 d) := by rw [hws]; simp [go_sem, hdA]
      have zA : A < s3.heap.size := by omega
      have lA : w.heap.size ≤ A := by have := Nat.le_refl w.heap.size; omega
      rw [← hws]
      try rw [← hdA]
      clear hws hsz hdA
      have hBo := hBs; clear hBs
      refine (HN.out _).mono ?_; rintro e s4 ⟨rfl, hb⟩
      replace kA0 := belK hb kA0 zA; replace kA1 := belK hb kA1 zA; replace kA2 := belK hb kA2 zA; replace kA3 := belK hb kA3 zA; replace zA := Nat.lt_of_lt_of_le zA hb.size
      replace hBo := hBo.trans (hb.mono hBo.size)
      clear hb
      all_goals go_wp2_with fail
      all_goals first | go_ret | go_ret2
      all_goals exact ⟨rfl, ((hBo).alloc (by first | exact hBo.size | (have := hBo.size; simp; omega)) _)⟩
  · obtain ⟨x, y, z, u, hv⟩ := nrmV_agg a b c d
    rw [hv] at hn
    have he := nrmE_ne h0
    have he2 : (nrmE a b c d != 0) = true := by simpa using h0
    generalize nrmE a b c d = e at *
    have HN := Lib.hid hn
    clear hn hv h0 hno
    go_enter Tryd.func20, Tryd.ntmps20
    go_wp2_with fail
    obtain ⟨s5, hws⟩ : ∃ s, s = (w.alloc (.cells #[.int .i64 a, .int .i64 b, .int .i64 c, .int .i64 d] 33)) := ⟨_, rfl⟩
    have hBs : Below w.heap.size w s5 := by rw [hws]; exact ((Below.refl w.heap.size w).alloc (by simp) _)
    obtain ⟨A, hdA⟩ : ∃ b, b = w.heap.size := ⟨_, rfl⟩
    have hsz : s5.heap.size = w.heap.size + 1 := by rw [hws]; simp
    have kA0 : s5.cell? ⟨A, 0, none⟩ = some (.int .i64 a) := by rw [hws]; simp [go_sem, hdA]
    have kA1 : s5.cell? ⟨A, 1, none⟩ = some (.int .i64 b) := by rw [hws]; simp [go_sem, hdA]
    have kA2 : s5.cell? ⟨A, 2, none⟩ = some (.int .i64 c) := by rw [hws]; simp [go_sem, hdA]
    have kA3 : s5.cell? ⟨A, 3, none⟩ = some (.int .i64 d) := by rw [hws]; simp [go_sem, hdA]
    have zA : A < s5.heap.size := by omega
    have lA : w.heap.size ≤ A := by have := Nat.le_refl w.heap.size; omega
    rw [← hws]
    try rw [← hdA]
    clear hws hsz hdA
    have hBo := hBs; clear hBs
    refine (HN.out _).mono ?_; rintro e s6 ⟨rfl, hb⟩
    replace kA0 := belK hb kA0 zA; replace kA1 := belK hb kA1 zA; replace kA2 := belK hb kA2 zA; replace kA3 := belK hb kA3 zA; replace zA := Nat.lt_of_lt_of_le zA hb.size
    replace hBo := hBo.trans (hb.mono hBo.size)
    clear hb
    all_goals go_wp2_with fail
    all_goals first | go_ret | go_ret2
    all_goals exact ⟨rfl, ((hBo).alloc (by first | exact hBo.size | (have := hBo.size; simp; omega)) _)⟩
set_option maxRecDepth 100000 in
set_option maxHeartbeats 4000000 in
theorem refCells_yes (a b c d sheet : Int) (w : World) (hyes : nrmB a b c d = true) :
    Calls Tryd.prog 20 #[areaV a b c d, .int .i64 sheet] w (CellsPost w (cntN a b c d) sheet a b (c - a + 1).toNat) := by
  have hn := fun w => refNorm_any a b c d w
  have hud : undef = Value.tuple #[] := rfl
  obtain ⟨h0, h1, h2⟩ := (nrmB_iff _ _ _ _).1 hyes
  have hv : nrmV a b c d = areaV (min a c) (min b d) (max a c) (max b d) := if_pos h0
  rw [hv, h0, Int.min_eq_left h1, Int.min_eq_left h2, Int.max_eq_right h1, Int.max_eq_right h2] at hn
  obtain ⟨a1, a2, b1, b2, c1, c2, d1, d2, _, _, h3⟩ := nrm_facts hyes
  have h4 := cntN_cnt hyes
  have h5 := cntN_yes hyes
  have h6 : cntN a b c d ≤ 200 := by omega
  obtain ⟨nc, hnc⟩ : ∃ nc, nc = (c - a + 1).toNat := ⟨_, rfl⟩
  obtain ⟨nr, hnr⟩ : ∃ nr, nr = (d - b + 1).toNat := ⟨_, rfl⟩
  rw [← hnc, ← hnr] at h5
  rw [← hnc]
  have hc1 : c ≤ a + nc - 1 := by omega
  have hc2 : a + nc - 1 ≤ c := by omega
  have hd1 : d ≤ b + nr - 1 := by omega
  have hd2 : b + nr - 1 ≤ d := by omega
  have hnc1 : 1 ≤ nc := by omega
  have hnr1 : 1 ≤ nr := by omega
  clear hnc hnr
  generalize cntN a b c d = N at *
  obtain ⟨Po, hPo⟩ : ∃ Po, Po = CellsPost w N sheet a b nc := ⟨_, rfl⟩
  rw [← hPo]
  have HPO := Lib.hid hPo
  have HN := Lib.hid hn
  have H5 := Lib.hid h5
  obtain ⟨i0, hi, hz0, hz1, hz2⟩ := info_parts Tryd.infoCell
  clear hn h0 h1 h2 hv h3 h4 hyes hPo h5
  go_enter Tryd.func20, Tryd.ntmps20
  go_wp2_with fail
  obtain ⟨s7, hws⟩ : ∃ s, s = (w.alloc (.cells #[.int .i64 a, .int .i64 b, .int .i64 c, .int .i64 d] 33)) := ⟨_, rfl⟩
  have hBs : Below w.heap.size w s7 := by rw [hws]; exact ((Below.refl w.heap.size w).alloc (by simp) _)
  obtain ⟨A, hdA⟩ : ∃ b, b = w.heap.size := ⟨_, rfl⟩
  have hsz : s7.heap.size = w.heap.size + 1 := by rw [hws]; simp
  have kA0 : s7.cell? ⟨A, 0, none⟩ = some (.int .i64 a) := by rw [hws]; simp [go_sem, hdA]
  have kA1 : s7.cell? ⟨A, 1, none⟩ = some (.int .i64 b) := by rw [hws]; simp [go_sem, hdA]
  have kA2 : s7.cell? ⟨A, 2, none⟩ = some (.int .i64 c) := by rw [hws]; simp [go_sem, hdA]
  have kA3 : s7.cell? ⟨A, 3, none⟩ = some (.int .i64 d) := by rw [hws]; simp [go_sem, hdA]
  have zA : A < s7.heap.size := by omega
  have lA : w.heap.size ≤ A := by have := Nat.le_refl w.heap.size; omega
  rw [← hws]
  try rw [← hdA]
  clear hws hsz hdA
  have hBo := hBs; clear hBs
  refine (HN.out _).mono ?_; rintro e s8 ⟨rfl, hb⟩
  replace kA0 := belK hb kA0 zA; replace kA1 := belK hb kA1 zA; replace kA2 := belK hb kA2 zA; replace kA3 := belK hb kA3 zA; replace zA := Nat.lt_of_lt_of_le zA hb.size
  replace hBo := hBo.trans (hb.mono hBo.size)
  clear hb
  go_wp2_with fail
  obtain ⟨s9, hws⟩ : ∃ s, s = (s8.alloc (.cells #[.int .i64 a, .int .i64 b, .int .i64 c, .int .i64 d] 33)) := ⟨_, rfl⟩
  have hBs : Below w.heap.size w s9 := by rw [hws]; exact ((hBo).alloc (by exact hBo.size) _)
  obtain ⟨E, hdE⟩ : ∃ b, b = s8.heap.size := ⟨_, rfl⟩
  have hsz : s9.heap.size = s8.heap.size + 1 := by rw [hws]; simp
  have hQC : ∀ p v, s8.cell? p = some v → s9.cell? p = some v := fun p v h => by rw [hws]; exact (alK h)
  have hQZ : ∀ b, b < s8.heap.size → b < s9.heap.size := fun b h => by omega
  replace kA0 := hQC _ _ kA0; replace kA1 := hQC _ _ kA1; replace kA2 := hQC _ _ kA2; replace kA3 := hQC _ _ kA3; replace zA := hQZ _ zA
  clear hQC hQZ
  have kE0 : s9.cell? ⟨E, 0, none⟩ = some (.int .i64 a) := by rw [hws]; simp [go_sem, hdE]
  have kE1 : s9.cell? ⟨E, 1, none⟩ = some (.int .i64 b) := by rw [hws]; simp [go_sem, hdE]
  have kE2 : s9.cell? ⟨E, 2, none⟩ = some (.int .i64 c) := by rw [hws]; simp [go_sem, hdE]
  have kE3 : s9.cell? ⟨E, 3, none⟩ = some (.int .i64 d) := by rw [hws]; simp [go_sem, hdE]
  have zE : E < s9.heap.size := by omega
  have lE : w.heap.size ≤ E := by have := hBo.size; omega
  rw [← hws]
  try rw [← hdE]
  clear hBo
  clear hws hsz hdE
  have hBo := hBs; clear hBs
  obtain ⟨t0, ht0⟩ : ∃ t, t = s9 := ⟨_, rfl⟩
  rw [← ht0] at kA0 kA1 kA2 kA3 zA hBo ⊢
  clear ht0 kE0 kE1 kE2 kE3 zE lE
  have HZ : Hid (∀ W, Below t0.heap.size t0 W → Below w.heap.size w W) := fun W h => hBo.trans (h.mono hBo.size)
  have HK : Hid (∀ W, Below t0.heap.size t0 W → W.cell? ⟨A, 0, none⟩ = some (.int .i64 a) ∧ W.cell? ⟨A, 1, none⟩ = some (.int .i64 b) ∧ W.cell? ⟨A, 2, none⟩ = some (.int .i64 c) ∧ W.cell? ⟨A, 3, none⟩ = some (.int .i64 d)) := fun W h => ⟨belK h kA0 zA, belK h kA1 zA, belK h kA2 zA, belK h kA3 zA⟩
  obtain ⟨n0, hn0⟩ : ∃ n, n = t0.heap.size := ⟨_, rfl⟩
  clear kA0 kA1 kA2 kA3 zA hBo lA
  go_loopw [7, 8] (OutRel t0 44 sheet a b nc nr) (fun _ r _ => (b + nr - intOf r).toNat)
  case atStart => exact ⟨0, by omega, by simp, by rw [Nat.zero_mul]; exact World.ownsRow_nil _ _ _ _, Below.refl _ _⟩
  case round =>
    obtain ⟨j, hj, rfl, hO, hW⟩ := hrel
    obtain ⟨kA0, kA1, kA2, kA3⟩ := HK.out _ hW
    by_cases hlt : j < nr
    · have HO := Lib.hid hO
      have HW := Lib.hid hW
      clear hO hW
      have hbd : b + (j : Int) ≤ d := by omega
      go_wp2
      go_loopw [7, 9] (InRel t0 44 sheet a b nc j) (fun _ r _ => (a + nc - intOf r).toNat)
      case atStart => exact ⟨0, by omega, by simp, HO.out, HW.out⟩
      case round =>
        clear kA0 kA1 kA2 kA3
        obtain ⟨i, hii, rfl, hO, hW⟩ := hrel
        obtain ⟨kA0, kA1, kA2, kA3⟩ := HK.out _ hW
        by_cases hit : i < nc
        · have HS := Lib.hid (cellsF_step sheet a b j hit)
          have hb := grid_le (nc := nc) (nr := nr) hlt (show i + 1 ≤ nc from hit)
          have hk2 : (j * nc + i + 1) ≤ 200 := by have := H5.out; omega
          have hk1 : (j * nc + i + 1) ≤ maxLen := by unfold maxLen; omega
          have hk3 : (j * nc + i + 1) * 24 ≤ 140737488355328 := by omega
          have HWS := Lib.hid (fun o : Obj => show t0.heap.size ≤ (wr.alloc o).heap.size by simp; have := hW.size; omega)
          clear hb
          have hac : a + (i : Int) ≤ c := by omega
          go_wp2_with (at_builtin; refine wpList_append_own _ rfl _ _ 39 rfl t0.heap.size 44 i0 (.agg #[.int .i64 0, .int .i64 0, .int .i64 0]) 3 24 Tryd.underlying39 hi hz0 hz1 hz2 rfl (by decide) _ _ _ rfl (hO.alloc _) ⟨wr.heap.size, 0, none⟩ 1 1 [.int .i64 sheet, .int .i64 (a + i), .int .i64 (b + j)] rfl rfl (cell_three_new _ _ _ _ _) (three_cells _ _ _) hk1 hk3 (HWS.out _) ?_; intro v1 w2 hown1 hgrow1 _)
          go_roundw
          case rel =>
            refine ⟨i + 1, by omega, congrArg (Value.int .i64) (by omega), ?_, ?_⟩
            · rw [HS.out]; exact hown1
            · exact (hW.alloc hW.size _).grown hgrow1 (HWS.out _) (fun q hq => (hO.lt q hq).1)
          case measure => simp [intOf]; omega
        · obtain rfl : i = nc := by omega
          have hac : c < a + (i : Int) := by omega
          go_wp2
          go_roundw
          case rel =>
            refine ⟨j + 1, by omega, congrArg (Value.int .i64) (by omega), ?_, hW⟩
            rw [Nat.add_mul, Nat.one_mul]; exact hO
          case measure => simp [intOf]; omega
    · obtain rfl : j = nr := by omega
      have hN : N = j * nc := by rw [H5.out, Nat.mul_comm]
      have HN := Lib.hid hN
      clear hN
      have hbd : d < b + (j : Int) := by omega
      go_wp2
      show Po (.returned u7) wr
      rw [HPO.out, HN.out]
      exact ⟨⟨_, rfl, CellsAt.of_owns hO (by have := HN.out; omega)⟩, HZ.out _ hW⟩
theorem refCells_any (a b c d sheet : Int) (w : World) :
    Calls Tryd.prog 20 #[areaV a b c d, .int .i64 sheet] w (CellsPost w (cntN a b c d) sheet a b (c - a + 1).toNat) := by
  cases h : nrmB a b c d with
  | true => exact refCells_yes a b c d sheet w h
  | false =>
    refine (refCells_no a b c d sheet w h).mono ?_
    rintro e w' ⟨he, hB⟩
    exact ⟨⟨_, he, Or.inl ⟨rfl, cntN_no h⟩⟩, hB⟩
end Go.Proofs.YtkgkgdgbkkhblaaDoor
