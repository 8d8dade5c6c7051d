/-
  NUMBERS, ROUNDED: is it whole, a small one; down, up, what is left: the program's.
-/
import Derived.Test.YtbgmnpabclfjaaaGreatDoorRat11
namespace Go.Proofs.YtbgmnpabclfjaaaGreatDoor
open Go.RowKit Go.Shelf
set_option linter.unusedSimpArgs false
set_option linter.unusedVariables false

theorem flq_abs (x y : Int) : (flq x y).natAbs ≤ x.natAbs := by
  unfold flq
  split
  · exact Int.natAbs_ediv_le_natAbs x y
  · have := Int.natAbs_ediv_le_natAbs (-x) (-y)
    rwa [Int.natAbs_neg] at this
theorem flr_pos {x y : Int} (h : 0 < y) : flr x y = x % y := by
  unfold flr flq
  rw [if_pos (by omega)]
  have := Int.emod_add_mul_ediv x y
  omega
theorem flr_neg {x y : Int} (h : y < 0) : flr x y = -((-x) % (-y)) := by
  unfold flr flq
  rw [if_neg (by omega)]
  have := Int.emod_add_mul_ediv (-x) (-y)
  rw [Int.neg_mul] at this
  omega
theorem flr_abs {x y : Int} (h : y ≠ 0) : (flr x y).natAbs < y.natAbs := by
  rcases Int.lt_or_gt_of_ne h with h | h
  · rw [flr_neg h]
    have h1 := Int.emod_nonneg (-x) (b := -y) (by omega)
    have h2 := Int.emod_lt_of_pos (-x) (b := -y) (by omega)
    omega
  · rw [flr_pos h]
    have h1 := Int.emod_nonneg x (b := y) (by omega)
    have h2 := Int.emod_lt_of_pos x (b := y) (by omega)
    omega

theorem cell_al {W : World} {o : Obj} {a : Addr} {v : Value} (h : W.cell? a = some v) : (W.alloc o).cell? a = some v := by rw [World.cell?_alloc_some _ _ _ (by rw [h]; rfl), h]
theorem al_below {s W : World} {o : Obj} (h : Below s.heap.size s W) : Below s.heap.size s (W.alloc o) := h.alloc h.size o
theorem set_below {s W : World} {p : Addr} {v : Value} (h : Below s.heap.size s W) (hp : s.heap.size ≤ p.block) : Below s.heap.size s (W.setCell p v) := h.setCell hp v
theorem cell_set {W : World} {p : Addr} {b o : Nat} {u v : Value} (h : W.cell? ⟨b, o, none⟩ = some v) (hp : p.block ≠ b) : (W.setCell p u).cell? ⟨b, o, none⟩ = some v := by rw [World.cell?_setCell_far _ _ _ _ hp, h]
theorem cell_dr {W : World} {a : Addr} {v : Value} (h : W.cell? a = some v) : W.drew.cell? a = some v := h
theorem low_ne (neg : Bool) (a d : ByteArray) : lowI (wl neg a d) ≠ 0 := by
  have := (wl_ok neg a d).1
  unfold lowI; omega
theorem low_pos (neg : Bool) (a d : ByteArray) : 0 < lowI (wl neg a d) := by
  have := (wl_ok neg a d).1
  unfold lowI; omega
theorem zt_ne_one {y : Int} (h : 0 < y) (h1 : y ≠ 1) : zt y ≠ ⟨#[1]⟩ := fun h2 => by
  have := V_zt y
  rw [h2, show Nt.V (⟨#[1]⟩ : ByteArray) = 1 from by decide] at this
  omega
theorem V_ne {y : Int} (h : y ≠ 0) : Nt.V (zt y) ≠ 0 := by rw [V_zt]; omega
theorem zt_size_one : (zt 1).size ≤ 1000 := by decide
theorem bl_zt (y : Int) : bl (zt y) = (Nt.blen y.natAbs : Int) := by unfold bl; rw [V_zt]
theorem bl_size {y : Int} {k : Nat} (h : (zt y).size ≤ k) : bl (zt y) ≤ 8 * k := by
  rw [bl_zt]
  by_cases h0 : 0 < (Nt.E y.natAbs).size
  · have ht := Nt.blen_top y.natAbs h0
    have : Nt.blen ((Nt.E y.natAbs)[0]'h0).toNat ≤ 8 := by
      have hl : ((Nt.E y.natAbs)[0]'h0).toNat < 256 := UInt8.toNat_lt _
      generalize ((Nt.E y.natAbs)[0]'h0).toNat = v at *
      unfold Nt.blen
      split
      · omega
      · rename_i hv
        have := (Nat.log2_lt hv (k := 8)).2 hl
        omega
    have hs : (Nt.E y.natAbs).size ≤ k := h
    omega
  · have := Nt.E_nil y.natAbs h0
    rw [this]
    show (0 : Int) ≤ _
    omega
/-- the program's Make and Floor, of whole numbers told well. -/
theorem ratMake_zz (x y : Int) (q : Rt) (c : Int) (w : World) (hx : (zt x).size ≤ 1000) (hy : (zt y).size ≤ 128) (hq : mkR x y = q) (hc : mkE x y = c) :
    Calls Tryz.prog 42 #[.agg #[.bool (zb x), .string (zt x)], .agg #[.bool (zb y), .string (zt y)]] w fun e w' => e = .returned (.tuple #[.agg #[.bool (rb q), .string (rn q), .string (rd q)], .int .i64 c]) ∧ Below w.heap.size w w' :=
  ratMake_few (zb x) (zb y) (zt x) (zt y) q c w hx (by omega) (by have := bl_size hy; omega) (by rw [sI_z, sI_z, hq]) (by rw [sI_z, sI_z, hc])
theorem wholeFloor_zz (x y q r : Int) (w : World) (hx : (zt x).size ≤ 1000) (hy : (zt y).size ≤ 1000) (h0 : y ≠ 0) (hq : flq x y = q) (hr : flr x y = r) :
    Calls Tryz.prog 41 #[.agg #[.bool (zb x), .string (zt x)], .agg #[.bool (zb y), .string (zt y)]] w fun e w' => e = .returned (.tuple #[.agg #[.bool (zb q), .string (zt q)], .agg #[.bool (zb r), .string (zt r)], .int .i64 0]) ∧ Below w.heap.size w w' :=
  wholeFloor_any (zb x) (zb y) (zt x) (zt y) q r w hx hy (V_ne h0) (by rw [sI_z, sI_z, hq]) (by rw [sI_z, sI_z, hr])

set_option maxRecDepth 100000 in
set_option maxHeartbeats 4000000 in
theorem roundWhole_any (neg : Bool) (a d : ByteArray) (w : World) (ha : a.size ≤ 140737488351232) (hd : d.size ≤ 140737488351232) :
    Calls Tryz.prog 14 #[.agg #[.bool neg, .string a, .string d]] w fun e w' => e = .returned (.bool (decide (lowI (wl neg a d) = 1))) ∧ Below w.heap.size w w' := by
  have hp := fun w => parts_any neg a d _ _ w ha hd rfl rfl
  have hy0 := low_pos neg a d
  generalize topI (wl neg a d) = x at *
  generalize lowI (wl neg a d) = y at *
  by_cases h1 : y = 1
  · rw [decide_eq_true h1]
    rw [h1, zt_one] at hp
    clear h1
    generalize zb x = bx at *
    generalize zt x = tx at *
    generalize zb 1 = by' at *
    have HP := Lib.hid hp
    clear hp ha hd hy0
    go_enter Tryz.func14, Tryz.ntmps14
    go_wp2_with fail
    obtain ⟨s1, hws⟩ : ∃ s, s = (w.alloc (.cells #[.bool neg, .string a, .string d] 23)) := ⟨_, rfl⟩
    have hBs : Below w.heap.size w s1 := by rw [hws]; exact ((Below.refl w.heap.size w).alloc (by simp) _)
    obtain ⟨A, hdA⟩ : ∃ b, b = w.heap.size := ⟨_, rfl⟩
    have hsz : s1.heap.size = w.heap.size + 1 := by rw [hws]; simp
    have kA0 : s1.cell? ⟨A, 0, none⟩ = some (.bool neg) := by rw [hws]; simp [go_sem, hdA]
    have kA1 : s1.cell? ⟨A, 1, none⟩ = some (.string a) := by rw [hws]; simp [go_sem, hdA]
    have kA2 : s1.cell? ⟨A, 2, none⟩ = some (.string d) := by rw [hws]; simp [go_sem, hdA]
    have zA : A < s1.heap.size := by omega
    have lA : w.heap.size ≤ A := by have := Nat.le_refl w.heap.size; omega
    rw [← hws]
    try rw [← hdA]
    clear hws hsz hdA
    have hBo := hBs; clear hBs
    refine (HP.out _).mono ?_; rintro e s2 ⟨rfl, hb⟩
    replace kA0 := belK hb kA0 zA; replace kA1 := belK hb kA1 zA; replace kA2 := belK hb kA2 zA; replace zA := Nat.lt_of_lt_of_le zA hb.size
    replace hBo := hBo.trans (hb.mono hBo.size)
    clear hb
    all_goals go_wp2_with fail
    all_goals first | go_ret | go_ret2
    all_goals exact ⟨rfl, (((hBo).alloc (by first | exact hBo.size | (have := hBo.size; simp; omega)) _).alloc (by first | exact hBo.size | (have := hBo.size; simp; omega)) _)⟩
  · rw [decide_eq_false h1]
    have hn := toList_one (zt_ne_one hy0 h1)
    generalize zb x = bx at *
    generalize zt x = tx at *
    generalize zb y = by' at *
    generalize zt y = ty at *
    have HP := Lib.hid hp
    clear hp ha hd h1 hy0
    go_enter Tryz.func14, Tryz.ntmps14
    go_wp2_with fail
    obtain ⟨s3, hws⟩ : ∃ s, s = (w.alloc (.cells #[.bool neg, .string a, .string d] 23)) := ⟨_, rfl⟩
    have hBs : Below w.heap.size w s3 := by rw [hws]; exact ((Below.refl w.heap.size w).alloc (by simp) _)
    obtain ⟨A, hdA⟩ : ∃ b, b = w.heap.size := ⟨_, rfl⟩
    have hsz : s3.heap.size = w.heap.size + 1 := by rw [hws]; simp
    have kA0 : s3.cell? ⟨A, 0, none⟩ = some (.bool neg) := by rw [hws]; simp [go_sem, hdA]
    have kA1 : s3.cell? ⟨A, 1, none⟩ = some (.string a) := by rw [hws]; simp [go_sem, hdA]
    have kA2 : s3.cell? ⟨A, 2, none⟩ = some (.string d) := by rw [hws]; simp [go_sem, hdA]
    have zA : A < s3.heap.size := by omega
    have lA : w.heap.size ≤ A := by have := Nat.le_refl w.heap.size; omega
    rw [← hws]
    try rw [← hdA]
    clear hws hsz hdA
    have hBo := hBs; clear hBs
    refine (HP.out _).mono ?_; rintro e s4 ⟨rfl, hb⟩
    replace kA0 := belK hb kA0 zA; replace kA1 := belK hb kA1 zA; replace kA2 := belK hb kA2 zA; replace zA := Nat.lt_of_lt_of_le zA hb.size
    replace hBo := hBo.trans (hb.mono hBo.size)
    clear hb
    all_goals go_wp2_with fail
    all_goals first | go_ret | go_ret2
    all_goals exact ⟨rfl, (((hBo).alloc (by first | exact hBo.size | (have := hBo.size; simp; omega)) _).alloc (by first | exact hBo.size | (have := hBo.size; simp; omega)) _)⟩

set_option maxRecDepth 100000 in
set_option maxHeartbeats 4000000 in
theorem roundSmall_any (neg : Bool) (a d : ByteArray) (z : Int) (b : Bool) (w : World) (ha : a.size ≤ 140737488351232) (hd : d.size ≤ 140737488351232)
    (hz : (if lowI (wl neg a d) = 1 then smI (topI (wl neg a d)) else 0) = z) (hb : (if lowI (wl neg a d) = 1 then smB (topI (wl neg a d)) else false) = b) :
    Calls Tryz.prog 8 #[.agg #[.bool neg, .string a, .string d]] w fun e w' => e = .returned (.tuple #[.int .i64 z, .bool b]) ∧ Below w.heap.size w w' := by
  have hp := fun w => parts_any neg a d _ _ w ha hd rfl rfl
  have hy0 := low_pos neg a d
  generalize topI (wl neg a d) = x at *
  generalize lowI (wl neg a d) = y at *
  have hs := fun w => wholeSmall_any (zb x) (zt x) w
  rw [smallOut_z, sI_z] at hs
  by_cases h1 : y = 1
  · rw [if_pos h1] at hz hb
    rw [hz, hb] at hs
    rw [h1, zt_one] at hp
    have HS := Lib.hid hs
    generalize zb x = bx at *
    generalize zt x = tx at *
    generalize zb 1 = by' at *
    have HP := Lib.hid hp
    clear hp ha hd hy0 h1 hs hz hb
    go_enter Tryz.func8, Tryz.ntmps8
    go_wp2_with fail
    obtain ⟨s5, hws⟩ : ∃ s, s = (w.alloc (.cells #[.bool neg, .string a, .string d] 23)) := ⟨_, rfl⟩
    have hBs : Below w.heap.size w s5 := by rw [hws]; exact ((Below.refl w.heap.size w).alloc (by simp) _)
    obtain ⟨A, hdA⟩ : ∃ b, b = w.heap.size := ⟨_, rfl⟩
    have hsz : s5.heap.size = w.heap.size + 1 := by rw [hws]; simp
    have kA0 : s5.cell? ⟨A, 0, none⟩ = some (.bool neg) := by rw [hws]; simp [go_sem, hdA]
    have kA1 : s5.cell? ⟨A, 1, none⟩ = some (.string a) := by rw [hws]; simp [go_sem, hdA]
    have kA2 : s5.cell? ⟨A, 2, none⟩ = some (.string d) := by rw [hws]; simp [go_sem, hdA]
    have zA : A < s5.heap.size := by omega
    have lA : w.heap.size ≤ A := by have := Nat.le_refl w.heap.size; omega
    rw [← hws]
    try rw [← hdA]
    clear hws hsz hdA
    have hBo := hBs; clear hBs
    refine (HP.out _).mono ?_; rintro e s6 ⟨rfl, hb⟩
    replace kA0 := belK hb kA0 zA; replace kA1 := belK hb kA1 zA; replace kA2 := belK hb kA2 zA; replace zA := Nat.lt_of_lt_of_le zA hb.size
    replace hBo := hBo.trans (hb.mono hBo.size)
    clear hb
    go_wp2_with fail
    obtain ⟨s7, hws⟩ : ∃ s, s = ((s6.alloc (.cells #[.bool bx, .string tx] 44)).alloc (.cells #[.bool by', .string ⟨#[1]⟩] 44)) := ⟨_, rfl⟩
    have hBs : Below w.heap.size w s7 := by rw [hws]; exact (((hBo).alloc (by exact hBo.size) _).alloc (by have := hBo.size; simp; omega) _)
    obtain ⟨X, hdX⟩ : ∃ b, b = s6.heap.size := ⟨_, rfl⟩
    obtain ⟨Y, hdY⟩ : ∃ b, b = s6.heap.size + 1 := ⟨_, rfl⟩
    have hsz : s7.heap.size = s6.heap.size + 1 + 1 := by rw [hws]; simp
    have hQC : ∀ p v, s6.cell? p = some v → s7.cell? p = some v := fun p v h => by rw [hws]; exact (alK (alK h))
    have hQZ : ∀ b, b < s6.heap.size → b < s7.heap.size := fun b h => by omega
    replace kA0 := hQC _ _ kA0; replace kA1 := hQC _ _ kA1; replace kA2 := hQC _ _ kA2; replace zA := hQZ _ zA
    clear hQC hQZ
    have kX0 : s7.cell? ⟨X, 0, none⟩ = some (.bool bx) := by rw [hws]; simp [go_sem, hdX, hdY]
    have kX1 : s7.cell? ⟨X, 1, none⟩ = some (.string tx) := by rw [hws]; simp [go_sem, hdX, hdY]
    have zX : X < s7.heap.size := by omega
    have lX : w.heap.size ≤ X := by have := hBo.size; omega
    have kY0 : s7.cell? ⟨Y, 0, none⟩ = some (.bool by') := by rw [hws]; simp [go_sem, hdX, hdY]
    have kY1 : s7.cell? ⟨Y, 1, none⟩ = some (.string ⟨#[1]⟩) := by rw [hws]; simp [go_sem, hdX, hdY]
    have zY : Y < s7.heap.size := by omega
    have lY : w.heap.size ≤ Y := by have := hBo.size; omega
    rw [← hws]
    try rw [← hdY]
    try rw [← hdX]
    clear hBo
    clear hws hsz hdX hdY
    have hBo := hBs; clear hBs
    refine (HS.out _).mono ?_; rintro e s8 ⟨rfl, hb⟩
    replace kA0 := belK hb kA0 zA; replace kA1 := belK hb kA1 zA; replace kA2 := belK hb kA2 zA; replace zA := Nat.lt_of_lt_of_le zA hb.size
    replace kX0 := belK hb kX0 zX; replace kX1 := belK hb kX1 zX; replace zX := Nat.lt_of_lt_of_le zX hb.size
    replace kY0 := belK hb kY0 zY; replace kY1 := belK hb kY1 zY; replace zY := Nat.lt_of_lt_of_le zY hb.size
    replace hBo := hBo.trans (hb.mono hBo.size)
    clear hb
    all_goals go_wp2_with fail
    all_goals first | go_ret | go_ret2
    all_goals exact ⟨rfl, hBo⟩
  · rw [if_neg h1] at hz hb
    subst hz hb
    have hn := toList_one (zt_ne_one hy0 h1)
    generalize zb x = bx at *
    generalize zt x = tx at *
    generalize zb y = by' at *
    generalize zt y = ty at *
    have HP := Lib.hid hp
    clear hp ha hd h1 hy0 hs
    go_enter Tryz.func8, Tryz.ntmps8
    go_wp2_with fail
    obtain ⟨s9, hws⟩ : ∃ s, s = (w.alloc (.cells #[.bool neg, .string a, .string d] 23)) := ⟨_, rfl⟩
    have hBs : Below w.heap.size w s9 := by rw [hws]; exact ((Below.refl w.heap.size w).alloc (by simp) _)
    obtain ⟨A, hdA⟩ : ∃ b, b = w.heap.size := ⟨_, rfl⟩
    have hsz : s9.heap.size = w.heap.size + 1 := by rw [hws]; simp
    have kA0 : s9.cell? ⟨A, 0, none⟩ = some (.bool neg) := by rw [hws]; simp [go_sem, hdA]
    have kA1 : s9.cell? ⟨A, 1, none⟩ = some (.string a) := by rw [hws]; simp [go_sem, hdA]
    have kA2 : s9.cell? ⟨A, 2, none⟩ = some (.string d) := by rw [hws]; simp [go_sem, hdA]
    have zA : A < s9.heap.size := by omega
    have lA : w.heap.size ≤ A := by have := Nat.le_refl w.heap.size; omega
    rw [← hws]
    try rw [← hdA]
    clear hws hsz hdA
    have hBo := hBs; clear hBs
    refine (HP.out _).mono ?_; rintro e s10 ⟨rfl, hb⟩
    replace kA0 := belK hb kA0 zA; replace kA1 := belK hb kA1 zA; replace kA2 := belK hb kA2 zA; replace zA := Nat.lt_of_lt_of_le zA hb.size
    replace hBo := hBo.trans (hb.mono hBo.size)
    clear hb
    all_goals go_wp2_with fail
    all_goals first | go_ret | go_ret2
    all_goals exact ⟨rfl, (((hBo).alloc (by first | exact hBo.size | (have := hBo.size; simp; omega)) _).alloc (by first | exact hBo.size | (have := hBo.size; simp; omega)) _)⟩

set_option maxRecDepth 100000 in
set_option maxHeartbeats 4000000 in
theorem roundFloor_any (neg : Bool) (a d : ByteArray) (q : Rt) (c : Int) (w : World) (ha : a.size ≤ 140737488351232) (hd : d.size ≤ 140737488351232)
    (hq : mkR (flq (topI (wl neg a d)) (lowI (wl neg a d))) 1 = q) (hc : mkE (flq (topI (wl neg a d)) (lowI (wl neg a d))) 1 = c) :
    Calls Tryz.prog 10 #[.agg #[.bool neg, .string a, .string d]] w fun e w' => e = .returned (.tuple #[.agg #[.bool (rb q), .string (rn q), .string (rd q)], .int .i64 c]) ∧ Below w.heap.size w w' := by
  have hp := fun w => parts_any neg a d _ _ w ha hd rfl rfl
  have hy0 := low_ne neg a d
  have sx := top_size neg a d
  have sy := low_size neg a d
  generalize topI (wl neg a d) = x at *
  generalize lowI (wl neg a d) = y at *
  have sf := Nat.le_trans (zt_mono (flq_abs x y)) sx
  generalize hf : flq x y = f at *
  have HF' := Lib.hid (fun w => wholeFloor_zz x y f (flr x y) w (by omega) (by omega) hy0 hf rfl)
  generalize flr x y = r at *
  have HK := Lib.hid (fun w => ratMake_zz f 1 q c w (by omega) (by decide) hq hc)
  have HO := Lib.hid (fun w => wholeOf_z 1 w (by omega) (by omega))
  have HP := Lib.hid hp
  generalize zb x = bx at *
  generalize zt x = tx at *
  generalize zb y = by' at *
  generalize zt y = ty at *
  generalize zb f = bf at *
  generalize zt f = tf at *
  generalize zb r = br at *
  generalize zt r = tr at *
  generalize zb 1 = b1 at *
  generalize zt 1 = t1 at *
  clear hp ha hd hq hc hy0 sx sy sf hf
  go_enter Tryz.func10, Tryz.ntmps10
  go_wp2_with fail
  obtain ⟨s11, hws⟩ : ∃ s, s = ((w.alloc (.cells #[.bool neg, .string a, .string d] 23)).alloc (.cells #[.bool false, .string ⟨#[]⟩, .string ⟨#[]⟩] 23)) := ⟨_, rfl⟩
  have hBs : Below w.heap.size w s11 := by rw [hws]; exact (((Below.refl w.heap.size w).alloc (by simp) _).alloc (by simp) _)
  obtain ⟨A, hdA⟩ : ∃ b, b = w.heap.size := ⟨_, rfl⟩
  obtain ⟨C, hdC⟩ : ∃ b, b = w.heap.size + 1 := ⟨_, rfl⟩
  have hsz : s11.heap.size = w.heap.size + 1 + 1 := by rw [hws]; simp
  have dCA : C ≠ A := by omega
  have kA0 : s11.cell? ⟨A, 0, none⟩ = some (.bool neg) := by rw [hws]; simp [go_sem, hdA, hdC]
  have kA1 : s11.cell? ⟨A, 1, none⟩ = some (.string a) := by rw [hws]; simp [go_sem, hdA, hdC]
  have kA2 : s11.cell? ⟨A, 2, none⟩ = some (.string d) := by rw [hws]; simp [go_sem, hdA, hdC]
  have zA : A < s11.heap.size := by omega
  have lA : w.heap.size ≤ A := by have := Nat.le_refl w.heap.size; omega
  have kC0 : s11.cell? ⟨C, 0, none⟩ = some (.bool false) := by rw [hws]; simp [go_sem, hdA, hdC]
  have fC0 : s11.frozen? ⟨C, 0, none⟩ = false := by rw [hws]; simp [go_sem, hdA, hdC]
  have kC1 : s11.cell? ⟨C, 1, none⟩ = some (.string ⟨#[]⟩) := by rw [hws]; simp [go_sem, hdA, hdC]
  have fC1 : s11.frozen? ⟨C, 1, none⟩ = false := by rw [hws]; simp [go_sem, hdA, hdC]
  have kC2 : s11.cell? ⟨C, 2, none⟩ = some (.string ⟨#[]⟩) := by rw [hws]; simp [go_sem, hdA, hdC]
  have fC2 : s11.frozen? ⟨C, 2, none⟩ = false := by rw [hws]; simp [go_sem, hdA, hdC]
  have zC : C < s11.heap.size := by omega
  have lC : w.heap.size ≤ C := by have := Nat.le_refl w.heap.size; omega
  rw [← hws]
  try rw [← hdC]
  try rw [← hdA]
  clear hws hsz hdA hdC
  have hBo := hBs; clear hBs
  refine (HP.out _).mono ?_; rintro e s12 ⟨rfl, hb⟩
  replace kA0 := belK hb kA0 zA; replace kA1 := belK hb kA1 zA; replace kA2 := belK hb kA2 zA; replace zA := Nat.lt_of_lt_of_le zA hb.size
  replace kC0 := belK hb kC0 zC; replace fC0 := belF hb fC0 zC; replace kC1 := belK hb kC1 zC; replace fC1 := belF hb fC1 zC; replace kC2 := belK hb kC2 zC; replace fC2 := belF hb fC2 zC; replace zC := Nat.lt_of_lt_of_le zC hb.size
  replace hBo := hBo.trans (hb.mono hBo.size)
  clear hb
  go_wp2_with fail
  obtain ⟨s13, hws⟩ : ∃ s, s = ((s12.alloc (.cells #[.bool bx, .string tx] 44)).alloc (.cells #[.bool by', .string ty] 44)) := ⟨_, rfl⟩
  have hBs : Below w.heap.size w s13 := by rw [hws]; exact (((hBo).alloc (by exact hBo.size) _).alloc (by have := hBo.size; simp; omega) _)
  obtain ⟨X, hdX⟩ : ∃ b, b = s12.heap.size := ⟨_, rfl⟩
  obtain ⟨Y, hdY⟩ : ∃ b, b = s12.heap.size + 1 := ⟨_, rfl⟩
  have hsz : s13.heap.size = s12.heap.size + 1 + 1 := by rw [hws]; simp
  have dCX : C ≠ X := by omega
  have dCY : C ≠ Y := by omega
  have hQC : ∀ p v, s12.cell? p = some v → s13.cell? p = some v := fun p v h => by rw [hws]; exact (alK (alK h))
  have hQZ : ∀ b, b < s12.heap.size → b < s13.heap.size := fun b h => by omega
  have hQF : ∀ b j, b < s12.heap.size → s12.frozen? ⟨b, j, none⟩ = false → s13.frozen? ⟨b, j, none⟩ = false := fun b j z h => by rw [hws]; exact (alF (alZ z) (alF z h))
  replace kA0 := hQC _ _ kA0; replace kA1 := hQC _ _ kA1; replace kA2 := hQC _ _ kA2; replace zA := hQZ _ zA
  replace kC0 := hQC _ _ kC0; replace fC0 := hQF _ _ zC fC0; replace kC1 := hQC _ _ kC1; replace fC1 := hQF _ _ zC fC1; replace kC2 := hQC _ _ kC2; replace fC2 := hQF _ _ zC fC2; replace zC := hQZ _ zC
  clear hQC hQZ hQF
  have kX0 : s13.cell? ⟨X, 0, none⟩ = some (.bool bx) := by rw [hws]; simp [go_sem, hdX, hdY]
  have kX1 : s13.cell? ⟨X, 1, none⟩ = some (.string tx) := by rw [hws]; simp [go_sem, hdX, hdY]
  have zX : X < s13.heap.size := by omega
  have lX : w.heap.size ≤ X := by have := hBo.size; omega
  have kY0 : s13.cell? ⟨Y, 0, none⟩ = some (.bool by') := by rw [hws]; simp [go_sem, hdX, hdY]
  have kY1 : s13.cell? ⟨Y, 1, none⟩ = some (.string ty) := by rw [hws]; simp [go_sem, hdX, hdY]
  have zY : Y < s13.heap.size := by omega
  have lY : w.heap.size ≤ Y := by have := hBo.size; omega
  rw [← hws]
  try rw [← hdY]
  try rw [← hdX]
  clear hBo
  clear hws hsz hdX hdY
  have hBo := hBs; clear hBs
  refine (HF'.out _).mono ?_; rintro e s14 ⟨rfl, hb⟩
  replace kA0 := belK hb kA0 zA; replace kA1 := belK hb kA1 zA; replace kA2 := belK hb kA2 zA; replace zA := Nat.lt_of_lt_of_le zA hb.size
  replace kC0 := belK hb kC0 zC; replace fC0 := belF hb fC0 zC; replace kC1 := belK hb kC1 zC; replace fC1 := belF hb fC1 zC; replace kC2 := belK hb kC2 zC; replace fC2 := belF hb fC2 zC; replace zC := Nat.lt_of_lt_of_le zC hb.size
  replace kX0 := belK hb kX0 zX; replace kX1 := belK hb kX1 zX; replace zX := Nat.lt_of_lt_of_le zX hb.size
  replace kY0 := belK hb kY0 zY; replace kY1 := belK hb kY1 zY; replace zY := Nat.lt_of_lt_of_le zY hb.size
  replace hBo := hBo.trans (hb.mono hBo.size)
  clear hb
  go_wp2_with fail
  obtain ⟨s15, hws⟩ : ∃ s, s = ((s14.alloc (.cells #[.bool bf, .string tf] 44)).alloc (.cells #[.bool br, .string tr] 44)) := ⟨_, rfl⟩
  have hBs : Below w.heap.size w s15 := by rw [hws]; exact (((hBo).alloc (by exact hBo.size) _).alloc (by have := hBo.size; simp; omega) _)
  obtain ⟨Q, hdQ⟩ : ∃ b, b = s14.heap.size := ⟨_, rfl⟩
  obtain ⟨S, hdS⟩ : ∃ b, b = s14.heap.size + 1 := ⟨_, rfl⟩
  have hsz : s15.heap.size = s14.heap.size + 1 + 1 := by rw [hws]; simp
  have dCQ : C ≠ Q := by omega
  have dCS : C ≠ S := by omega
  have hQC : ∀ p v, s14.cell? p = some v → s15.cell? p = some v := fun p v h => by rw [hws]; exact (alK (alK h))
  have hQZ : ∀ b, b < s14.heap.size → b < s15.heap.size := fun b h => by omega
  have hQF : ∀ b j, b < s14.heap.size → s14.frozen? ⟨b, j, none⟩ = false → s15.frozen? ⟨b, j, none⟩ = false := fun b j z h => by rw [hws]; exact (alF (alZ z) (alF z h))
  replace kA0 := hQC _ _ kA0; replace kA1 := hQC _ _ kA1; replace kA2 := hQC _ _ kA2; replace zA := hQZ _ zA
  replace kC0 := hQC _ _ kC0; replace fC0 := hQF _ _ zC fC0; replace kC1 := hQC _ _ kC1; replace fC1 := hQF _ _ zC fC1; replace kC2 := hQC _ _ kC2; replace fC2 := hQF _ _ zC fC2; replace zC := hQZ _ zC
  replace kX0 := hQC _ _ kX0; replace kX1 := hQC _ _ kX1; replace zX := hQZ _ zX
  replace kY0 := hQC _ _ kY0; replace kY1 := hQC _ _ kY1; replace zY := hQZ _ zY
  clear hQC hQZ hQF
  have kQ0 : s15.cell? ⟨Q, 0, none⟩ = some (.bool bf) := by rw [hws]; simp [go_sem, hdQ, hdS]
  have kQ1 : s15.cell? ⟨Q, 1, none⟩ = some (.string tf) := by rw [hws]; simp [go_sem, hdQ, hdS]
  have zQ : Q < s15.heap.size := by omega
  have lQ : w.heap.size ≤ Q := by have := hBo.size; omega
  have kS0 : s15.cell? ⟨S, 0, none⟩ = some (.bool br) := by rw [hws]; simp [go_sem, hdQ, hdS]
  have kS1 : s15.cell? ⟨S, 1, none⟩ = some (.string tr) := by rw [hws]; simp [go_sem, hdQ, hdS]
  have zS : S < s15.heap.size := by omega
  have lS : w.heap.size ≤ S := by have := hBo.size; omega
  rw [← hws]
  try rw [← hdS]
  try rw [← hdQ]
  clear hBo
  clear hws hsz hdQ hdS
  have hBo := hBs; clear hBs
  have HF : Hid (∀ W, Below s15.heap.size s15 W → Below w.heap.size w W) := fun W hW => hBo.trans (hW.mono hBo.size)
  clear hBo
  first | (go_region_held3 (fun w' => w'.cell? ⟨A, 0, none⟩ = some (.bool neg) ∧ w'.cell? ⟨A, 1, none⟩ = some (.string a) ∧ w'.cell? ⟨A, 2, none⟩ = some (.string d) ∧ w'.cell? ⟨X, 0, none⟩ = some (.bool bx) ∧ w'.cell? ⟨X, 1, none⟩ = some (.string tx) ∧ w'.cell? ⟨Y, 0, none⟩ = some (.bool by') ∧ w'.cell? ⟨Y, 1, none⟩ = some (.string ty) ∧ w'.cell? ⟨Q, 0, none⟩ = some (.bool bf) ∧ w'.cell? ⟨Q, 1, none⟩ = some (.string tf) ∧ w'.cell? ⟨S, 0, none⟩ = some (.bool br) ∧ w'.cell? ⟨S, 1, none⟩ = some (.string tr))
    (go_keep) (first
    | (go_at_call 43; refine (HO.out _).mono ?_; rintro e x16 ⟨rfl, hbx⟩; have hTx : Below s15.heap.size s15 x16 := (by first | exact (Below.refl _ _).drew.trans hbx | exact Below.trans (by assumption) (hbx.mono (Below.size (by assumption))) | exact (Below.refl _ _).trans hbx); obtain ⟨hcx, hfx⟩ := bcell hTx)
    | (go_at_call 42; refine (HK.out _).mono ?_; rintro e x16 ⟨rfl, hbx⟩; have hTx : Below s15.heap.size s15 x16 := (by first | exact (Below.refl _ _).drew.trans hbx | exact Below.trans (by assumption) (hbx.mono (Below.size (by assumption))) | exact (Below.refl _ _).trans hbx); obtain ⟨hcx, hfx⟩ := bcell hTx))) | fail
  all_goals go_wp2_with fail
  all_goals refine bodyPost_ret (v := .tuple #[.agg #[.bool (rb q), .string (rn q), .string (rd q)], .int .i64 c]) (by simp [results, Tryz.results10, go_sem, hcx, kC0, kC1, kC2, zC]) rfl ⟨rfl, ?_⟩
  all_goals exact ((((HF.out _ (by assumption)).setCell lC _).setCell lC _).setCell lC _)

end Go.Proofs.YtbgmnpabclfjaaaGreatDoor
