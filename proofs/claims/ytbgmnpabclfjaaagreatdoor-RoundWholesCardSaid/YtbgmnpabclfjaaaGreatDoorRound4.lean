/-
  NUMBERS, ROUNDED, IN THE DOCUMENT: is it whole, a small one; down and up to whole ones.
-/
import Derived.Test.YtbgmnpabclfjaaaGreatDoorRound1
namespace Go.Proofs.YtbgmnpabclfjaaaGreatDoor
open Go.RowKit Go.Shelf
set_option linter.unusedSimpArgs false
set_option linter.unusedVariables false

theorem blen_le_iff (n k : Nat) : Nt.blen n ≤ k ↔ n < 2 ^ k := by
  unfold Nt.blen
  split
  · rename_i h; subst h; exact ⟨fun _ => Nat.pow_pos (by omega), fun _ => Nat.zero_le _⟩
  · rename_i h
    rw [← Nat.log2_lt h]; omega
theorem blen_mono {n m : Nat} (h : n ≤ m) : Nt.blen n ≤ Nt.blen m := (blen_le_iff n _).2 (Nat.lt_of_le_of_lt h ((blen_le_iff m _).1 (Nat.le_refl _)))
theorem wl_of_ok {q : Rt} (h : RtOk q) : wl (rb q) (rn q) (rd q) = q := by
  have e1 : Nt.V (rn q) = q.num := Nt.V_E _
  have e2 : Nt.V (rd q) = q.den := Nt.V_E _
  have hr : rightB (rb q) (rn q) (rd q) = true := (rightB_iff _ _ _).2 (by rw [e1, e2]; exact ⟨rfl, rfl, h⟩)
  unfold wl
  rw [if_pos hr, e1, e2]
  rfl
theorem mk_one {f : Int} (h : Nt.blen f.natAbs ≤ 256) : mkR f 1 = ⟨zb f, f.natAbs, 1⟩ ∧ mkE f 1 = 0 := by
  have hN : mkN f 1 = f.natAbs := by unfold mkN; simp
  have hD : mkD f 1 = 1 := by unfold mkD; simp
  obtain ⟨e1, e2⟩ := mk_fine (x := f) (y := 1) (by decide) (by rw [hN, hD, show Nt.blen 1 = 1 from by decide]; omega)
  rw [e1, e2, hN, hD, zb_one]
  refine ⟨?_, rfl⟩
  have hz := zb_iff f
  generalize zb f = b at *
  have : ((b != false) && decide (f.natAbs ≠ 0)) = b := by
    cases b with
    | false => rfl
    | true =>
      have : f < 0 := hz.1 rfl
      have : f.natAbs ≠ 0 := by omega
      simp [this]
  rw [this]
theorem one_ok {f : Int} (h : Nt.blen f.natAbs ≤ 256) : RtOk ⟨zb f, f.natAbs, 1⟩ := by
  refine ⟨by simp, Nat.gcd_one_right _, h, by show Nt.blen 1 ≤ 256; decide, fun h0 => ?_⟩
  have h0 : f.natAbs = 0 := h0
  have hz := zb_iff f
  show zb f = false
  cases hb : zb f with
  | false => rfl
  | true => have := hz.1 hb; omega
theorem top_blen (neg : Bool) (a d : ByteArray) : Nt.blen (topI (wl neg a d)).natAbs ≤ 256 := by
  have := (wl_ok neg a d).2.2.1
  unfold topI; rw [sI_abs]; exact this
theorem flq_blen (x y : Int) (h : Nt.blen x.natAbs ≤ 256) : Nt.blen (flq x y).natAbs ≤ 256 := Nat.le_trans (blen_mono (flq_abs x y)) h

set_option maxRecDepth 100000 in
set_option maxHeartbeats 4000000 in
theorem refWhole6_any (neg : Bool) (a d : ByteArray) (w : World) (ha : a.size ≤ 140737488351232) (hd : d.size ≤ 140737488351232) :
    Calls Tryz.prog 15 #[.agg #[.bool neg, .string a, .string d]] w fun e w' => e = .returned (.bool (decide (lowI (wl neg a d) = 1))) ∧ Below w.heap.size w w' := by
  have hw := fun w => refWell5_any neg a d _ w ha hd rfl
  have hy0 := low_pos neg a d
  rw [← zt_low] at hw
  generalize lowI (wl neg a d) = y at *
  generalize rb (wl neg a d) = b1 at *
  generalize rn (wl neg a d) = t1 at *
  by_cases h1 : y = 1
  · rw [decide_eq_true h1]
    rw [h1, zt_one] at hw
    have HW := Lib.hid hw
    have F2 := fR2 b1 t1 ⟨#[1]⟩
    clear hw ha hd hy0 h1
    go_enter Tryz.func15, Tryz.ntmps15
    go_wp2_with fail
    obtain ⟨s1, hws⟩ : ∃ s, s = (w.alloc (.cells #[.bool neg, .string a, .string d] 23)) := ⟨_, rfl⟩
    have hBs : Below w.heap.size w s1 := by rw [hws]; exact ((Below.refl w.heap.size w).alloc (by simp) _)
    obtain ⟨A, hdA⟩ : ∃ b, b = w.heap.size := ⟨_, rfl⟩
    have hsz : s1.heap.size = w.heap.size + 1 := by rw [hws]; simp
    have kA0 : s1.cell? ⟨A, 0, none⟩ = some (.bool neg) := by rw [hws]; simp [go_sem, hdA]
    have kA1 : s1.cell? ⟨A, 1, none⟩ = some (.string a) := by rw [hws]; simp [go_sem, hdA]
    have kA2 : s1.cell? ⟨A, 2, none⟩ = some (.string d) := by rw [hws]; simp [go_sem, hdA]
    have zA : A < s1.heap.size := by omega
    have lA : w.heap.size ≤ A := by have := Nat.le_refl w.heap.size; omega
    rw [← hws]
    try rw [← hdA]
    clear hws hsz hdA
    have hBo := hBs; clear hBs
    refine (HW.out _).mono ?_; rintro e s2 ⟨rfl, hb⟩
    replace kA0 := belK hb kA0 zA; replace kA1 := belK hb kA1 zA; replace kA2 := belK hb kA2 zA; replace zA := Nat.lt_of_lt_of_le zA hb.size
    replace hBo := hBo.trans (hb.mono hBo.size)
    clear hb
    all_goals go_wp2_with fail
    all_goals first | go_ret | go_ret2
    all_goals exact ⟨rfl, hBo⟩
  · rw [decide_eq_false h1]
    have hn := toList_one (zt_ne_one hy0 h1)
    generalize zt y = t2 at *
    have HW := Lib.hid hw
    have F2 := fR2 b1 t1 t2
    clear hw ha hd hy0 h1
    go_enter Tryz.func15, Tryz.ntmps15
    go_wp2_with fail
    obtain ⟨s3, hws⟩ : ∃ s, s = (w.alloc (.cells #[.bool neg, .string a, .string d] 23)) := ⟨_, rfl⟩
    have hBs : Below w.heap.size w s3 := by rw [hws]; exact ((Below.refl w.heap.size w).alloc (by simp) _)
    obtain ⟨A, hdA⟩ : ∃ b, b = w.heap.size := ⟨_, rfl⟩
    have hsz : s3.heap.size = w.heap.size + 1 := by rw [hws]; simp
    have kA0 : s3.cell? ⟨A, 0, none⟩ = some (.bool neg) := by rw [hws]; simp [go_sem, hdA]
    have kA1 : s3.cell? ⟨A, 1, none⟩ = some (.string a) := by rw [hws]; simp [go_sem, hdA]
    have kA2 : s3.cell? ⟨A, 2, none⟩ = some (.string d) := by rw [hws]; simp [go_sem, hdA]
    have zA : A < s3.heap.size := by omega
    have lA : w.heap.size ≤ A := by have := Nat.le_refl w.heap.size; omega
    rw [← hws]
    try rw [← hdA]
    clear hws hsz hdA
    have hBo := hBs; clear hBs
    refine (HW.out _).mono ?_; rintro e s4 ⟨rfl, hb⟩
    replace kA0 := belK hb kA0 zA; replace kA1 := belK hb kA1 zA; replace kA2 := belK hb kA2 zA; replace zA := Nat.lt_of_lt_of_le zA hb.size
    replace hBo := hBo.trans (hb.mono hBo.size)
    clear hb
    all_goals go_wp2_with fail
    all_goals first | go_ret | go_ret2
    all_goals exact ⟨rfl, hBo⟩
set_option maxRecDepth 100000 in
set_option maxHeartbeats 4000000 in
theorem refSmall6_any (neg : Bool) (a d : ByteArray) (z : Int) (b : Bool) (w : World) (ha : a.size ≤ 140737488351232) (hd : d.size ≤ 140737488351232)
    (hz : (if lowI (wl neg a d) = 1 then smI (topI (wl neg a d)) else 0) = z) (hb : (if lowI (wl neg a d) = 1 then smB (topI (wl neg a d)) else false) = b) :
    Calls Tryz.prog 9 #[.agg #[.bool neg, .string a, .string d]] w fun e w' => e = .returned (.tuple #[.int .i64 z, .bool b]) ∧ Below w.heap.size w w' := by
  have hw := fun w => refWhole6_any neg a d w ha hd
  have HT := Lib.hid (fun w => refTop_g neg a d w ha hd)
  generalize topI (wl neg a d) = x at *
  generalize lowI (wl neg a d) = y at *
  have hs := fun w => refSmall4_any (zb x) (zt x) w
  rw [smallOut_z, sI_z] at hs
  by_cases h1 : y = 1
  · rw [if_pos h1] at hz hb
    rw [hz, hb] at hs
    rw [decide_eq_true h1] at hw
    have HS := Lib.hid hs
    have HW := Lib.hid hw
    generalize zb x = bx at *
    generalize zt x = tx at *
    clear hw ha hd h1 hs hz hb
    go_enter Tryz.func9, Tryz.ntmps9
    go_wp2_with fail
    obtain ⟨s5, hws⟩ : ∃ s, s = (w.alloc (.cells #[.bool neg, .string a, .string d] 23)) := ⟨_, rfl⟩
    have hBs : Below w.heap.size w s5 := by rw [hws]; exact ((Below.refl w.heap.size w).alloc (by simp) _)
    obtain ⟨A, hdA⟩ : ∃ b, b = w.heap.size := ⟨_, rfl⟩
    have hsz : s5.heap.size = w.heap.size + 1 := by rw [hws]; simp
    have kA0 : s5.cell? ⟨A, 0, none⟩ = some (.bool neg) := by rw [hws]; simp [go_sem, hdA]
    have kA1 : s5.cell? ⟨A, 1, none⟩ = some (.string a) := by rw [hws]; simp [go_sem, hdA]
    have kA2 : s5.cell? ⟨A, 2, none⟩ = some (.string d) := by rw [hws]; simp [go_sem, hdA]
    have zA : A < s5.heap.size := by omega
    have lA : w.heap.size ≤ A := by have := Nat.le_refl w.heap.size; omega
    rw [← hws]
    try rw [← hdA]
    clear hws hsz hdA
    have hBo := hBs; clear hBs
    refine (HW.out _).mono ?_; rintro e s6 ⟨rfl, hb⟩
    replace kA0 := belK hb kA0 zA; replace kA1 := belK hb kA1 zA; replace kA2 := belK hb kA2 zA; replace zA := Nat.lt_of_lt_of_le zA hb.size
    replace hBo := hBo.trans (hb.mono hBo.size)
    clear hb
    go_wp2_with fail
    refine (HT.out _).mono ?_; rintro e s7 ⟨rfl, hb⟩
    replace kA0 := belK hb kA0 zA; replace kA1 := belK hb kA1 zA; replace kA2 := belK hb kA2 zA; replace zA := Nat.lt_of_lt_of_le zA hb.size
    replace hBo := hBo.trans (hb.mono hBo.size)
    clear hb
    go_wp2_with fail
    refine (HS.out _).mono ?_; rintro e s8 ⟨rfl, hb⟩
    replace kA0 := belK hb kA0 zA; replace kA1 := belK hb kA1 zA; replace kA2 := belK hb kA2 zA; replace zA := Nat.lt_of_lt_of_le zA hb.size
    replace hBo := hBo.trans (hb.mono hBo.size)
    clear hb
    all_goals go_wp2_with fail
    all_goals first | go_ret | go_ret2
    all_goals exact ⟨rfl, hBo⟩
  · rw [if_neg h1] at hz hb
    subst hz hb
    rw [decide_eq_false h1] at hw
    have HW := Lib.hid hw
    clear hw ha hd h1 hs HT
    go_enter Tryz.func9, Tryz.ntmps9
    go_wp2_with fail
    obtain ⟨s9, hws⟩ : ∃ s, s = (w.alloc (.cells #[.bool neg, .string a, .string d] 23)) := ⟨_, rfl⟩
    have hBs : Below w.heap.size w s9 := by rw [hws]; exact ((Below.refl w.heap.size w).alloc (by simp) _)
    obtain ⟨A, hdA⟩ : ∃ b, b = w.heap.size := ⟨_, rfl⟩
    have hsz : s9.heap.size = w.heap.size + 1 := by rw [hws]; simp
    have kA0 : s9.cell? ⟨A, 0, none⟩ = some (.bool neg) := by rw [hws]; simp [go_sem, hdA]
    have kA1 : s9.cell? ⟨A, 1, none⟩ = some (.string a) := by rw [hws]; simp [go_sem, hdA]
    have kA2 : s9.cell? ⟨A, 2, none⟩ = some (.string d) := by rw [hws]; simp [go_sem, hdA]
    have zA : A < s9.heap.size := by omega
    have lA : w.heap.size ≤ A := by have := Nat.le_refl w.heap.size; omega
    rw [← hws]
    try rw [← hdA]
    clear hws hsz hdA
    have hBo := hBs; clear hBs
    refine (HW.out _).mono ?_; rintro e s10 ⟨rfl, hb⟩
    replace kA0 := belK hb kA0 zA; replace kA1 := belK hb kA1 zA; replace kA2 := belK hb kA2 zA; replace zA := Nat.lt_of_lt_of_le zA hb.size
    replace hBo := hBo.trans (hb.mono hBo.size)
    clear hb
    all_goals go_wp2_with fail
    all_goals first | go_ret | go_ret2
    all_goals exact ⟨rfl, hBo⟩
set_option maxRecDepth 100000 in
set_option maxHeartbeats 4000000 in
theorem refOne_any (w : World) : Calls Tryz.prog 47 #[] w fun e w' => e = .returned (.agg #[.bool (zb 1), .string (zt 1)]) ∧ Below w.heap.size w w' := by
  have HO := Lib.hid (fun w => refOf_z 1 w (by omega) (by omega))
  generalize zb 1 = b at *
  generalize zt 1 = t at *
  go_enter Tryz.func47, Tryz.ntmps47
  go_wp2_with fail
  obtain ⟨s11, hws⟩ : ∃ s, s = (w.alloc (.cells #[.bool false, .string ⟨#[]⟩] 44)) := ⟨_, rfl⟩
  have hBs : Below w.heap.size w s11 := by rw [hws]; exact ((Below.refl w.heap.size w).alloc (by simp) _)
  obtain ⟨C, hdC⟩ : ∃ b, b = w.heap.size := ⟨_, rfl⟩
  have hsz : s11.heap.size = w.heap.size + 1 := by rw [hws]; simp
  have kC0 : s11.cell? ⟨C, 0, none⟩ = some (.bool false) := by rw [hws]; simp [go_sem, hdC]
  have fC0 : s11.frozen? ⟨C, 0, none⟩ = false := by rw [hws]; simp [go_sem, hdC]
  have kC1 : s11.cell? ⟨C, 1, none⟩ = some (.string ⟨#[]⟩) := by rw [hws]; simp [go_sem, hdC]
  have fC1 : s11.frozen? ⟨C, 1, none⟩ = false := by rw [hws]; simp [go_sem, hdC]
  have zC : C < s11.heap.size := by omega
  have lC : w.heap.size ≤ C := by have := Nat.le_refl w.heap.size; omega
  rw [← hws]
  try rw [← hdC]
  clear hws hsz hdC
  have hBo := hBs; clear hBs
  refine (HO.out _).mono ?_; rintro e s12 ⟨rfl, hb⟩
  replace kC0 := belK hb kC0 zC; replace fC0 := belF hb fC0 zC; replace kC1 := belK hb kC1 zC; replace fC1 := belF hb fC1 zC; replace zC := Nat.lt_of_lt_of_le zC hb.size
  replace hBo := hBo.trans (hb.mono hBo.size)
  clear hb
  all_goals go_wp2_with fail
  all_goals refine bodyPost_ret (v := .agg #[.bool b, .string t]) (by simp [results, Tryz.results47, go_sem, kC0, kC1, zC]) rfl ⟨rfl, ?_⟩
  all_goals exact ((hBo.setCell lC _).setCell lC _)
set_option maxRecDepth 100000 in
set_option maxHeartbeats 4000000 in
theorem refFl_any (x y f : Int) (w : World) (hx : (zt x).size ≤ 300) (hy : (zt y).size ≤ 300) (h0 : y ≠ 0) (hf : flq x y = f) :
    Calls Tryz.prog 45 #[.agg #[.bool (zb x), .string (zt x)], .agg #[.bool (zb y), .string (zt y)]] w fun e w' => e = .returned (.agg #[.bool (zb f), .string (zt f)]) ∧ Below w.heap.size w w' := by
  have HF' := Lib.hid (fun w => refFloor_any (zb x) (zb y) (zt x) (zt y) f (flr x y) w hx hy (V_ne h0) (by rw [sI_z, sI_z, hf]) (by rw [sI_z, sI_z]))
  generalize flr x y = r at *
  generalize zb x = bx at *
  generalize zt x = tx at *
  generalize zb y = by' at *
  generalize zt y = ty at *
  generalize zb f = bf at *
  generalize zt f = tf at *
  generalize zb r = br at *
  generalize zt r = tr at *
  clear hx hy h0 hf
  go_enter Tryz.func45, Tryz.ntmps45
  go_wp2_with fail
  obtain ⟨s13, hws⟩ : ∃ s, s = (((w.alloc (.cells #[.bool bx, .string tx] 44)).alloc (.cells #[.bool by', .string ty] 44)).alloc (.cells #[.bool false, .string ⟨#[]⟩] 44)) := ⟨_, rfl⟩
  have hBs : Below w.heap.size w s13 := by rw [hws]; exact ((((Below.refl w.heap.size w).alloc (by simp) _).alloc (by simp) _).alloc (by simp; omega) _)
  obtain ⟨A, hdA⟩ : ∃ b, b = w.heap.size := ⟨_, rfl⟩
  obtain ⟨B, hdB⟩ : ∃ b, b = w.heap.size + 1 := ⟨_, rfl⟩
  obtain ⟨C, hdC⟩ : ∃ b, b = w.heap.size + 1 + 1 := ⟨_, rfl⟩
  have hsz : s13.heap.size = w.heap.size + 1 + 1 + 1 := by rw [hws]; simp
  have dCA : C ≠ A := by omega
  have dCB : C ≠ B := by omega
  have kA0 : s13.cell? ⟨A, 0, none⟩ = some (.bool bx) := by rw [hws]; simp [go_sem, hdA, hdB, hdC]
  have kA1 : s13.cell? ⟨A, 1, none⟩ = some (.string tx) := by rw [hws]; simp [go_sem, hdA, hdB, hdC]
  have zA : A < s13.heap.size := by omega
  have lA : w.heap.size ≤ A := by have := Nat.le_refl w.heap.size; omega
  have kB0 : s13.cell? ⟨B, 0, none⟩ = some (.bool by') := by rw [hws]; simp [go_sem, hdA, hdB, hdC]
  have kB1 : s13.cell? ⟨B, 1, none⟩ = some (.string ty) := by rw [hws]; simp [go_sem, hdA, hdB, hdC]
  have zB : B < s13.heap.size := by omega
  have lB : w.heap.size ≤ B := by have := Nat.le_refl w.heap.size; omega
  have kC0 : s13.cell? ⟨C, 0, none⟩ = some (.bool false) := by rw [hws]; simp [go_sem, hdA, hdB, hdC]
  have fC0 : s13.frozen? ⟨C, 0, none⟩ = false := by rw [hws]; simp [go_sem, hdA, hdB, hdC]
  have kC1 : s13.cell? ⟨C, 1, none⟩ = some (.string ⟨#[]⟩) := by rw [hws]; simp [go_sem, hdA, hdB, hdC]
  have fC1 : s13.frozen? ⟨C, 1, none⟩ = false := by rw [hws]; simp [go_sem, hdA, hdB, hdC]
  have zC : C < s13.heap.size := by omega
  have lC : w.heap.size ≤ C := by have := Nat.le_refl w.heap.size; omega
  rw [← hws]
  try rw [← hdC]
  try rw [← hdB]
  try rw [← hdA]
  clear hws hsz hdA hdB hdC
  have hBo := hBs; clear hBs
  refine (HF'.out _).mono ?_; rintro e s14 ⟨rfl, hb⟩
  replace kA0 := belK hb kA0 zA; replace kA1 := belK hb kA1 zA; replace zA := Nat.lt_of_lt_of_le zA hb.size
  replace kB0 := belK hb kB0 zB; replace kB1 := belK hb kB1 zB; replace zB := Nat.lt_of_lt_of_le zB hb.size
  replace kC0 := belK hb kC0 zC; replace fC0 := belF hb fC0 zC; replace kC1 := belK hb kC1 zC; replace fC1 := belF hb fC1 zC; replace zC := Nat.lt_of_lt_of_le zC hb.size
  replace hBo := hBo.trans (hb.mono hBo.size)
  clear hb
  all_goals go_wp2_with fail
  all_goals refine bodyPost_ret (v := .agg #[.bool bf, .string tf]) (by simp [results, Tryz.results45, go_sem, kC0, kC1, zC]) rfl ⟨rfl, ?_⟩
  all_goals exact ((((hBo.setCell lC _).setCell lC _).alloc (by first | exact hBo.size | (have := hBo.size; simp; omega) | (have := (HF.out _ (by assumption)).size; simp; omega)) _).alloc (by first | exact hBo.size | (have := hBo.size; simp; omega) | (have := (HF.out _ (by assumption)).size; simp; omega)) _)
set_option maxRecDepth 100000 in
set_option maxHeartbeats 4000000 in
theorem refFloor6_any (neg : Bool) (a d : ByteArray) (q : Rt) (c : Int) (w : World) (ha : a.size ≤ 140737488351232) (hd : d.size ≤ 140737488351232)
    (hq : mkR (flq (topI (wl neg a d)) (lowI (wl neg a d))) 1 = q) (hc : mkE (flq (topI (wl neg a d)) (lowI (wl neg a d))) 1 = c) :
    Calls Tryz.prog 11 #[.agg #[.bool neg, .string a, .string d]] w fun e w' => e = .returned (.tuple #[.agg #[.bool (rb q), .string (rn q), .string (rd q)], .int .i64 c]) ∧ Below w.heap.size w w' := by
  have HT := Lib.hid (fun w => refTop_g neg a d w ha hd)
  have HL := Lib.hid (fun w => refLow_g neg a d w ha hd)
  have hy0 := low_ne neg a d
  have sx := top_size neg a d
  have sy := low_size neg a d
  generalize topI (wl neg a d) = x at *
  generalize lowI (wl neg a d) = y at *
  have sf := Nat.le_trans (zt_mono (flq_abs x y)) sx
  generalize hf : flq x y = f at *
  have HF' := Lib.hid (fun w => refFl_any x y f w (by omega) (by omega) hy0 hf)
  have HO := Lib.hid refOne_any
  have HK := Lib.hid (fun w => refMake5_any (zb f) (zb 1) (zt f) (zt 1) q c w (by omega) (by decide) (by rw [sI_z, sI_z, hq]) (by rw [sI_z, sI_z, hc]))
  generalize zb x = bx at *
  generalize zt x = tx at *
  generalize zb y = by' at *
  generalize zt y = ty at *
  generalize zb f = bf at *
  generalize zt f = tf at *
  generalize zb 1 = b1 at *
  generalize zt 1 = t1 at *
  clear ha hd hq hc hy0 sx sy sf hf
  go_enter Tryz.func11, Tryz.ntmps11
  go_wp2_with fail
  obtain ⟨s15, hws⟩ : ∃ s, s = ((w.alloc (.cells #[.bool neg, .string a, .string d] 23)).alloc (.cells #[.bool false, .string ⟨#[]⟩, .string ⟨#[]⟩] 23)) := ⟨_, rfl⟩
  have hBs : Below w.heap.size w s15 := by rw [hws]; exact (((Below.refl w.heap.size w).alloc (by simp) _).alloc (by simp) _)
  obtain ⟨A, hdA⟩ : ∃ b, b = w.heap.size := ⟨_, rfl⟩
  obtain ⟨C, hdC⟩ : ∃ b, b = w.heap.size + 1 := ⟨_, rfl⟩
  have hsz : s15.heap.size = w.heap.size + 1 + 1 := by rw [hws]; simp
  have dCA : C ≠ A := by omega
  have kA0 : s15.cell? ⟨A, 0, none⟩ = some (.bool neg) := by rw [hws]; simp [go_sem, hdA, hdC]
  have kA1 : s15.cell? ⟨A, 1, none⟩ = some (.string a) := by rw [hws]; simp [go_sem, hdA, hdC]
  have kA2 : s15.cell? ⟨A, 2, none⟩ = some (.string d) := by rw [hws]; simp [go_sem, hdA, hdC]
  have zA : A < s15.heap.size := by omega
  have lA : w.heap.size ≤ A := by have := Nat.le_refl w.heap.size; omega
  have kC0 : s15.cell? ⟨C, 0, none⟩ = some (.bool false) := by rw [hws]; simp [go_sem, hdA, hdC]
  have fC0 : s15.frozen? ⟨C, 0, none⟩ = false := by rw [hws]; simp [go_sem, hdA, hdC]
  have kC1 : s15.cell? ⟨C, 1, none⟩ = some (.string ⟨#[]⟩) := by rw [hws]; simp [go_sem, hdA, hdC]
  have fC1 : s15.frozen? ⟨C, 1, none⟩ = false := by rw [hws]; simp [go_sem, hdA, hdC]
  have kC2 : s15.cell? ⟨C, 2, none⟩ = some (.string ⟨#[]⟩) := by rw [hws]; simp [go_sem, hdA, hdC]
  have fC2 : s15.frozen? ⟨C, 2, none⟩ = false := by rw [hws]; simp [go_sem, hdA, hdC]
  have zC : C < s15.heap.size := by omega
  have lC : w.heap.size ≤ C := by have := Nat.le_refl w.heap.size; omega
  rw [← hws]
  try rw [← hdC]
  try rw [← hdA]
  clear hws hsz hdA hdC
  have hBo := hBs; clear hBs
  have HF : Hid (∀ W, Below s15.heap.size s15 W → Below w.heap.size w W) := fun W hW => hBo.trans (hW.mono hBo.size)
  clear hBo
  first | (go_region_held3 (fun w' => w'.cell? ⟨A, 0, none⟩ = some (.bool neg) ∧ w'.cell? ⟨A, 1, none⟩ = some (.string a) ∧ w'.cell? ⟨A, 2, none⟩ = some (.string d))
    (go_keep) (first
    | (go_at_call 40; refine (HT.out _).mono ?_; rintro e x16 ⟨rfl, hbx⟩; have hTx : Below s15.heap.size s15 x16 := (by first | exact (Below.refl _ _).drew.trans hbx | exact Below.trans (by assumption) (hbx.mono (Below.size (by assumption))) | exact (Below.refl _ _).trans hbx); obtain ⟨hcx, hfx⟩ := bcell hTx)
    | (go_at_call 46; refine (HL.out _).mono ?_; rintro e x16 ⟨rfl, hbx⟩; have hTx : Below s15.heap.size s15 x16 := (by first | exact (Below.refl _ _).drew.trans hbx | exact Below.trans (by assumption) (hbx.mono (Below.size (by assumption))) | exact (Below.refl _ _).trans hbx); obtain ⟨hcx, hfx⟩ := bcell hTx)
    | (go_at_call 45; refine (HF'.out _).mono ?_; rintro e x16 ⟨rfl, hbx⟩; have hTx : Below s15.heap.size s15 x16 := (by first | exact (Below.refl _ _).drew.trans hbx | exact Below.trans (by assumption) (hbx.mono (Below.size (by assumption))) | exact (Below.refl _ _).trans hbx); obtain ⟨hcx, hfx⟩ := bcell hTx)
    | (go_at_call 47; refine (HO.out _).mono ?_; rintro e x16 ⟨rfl, hbx⟩; have hTx : Below s15.heap.size s15 x16 := (by first | exact (Below.refl _ _).drew.trans hbx | exact Below.trans (by assumption) (hbx.mono (Below.size (by assumption))) | exact (Below.refl _ _).trans hbx); obtain ⟨hcx, hfx⟩ := bcell hTx)
    | (go_at_call 44; refine (HK.out _).mono ?_; rintro e x16 ⟨rfl, hbx⟩; have hTx : Below s15.heap.size s15 x16 := (by first | exact (Below.refl _ _).drew.trans hbx | exact Below.trans (by assumption) (hbx.mono (Below.size (by assumption))) | exact (Below.refl _ _).trans hbx); obtain ⟨hcx, hfx⟩ := bcell hTx))) | fail
  all_goals go_wp2_with fail
  all_goals refine bodyPost_ret (v := .tuple #[.agg #[.bool (rb q), .string (rn q), .string (rd q)], .int .i64 c]) (by simp [results, Tryz.results11, go_sem, hcx, kC0, kC1, kC2, zC]) rfl ⟨rfl, ?_⟩
  all_goals exact ((((HF.out _ (by assumption)).setCell lC _).setCell lC _).setCell lC _)
/-- rounded up, by the opposite. -/
theorem ceil_ways (x y : Int) (h : Nt.blen x.natAbs ≤ 256) : mkE (flq (-x) y) 1 = 0 ∧ mkE (-flq (-x) y) 1 = 0 ∧ RtOk (mkR (flq (-x) y) 1) ∧ negR (mkR (flq (-x) y) 1) = mkR (-flq (-x) y) 1 := by
  have h1 := flq_blen (-x) y (by rw [Int.natAbs_neg]; exact h)
  generalize flq (-x) y = f at *
  have h2 : Nt.blen (-f).natAbs ≤ 256 := by rw [Int.natAbs_neg]; exact h1
  obtain ⟨e1, e2⟩ := mk_one h1
  obtain ⟨e3, e4⟩ := mk_one h2
  refine ⟨e2, e4, by rw [e1]; exact one_ok h1, ?_⟩
  rw [e1, e3]
  unfold negR
  have z1 := zb_iff f
  have z2 := zb_iff (-f)
  show (⟨!zb f && decide (f.natAbs ≠ 0), f.natAbs, 1⟩ : Rt) = ⟨zb (-f), (-f).natAbs, 1⟩
  rw [Int.natAbs_neg]
  have : (!zb f && decide (f.natAbs ≠ 0)) = zb (-f) := by
    rw [Bool.eq_iff_iff, z2]
    simp only [Bool.and_eq_true, Bool.not_eq_true', decide_eq_true_eq]
    constructor
    · rintro ⟨h3, h4⟩
      have : ¬ f < 0 := fun h => by rw [z1.2 h] at h3; cases h3
      omega
    · intro h3
      refine ⟨?_, by omega⟩
      cases hb : zb f with
      | false => rfl
      | true => have := z1.1 hb; omega
  rw [this]
theorem negR_ok {q : Rt} (h : RtOk q) : RtOk (negR q) := ⟨h.1, h.2.1, h.2.2.1, h.2.2.2.1, fun h0 => by
  have h0 : q.num = 0 := h0
  show (!q.neg && decide (q.num ≠ 0)) = false
  simp [h0]⟩
theorem top_neg {q : Rt} (h : RtOk q) : topI (negR q) = -topI q := by
  obtain ⟨_, _, _, _, h5⟩ := h
  unfold topI negR
  by_cases h0 : q.num = 0
  · rw [h0]; unfold sI; simp
  · show sI (!q.neg && decide (q.num ≠ 0)) q.num = _
    rw [show (!q.neg && decide (q.num ≠ 0)) = !q.neg from by simp [h0], sI_not]
set_option maxRecDepth 100000 in
set_option maxHeartbeats 4000000 in
theorem refCeil6_any (neg : Bool) (a d : ByteArray) (q : Rt) (w : World) (ha : a.size ≤ 140737488351232) (hd : d.size ≤ 140737488351232)
    (hq : mkR (-flq (-topI (wl neg a d)) (lowI (wl neg a d))) 1 = q) :
    Calls Tryz.prog 13 #[.agg #[.bool neg, .string a, .string d]] w fun e w' => e = .returned (.tuple #[.agg #[.bool (rb q), .string (rn q), .string (rd q)], .int .i64 0]) ∧ Below w.heap.size w w' := by
  obtain ⟨e1, _, hok, e4⟩ := ceil_ways (topI (wl neg a d)) (lowI (wl neg a d)) (top_blen neg a d)
  have hn := negR_ok (wl_ok neg a d)
  have HN1 := Lib.hid (fun w => refNeg5_any neg a d _ w ha hd rfl)
  have hfl := fun w => refFloor6_any (rb (negR (wl neg a d))) (rn (negR (wl neg a d))) (rd (negR (wl neg a d))) _ _ w (by have := rn_size hn; omega) (by have := rd_size hn; omega) rfl rfl
  rw [wl_of_ok hn, top_neg (wl_ok neg a d), show lowI (negR (wl neg a d)) = lowI (wl neg a d) from rfl, e1] at hfl
  rw [hq] at e4
  generalize mkR (flq (-topI (wl neg a d)) (lowI (wl neg a d))) 1 = p at *
  have HN2 := Lib.hid (fun w => refNeg5_any (rb p) (rn p) (rd p) q w (by have := rn_size hok; omega) (by have := rd_size hok; omega) (by rw [wl_of_ok hok]; exact e4))
  have HFL := Lib.hid hfl
  generalize rb (negR (wl neg a d)) = nb at *
  generalize rn (negR (wl neg a d)) = nn at *
  generalize rd (negR (wl neg a d)) = nd at *
  generalize rb p = pb at *
  generalize rn p = pn at *
  generalize rd p = pd at *
  generalize rb q = qb at *
  generalize rn q = qn at *
  generalize rd q = qd at *
  clear e1 hok e4 hn hfl ha hd hq
  go_enter Tryz.func13, Tryz.ntmps13
  go_wp2_with fail
  obtain ⟨s17, hws⟩ : ∃ s, s = ((w.alloc (.cells #[.bool neg, .string a, .string d] 23)).alloc (.cells #[.bool false, .string ⟨#[]⟩, .string ⟨#[]⟩] 23)) := ⟨_, rfl⟩
  have hBs : Below w.heap.size w s17 := by rw [hws]; exact (((Below.refl w.heap.size w).alloc (by simp) _).alloc (by simp) _)
  obtain ⟨A, hdA⟩ : ∃ b, b = w.heap.size := ⟨_, rfl⟩
  obtain ⟨C, hdC⟩ : ∃ b, b = w.heap.size + 1 := ⟨_, rfl⟩
  have hsz : s17.heap.size = w.heap.size + 1 + 1 := by rw [hws]; simp
  have dCA : C ≠ A := by omega
  have kA0 : s17.cell? ⟨A, 0, none⟩ = some (.bool neg) := by rw [hws]; simp [go_sem, hdA, hdC]
  have kA1 : s17.cell? ⟨A, 1, none⟩ = some (.string a) := by rw [hws]; simp [go_sem, hdA, hdC]
  have kA2 : s17.cell? ⟨A, 2, none⟩ = some (.string d) := by rw [hws]; simp [go_sem, hdA, hdC]
  have zA : A < s17.heap.size := by omega
  have lA : w.heap.size ≤ A := by have := Nat.le_refl w.heap.size; omega
  have kC0 : s17.cell? ⟨C, 0, none⟩ = some (.bool false) := by rw [hws]; simp [go_sem, hdA, hdC]
  have fC0 : s17.frozen? ⟨C, 0, none⟩ = false := by rw [hws]; simp [go_sem, hdA, hdC]
  have kC1 : s17.cell? ⟨C, 1, none⟩ = some (.string ⟨#[]⟩) := by rw [hws]; simp [go_sem, hdA, hdC]
  have fC1 : s17.frozen? ⟨C, 1, none⟩ = false := by rw [hws]; simp [go_sem, hdA, hdC]
  have kC2 : s17.cell? ⟨C, 2, none⟩ = some (.string ⟨#[]⟩) := by rw [hws]; simp [go_sem, hdA, hdC]
  have fC2 : s17.frozen? ⟨C, 2, none⟩ = false := by rw [hws]; simp [go_sem, hdA, hdC]
  have zC : C < s17.heap.size := by omega
  have lC : w.heap.size ≤ C := by have := Nat.le_refl w.heap.size; omega
  rw [← hws]
  try rw [← hdC]
  try rw [← hdA]
  clear hws hsz hdA hdC
  have hBo := hBs; clear hBs
  refine (HN1.out _).mono ?_; rintro e s18 ⟨rfl, hb⟩
  replace kA0 := belK hb kA0 zA; replace kA1 := belK hb kA1 zA; replace kA2 := belK hb kA2 zA; replace zA := Nat.lt_of_lt_of_le zA hb.size
  replace kC0 := belK hb kC0 zC; replace fC0 := belF hb fC0 zC; replace kC1 := belK hb kC1 zC; replace fC1 := belF hb fC1 zC; replace kC2 := belK hb kC2 zC; replace fC2 := belF hb fC2 zC; replace zC := Nat.lt_of_lt_of_le zC hb.size
  replace hBo := hBo.trans (hb.mono hBo.size)
  clear hb
  go_wp2_with fail
  refine (HFL.out _).mono ?_; rintro e s19 ⟨rfl, hb⟩
  replace kA0 := belK hb kA0 zA; replace kA1 := belK hb kA1 zA; replace kA2 := belK hb kA2 zA; replace zA := Nat.lt_of_lt_of_le zA hb.size
  replace kC0 := belK hb kC0 zC; replace fC0 := belF hb fC0 zC; replace kC1 := belK hb kC1 zC; replace fC1 := belF hb fC1 zC; replace kC2 := belK hb kC2 zC; replace fC2 := belF hb fC2 zC; replace zC := Nat.lt_of_lt_of_le zC hb.size
  replace hBo := hBo.trans (hb.mono hBo.size)
  clear hb
  go_wp2_with fail
  obtain ⟨s20, hws⟩ : ∃ s, s = (s19.alloc (.cells #[.bool pb, .string pn, .string pd] 23)) := ⟨_, rfl⟩
  have hBs : Below w.heap.size w s20 := by rw [hws]; exact ((hBo).alloc (by exact hBo.size) _)
  obtain ⟨X, hdX⟩ : ∃ b, b = s19.heap.size := ⟨_, rfl⟩
  have hsz : s20.heap.size = s19.heap.size + 1 := by rw [hws]; simp
  have dCX : C ≠ X := by omega
  have hQC : ∀ p v, s19.cell? p = some v → s20.cell? p = some v := fun p v h => by rw [hws]; exact (alK h)
  have hQZ : ∀ b, b < s19.heap.size → b < s20.heap.size := fun b h => by omega
  have hQF : ∀ b j, b < s19.heap.size → s19.frozen? ⟨b, j, none⟩ = false → s20.frozen? ⟨b, j, none⟩ = false := fun b j z h => by rw [hws]; exact (alF z h)
  replace kA0 := hQC _ _ kA0; replace kA1 := hQC _ _ kA1; replace kA2 := hQC _ _ kA2; replace zA := hQZ _ zA
  replace kC0 := hQC _ _ kC0; replace fC0 := hQF _ _ zC fC0; replace kC1 := hQC _ _ kC1; replace fC1 := hQF _ _ zC fC1; replace kC2 := hQC _ _ kC2; replace fC2 := hQF _ _ zC fC2; replace zC := hQZ _ zC
  clear hQC hQZ hQF
  have kX0 : s20.cell? ⟨X, 0, none⟩ = some (.bool pb) := by rw [hws]; simp [go_sem, hdX]
  have kX1 : s20.cell? ⟨X, 1, none⟩ = some (.string pn) := by rw [hws]; simp [go_sem, hdX]
  have kX2 : s20.cell? ⟨X, 2, none⟩ = some (.string pd) := by rw [hws]; simp [go_sem, hdX]
  have zX : X < s20.heap.size := by omega
  have lX : w.heap.size ≤ X := by have := hBo.size; omega
  rw [← hws]
  try rw [← hdX]
  clear hBo
  clear hws hsz hdX
  have hBo := hBs; clear hBs
  refine (HN2.out _).mono ?_; rintro e s21 ⟨rfl, hb⟩
  replace kA0 := belK hb kA0 zA; replace kA1 := belK hb kA1 zA; replace kA2 := belK hb kA2 zA; replace zA := Nat.lt_of_lt_of_le zA hb.size
  replace kC0 := belK hb kC0 zC; replace fC0 := belF hb fC0 zC; replace kC1 := belK hb kC1 zC; replace fC1 := belF hb fC1 zC; replace kC2 := belK hb kC2 zC; replace fC2 := belF hb fC2 zC; replace zC := Nat.lt_of_lt_of_le zC hb.size
  replace kX0 := belK hb kX0 zX; replace kX1 := belK hb kX1 zX; replace kX2 := belK hb kX2 zX; replace zX := Nat.lt_of_lt_of_le zX hb.size
  replace hBo := hBo.trans (hb.mono hBo.size)
  clear hb
  all_goals go_wp2_with fail
  all_goals refine bodyPost_ret (v := .tuple #[.agg #[.bool qb, .string qn, .string qd], .int .i64 0]) (by simp [results, Tryz.results13, go_sem, kC0, kC1, kC2, zC]) rfl ⟨rfl, ?_⟩
  all_goals exact (((hBo.setCell lC _).setCell lC _).setCell lC _)
/-- cut off: down, of what is below 0 up. -/
def truncR (q : Rt) : Rt := if topI q < 0 then mkR (-flq (-topI q) (lowI q)) 1 else mkR (flq (topI q) (lowI q)) 1
set_option maxRecDepth 100000 in
set_option maxHeartbeats 4000000 in
theorem refTrunc6_any (neg : Bool) (a d : ByteArray) (q : Rt) (w : World) (ha : a.size ≤ 140737488351232) (hd : d.size ≤ 140737488351232) (hq : truncR (wl neg a d) = q) :
    Calls Tryz.prog 17 #[.agg #[.bool neg, .string a, .string d]] w fun e w' => e = .returned (.agg #[.bool (rb q), .string (rn q), .string (rd q)]) ∧ Below w.heap.size w w' := by
  have hf := fun w => refFloor6_any neg a d _ _ w ha hd rfl rfl
  have hcl := fun w => refCeil6_any neg a d _ w ha hd rfl
  have hs := fun w => refSign5_any neg a d _ w ha hd rfl
  unfold truncR at hq
  generalize mkE (flq (topI (wl neg a d)) (lowI (wl neg a d))) 1 = c at *
  by_cases h : topI (wl neg a d) < 0
  · rw [if_pos h] at hq
    rw [hq] at hcl
    rw [show cmpI' (topI (wl neg a d)) 0 = -1 from by unfold cmpI'; rw [if_pos h]] at hs
    generalize mkR (flq (topI (wl neg a d)) (lowI (wl neg a d))) 1 = p at *
    have HFL := Lib.hid hf
    have HC := Lib.hid hcl
    have HS := Lib.hid hs
    generalize rb p = pb at *
    generalize rn p = pn at *
    generalize rd p = pd at *
    generalize rb q = qb at *
    generalize rn q = qn at *
    generalize rd q = qd at *
    clear hf hcl hs ha hd hq h
    go_enter Tryz.func17, Tryz.ntmps17
    go_wp2_with fail
    obtain ⟨s22, hws⟩ : ∃ s, s = ((w.alloc (.cells #[.bool neg, .string a, .string d] 23)).alloc (.cells #[.bool false, .string ⟨#[]⟩, .string ⟨#[]⟩] 23)) := ⟨_, rfl⟩
    have hBs : Below w.heap.size w s22 := by rw [hws]; exact (((Below.refl w.heap.size w).alloc (by simp) _).alloc (by simp) _)
    obtain ⟨A, hdA⟩ : ∃ b, b = w.heap.size := ⟨_, rfl⟩
    obtain ⟨C, hdC⟩ : ∃ b, b = w.heap.size + 1 := ⟨_, rfl⟩
    have hsz : s22.heap.size = w.heap.size + 1 + 1 := by rw [hws]; simp
    have dCA : C ≠ A := by omega
    have kA0 : s22.cell? ⟨A, 0, none⟩ = some (.bool neg) := by rw [hws]; simp [go_sem, hdA, hdC]
    have kA1 : s22.cell? ⟨A, 1, none⟩ = some (.string a) := by rw [hws]; simp [go_sem, hdA, hdC]
    have kA2 : s22.cell? ⟨A, 2, none⟩ = some (.string d) := by rw [hws]; simp [go_sem, hdA, hdC]
    have zA : A < s22.heap.size := by omega
    have lA : w.heap.size ≤ A := by have := Nat.le_refl w.heap.size; omega
    have kC0 : s22.cell? ⟨C, 0, none⟩ = some (.bool false) := by rw [hws]; simp [go_sem, hdA, hdC]
    have fC0 : s22.frozen? ⟨C, 0, none⟩ = false := by rw [hws]; simp [go_sem, hdA, hdC]
    have kC1 : s22.cell? ⟨C, 1, none⟩ = some (.string ⟨#[]⟩) := by rw [hws]; simp [go_sem, hdA, hdC]
    have fC1 : s22.frozen? ⟨C, 1, none⟩ = false := by rw [hws]; simp [go_sem, hdA, hdC]
    have kC2 : s22.cell? ⟨C, 2, none⟩ = some (.string ⟨#[]⟩) := by rw [hws]; simp [go_sem, hdA, hdC]
    have fC2 : s22.frozen? ⟨C, 2, none⟩ = false := by rw [hws]; simp [go_sem, hdA, hdC]
    have zC : C < s22.heap.size := by omega
    have lC : w.heap.size ≤ C := by have := Nat.le_refl w.heap.size; omega
    rw [← hws]
    try rw [← hdC]
    try rw [← hdA]
    clear hws hsz hdA hdC
    have hBo := hBs; clear hBs
    refine (HFL.out _).mono ?_; rintro e s23 ⟨rfl, hb⟩
    replace kA0 := belK hb kA0 zA; replace kA1 := belK hb kA1 zA; replace kA2 := belK hb kA2 zA; replace zA := Nat.lt_of_lt_of_le zA hb.size
    replace kC0 := belK hb kC0 zC; replace fC0 := belF hb fC0 zC; replace kC1 := belK hb kC1 zC; replace fC1 := belF hb fC1 zC; replace kC2 := belK hb kC2 zC; replace fC2 := belF hb fC2 zC; replace zC := Nat.lt_of_lt_of_le zC hb.size
    replace hBo := hBo.trans (hb.mono hBo.size)
    clear hb
    go_wp2_with fail
    obtain ⟨s24, hws⟩ : ∃ s, s = (s23.alloc (.cells #[.bool pb, .string pn, .string pd] 23)) := ⟨_, rfl⟩
    have hBs : Below w.heap.size w s24 := by rw [hws]; exact ((hBo).alloc (by exact hBo.size) _)
    obtain ⟨X, hdX⟩ : ∃ b, b = s23.heap.size := ⟨_, rfl⟩
    have hsz : s24.heap.size = s23.heap.size + 1 := by rw [hws]; simp
    have dCX : C ≠ X := by omega
    have dXA : X ≠ A := by omega
    have dXC : X ≠ C := by omega
    have hQC : ∀ p v, s23.cell? p = some v → s24.cell? p = some v := fun p v h => by rw [hws]; exact (alK h)
    have hQZ : ∀ b, b < s23.heap.size → b < s24.heap.size := fun b h => by omega
    have hQF : ∀ b j, b < s23.heap.size → s23.frozen? ⟨b, j, none⟩ = false → s24.frozen? ⟨b, j, none⟩ = false := fun b j z h => by rw [hws]; exact (alF z h)
    replace kA0 := hQC _ _ kA0; replace kA1 := hQC _ _ kA1; replace kA2 := hQC _ _ kA2; replace zA := hQZ _ zA
    replace kC0 := hQC _ _ kC0; replace fC0 := hQF _ _ zC fC0; replace kC1 := hQC _ _ kC1; replace fC1 := hQF _ _ zC fC1; replace kC2 := hQC _ _ kC2; replace fC2 := hQF _ _ zC fC2; replace zC := hQZ _ zC
    clear hQC hQZ hQF
    have kX0 : s24.cell? ⟨X, 0, none⟩ = some (.bool pb) := by rw [hws]; simp [go_sem, hdX]
    have fX0 : s24.frozen? ⟨X, 0, none⟩ = false := by rw [hws]; simp [go_sem, hdX]
    have kX1 : s24.cell? ⟨X, 1, none⟩ = some (.string pn) := by rw [hws]; simp [go_sem, hdX]
    have fX1 : s24.frozen? ⟨X, 1, none⟩ = false := by rw [hws]; simp [go_sem, hdX]
    have kX2 : s24.cell? ⟨X, 2, none⟩ = some (.string pd) := by rw [hws]; simp [go_sem, hdX]
    have fX2 : s24.frozen? ⟨X, 2, none⟩ = false := by rw [hws]; simp [go_sem, hdX]
    have zX : X < s24.heap.size := by omega
    have lX : w.heap.size ≤ X := by have := hBo.size; omega
    rw [← hws]
    try rw [← hdX]
    clear hBo
    clear hws hsz hdX
    have hBo := hBs; clear hBs
    refine (HS.out _).mono ?_; rintro e s25 ⟨rfl, hb⟩
    replace kA0 := belK hb kA0 zA; replace kA1 := belK hb kA1 zA; replace kA2 := belK hb kA2 zA; replace zA := Nat.lt_of_lt_of_le zA hb.size
    replace kC0 := belK hb kC0 zC; replace fC0 := belF hb fC0 zC; replace kC1 := belK hb kC1 zC; replace fC1 := belF hb fC1 zC; replace kC2 := belK hb kC2 zC; replace fC2 := belF hb fC2 zC; replace zC := Nat.lt_of_lt_of_le zC hb.size
    replace kX0 := belK hb kX0 zX; replace fX0 := belF hb fX0 zX; replace kX1 := belK hb kX1 zX; replace fX1 := belF hb fX1 zX; replace kX2 := belK hb kX2 zX; replace fX2 := belF hb fX2 zX; replace zX := Nat.lt_of_lt_of_le zX hb.size
    replace hBo := hBo.trans (hb.mono hBo.size)
    clear hb
    go_wp2_with fail
    refine (HC.out _).mono ?_; rintro e s26 ⟨rfl, hb⟩
    replace kA0 := belK hb kA0 zA; replace kA1 := belK hb kA1 zA; replace kA2 := belK hb kA2 zA; replace zA := Nat.lt_of_lt_of_le zA hb.size
    replace kC0 := belK hb kC0 zC; replace fC0 := belF hb fC0 zC; replace kC1 := belK hb kC1 zC; replace fC1 := belF hb fC1 zC; replace kC2 := belK hb kC2 zC; replace fC2 := belF hb fC2 zC; replace zC := Nat.lt_of_lt_of_le zC hb.size
    replace kX0 := belK hb kX0 zX; replace fX0 := belF hb fX0 zX; replace kX1 := belK hb kX1 zX; replace fX1 := belF hb fX1 zX; replace kX2 := belK hb kX2 zX; replace fX2 := belF hb fX2 zX; replace zX := Nat.lt_of_lt_of_le zX hb.size
    replace hBo := hBo.trans (hb.mono hBo.size)
    clear hb
    go_wp2_with fail
    refine bodyPost_ret (v := .agg #[.bool qb, .string qn, .string qd]) (by simp [results, Tryz.results17, go_sem, kX0, kX1, kX2, kC0, kC1, kC2, zX, zC, dCX, dXC]) rfl ⟨rfl, ?_⟩
    exact (((((hBo.setCell lX _).setCell lX _).setCell lX _).setCell lC _).setCell lC _).setCell lC _
  · rw [if_neg h] at hq
    rw [hq] at hf
    have h1 : ¬ cmpI' (topI (wl neg a d)) 0 < 0 := by unfold cmpI'; rw [if_neg h]; split <;> omega
    generalize cmpI' (topI (wl neg a d)) 0 = s at *
    have HFL := Lib.hid hf
    have HS := Lib.hid hs
    generalize rb q = qb at *
    generalize rn q = qn at *
    generalize rd q = qd at *
    clear hf hcl hs ha hd hq h
    go_enter Tryz.func17, Tryz.ntmps17
    go_wp2_with fail
    obtain ⟨s27, hws⟩ : ∃ s, s = ((w.alloc (.cells #[.bool neg, .string a, .string d] 23)).alloc (.cells #[.bool false, .string ⟨#[]⟩, .string ⟨#[]⟩] 23)) := ⟨_, rfl⟩
    have hBs : Below w.heap.size w s27 := by rw [hws]; exact (((Below.refl w.heap.size w).alloc (by simp) _).alloc (by simp) _)
    obtain ⟨A, hdA⟩ : ∃ b, b = w.heap.size := ⟨_, rfl⟩
    obtain ⟨C, hdC⟩ : ∃ b, b = w.heap.size + 1 := ⟨_, rfl⟩
    have hsz : s27.heap.size = w.heap.size + 1 + 1 := by rw [hws]; simp
    have dCA : C ≠ A := by omega
    have kA0 : s27.cell? ⟨A, 0, none⟩ = some (.bool neg) := by rw [hws]; simp [go_sem, hdA, hdC]
    have kA1 : s27.cell? ⟨A, 1, none⟩ = some (.string a) := by rw [hws]; simp [go_sem, hdA, hdC]
    have kA2 : s27.cell? ⟨A, 2, none⟩ = some (.string d) := by rw [hws]; simp [go_sem, hdA, hdC]
    have zA : A < s27.heap.size := by omega
    have lA : w.heap.size ≤ A := by have := Nat.le_refl w.heap.size; omega
    have kC0 : s27.cell? ⟨C, 0, none⟩ = some (.bool false) := by rw [hws]; simp [go_sem, hdA, hdC]
    have fC0 : s27.frozen? ⟨C, 0, none⟩ = false := by rw [hws]; simp [go_sem, hdA, hdC]
    have kC1 : s27.cell? ⟨C, 1, none⟩ = some (.string ⟨#[]⟩) := by rw [hws]; simp [go_sem, hdA, hdC]
    have fC1 : s27.frozen? ⟨C, 1, none⟩ = false := by rw [hws]; simp [go_sem, hdA, hdC]
    have kC2 : s27.cell? ⟨C, 2, none⟩ = some (.string ⟨#[]⟩) := by rw [hws]; simp [go_sem, hdA, hdC]
    have fC2 : s27.frozen? ⟨C, 2, none⟩ = false := by rw [hws]; simp [go_sem, hdA, hdC]
    have zC : C < s27.heap.size := by omega
    have lC : w.heap.size ≤ C := by have := Nat.le_refl w.heap.size; omega
    rw [← hws]
    try rw [← hdC]
    try rw [← hdA]
    clear hws hsz hdA hdC
    have hBo := hBs; clear hBs
    refine (HFL.out _).mono ?_; rintro e s28 ⟨rfl, hb⟩
    replace kA0 := belK hb kA0 zA; replace kA1 := belK hb kA1 zA; replace kA2 := belK hb kA2 zA; replace zA := Nat.lt_of_lt_of_le zA hb.size
    replace kC0 := belK hb kC0 zC; replace fC0 := belF hb fC0 zC; replace kC1 := belK hb kC1 zC; replace fC1 := belF hb fC1 zC; replace kC2 := belK hb kC2 zC; replace fC2 := belF hb fC2 zC; replace zC := Nat.lt_of_lt_of_le zC hb.size
    replace hBo := hBo.trans (hb.mono hBo.size)
    clear hb
    go_wp2_with fail
    obtain ⟨s29, hws⟩ : ∃ s, s = (s28.alloc (.cells #[.bool qb, .string qn, .string qd] 23)) := ⟨_, rfl⟩
    have hBs : Below w.heap.size w s29 := by rw [hws]; exact ((hBo).alloc (by exact hBo.size) _)
    obtain ⟨X, hdX⟩ : ∃ b, b = s28.heap.size := ⟨_, rfl⟩
    have hsz : s29.heap.size = s28.heap.size + 1 := by rw [hws]; simp
    have dCX : C ≠ X := by omega
    have dXA : X ≠ A := by omega
    have dXC : X ≠ C := by omega
    have hQC : ∀ p v, s28.cell? p = some v → s29.cell? p = some v := fun p v h => by rw [hws]; exact (alK h)
    have hQZ : ∀ b, b < s28.heap.size → b < s29.heap.size := fun b h => by omega
    have hQF : ∀ b j, b < s28.heap.size → s28.frozen? ⟨b, j, none⟩ = false → s29.frozen? ⟨b, j, none⟩ = false := fun b j z h => by rw [hws]; exact (alF z h)
    replace kA0 := hQC _ _ kA0; replace kA1 := hQC _ _ kA1; replace kA2 := hQC _ _ kA2; replace zA := hQZ _ zA
    replace kC0 := hQC _ _ kC0; replace fC0 := hQF _ _ zC fC0; replace kC1 := hQC _ _ kC1; replace fC1 := hQF _ _ zC fC1; replace kC2 := hQC _ _ kC2; replace fC2 := hQF _ _ zC fC2; replace zC := hQZ _ zC
    clear hQC hQZ hQF
    have kX0 : s29.cell? ⟨X, 0, none⟩ = some (.bool qb) := by rw [hws]; simp [go_sem, hdX]
    have fX0 : s29.frozen? ⟨X, 0, none⟩ = false := by rw [hws]; simp [go_sem, hdX]
    have kX1 : s29.cell? ⟨X, 1, none⟩ = some (.string qn) := by rw [hws]; simp [go_sem, hdX]
    have fX1 : s29.frozen? ⟨X, 1, none⟩ = false := by rw [hws]; simp [go_sem, hdX]
    have kX2 : s29.cell? ⟨X, 2, none⟩ = some (.string qd) := by rw [hws]; simp [go_sem, hdX]
    have fX2 : s29.frozen? ⟨X, 2, none⟩ = false := by rw [hws]; simp [go_sem, hdX]
    have zX : X < s29.heap.size := by omega
    have lX : w.heap.size ≤ X := by have := hBo.size; omega
    rw [← hws]
    try rw [← hdX]
    clear hBo
    clear hws hsz hdX
    have hBo := hBs; clear hBs
    refine (HS.out _).mono ?_; rintro e s30 ⟨rfl, hb⟩
    replace kA0 := belK hb kA0 zA; replace kA1 := belK hb kA1 zA; replace kA2 := belK hb kA2 zA; replace zA := Nat.lt_of_lt_of_le zA hb.size
    replace kC0 := belK hb kC0 zC; replace fC0 := belF hb fC0 zC; replace kC1 := belK hb kC1 zC; replace fC1 := belF hb fC1 zC; replace kC2 := belK hb kC2 zC; replace fC2 := belF hb fC2 zC; replace zC := Nat.lt_of_lt_of_le zC hb.size
    replace kX0 := belK hb kX0 zX; replace fX0 := belF hb fX0 zX; replace kX1 := belK hb kX1 zX; replace fX1 := belF hb fX1 zX; replace kX2 := belK hb kX2 zX; replace fX2 := belF hb fX2 zX; replace zX := Nat.lt_of_lt_of_le zX hb.size
    replace hBo := hBo.trans (hb.mono hBo.size)
    clear hb
    all_goals go_wp2_with fail
    all_goals refine bodyPost_ret (v := .agg #[.bool qb, .string qn, .string qd]) (by simp [results, Tryz.results17, go_sem, kC0, kC1, kC2, zC]) rfl ⟨rfl, ?_⟩
    all_goals exact (((hBo.setCell lC _).setCell lC _).setCell lC _)
theorem refFloor_zz (x y q r : Int) (w : World) (hx : (zt x).size ≤ 300) (hy : (zt y).size ≤ 300) (h0 : y ≠ 0) (hq : flq x y = q) (hr : flr x y = r) :
    Calls Tryz.prog 67 #[.agg #[.bool (zb x), .string (zt x)], .agg #[.bool (zb y), .string (zt y)]] w fun e w' => e = .returned (.tuple #[.agg #[.bool (zb q), .string (zt q)], .agg #[.bool (zb r), .string (zt r)], .int .i64 0]) ∧ Below w.heap.size w w' :=
  refFloor_any (zb x) (zb y) (zt x) (zt y) q r w hx hy (V_ne h0) (by rw [sI_z, sI_z, hq]) (by rw [sI_z, sI_z, hr])
theorem topI_abs (q : Rt) : ((topI q).natAbs : Int) = (q.num : Int) := by unfold topI; rw [sI_abs]
theorem topI_neg {q : Rt} (h : RtOk q) : topI q < 0 ↔ q.neg = true := by
  rw [← zb_iff, zb_top h]; rfl
end Go.Proofs.YtbgmnpabclfjaaaGreatDoor
