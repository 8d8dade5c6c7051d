/-
  NUMBERS: the document's Zero, Well, numerators and denominators; the program's Of, parts.
-/
import Derived.Test.YtbgmnpabclfjaaaGreatDoorRat6
import Derived.KernelRfl
namespace Go.Proofs.YtbgmnpabclfjaaaGreatDoor
open Go.RowKit Go.Shelf
set_option linter.unusedSimpArgs false
set_option linter.unusedVariables false

def topI (q : Rt) : Int := sI q.neg q.num
def lowI (q : Rt) : Int := (q.den : Int)
theorem zt_top (q : Rt) : zt (topI q) = rn q := by unfold zt topI rn; rw [sI_abs]
theorem zt_low (q : Rt) : zt (lowI q) = rd q := by unfold zt lowI rd; rw [Int.natAbs_natCast]
theorem zb_low (q : Rt) : zb (lowI q) = false := by unfold lowI; exact zb_cast _
theorem zb_top {q : Rt} (h : RtOk q) : zb (topI q) = rb q := by
  obtain ⟨_, _, _, _, h5⟩ := h
  unfold topI rb
  rw [← sgn_sI]
  unfold sgn
  cases hn : q.neg with
  | false => rfl
  | true =>
    have : q.num ≠ 0 := fun h => by rw [h5 h] at hn; cases hn
    simp [this]
theorem rn_size {q : Rt} (h : RtOk q) : (rn q).size ≤ 32 := blen_size h.2.2.1
theorem rd_size {q : Rt} (h : RtOk q) : (rd q).size ≤ 32 := blen_size h.2.2.2.1

theorem fR0 (b : Bool) (x y : ByteArray) (w : World) : (Instr.field 23 (.agg #[.bool b, .string x, .string y]) 0).run Tryz.prog w = .ok (.bool b) w := by kernel_rfl
theorem fR1 (b : Bool) (x y : ByteArray) (w : World) : (Instr.field 23 (.agg #[.bool b, .string x, .string y]) 1).run Tryz.prog w = .ok (.string x) w := by kernel_rfl
theorem fR2 (b : Bool) (x y : ByteArray) (w : World) : (Instr.field 23 (.agg #[.bool b, .string x, .string y]) 2).run Tryz.prog w = .ok (.string y) w := by kernel_rfl
theorem fW1 (b : Bool) (x : ByteArray) (w : World) : (Instr.field 44 (.agg #[.bool b, .string x]) 1).run Tryz.prog w = .ok (.string x) w := by kernel_rfl

set_option maxRecDepth 100000 in
theorem refZero_any (w : World) : Calls Tryz.prog 86 #[] w fun e w' => e = .returned (.agg #[.bool false, .string ⟨#[]⟩, .string ⟨#[1]⟩]) ∧ Below w.heap.size w w' := by
  go_enter Tryz.func86, Tryz.ntmps86
  go_wp2
  refine bodyPost_ret (v := .agg #[.bool false, .string ⟨#[]⟩, .string ⟨#[1]⟩]) (by simp [results, Tryz.results86, go_sem]) rfl ⟨rfl, ?_⟩
  exact (Below.refl _ _).alloc (Nat.le_refl _) _
set_option maxRecDepth 100000 in
set_option maxHeartbeats 4000000 in
theorem refWell5_any (neg : Bool) (a d : ByteArray) (q : Rt) (w : World) (ha : a.size ≤ 140737488351232) (hd : d.size ≤ 140737488351232) (hq : wl neg a d = q) :
    Calls Tryz.prog 50 #[.agg #[.bool neg, .string a, .string d]] w fun e w' => e = .returned (.agg #[.bool (rb q), .string (rn q), .string (rd q)]) ∧ Below w.heap.size w w' := by
  have hr := fun w => refRight_any neg a d w ha hd
  rw [← hq]
  cases hb : rightB neg a d with
  | true =>
    obtain ⟨e1, e2, e3⟩ := wl_right hb
    rw [e1, e2, e3]
    rw [hb] at hr
    have HR := Lib.hid hr
    clear hr hb e1 e2 e3 ha hd hq
    go_enter Tryz.func50, Tryz.ntmps50
    go_wp2_with fail
    obtain ⟨s1, hws⟩ : ∃ s, s = ((w.alloc (.cells #[.bool neg, .string a, .string d] 23)).alloc (.cells #[.bool false, .string ⟨#[]⟩, .string ⟨#[]⟩] 23)) := ⟨_, rfl⟩
    have hBs : Below w.heap.size w s1 := by rw [hws]; exact (((Below.refl w.heap.size w).alloc (by simp) _).alloc (by simp) _)
    obtain ⟨A, hdA⟩ : ∃ b, b = w.heap.size := ⟨_, rfl⟩
    obtain ⟨C, hdC⟩ : ∃ b, b = w.heap.size + 1 := ⟨_, rfl⟩
    have hsz : s1.heap.size = w.heap.size + 1 + 1 := by rw [hws]; simp
    have dCA : C ≠ A := by omega
    have kA0 : s1.cell? ⟨A, 0, none⟩ = some (.bool neg) := by rw [hws]; simp [go_sem, hdA, hdC]
    have kA1 : s1.cell? ⟨A, 1, none⟩ = some (.string a) := by rw [hws]; simp [go_sem, hdA, hdC]
    have kA2 : s1.cell? ⟨A, 2, none⟩ = some (.string d) := by rw [hws]; simp [go_sem, hdA, hdC]
    have zA : A < s1.heap.size := by omega
    have lA : w.heap.size ≤ A := by have := Nat.le_refl w.heap.size; omega
    have kC0 : s1.cell? ⟨C, 0, none⟩ = some (.bool false) := by rw [hws]; simp [go_sem, hdA, hdC]
    have fC0 : s1.frozen? ⟨C, 0, none⟩ = false := by rw [hws]; simp [go_sem, hdA, hdC]
    have kC1 : s1.cell? ⟨C, 1, none⟩ = some (.string ⟨#[]⟩) := by rw [hws]; simp [go_sem, hdA, hdC]
    have fC1 : s1.frozen? ⟨C, 1, none⟩ = false := by rw [hws]; simp [go_sem, hdA, hdC]
    have kC2 : s1.cell? ⟨C, 2, none⟩ = some (.string ⟨#[]⟩) := by rw [hws]; simp [go_sem, hdA, hdC]
    have fC2 : s1.frozen? ⟨C, 2, none⟩ = false := by rw [hws]; simp [go_sem, hdA, hdC]
    have zC : C < s1.heap.size := by omega
    have lC : w.heap.size ≤ C := by have := Nat.le_refl w.heap.size; omega
    rw [← hws]
    try rw [← hdC]
    try rw [← hdA]
    clear hws hsz hdA hdC
    have hBo := hBs; clear hBs
    refine (HR.out _).mono ?_; rintro e s2 ⟨rfl, hb⟩
    replace kA0 := belK hb kA0 zA; replace kA1 := belK hb kA1 zA; replace kA2 := belK hb kA2 zA; replace zA := Nat.lt_of_lt_of_le zA hb.size
    replace kC0 := belK hb kC0 zC; replace fC0 := belF hb fC0 zC; replace kC1 := belK hb kC1 zC; replace fC1 := belF hb fC1 zC; replace kC2 := belK hb kC2 zC; replace fC2 := belF hb fC2 zC; replace zC := Nat.lt_of_lt_of_le zC hb.size
    replace hBo := hBo.trans (hb.mono hBo.size)
    clear hb
    all_goals go_wp2_with fail
    all_goals refine bodyPost_ret (v := .agg #[.bool neg, .string a, .string d]) (by simp [results, Tryz.results50, go_sem, kC0, kC1, kC2, zC]) rfl ⟨rfl, ?_⟩
    all_goals exact (((hBo.setCell lC _).setCell lC _).setCell lC _)
  | false =>
    obtain ⟨e1, e2, e3⟩ := wl_wrong hb
    rw [e1, e2, e3]
    rw [hb] at hr
    have HR := Lib.hid hr
    have HZ := Lib.hid refZero_any
    clear hr hb e1 e2 e3 ha hd hq
    go_enter Tryz.func50, Tryz.ntmps50
    go_wp2_with fail
    obtain ⟨s3, hws⟩ : ∃ s, s = ((w.alloc (.cells #[.bool neg, .string a, .string d] 23)).alloc (.cells #[.bool false, .string ⟨#[]⟩, .string ⟨#[]⟩] 23)) := ⟨_, rfl⟩
    have hBs : Below w.heap.size w s3 := by rw [hws]; exact (((Below.refl w.heap.size w).alloc (by simp) _).alloc (by simp) _)
    obtain ⟨A, hdA⟩ : ∃ b, b = w.heap.size := ⟨_, rfl⟩
    obtain ⟨C, hdC⟩ : ∃ b, b = w.heap.size + 1 := ⟨_, rfl⟩
    have hsz : s3.heap.size = w.heap.size + 1 + 1 := by rw [hws]; simp
    have dCA : C ≠ A := by omega
    have kA0 : s3.cell? ⟨A, 0, none⟩ = some (.bool neg) := by rw [hws]; simp [go_sem, hdA, hdC]
    have kA1 : s3.cell? ⟨A, 1, none⟩ = some (.string a) := by rw [hws]; simp [go_sem, hdA, hdC]
    have kA2 : s3.cell? ⟨A, 2, none⟩ = some (.string d) := by rw [hws]; simp [go_sem, hdA, hdC]
    have zA : A < s3.heap.size := by omega
    have lA : w.heap.size ≤ A := by have := Nat.le_refl w.heap.size; omega
    have kC0 : s3.cell? ⟨C, 0, none⟩ = some (.bool false) := by rw [hws]; simp [go_sem, hdA, hdC]
    have fC0 : s3.frozen? ⟨C, 0, none⟩ = false := by rw [hws]; simp [go_sem, hdA, hdC]
    have kC1 : s3.cell? ⟨C, 1, none⟩ = some (.string ⟨#[]⟩) := by rw [hws]; simp [go_sem, hdA, hdC]
    have fC1 : s3.frozen? ⟨C, 1, none⟩ = false := by rw [hws]; simp [go_sem, hdA, hdC]
    have kC2 : s3.cell? ⟨C, 2, none⟩ = some (.string ⟨#[]⟩) := by rw [hws]; simp [go_sem, hdA, hdC]
    have fC2 : s3.frozen? ⟨C, 2, none⟩ = false := by rw [hws]; simp [go_sem, hdA, hdC]
    have zC : C < s3.heap.size := by omega
    have lC : w.heap.size ≤ C := by have := Nat.le_refl w.heap.size; omega
    rw [← hws]
    try rw [← hdC]
    try rw [← hdA]
    clear hws hsz hdA hdC
    have hBo := hBs; clear hBs
    refine (HR.out _).mono ?_; rintro e s4 ⟨rfl, hb⟩
    replace kA0 := belK hb kA0 zA; replace kA1 := belK hb kA1 zA; replace kA2 := belK hb kA2 zA; replace zA := Nat.lt_of_lt_of_le zA hb.size
    replace kC0 := belK hb kC0 zC; replace fC0 := belF hb fC0 zC; replace kC1 := belK hb kC1 zC; replace fC1 := belF hb fC1 zC; replace kC2 := belK hb kC2 zC; replace fC2 := belF hb fC2 zC; replace zC := Nat.lt_of_lt_of_le zC hb.size
    replace hBo := hBo.trans (hb.mono hBo.size)
    clear hb
    go_wp2_with fail
    refine (HZ.out _).mono ?_; rintro e s5 ⟨rfl, hb⟩
    replace kA0 := belK hb kA0 zA; replace kA1 := belK hb kA1 zA; replace kA2 := belK hb kA2 zA; replace zA := Nat.lt_of_lt_of_le zA hb.size
    replace kC0 := belK hb kC0 zC; replace fC0 := belF hb fC0 zC; replace kC1 := belK hb kC1 zC; replace fC1 := belF hb fC1 zC; replace kC2 := belK hb kC2 zC; replace fC2 := belF hb fC2 zC; replace zC := Nat.lt_of_lt_of_le zC hb.size
    replace hBo := hBo.trans (hb.mono hBo.size)
    clear hb
    all_goals go_wp2_with fail
    all_goals refine bodyPost_ret (v := .agg #[.bool false, .string ⟨#[]⟩, .string ⟨#[1]⟩]) (by simp [results, Tryz.results50, go_sem, kC0, kC1, kC2, zC]) rfl ⟨rfl, ?_⟩
    all_goals exact (((hBo.setCell lC _).setCell lC _).setCell lC _)
set_option maxRecDepth 100000 in
set_option maxHeartbeats 4000000 in
theorem refTop_any (neg : Bool) (a d : ByteArray) (x : Int) (w : World) (ha : a.size ≤ 140737488351232) (hd : d.size ≤ 140737488351232) (hx : topI (wl neg a d) = x) :
    Calls Tryz.prog 40 #[.agg #[.bool neg, .string a, .string d]] w fun e w' => e = .returned (.agg #[.bool (zb x), .string (zt x)]) ∧ Below w.heap.size w w' := by
  obtain ⟨q, hq⟩ : ∃ q, wl neg a d = q := ⟨_, rfl⟩
  have hok := wl_ok neg a d
  rw [hq] at hx hok
  have hw := fun w => refWell5_any neg a d q w ha hd hq
  have hm := fun w => refMake_z (rb q) (rn q) x w (by rw [← zb_top hok, ← zt_top, sI_z, hx])
  generalize rb q = b1 at *
  generalize rn q = t1 at *
  generalize rd q = t2 at *
  have HW := Lib.hid hw
  have HM := Lib.hid hm
  clear hw hm hok hq hx ha hd
  have F0 := fR0 b1 t1 t2
  have F1 := fR1 b1 t1 t2
  go_enter Tryz.func40, Tryz.ntmps40
  go_wp2_with fail
  obtain ⟨s6, hws⟩ : ∃ s, s = ((w.alloc (.cells #[.bool neg, .string a, .string d] 23)).alloc (.cells #[.bool false, .string ⟨#[]⟩] 44)) := ⟨_, rfl⟩
  have hBs : Below w.heap.size w s6 := by rw [hws]; exact (((Below.refl w.heap.size w).alloc (by simp) _).alloc (by simp) _)
  obtain ⟨A, hdA⟩ : ∃ b, b = w.heap.size := ⟨_, rfl⟩
  obtain ⟨C, hdC⟩ : ∃ b, b = w.heap.size + 1 := ⟨_, rfl⟩
  have hsz : s6.heap.size = w.heap.size + 1 + 1 := by rw [hws]; simp
  have dCA : C ≠ A := by omega
  have kA0 : s6.cell? ⟨A, 0, none⟩ = some (.bool neg) := by rw [hws]; simp [go_sem, hdA, hdC]
  have kA1 : s6.cell? ⟨A, 1, none⟩ = some (.string a) := by rw [hws]; simp [go_sem, hdA, hdC]
  have kA2 : s6.cell? ⟨A, 2, none⟩ = some (.string d) := by rw [hws]; simp [go_sem, hdA, hdC]
  have zA : A < s6.heap.size := by omega
  have lA : w.heap.size ≤ A := by have := Nat.le_refl w.heap.size; omega
  have kC0 : s6.cell? ⟨C, 0, none⟩ = some (.bool false) := by rw [hws]; simp [go_sem, hdA, hdC]
  have fC0 : s6.frozen? ⟨C, 0, none⟩ = false := by rw [hws]; simp [go_sem, hdA, hdC]
  have kC1 : s6.cell? ⟨C, 1, none⟩ = some (.string ⟨#[]⟩) := by rw [hws]; simp [go_sem, hdA, hdC]
  have fC1 : s6.frozen? ⟨C, 1, none⟩ = false := by rw [hws]; simp [go_sem, hdA, hdC]
  have zC : C < s6.heap.size := by omega
  have lC : w.heap.size ≤ C := by have := Nat.le_refl w.heap.size; omega
  rw [← hws]
  try rw [← hdC]
  try rw [← hdA]
  clear hws hsz hdA hdC
  have hBo := hBs; clear hBs
  have HF : Hid (∀ W, Below s6.heap.size s6 W → Below w.heap.size w W) := fun W hW => hBo.trans (hW.mono hBo.size)
  clear hBo
  first | (go_region_held3 (fun w' => w'.cell? ⟨A, 0, none⟩ = some (.bool neg) ∧ w'.cell? ⟨A, 1, none⟩ = some (.string a) ∧ w'.cell? ⟨A, 2, none⟩ = some (.string d))
    (go_keep) (first
    | (go_at_call 50; refine (HW.out _).mono ?_; rintro e x7 ⟨rfl, hbx⟩; have hTx : Below s6.heap.size s6 x7 := (by first | exact (Below.refl _ _).drew.trans hbx | exact Below.trans (by assumption) (hbx.mono (Below.size (by assumption))) | exact (Below.refl _ _).trans hbx); obtain ⟨hcx, hfx⟩ := bcell hTx)
    | (go_at_call 70; refine (HM.out _).mono ?_; rintro e x7 ⟨rfl, hbx⟩; have hTx : Below s6.heap.size s6 x7 := (by first | exact (Below.refl _ _).drew.trans hbx | exact Below.trans (by assumption) (hbx.mono (Below.size (by assumption))) | exact (Below.refl _ _).trans hbx); obtain ⟨hcx, hfx⟩ := bcell hTx))) | fail
  all_goals go_wp2_with fail
  all_goals refine bodyPost_ret (v := .agg #[.bool (zb x), .string (zt x)]) (by simp [results, Tryz.results40, go_sem, hcx, kC0, kC1, zC]) rfl ⟨rfl, ?_⟩
  all_goals exact (((HF.out _ (by assumption)).setCell lC _).setCell lC _)
set_option maxRecDepth 100000 in
set_option maxHeartbeats 4000000 in
theorem refLow_any (neg : Bool) (a d : ByteArray) (x : Int) (w : World) (ha : a.size ≤ 140737488351232) (hd : d.size ≤ 140737488351232) (hx : lowI (wl neg a d) = x) :
    Calls Tryz.prog 46 #[.agg #[.bool neg, .string a, .string d]] w fun e w' => e = .returned (.agg #[.bool (zb x), .string (zt x)]) ∧ Below w.heap.size w w' := by
  obtain ⟨q, hq⟩ : ∃ q, wl neg a d = q := ⟨_, rfl⟩
  rw [hq] at hx
  have hw := fun w => refWell5_any neg a d q w ha hd hq
  have hm := fun w => refMake_z false (rd q) x w (by rw [← zb_low q, ← zt_low, sI_z, hx])
  generalize rb q = b1 at *
  generalize rn q = t1 at *
  generalize rd q = t2 at *
  have HW := Lib.hid hw
  have HM := Lib.hid hm
  clear hw hm hq hx ha hd
  have F2 := fR2 b1 t1 t2
  go_enter Tryz.func46, Tryz.ntmps46
  go_wp2_with fail
  obtain ⟨s8, hws⟩ : ∃ s, s = ((w.alloc (.cells #[.bool neg, .string a, .string d] 23)).alloc (.cells #[.bool false, .string ⟨#[]⟩] 44)) := ⟨_, rfl⟩
  have hBs : Below w.heap.size w s8 := by rw [hws]; exact (((Below.refl w.heap.size w).alloc (by simp) _).alloc (by simp) _)
  obtain ⟨A, hdA⟩ : ∃ b, b = w.heap.size := ⟨_, rfl⟩
  obtain ⟨C, hdC⟩ : ∃ b, b = w.heap.size + 1 := ⟨_, rfl⟩
  have hsz : s8.heap.size = w.heap.size + 1 + 1 := by rw [hws]; simp
  have dCA : C ≠ A := by omega
  have kA0 : s8.cell? ⟨A, 0, none⟩ = some (.bool neg) := by rw [hws]; simp [go_sem, hdA, hdC]
  have kA1 : s8.cell? ⟨A, 1, none⟩ = some (.string a) := by rw [hws]; simp [go_sem, hdA, hdC]
  have kA2 : s8.cell? ⟨A, 2, none⟩ = some (.string d) := by rw [hws]; simp [go_sem, hdA, hdC]
  have zA : A < s8.heap.size := by omega
  have lA : w.heap.size ≤ A := by have := Nat.le_refl w.heap.size; omega
  have kC0 : s8.cell? ⟨C, 0, none⟩ = some (.bool false) := by rw [hws]; simp [go_sem, hdA, hdC]
  have fC0 : s8.frozen? ⟨C, 0, none⟩ = false := by rw [hws]; simp [go_sem, hdA, hdC]
  have kC1 : s8.cell? ⟨C, 1, none⟩ = some (.string ⟨#[]⟩) := by rw [hws]; simp [go_sem, hdA, hdC]
  have fC1 : s8.frozen? ⟨C, 1, none⟩ = false := by rw [hws]; simp [go_sem, hdA, hdC]
  have zC : C < s8.heap.size := by omega
  have lC : w.heap.size ≤ C := by have := Nat.le_refl w.heap.size; omega
  rw [← hws]
  try rw [← hdC]
  try rw [← hdA]
  clear hws hsz hdA hdC
  have hBo := hBs; clear hBs
  refine (HW.out _).mono ?_; rintro e s9 ⟨rfl, hb⟩
  replace kA0 := belK hb kA0 zA; replace kA1 := belK hb kA1 zA; replace kA2 := belK hb kA2 zA; replace zA := Nat.lt_of_lt_of_le zA hb.size
  replace kC0 := belK hb kC0 zC; replace fC0 := belF hb fC0 zC; replace kC1 := belK hb kC1 zC; replace fC1 := belF hb fC1 zC; replace zC := Nat.lt_of_lt_of_le zC hb.size
  replace hBo := hBo.trans (hb.mono hBo.size)
  clear hb
  go_wp2_with fail
  refine (HM.out _).mono ?_; rintro e s10 ⟨rfl, hb⟩
  replace kA0 := belK hb kA0 zA; replace kA1 := belK hb kA1 zA; replace kA2 := belK hb kA2 zA; replace zA := Nat.lt_of_lt_of_le zA hb.size
  replace kC0 := belK hb kC0 zC; replace fC0 := belF hb fC0 zC; replace kC1 := belK hb kC1 zC; replace fC1 := belF hb fC1 zC; replace zC := Nat.lt_of_lt_of_le zC hb.size
  replace hBo := hBo.trans (hb.mono hBo.size)
  clear hb
  all_goals go_wp2_with fail
  all_goals refine bodyPost_ret (v := .agg #[.bool (zb x), .string (zt x)]) (by simp [results, Tryz.results46, go_sem, kC0, kC1, zC]) rfl ⟨rfl, ?_⟩
  all_goals exact ((hBo.setCell lC _).setCell lC _)
set_option maxRecDepth 100000 in
set_option maxHeartbeats 4000000 in
theorem ratOf_any (n : Int) (w : World) (h1 : -9223372036854775808 ≤ n) (h2 : n ≤ 9223372036854775807) :
    Calls Tryz.prog 73 #[.int .i64 n] w fun e w' => e = .returned (.agg #[.bool (zb n), .string (zt n), .string ⟨#[1]⟩]) ∧ Below w.heap.size w w' := by
  have hw := fun w => wholeOf_z n w h1 h2
  generalize zb n = b at *
  generalize zt n = t at *
  have HW := Lib.hid hw
  clear hw h1 h2
  go_enter Tryz.func73, Tryz.ntmps73
  go_wp2_with fail
  obtain ⟨s11, hws⟩ : ∃ s, s = (w.alloc (.cells #[.bool false, .string ⟨#[]⟩, .string ⟨#[]⟩] 23)) := ⟨_, rfl⟩
  have hBs : Below w.heap.size w s11 := by rw [hws]; exact ((Below.refl w.heap.size w).alloc (by simp) _)
  obtain ⟨C, hdC⟩ : ∃ b, b = w.heap.size := ⟨_, rfl⟩
  have hsz : s11.heap.size = w.heap.size + 1 := by rw [hws]; simp
  have kC0 : s11.cell? ⟨C, 0, none⟩ = some (.bool false) := by rw [hws]; simp [go_sem, hdC]
  have fC0 : s11.frozen? ⟨C, 0, none⟩ = false := by rw [hws]; simp [go_sem, hdC]
  have kC1 : s11.cell? ⟨C, 1, none⟩ = some (.string ⟨#[]⟩) := by rw [hws]; simp [go_sem, hdC]
  have fC1 : s11.frozen? ⟨C, 1, none⟩ = false := by rw [hws]; simp [go_sem, hdC]
  have kC2 : s11.cell? ⟨C, 2, none⟩ = some (.string ⟨#[]⟩) := by rw [hws]; simp [go_sem, hdC]
  have fC2 : s11.frozen? ⟨C, 2, none⟩ = false := by rw [hws]; simp [go_sem, hdC]
  have zC : C < s11.heap.size := by omega
  have lC : w.heap.size ≤ C := by have := Nat.le_refl w.heap.size; omega
  rw [← hws]
  try rw [← hdC]
  clear hws hsz hdC
  have hBo := hBs; clear hBs
  refine (HW.out _).mono ?_; rintro e s12 ⟨rfl, hb⟩
  replace kC0 := belK hb kC0 zC; replace fC0 := belF hb fC0 zC; replace kC1 := belK hb kC1 zC; replace fC1 := belF hb fC1 zC; replace kC2 := belK hb kC2 zC; replace fC2 := belF hb fC2 zC; replace zC := Nat.lt_of_lt_of_le zC hb.size
  replace hBo := hBo.trans (hb.mono hBo.size)
  clear hb
  go_wp2_with fail
  refine bodyPost_ret (v := .agg #[.bool b, .string t, .string ⟨#[1]⟩]) (by simp [results, Tryz.results73, go_sem, kC0, kC1, kC2, zC]) rfl ⟨rfl, ?_⟩
  exact (((hBo.setCell lC _).setCell lC _).setCell lC _).alloc (by simp; exact hBo.size) _
set_option maxRecDepth 100000 in
set_option maxHeartbeats 8000000 in
theorem parts_any (neg : Bool) (a d : ByteArray) (x y : Int) (w : World) (ha : a.size ≤ 140737488351232) (hd : d.size ≤ 140737488351232) (hx : topI (wl neg a d) = x) (hy : lowI (wl neg a d) = y) :
    Calls Tryz.prog 37 #[.agg #[.bool neg, .string a, .string d]] w fun e w' => e = .returned (.tuple #[.agg #[.bool (zb x), .string (zt x)], .agg #[.bool (zb y), .string (zt y)]]) ∧ Below w.heap.size w w' := by
  have hr := fun w => ratRight_any neg a d w ha hd
  have HM : Hid (∀ (b : Bool) (t : ByteArray) (w : World), Calls Tryz.prog 64 #[.bool b, .string t] w fun e w' => e = .returned (.agg #[.bool (zb (sI b (Nt.V t))), .string (zt (sI b (Nt.V t)))]) ∧ Below w.heap.size w w') := fun b t w => wholeMake_z b t _ w rfl
  have hok := wl_ok neg a d
  cases hb : rightB neg a d with
  | true =>
    obtain ⟨e1, e2, e3⟩ := wl_right hb
    have E1 : Hid (sI neg (Nt.V a) = x) := by rw [Hid, ← hx, ← sI_z (topI (wl neg a d)), zb_top hok, zt_top, e1, e2]
    have E2 : Hid (sI false (Nt.V d) = y) := by rw [Hid, ← hy, ← sI_z (lowI (wl neg a d)), zb_low, zt_low, e3]
    rw [hb] at hr
    have HR := Lib.hid hr
    clear hr hb e1 e2 e3 ha hd hx hy hok
    go_enter Tryz.func37, Tryz.ntmps37
    go_wp2_with fail
    obtain ⟨s13, hws⟩ : ∃ s, s = (((w.alloc (.cells #[.bool neg, .string a, .string d] 23)).alloc (.cells #[.bool false, .string ⟨#[]⟩] 44)).alloc (.cells #[.bool false, .string ⟨#[]⟩] 44)) := ⟨_, rfl⟩
    have hBs : Below w.heap.size w s13 := by rw [hws]; exact ((((Below.refl w.heap.size w).alloc (by simp) _).alloc (by simp) _).alloc (by simp; omega) _)
    obtain ⟨A, hdA⟩ : ∃ b, b = w.heap.size := ⟨_, rfl⟩
    obtain ⟨C, hdC⟩ : ∃ b, b = w.heap.size + 1 := ⟨_, rfl⟩
    obtain ⟨D, hdD⟩ : ∃ b, b = w.heap.size + 1 + 1 := ⟨_, rfl⟩
    have hsz : s13.heap.size = w.heap.size + 1 + 1 + 1 := by rw [hws]; simp
    have dAC : A ≠ C := by omega
    have dAD : A ≠ D := by omega
    have dCA : C ≠ A := by omega
    have dCD : C ≠ D := by omega
    have dDA : D ≠ A := by omega
    have dDC : D ≠ C := by omega
    have kA0 : s13.cell? ⟨A, 0, none⟩ = some (.bool neg) := by rw [hws]; simp [go_sem, hdA, hdC, hdD]
    have fA0 : s13.frozen? ⟨A, 0, none⟩ = false := by rw [hws]; simp [go_sem, hdA, hdC, hdD]
    have kA1 : s13.cell? ⟨A, 1, none⟩ = some (.string a) := by rw [hws]; simp [go_sem, hdA, hdC, hdD]
    have fA1 : s13.frozen? ⟨A, 1, none⟩ = false := by rw [hws]; simp [go_sem, hdA, hdC, hdD]
    have kA2 : s13.cell? ⟨A, 2, none⟩ = some (.string d) := by rw [hws]; simp [go_sem, hdA, hdC, hdD]
    have fA2 : s13.frozen? ⟨A, 2, none⟩ = false := by rw [hws]; simp [go_sem, hdA, hdC, hdD]
    have zA : A < s13.heap.size := by omega
    have lA : w.heap.size ≤ A := by have := Nat.le_refl w.heap.size; omega
    have kC0 : s13.cell? ⟨C, 0, none⟩ = some (.bool false) := by rw [hws]; simp [go_sem, hdA, hdC, hdD]
    have fC0 : s13.frozen? ⟨C, 0, none⟩ = false := by rw [hws]; simp [go_sem, hdA, hdC, hdD]
    have kC1 : s13.cell? ⟨C, 1, none⟩ = some (.string ⟨#[]⟩) := by rw [hws]; simp [go_sem, hdA, hdC, hdD]
    have fC1 : s13.frozen? ⟨C, 1, none⟩ = false := by rw [hws]; simp [go_sem, hdA, hdC, hdD]
    have zC : C < s13.heap.size := by omega
    have lC : w.heap.size ≤ C := by have := Nat.le_refl w.heap.size; omega
    have kD0 : s13.cell? ⟨D, 0, none⟩ = some (.bool false) := by rw [hws]; simp [go_sem, hdA, hdC, hdD]
    have fD0 : s13.frozen? ⟨D, 0, none⟩ = false := by rw [hws]; simp [go_sem, hdA, hdC, hdD]
    have kD1 : s13.cell? ⟨D, 1, none⟩ = some (.string ⟨#[]⟩) := by rw [hws]; simp [go_sem, hdA, hdC, hdD]
    have fD1 : s13.frozen? ⟨D, 1, none⟩ = false := by rw [hws]; simp [go_sem, hdA, hdC, hdD]
    have zD : D < s13.heap.size := by omega
    have lD : w.heap.size ≤ D := by have := Nat.le_refl w.heap.size; omega
    rw [← hws]
    try rw [← hdD]
    try rw [← hdC]
    try rw [← hdA]
    clear hws hsz hdA hdC hdD
    have hBo := hBs; clear hBs
    refine (HR.out _).mono ?_; rintro e s14 ⟨rfl, hb⟩
    replace kA0 := belK hb kA0 zA; replace fA0 := belF hb fA0 zA; replace kA1 := belK hb kA1 zA; replace fA1 := belF hb fA1 zA; replace kA2 := belK hb kA2 zA; replace fA2 := belF hb fA2 zA; replace zA := Nat.lt_of_lt_of_le zA hb.size
    replace kC0 := belK hb kC0 zC; replace fC0 := belF hb fC0 zC; replace kC1 := belK hb kC1 zC; replace fC1 := belF hb fC1 zC; replace zC := Nat.lt_of_lt_of_le zC hb.size
    replace kD0 := belK hb kD0 zD; replace fD0 := belF hb fD0 zD; replace kD1 := belK hb kD1 zD; replace fD1 := belF hb fD1 zD; replace zD := Nat.lt_of_lt_of_le zD hb.size
    replace hBo := hBo.trans (hb.mono hBo.size)
    clear hb
    go_wp2_with fail
    have HF : Hid (∀ W, Below s14.heap.size s14 W → Below w.heap.size w W) := fun W hW => hBo.trans (hW.mono hBo.size)
    clear hBo
    first | (go_region_held3 (fun w' => w'.cell? ⟨A, 0, none⟩ = some (.bool neg) ∧ w'.cell? ⟨A, 1, none⟩ = some (.string a) ∧ w'.cell? ⟨A, 2, none⟩ = some (.string d))
      (go_keep) (first
      | (go_at_call 64; refine (HM.out _ _ _).mono ?_; rintro e x15 ⟨he, hbx⟩; (first | rw [E1.out] at he | rw [E2.out] at he); subst he; have hTx : Below s14.heap.size s14 x15 := (by first | exact (Below.refl _ _).drew.trans hbx | exact Below.trans (by assumption) (hbx.mono (Below.size (by assumption))) | exact (Below.refl _ _).trans hbx); obtain ⟨hcx, hfx⟩ := bcell hTx))) | fail
    all_goals go_wp2_with fail
    all_goals refine bodyPost_ret (v := .tuple #[.agg #[.bool (zb x), .string (zt x)], .agg #[.bool (zb y), .string (zt y)]]) (by simp [results, Tryz.results37, go_sem, hcx, kC0, kC1, kD0, kD1, zC, zD]) rfl ⟨rfl, ?_⟩
    all_goals exact (((((HF.out _ (by assumption)).setCell lC _).setCell lC _).setCell lD _).setCell lD _)
  | false =>
    have hwz : wl neg a d = ⟨false, 0, 1⟩ := by unfold wl; rw [if_neg (by rw [hb]; decide)]
    have E1 : Hid (sI false (Nt.V ⟨#[]⟩) = x) := by rw [Hid, ← hx, hwz]; decide
    have E2 : Hid (sI false (Nt.V ⟨#[1]⟩) = y) := by rw [Hid, ← hy, hwz]; decide
    rw [hb] at hr
    have HR := Lib.hid hr
    have ho := fun w => ratOf_any 0 w (by omega) (by omega)
    rw [show zb 0 = false from by decide, show zt 0 = ⟨#[]⟩ from by decide] at ho
    have HO := Lib.hid ho
    clear hr hb ha hd hx hy hok ho hwz
    go_enter Tryz.func37, Tryz.ntmps37
    go_wp2_with fail
    obtain ⟨s16, hws⟩ : ∃ s, s = (((w.alloc (.cells #[.bool neg, .string a, .string d] 23)).alloc (.cells #[.bool false, .string ⟨#[]⟩] 44)).alloc (.cells #[.bool false, .string ⟨#[]⟩] 44)) := ⟨_, rfl⟩
    have hBs : Below w.heap.size w s16 := by rw [hws]; exact ((((Below.refl w.heap.size w).alloc (by simp) _).alloc (by simp) _).alloc (by simp; omega) _)
    obtain ⟨A, hdA⟩ : ∃ b, b = w.heap.size := ⟨_, rfl⟩
    obtain ⟨C, hdC⟩ : ∃ b, b = w.heap.size + 1 := ⟨_, rfl⟩
    obtain ⟨D, hdD⟩ : ∃ b, b = w.heap.size + 1 + 1 := ⟨_, rfl⟩
    have hsz : s16.heap.size = w.heap.size + 1 + 1 + 1 := by rw [hws]; simp
    have dAC : A ≠ C := by omega
    have dAD : A ≠ D := by omega
    have dCA : C ≠ A := by omega
    have dCD : C ≠ D := by omega
    have dDA : D ≠ A := by omega
    have dDC : D ≠ C := by omega
    have kA0 : s16.cell? ⟨A, 0, none⟩ = some (.bool neg) := by rw [hws]; simp [go_sem, hdA, hdC, hdD]
    have fA0 : s16.frozen? ⟨A, 0, none⟩ = false := by rw [hws]; simp [go_sem, hdA, hdC, hdD]
    have kA1 : s16.cell? ⟨A, 1, none⟩ = some (.string a) := by rw [hws]; simp [go_sem, hdA, hdC, hdD]
    have fA1 : s16.frozen? ⟨A, 1, none⟩ = false := by rw [hws]; simp [go_sem, hdA, hdC, hdD]
    have kA2 : s16.cell? ⟨A, 2, none⟩ = some (.string d) := by rw [hws]; simp [go_sem, hdA, hdC, hdD]
    have fA2 : s16.frozen? ⟨A, 2, none⟩ = false := by rw [hws]; simp [go_sem, hdA, hdC, hdD]
    have zA : A < s16.heap.size := by omega
    have lA : w.heap.size ≤ A := by have := Nat.le_refl w.heap.size; omega
    have kC0 : s16.cell? ⟨C, 0, none⟩ = some (.bool false) := by rw [hws]; simp [go_sem, hdA, hdC, hdD]
    have fC0 : s16.frozen? ⟨C, 0, none⟩ = false := by rw [hws]; simp [go_sem, hdA, hdC, hdD]
    have kC1 : s16.cell? ⟨C, 1, none⟩ = some (.string ⟨#[]⟩) := by rw [hws]; simp [go_sem, hdA, hdC, hdD]
    have fC1 : s16.frozen? ⟨C, 1, none⟩ = false := by rw [hws]; simp [go_sem, hdA, hdC, hdD]
    have zC : C < s16.heap.size := by omega
    have lC : w.heap.size ≤ C := by have := Nat.le_refl w.heap.size; omega
    have kD0 : s16.cell? ⟨D, 0, none⟩ = some (.bool false) := by rw [hws]; simp [go_sem, hdA, hdC, hdD]
    have fD0 : s16.frozen? ⟨D, 0, none⟩ = false := by rw [hws]; simp [go_sem, hdA, hdC, hdD]
    have kD1 : s16.cell? ⟨D, 1, none⟩ = some (.string ⟨#[]⟩) := by rw [hws]; simp [go_sem, hdA, hdC, hdD]
    have fD1 : s16.frozen? ⟨D, 1, none⟩ = false := by rw [hws]; simp [go_sem, hdA, hdC, hdD]
    have zD : D < s16.heap.size := by omega
    have lD : w.heap.size ≤ D := by have := Nat.le_refl w.heap.size; omega
    rw [← hws]
    try rw [← hdD]
    try rw [← hdC]
    try rw [← hdA]
    clear hws hsz hdA hdC hdD
    have hBo := hBs; clear hBs
    refine (HR.out _).mono ?_; rintro e s17 ⟨rfl, hb⟩
    replace kA0 := belK hb kA0 zA; replace fA0 := belF hb fA0 zA; replace kA1 := belK hb kA1 zA; replace fA1 := belF hb fA1 zA; replace kA2 := belK hb kA2 zA; replace fA2 := belF hb fA2 zA; replace zA := Nat.lt_of_lt_of_le zA hb.size
    replace kC0 := belK hb kC0 zC; replace fC0 := belF hb fC0 zC; replace kC1 := belK hb kC1 zC; replace fC1 := belF hb fC1 zC; replace zC := Nat.lt_of_lt_of_le zC hb.size
    replace kD0 := belK hb kD0 zD; replace fD0 := belF hb fD0 zD; replace kD1 := belK hb kD1 zD; replace fD1 := belF hb fD1 zD; replace zD := Nat.lt_of_lt_of_le zD hb.size
    replace hBo := hBo.trans (hb.mono hBo.size)
    clear hb
    go_wp2_with fail
    refine (HO.out _).mono ?_; rintro e s18 ⟨rfl, hb⟩
    replace kA0 := belK hb kA0 zA; replace fA0 := belF hb fA0 zA; replace kA1 := belK hb kA1 zA; replace fA1 := belF hb fA1 zA; replace kA2 := belK hb kA2 zA; replace fA2 := belF hb fA2 zA; replace zA := Nat.lt_of_lt_of_le zA hb.size
    replace kC0 := belK hb kC0 zC; replace fC0 := belF hb fC0 zC; replace kC1 := belK hb kC1 zC; replace fC1 := belF hb fC1 zC; replace zC := Nat.lt_of_lt_of_le zC hb.size
    replace kD0 := belK hb kD0 zD; replace fD0 := belF hb fD0 zD; replace kD1 := belK hb kD1 zD; replace fD1 := belF hb fD1 zD; replace zD := Nat.lt_of_lt_of_le zD hb.size
    replace hBo := hBo.trans (hb.mono hBo.size)
    clear hb
    go_wp2_with fail
    obtain ⟨s19, hws⟩ : ∃ s, s = (((s18.setCell ⟨A, 0, none⟩ (.bool false)).setCell ⟨A, 1, none⟩ (.string ⟨#[]⟩)).setCell ⟨A, 2, none⟩ (.string ⟨#[1]⟩)) := ⟨_, rfl⟩
    have hBs : Below w.heap.size w s19 := by rw [hws]; exact ((((hBo).setCell lA _).setCell lA _).setCell lA _)
    have hsz : s19.heap.size = s18.heap.size := by rw [hws]; simp
    have hQC : ∀ b j v, s18.cell? ⟨b, j, none⟩ = some v → A ≠ b → s19.cell? ⟨b, j, none⟩ = some v := fun b j v h dA => by rw [hws]; exact (stK (stK (stK h dA) dA) dA)
    replace kC0 := hQC _ _ _ kC0 dAC; replace kC1 := hQC _ _ _ kC1 dAC
    replace kD0 := hQC _ _ _ kD0 dAD; replace kD1 := hQC _ _ _ kD1 dAD
    clear hQC
    have kA0_ : s19.cell? ⟨A, 0, none⟩ = some (.bool false) := by rw [hws]; simp [go_sem, kA0, kA1, kA2, fA0, fA1, fA2]
    have kA1_ : s19.cell? ⟨A, 1, none⟩ = some (.string ⟨#[]⟩) := by rw [hws]; simp [go_sem, kA0, kA1, kA2, fA0, fA1, fA2]
    have kA2_ : s19.cell? ⟨A, 2, none⟩ = some (.string ⟨#[1]⟩) := by rw [hws]; simp [go_sem, kA0, kA1, kA2, fA0, fA1, fA2]
    replace kA0 := kA0_; clear kA0_; replace kA1 := kA1_; clear kA1_; replace kA2 := kA2_; clear kA2_
    have hQF : ∀ p, s19.frozen? p = s18.frozen? p := fun p => by rw [hws]; simp [go_sem]
    replace fA0 := (hQF _).trans fA0; replace fA1 := (hQF _).trans fA1; replace fA2 := (hQF _).trans fA2
    replace fC0 := (hQF _).trans fC0; replace fC1 := (hQF _).trans fC1
    replace fD0 := (hQF _).trans fD0; replace fD1 := (hQF _).trans fD1
    clear hQF
    replace zA : A < s19.heap.size := by omega
    replace zC : C < s19.heap.size := by omega
    replace zD : D < s19.heap.size := by omega
    rw [← hws]
    clear hBo hws hsz
    have hBo := hBs; clear hBs
    have HF : Hid (∀ W, Below s19.heap.size s19 W → Below w.heap.size w W) := fun W hW => hBo.trans (hW.mono hBo.size)
    clear hBo
    first | (go_region_held3 (fun w' => w'.cell? ⟨A, 0, none⟩ = some (.bool false) ∧ w'.cell? ⟨A, 1, none⟩ = some (.string ⟨#[]⟩) ∧ w'.cell? ⟨A, 2, none⟩ = some (.string ⟨#[1]⟩))
      (go_keep) (first
      | (go_at_call 64; refine (HM.out _ _ _).mono ?_; rintro e x20 ⟨he, hbx⟩; (first | rw [E1.out] at he | rw [E2.out] at he); subst he; have hTx : Below s19.heap.size s19 x20 := (by first | exact (Below.refl _ _).drew.trans hbx | exact Below.trans (by assumption) (hbx.mono (Below.size (by assumption))) | exact (Below.refl _ _).trans hbx); obtain ⟨hcx, hfx⟩ := bcell hTx))) | fail
    all_goals go_wp2_with fail
    all_goals refine bodyPost_ret (v := .tuple #[.agg #[.bool (zb x), .string (zt x)], .agg #[.bool (zb y), .string (zt y)]]) (by simp [results, Tryz.results37, go_sem, hcx, kC0, kC1, kD0, kD1, zC, zD]) rfl ⟨rfl, ?_⟩
    all_goals exact (((((HF.out _ (by assumption)).setCell lC _).setCell lC _).setCell lD _).setCell lD _)
end Go.Proofs.YtbgmnpabclfjaaaGreatDoor
