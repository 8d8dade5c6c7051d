/-
  LAYER 11, REFERENCES: the fixed calls' text read, and told.
-/
import Derived.Test.YtlpjaflolnggnaaGreatDoorCel23
import Derived.BigQuiet
namespace Go.Proofs.YtlpjaflolnggnaaGreatDoor
open Go.RowKit Go.Shelf
set_option linter.unusedSimpArgs false
set_option linter.unusedVariables false

theorem below_drewn {a w : World} {B : Nat} (h : Below B a w) (n : Nat) : Below B a (w.drewN n) := ⟨h.os, h.tape, h.output, h.size, h.block⟩
set_option maxRecDepth 100000 in
set_option maxHeartbeats 1000000 in
theorem cutOne_lite (s sep u v : ByteArray) (k : Nat) (w : World) (hi : ∀ w, Calls Tryz.prog 74 #[.string s, .string sep] w fun e w' => e = .returned (.int .i64 (k : Int)) ∧ w' = w) (h1 : sep.size = 1) (hk : k + 1 ≤ s.size) (hs : s.size ≤ 1000)
    (e1 : s.extract 0 k = u) (e2 : s.extract (k + 1) s.size = v) :
    Calls Tryz.prog 46 #[.string s, .string sep] w fun e w' => e = .returned (.tuple #[.string u, .string v, .bool true]) ∧ Below w.heap.size w w' := by
  have HI := Lib.hid hi
  have q1 : IntKind.i64.wrap ((k : Int) + 1) = (k : Int) + 1 := IntWalk.i64_in _ (by omega)
  have q2 : ((k : Int) + 1).toNat = k + 1 := by omega
  have q3 : (k : Int) ≤ (s.size : Int) := by omega
  have q4 : (k : Int) + 1 ≤ (s.size : Int) := by omega
  have q5 : (0 : Int) ≤ (k : Int) := by omega
  have q6 : (0 : Int) ≤ (k : Int) + 1 := by omega
  clear hi
  go_enter Tryz.func46, Tryz.ntmps46
  go_wp2_with (go_at_call 74; refine (HI.out _).mono ?_; rintro e w1 ⟨rfl, rfl⟩)
  go_quiet (fail)
  go_wp2
  go_ret3
  exact ⟨rfl, below_drewn (Below.refl _ _) _⟩
set_option maxRecDepth 100000 in
set_option maxHeartbeats 1000000 in
theorem cutOne_any (s sep u v : ByteArray) (k : Nat) (w : World) (hi : ∀ w, Calls Tryz.prog 74 #[.string s, .string sep] w fun e w' => e = .returned (.int .i64 (k : Int)) ∧ w' = w) (h1 : sep.size = 1) (hk : k + 1 ≤ s.size) (hs : s.size ≤ 1000)
    (e1 : s.extract 0 k = u) (e2 : s.extract (k + 1) s.size = v) :
    Calls Tryz.prog 31 #[.string s, .string sep] w fun e w' => e = .returned (.tuple #[.string u, .string v, .bool true]) ∧ Below w.heap.size w w' := by
  have HI := Lib.hid (fun w => cutOne_lite s sep u v k w hi h1 hk hs e1 e2)
  clear hi h1 hk hs e1 e2
  go_enter Tryz.func31, Tryz.ntmps31
  go_wp2_with (go_at_call 46; refine (HI.out _).mono ?_; rintro e w1 ⟨rfl, hB⟩)
  go_ret3
  exact ⟨rfl, hB⟩
set_option maxRecDepth 100000 in
set_option maxHeartbeats 4000000 in
theorem parse_walk (s u v x y y2 r2 z : ByteArray) (w : World)
    (h1 : ∀ w, Calls Tryz.prog 31 #[.string s, .string ⟨#[33]⟩] w fun e w' => e = .returned (.tuple #[.string u, .string v, .bool true]) ∧ Below w.heap.size w w')
    (h2 : ∀ w, Calls Tryz.prog 18 #[.string u] w fun e w' => e = .returned (.bool true) ∧ Below w.heap.size w w')
    (h3 : ∀ w, Calls Tryz.prog 32 #[.string v, .string ⟨#[36]⟩] w fun e w' => e = .returned (.tuple #[.string x, .bool true]) ∧ Below w.heap.size w w')
    (h4 : ∀ w, Calls Tryz.prog 33 #[.string x, .string ⟨#[48, 49, 50, 51, 52, 53, 54, 55, 56, 57]⟩] w fun e w' => e = .returned (.int .i64 1) ∧ Below w.heap.size w w')
    (h5 : ∀ w, Calls Tryz.prog 34 #[.string y, .string ⟨#[36]⟩] w fun e w' => e = .returned (.tuple #[.string y2, .bool false]) ∧ Below w.heap.size w w')
    (h6 : ∀ w, Calls Tryz.prog 35 #[.string z] w fun e w' => e = .returned (.tuple #[.int .i64 2, .int .i64 5, .int .i64 0]) ∧ Below w.heap.size w w')
    (hx : x.size = 2) (hy : y2.size ≤ 100) (hr : r2.size ≤ 100) (e1 : x.extract 0 1 = y) (e2 : x.extract 1 2 = r2) (e3 : y2 ++ r2 = z) :
    Calls Tryz.prog 16 #[.string s] w fun e w' => e = .returned (.tuple #[.agg #[.string u, .int .i64 2, .int .i64 5, .bool true, .bool false], .int .i64 0]) ∧ Below w.heap.size w w' := by
  have hud : undef = Value.tuple #[] := rfl
  have H1 := Lib.hid h1
  have H2 := Lib.hid h2
  have H3 := Lib.hid h3
  have H4 := Lib.hid h4
  have H5 := Lib.hid h5
  have H6 := Lib.hid h6
  clear h1 h2 h3 h4 h5 h6
  go_enter Tryz.func16, Tryz.ntmps16
  go_wp2_with fail
  obtain ⟨s1, hws⟩ : ∃ s, s = ((w.alloc (.cells #[.string ⟨#[]⟩, .int .i64 0, .int .i64 0, .bool false, .bool false] 23)).alloc (.cells #[.string ⟨#[]⟩, .int .i64 0, .int .i64 0, .bool false, .bool false] 23)) := ⟨_, rfl⟩
  have hBs : Below w.heap.size w s1 := by rw [hws]; exact (((Below.refl w.heap.size w).alloc (by simp) _).alloc (by simp) _)
  obtain ⟨C, hdC⟩ : ∃ b, b = w.heap.size := ⟨_, rfl⟩
  obtain ⟨R, hdR⟩ : ∃ b, b = w.heap.size + 1 := ⟨_, rfl⟩
  have hsz : s1.heap.size = w.heap.size + 1 + 1 := by rw [hws]; simp
  have dCR : C ≠ R := by omega
  have dRC : R ≠ C := by omega
  have kC0 : s1.cell? ⟨C, 0, none⟩ = some (.string ⟨#[]⟩) := by rw [hws]; simp [go_sem, hdC, hdR]
  have fC0 : s1.frozen? ⟨C, 0, none⟩ = false := by rw [hws]; simp [go_sem, hdC, hdR]
  have kC1 : s1.cell? ⟨C, 1, none⟩ = some (.int .i64 0) := by rw [hws]; simp [go_sem, hdC, hdR]
  have fC1 : s1.frozen? ⟨C, 1, none⟩ = false := by rw [hws]; simp [go_sem, hdC, hdR]
  have kC2 : s1.cell? ⟨C, 2, none⟩ = some (.int .i64 0) := by rw [hws]; simp [go_sem, hdC, hdR]
  have fC2 : s1.frozen? ⟨C, 2, none⟩ = false := by rw [hws]; simp [go_sem, hdC, hdR]
  have kC3 : s1.cell? ⟨C, 3, none⟩ = some (.bool false) := by rw [hws]; simp [go_sem, hdC, hdR]
  have fC3 : s1.frozen? ⟨C, 3, none⟩ = false := by rw [hws]; simp [go_sem, hdC, hdR]
  have kC4 : s1.cell? ⟨C, 4, none⟩ = some (.bool false) := by rw [hws]; simp [go_sem, hdC, hdR]
  have fC4 : s1.frozen? ⟨C, 4, none⟩ = false := by rw [hws]; simp [go_sem, hdC, hdR]
  have zC : C < s1.heap.size := by omega
  have lC : w.heap.size ≤ C := by have := Nat.le_refl w.heap.size; omega
  have kR0 : s1.cell? ⟨R, 0, none⟩ = some (.string ⟨#[]⟩) := by rw [hws]; simp [go_sem, hdC, hdR]
  have fR0 : s1.frozen? ⟨R, 0, none⟩ = false := by rw [hws]; simp [go_sem, hdC, hdR]
  have kR1 : s1.cell? ⟨R, 1, none⟩ = some (.int .i64 0) := by rw [hws]; simp [go_sem, hdC, hdR]
  have fR1 : s1.frozen? ⟨R, 1, none⟩ = false := by rw [hws]; simp [go_sem, hdC, hdR]
  have kR2 : s1.cell? ⟨R, 2, none⟩ = some (.int .i64 0) := by rw [hws]; simp [go_sem, hdC, hdR]
  have fR2 : s1.frozen? ⟨R, 2, none⟩ = false := by rw [hws]; simp [go_sem, hdC, hdR]
  have kR3 : s1.cell? ⟨R, 3, none⟩ = some (.bool false) := by rw [hws]; simp [go_sem, hdC, hdR]
  have fR3 : s1.frozen? ⟨R, 3, none⟩ = false := by rw [hws]; simp [go_sem, hdC, hdR]
  have kR4 : s1.cell? ⟨R, 4, none⟩ = some (.bool false) := by rw [hws]; simp [go_sem, hdC, hdR]
  have fR4 : s1.frozen? ⟨R, 4, none⟩ = false := by rw [hws]; simp [go_sem, hdC, hdR]
  have zR : R < s1.heap.size := by omega
  have lR : w.heap.size ≤ R := by have := Nat.le_refl w.heap.size; omega
  rw [← hws]
  try rw [← hdR]
  try rw [← hdC]
  clear hws hsz hdC hdR
  have hBo := hBs; clear hBs
  refine (H1.out _).mono ?_; rintro e s2 ⟨rfl, hb⟩
  replace kC0 := belK hb kC0 zC; replace fC0 := belF hb fC0 zC; replace kC1 := belK hb kC1 zC; replace fC1 := belF hb fC1 zC; replace kC2 := belK hb kC2 zC; replace fC2 := belF hb fC2 zC; replace kC3 := belK hb kC3 zC; replace fC3 := belF hb fC3 zC; replace kC4 := belK hb kC4 zC; replace fC4 := belF hb fC4 zC; replace zC := Nat.lt_of_lt_of_le zC hb.size
  replace kR0 := belK hb kR0 zR; replace fR0 := belF hb fR0 zR; replace kR1 := belK hb kR1 zR; replace fR1 := belF hb fR1 zR; replace kR2 := belK hb kR2 zR; replace fR2 := belF hb fR2 zR; replace kR3 := belK hb kR3 zR; replace fR3 := belF hb fR3 zR; replace kR4 := belK hb kR4 zR; replace fR4 := belF hb fR4 zR; replace zR := Nat.lt_of_lt_of_le zR hb.size
  replace hBo := hBo.trans (hb.mono hBo.size)
  clear hb
  go_wp2_with fail
  refine (H2.out _).mono ?_; rintro e s3 ⟨rfl, hb⟩
  replace kC0 := belK hb kC0 zC; replace fC0 := belF hb fC0 zC; replace kC1 := belK hb kC1 zC; replace fC1 := belF hb fC1 zC; replace kC2 := belK hb kC2 zC; replace fC2 := belF hb fC2 zC; replace kC3 := belK hb kC3 zC; replace fC3 := belF hb fC3 zC; replace kC4 := belK hb kC4 zC; replace fC4 := belF hb fC4 zC; replace zC := Nat.lt_of_lt_of_le zC hb.size
  replace kR0 := belK hb kR0 zR; replace fR0 := belF hb fR0 zR; replace kR1 := belK hb kR1 zR; replace fR1 := belF hb fR1 zR; replace kR2 := belK hb kR2 zR; replace fR2 := belF hb fR2 zR; replace kR3 := belK hb kR3 zR; replace fR3 := belF hb fR3 zR; replace kR4 := belK hb kR4 zR; replace fR4 := belF hb fR4 zR; replace zR := Nat.lt_of_lt_of_le zR hb.size
  replace hBo := hBo.trans (hb.mono hBo.size)
  clear hb
  go_wp2_with fail
  obtain ⟨s4, hws⟩ : ∃ s, s = (s3.setCell ⟨R, 0, none⟩ (.string u)) := ⟨_, rfl⟩
  have hBs : Below w.heap.size w s4 := by rw [hws]; exact ((hBo).setCell lR _)
  have hsz : s4.heap.size = s3.heap.size := by rw [hws]; simp
  have hQC : ∀ b j v, s3.cell? ⟨b, j, none⟩ = some v → R ≠ b → s4.cell? ⟨b, j, none⟩ = some v := fun b j v h dR => by rw [hws]; exact (stK h dR)
  replace kC0 := hQC _ _ _ kC0 dRC; replace kC1 := hQC _ _ _ kC1 dRC; replace kC2 := hQC _ _ _ kC2 dRC; replace kC3 := hQC _ _ _ kC3 dRC; replace kC4 := hQC _ _ _ kC4 dRC
  clear hQC
  have kR0_ : s4.cell? ⟨R, 0, none⟩ = some (.string u) := by rw [hws]; simp [go_sem, kR0, kR1, kR2, kR3, kR4, fR0, fR1, fR2, fR3, fR4]
  have kR1_ : s4.cell? ⟨R, 1, none⟩ = some (.int .i64 0) := by rw [hws]; simp [go_sem, kR0, kR1, kR2, kR3, kR4, fR0, fR1, fR2, fR3, fR4]
  have kR2_ : s4.cell? ⟨R, 2, none⟩ = some (.int .i64 0) := by rw [hws]; simp [go_sem, kR0, kR1, kR2, kR3, kR4, fR0, fR1, fR2, fR3, fR4]
  have kR3_ : s4.cell? ⟨R, 3, none⟩ = some (.bool false) := by rw [hws]; simp [go_sem, kR0, kR1, kR2, kR3, kR4, fR0, fR1, fR2, fR3, fR4]
  have kR4_ : s4.cell? ⟨R, 4, none⟩ = some (.bool false) := by rw [hws]; simp [go_sem, kR0, kR1, kR2, kR3, kR4, fR0, fR1, fR2, fR3, fR4]
  replace kR0 := kR0_; clear kR0_; replace kR1 := kR1_; clear kR1_; replace kR2 := kR2_; clear kR2_; replace kR3 := kR3_; clear kR3_; replace kR4 := kR4_; clear kR4_
  have hQF : ∀ p, s4.frozen? p = s3.frozen? p := fun p => by rw [hws]; simp [go_sem]
  replace fC0 := (hQF _).trans fC0; replace fC1 := (hQF _).trans fC1; replace fC2 := (hQF _).trans fC2; replace fC3 := (hQF _).trans fC3; replace fC4 := (hQF _).trans fC4
  replace fR0 := (hQF _).trans fR0; replace fR1 := (hQF _).trans fR1; replace fR2 := (hQF _).trans fR2; replace fR3 := (hQF _).trans fR3; replace fR4 := (hQF _).trans fR4
  clear hQF
  replace zC : C < s4.heap.size := by omega
  replace zR : R < s4.heap.size := by omega
  rw [← hws]
  clear hBo hws hsz
  have hBo := hBs; clear hBs
  refine (H3.out _).mono ?_; rintro e s5 ⟨rfl, hb⟩
  replace kC0 := belK hb kC0 zC; replace fC0 := belF hb fC0 zC; replace kC1 := belK hb kC1 zC; replace fC1 := belF hb fC1 zC; replace kC2 := belK hb kC2 zC; replace fC2 := belF hb fC2 zC; replace kC3 := belK hb kC3 zC; replace fC3 := belF hb fC3 zC; replace kC4 := belK hb kC4 zC; replace fC4 := belF hb fC4 zC; replace zC := Nat.lt_of_lt_of_le zC hb.size
  replace kR0 := belK hb kR0 zR; replace fR0 := belF hb fR0 zR; replace kR1 := belK hb kR1 zR; replace fR1 := belF hb fR1 zR; replace kR2 := belK hb kR2 zR; replace fR2 := belF hb fR2 zR; replace kR3 := belK hb kR3 zR; replace fR3 := belF hb fR3 zR; replace kR4 := belK hb kR4 zR; replace fR4 := belF hb fR4 zR; replace zR := Nat.lt_of_lt_of_le zR hb.size
  replace hBo := hBo.trans (hb.mono hBo.size)
  clear hb
  go_wp2_with fail
  obtain ⟨s6, hws⟩ : ∃ s, s = (s5.setCell ⟨R, 3, none⟩ (.bool true)) := ⟨_, rfl⟩
  have hBs : Below w.heap.size w s6 := by rw [hws]; exact ((hBo).setCell lR _)
  have hsz : s6.heap.size = s5.heap.size := by rw [hws]; simp
  have hQC : ∀ b j v, s5.cell? ⟨b, j, none⟩ = some v → R ≠ b → s6.cell? ⟨b, j, none⟩ = some v := fun b j v h dR => by rw [hws]; exact (stK h dR)
  replace kC0 := hQC _ _ _ kC0 dRC; replace kC1 := hQC _ _ _ kC1 dRC; replace kC2 := hQC _ _ _ kC2 dRC; replace kC3 := hQC _ _ _ kC3 dRC; replace kC4 := hQC _ _ _ kC4 dRC
  clear hQC
  have kR0_ : s6.cell? ⟨R, 0, none⟩ = some (.string u) := by rw [hws]; simp [go_sem, kR0, kR1, kR2, kR3, kR4, fR0, fR1, fR2, fR3, fR4]
  have kR1_ : s6.cell? ⟨R, 1, none⟩ = some (.int .i64 0) := by rw [hws]; simp [go_sem, kR0, kR1, kR2, kR3, kR4, fR0, fR1, fR2, fR3, fR4]
  have kR2_ : s6.cell? ⟨R, 2, none⟩ = some (.int .i64 0) := by rw [hws]; simp [go_sem, kR0, kR1, kR2, kR3, kR4, fR0, fR1, fR2, fR3, fR4]
  have kR3_ : s6.cell? ⟨R, 3, none⟩ = some (.bool true) := by rw [hws]; simp [go_sem, kR0, kR1, kR2, kR3, kR4, fR0, fR1, fR2, fR3, fR4]
  have kR4_ : s6.cell? ⟨R, 4, none⟩ = some (.bool false) := by rw [hws]; simp [go_sem, kR0, kR1, kR2, kR3, kR4, fR0, fR1, fR2, fR3, fR4]
  replace kR0 := kR0_; clear kR0_; replace kR1 := kR1_; clear kR1_; replace kR2 := kR2_; clear kR2_; replace kR3 := kR3_; clear kR3_; replace kR4 := kR4_; clear kR4_
  have hQF : ∀ p, s6.frozen? p = s5.frozen? p := fun p => by rw [hws]; simp [go_sem]
  replace fC0 := (hQF _).trans fC0; replace fC1 := (hQF _).trans fC1; replace fC2 := (hQF _).trans fC2; replace fC3 := (hQF _).trans fC3; replace fC4 := (hQF _).trans fC4
  replace fR0 := (hQF _).trans fR0; replace fR1 := (hQF _).trans fR1; replace fR2 := (hQF _).trans fR2; replace fR3 := (hQF _).trans fR3; replace fR4 := (hQF _).trans fR4
  clear hQF
  replace zC : C < s6.heap.size := by omega
  replace zR : R < s6.heap.size := by omega
  rw [← hws]
  clear hBo hws hsz
  have hBo := hBs; clear hBs
  refine (H4.out _).mono ?_; rintro e s7 ⟨rfl, hb⟩
  replace kC0 := belK hb kC0 zC; replace fC0 := belF hb fC0 zC; replace kC1 := belK hb kC1 zC; replace fC1 := belF hb fC1 zC; replace kC2 := belK hb kC2 zC; replace fC2 := belF hb fC2 zC; replace kC3 := belK hb kC3 zC; replace fC3 := belF hb fC3 zC; replace kC4 := belK hb kC4 zC; replace fC4 := belF hb fC4 zC; replace zC := Nat.lt_of_lt_of_le zC hb.size
  replace kR0 := belK hb kR0 zR; replace fR0 := belF hb fR0 zR; replace kR1 := belK hb kR1 zR; replace fR1 := belF hb fR1 zR; replace kR2 := belK hb kR2 zR; replace fR2 := belF hb fR2 zR; replace kR3 := belK hb kR3 zR; replace fR3 := belF hb fR3 zR; replace kR4 := belK hb kR4 zR; replace fR4 := belF hb fR4 zR; replace zR := Nat.lt_of_lt_of_le zR hb.size
  replace hBo := hBo.trans (hb.mono hBo.size)
  clear hb
  go_wp2_with fail
  refine (H5.out _).mono ?_; rintro e s8 ⟨rfl, hb⟩
  replace kC0 := belK hb kC0 zC; replace fC0 := belF hb fC0 zC; replace kC1 := belK hb kC1 zC; replace fC1 := belF hb fC1 zC; replace kC2 := belK hb kC2 zC; replace fC2 := belF hb fC2 zC; replace kC3 := belK hb kC3 zC; replace fC3 := belF hb fC3 zC; replace kC4 := belK hb kC4 zC; replace fC4 := belF hb fC4 zC; replace zC := Nat.lt_of_lt_of_le zC hb.size
  replace kR0 := belK hb kR0 zR; replace fR0 := belF hb fR0 zR; replace kR1 := belK hb kR1 zR; replace fR1 := belF hb fR1 zR; replace kR2 := belK hb kR2 zR; replace fR2 := belF hb fR2 zR; replace kR3 := belK hb kR3 zR; replace fR3 := belF hb fR3 zR; replace kR4 := belK hb kR4 zR; replace fR4 := belF hb fR4 zR; replace zR := Nat.lt_of_lt_of_le zR hb.size
  replace hBo := hBo.trans (hb.mono hBo.size)
  clear hb
  go_wp2_with fail
  obtain ⟨s9, hws⟩ : ∃ s, s = (s8.setCell ⟨R, 4, none⟩ (.bool false)) := ⟨_, rfl⟩
  have hBs : Below w.heap.size w s9 := by rw [hws]; exact ((hBo).setCell lR _)
  have hsz : s9.heap.size = s8.heap.size := by rw [hws]; simp
  have hQC : ∀ b j v, s8.cell? ⟨b, j, none⟩ = some v → R ≠ b → s9.cell? ⟨b, j, none⟩ = some v := fun b j v h dR => by rw [hws]; exact (stK h dR)
  replace kC0 := hQC _ _ _ kC0 dRC; replace kC1 := hQC _ _ _ kC1 dRC; replace kC2 := hQC _ _ _ kC2 dRC; replace kC3 := hQC _ _ _ kC3 dRC; replace kC4 := hQC _ _ _ kC4 dRC
  clear hQC
  have kR0_ : s9.cell? ⟨R, 0, none⟩ = some (.string u) := by rw [hws]; simp [go_sem, kR0, kR1, kR2, kR3, kR4, fR0, fR1, fR2, fR3, fR4]
  have kR1_ : s9.cell? ⟨R, 1, none⟩ = some (.int .i64 0) := by rw [hws]; simp [go_sem, kR0, kR1, kR2, kR3, kR4, fR0, fR1, fR2, fR3, fR4]
  have kR2_ : s9.cell? ⟨R, 2, none⟩ = some (.int .i64 0) := by rw [hws]; simp [go_sem, kR0, kR1, kR2, kR3, kR4, fR0, fR1, fR2, fR3, fR4]
  have kR3_ : s9.cell? ⟨R, 3, none⟩ = some (.bool true) := by rw [hws]; simp [go_sem, kR0, kR1, kR2, kR3, kR4, fR0, fR1, fR2, fR3, fR4]
  have kR4_ : s9.cell? ⟨R, 4, none⟩ = some (.bool false) := by rw [hws]; simp [go_sem, kR0, kR1, kR2, kR3, kR4, fR0, fR1, fR2, fR3, fR4]
  replace kR0 := kR0_; clear kR0_; replace kR1 := kR1_; clear kR1_; replace kR2 := kR2_; clear kR2_; replace kR3 := kR3_; clear kR3_; replace kR4 := kR4_; clear kR4_
  have hQF : ∀ p, s9.frozen? p = s8.frozen? p := fun p => by rw [hws]; simp [go_sem]
  replace fC0 := (hQF _).trans fC0; replace fC1 := (hQF _).trans fC1; replace fC2 := (hQF _).trans fC2; replace fC3 := (hQF _).trans fC3; replace fC4 := (hQF _).trans fC4
  replace fR0 := (hQF _).trans fR0; replace fR1 := (hQF _).trans fR1; replace fR2 := (hQF _).trans fR2; replace fR3 := (hQF _).trans fR3; replace fR4 := (hQF _).trans fR4
  clear hQF
  replace zC : C < s9.heap.size := by omega
  replace zR : R < s9.heap.size := by omega
  rw [← hws]
  clear hBo hws hsz
  have hBo := hBs; clear hBs
  refine (H6.out _).mono ?_; rintro e s10 ⟨rfl, hb⟩
  replace kC0 := belK hb kC0 zC; replace fC0 := belF hb fC0 zC; replace kC1 := belK hb kC1 zC; replace fC1 := belF hb fC1 zC; replace kC2 := belK hb kC2 zC; replace fC2 := belF hb fC2 zC; replace kC3 := belK hb kC3 zC; replace fC3 := belF hb fC3 zC; replace kC4 := belK hb kC4 zC; replace fC4 := belF hb fC4 zC; replace zC := Nat.lt_of_lt_of_le zC hb.size
  replace kR0 := belK hb kR0 zR; replace fR0 := belF hb fR0 zR; replace kR1 := belK hb kR1 zR; replace fR1 := belF hb fR1 zR; replace kR2 := belK hb kR2 zR; replace fR2 := belF hb fR2 zR; replace kR3 := belK hb kR3 zR; replace fR3 := belF hb fR3 zR; replace kR4 := belK hb kR4 zR; replace fR4 := belF hb fR4 zR; replace zR := Nat.lt_of_lt_of_le zR hb.size
  replace hBo := hBo.trans (hb.mono hBo.size)
  clear hb
  go_wp2_with fail
  obtain ⟨s11, hws⟩ : ∃ s, s = ((s10.setCell ⟨R, 1, none⟩ (.int .i64 2)).setCell ⟨R, 2, none⟩ (.int .i64 5)) := ⟨_, rfl⟩
  have hBs : Below w.heap.size w s11 := by rw [hws]; exact (((hBo).setCell lR _).setCell lR _)
  have hsz : s11.heap.size = s10.heap.size := by rw [hws]; simp
  have hQC : ∀ b j v, s10.cell? ⟨b, j, none⟩ = some v → R ≠ b → s11.cell? ⟨b, j, none⟩ = some v := fun b j v h dR => by rw [hws]; exact (stK (stK h dR) dR)
  replace kC0 := hQC _ _ _ kC0 dRC; replace kC1 := hQC _ _ _ kC1 dRC; replace kC2 := hQC _ _ _ kC2 dRC; replace kC3 := hQC _ _ _ kC3 dRC; replace kC4 := hQC _ _ _ kC4 dRC
  clear hQC
  have kR0_ : s11.cell? ⟨R, 0, none⟩ = some (.string u) := by rw [hws]; simp [go_sem, kR0, kR1, kR2, kR3, kR4, fR0, fR1, fR2, fR3, fR4]
  have kR1_ : s11.cell? ⟨R, 1, none⟩ = some (.int .i64 2) := by rw [hws]; simp [go_sem, kR0, kR1, kR2, kR3, kR4, fR0, fR1, fR2, fR3, fR4]
  have kR2_ : s11.cell? ⟨R, 2, none⟩ = some (.int .i64 5) := by rw [hws]; simp [go_sem, kR0, kR1, kR2, kR3, kR4, fR0, fR1, fR2, fR3, fR4]
  have kR3_ : s11.cell? ⟨R, 3, none⟩ = some (.bool true) := by rw [hws]; simp [go_sem, kR0, kR1, kR2, kR3, kR4, fR0, fR1, fR2, fR3, fR4]
  have kR4_ : s11.cell? ⟨R, 4, none⟩ = some (.bool false) := by rw [hws]; simp [go_sem, kR0, kR1, kR2, kR3, kR4, fR0, fR1, fR2, fR3, fR4]
  replace kR0 := kR0_; clear kR0_; replace kR1 := kR1_; clear kR1_; replace kR2 := kR2_; clear kR2_; replace kR3 := kR3_; clear kR3_; replace kR4 := kR4_; clear kR4_
  have hQF : ∀ p, s11.frozen? p = s10.frozen? p := fun p => by rw [hws]; simp [go_sem]
  replace fC0 := (hQF _).trans fC0; replace fC1 := (hQF _).trans fC1; replace fC2 := (hQF _).trans fC2; replace fC3 := (hQF _).trans fC3; replace fC4 := (hQF _).trans fC4
  replace fR0 := (hQF _).trans fR0; replace fR1 := (hQF _).trans fR1; replace fR2 := (hQF _).trans fR2; replace fR3 := (hQF _).trans fR3; replace fR4 := (hQF _).trans fR4
  clear hQF
  replace zC : C < s11.heap.size := by omega
  replace zR : R < s11.heap.size := by omega
  rw [← hws]
  clear hBo hws hsz
  have hBo := hBs; clear hBs
  all_goals go_wp2_with fail
  all_goals refine bodyPost_ret (v := .tuple #[.agg #[.string u, .int .i64 2, .int .i64 5, .bool true, .bool false], .int .i64 0]) (by simp [results, Tryz.results16, go_sem, kC0, kC1, kC2, kC3, kC4, zC]) rfl ⟨rfl, ?_⟩
  all_goals exact (((((hBo.setCell lC _).setCell lC _).setCell lC _).setCell lC _).setCell lC _)
set_option maxRecDepth 100000 in
set_option maxHeartbeats 4000000 in
theorem text_walk (u t r z : ByteArray) (w : World)
    (h1 : ∀ w, Calls Tryz.prog 19 #[.agg #[.string u, .int .i64 2, .int .i64 7, .bool true, .bool false]] w fun e w' => e = .returned (.bool true) ∧ Below w.heap.size w w')
    (h2 : ∀ w, Calls Tryz.prog 36 #[.int .i64 2] w fun e w' => e = .returned (.string t) ∧ Below w.heap.size w w')
    (h3 : ∀ w, Calls Tryz.prog 37 #[.int .i64 7] w fun e w' => e = .returned (.string r) ∧ Below w.heap.size w w')
    (hu0 : u.size ≠ 0) (hu : u.size ≤ 100) (ht : t.size ≤ 100) (hr : r.size ≤ 100) (e1 : (((u ++ ⟨#[33]⟩) ++ ⟨#[36]⟩) ++ t) ++ r = z) :
    Calls Tryz.prog 17 #[.agg #[.string u, .int .i64 2, .int .i64 7, .bool true, .bool false]] w fun e w' => e = .returned (.string z) ∧ Below w.heap.size w w' := by
  have hud : undef = Value.tuple #[] := rfl
  have hn := str_some hu0
  have hn2 : u.toList.isEmpty = false := by simpa using hn
  have H1 := Lib.hid h1
  have H2 := Lib.hid h2
  have H3 := Lib.hid h3
  have E1 := Lib.hid e1
  clear h1 h2 h3 hu0 e1
  go_enter Tryz.func17, Tryz.ntmps17
  go_wp2_with fail
  obtain ⟨s12, hws⟩ : ∃ s, s = (w.alloc (.cells #[.string u, .int .i64 2, .int .i64 7, .bool true, .bool false] 23)) := ⟨_, rfl⟩
  have hBs : Below w.heap.size w s12 := by rw [hws]; exact ((Below.refl w.heap.size w).alloc (by simp) _)
  obtain ⟨A, hdA⟩ : ∃ b, b = w.heap.size := ⟨_, rfl⟩
  have hsz : s12.heap.size = w.heap.size + 1 := by rw [hws]; simp
  have kA0 : s12.cell? ⟨A, 0, none⟩ = some (.string u) := by rw [hws]; simp [go_sem, hdA]
  have kA1 : s12.cell? ⟨A, 1, none⟩ = some (.int .i64 2) := by rw [hws]; simp [go_sem, hdA]
  have kA2 : s12.cell? ⟨A, 2, none⟩ = some (.int .i64 7) := by rw [hws]; simp [go_sem, hdA]
  have kA3 : s12.cell? ⟨A, 3, none⟩ = some (.bool true) := by rw [hws]; simp [go_sem, hdA]
  have kA4 : s12.cell? ⟨A, 4, none⟩ = some (.bool false) := by rw [hws]; simp [go_sem, hdA]
  have zA : A < s12.heap.size := by omega
  have lA : w.heap.size ≤ A := by have := Nat.le_refl w.heap.size; omega
  rw [← hws]
  try rw [← hdA]
  clear hws hsz hdA
  have hBo := hBs; clear hBs
  refine (H1.out _).mono ?_; rintro e s13 ⟨rfl, hb⟩
  replace kA0 := belK hb kA0 zA; replace kA1 := belK hb kA1 zA; replace kA2 := belK hb kA2 zA; replace kA3 := belK hb kA3 zA; replace kA4 := belK hb kA4 zA; replace zA := Nat.lt_of_lt_of_le zA hb.size
  replace hBo := hBo.trans (hb.mono hBo.size)
  clear hb
  go_wp2_with fail
  refine (H2.out _).mono ?_; rintro e s14 ⟨rfl, hb⟩
  replace kA0 := belK hb kA0 zA; replace kA1 := belK hb kA1 zA; replace kA2 := belK hb kA2 zA; replace kA3 := belK hb kA3 zA; replace kA4 := belK hb kA4 zA; replace zA := Nat.lt_of_lt_of_le zA hb.size
  replace hBo := hBo.trans (hb.mono hBo.size)
  clear hb
  go_wp2_with fail
  refine (H3.out _).mono ?_; rintro e s15 ⟨rfl, hb⟩
  replace kA0 := belK hb kA0 zA; replace kA1 := belK hb kA1 zA; replace kA2 := belK hb kA2 zA; replace kA3 := belK hb kA3 zA; replace kA4 := belK hb kA4 zA; replace zA := Nat.lt_of_lt_of_le zA hb.size
  replace hBo := hBo.trans (hb.mono hBo.size)
  clear hb
  go_wp2_with fail
  go_ret
  exact ⟨ret_str E1.out, hBo⟩
end Go.Proofs.YtlpjaflolnggnaaGreatDoor
