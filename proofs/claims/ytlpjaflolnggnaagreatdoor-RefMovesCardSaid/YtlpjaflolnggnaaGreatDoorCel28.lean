/-
  LAYER 11, REFERENCES: the fixed calls.
-/
import Derived.Test.YtlpjaflolnggnaaGreatDoorCel27
namespace Go.Proofs.YtlpjaflolnggnaaGreatDoor
open Go.RowKit Go.Shelf
set_option linter.unusedSimpArgs false
set_option linter.unusedVariables false

abbrev tabU : ByteArray := ⟨#[84, 97, 98]⟩
abbrev tab5 : ByteArray := ⟨#[84, 97, 98, 33, 36, 66, 53]⟩
abbrev tab7 : ByteArray := ⟨#[84, 97, 98, 33, 36, 66, 55]⟩
theorem fix_cut (w : World) : Calls Tryz.prog 31 #[.string tab5, .string ⟨#[33]⟩] w fun e w' => e = .returned (.tuple #[.string tabU, .string ⟨#[36, 66, 53]⟩, .bool true]) ∧ Below w.heap.size w w' := by
  refine cutOne_any tab5 ⟨#[33]⟩ tabU ⟨#[36, 66, 53]⟩ 3 w (fun w => (Tryz.stringslite_Index_one tab5 33 w).mono ?_) (by decide) (by decide) (by decide) (by decide +kernel) (by decide +kernel)
  rintro e w' ⟨he, hw⟩
  exact ⟨he.trans (ret_int (by decide +kernel)), hw⟩
theorem fix_named (w : World) : Calls Tryz.prog 18 #[.string tabU] w fun e w' => e = .returned (.bool true) ∧ Below w.heap.size w w' := by
  have h := named_any tabU w (by decide)
  rwa [show namB tabU = true from by decide +kernel] at h
theorem fix_named2 (w : World) : Calls Tryz.prog 18 #[.string ⟨#[97, 49]⟩] w fun e w' => e = .returned (.bool false) ∧ Below w.heap.size w w' := by
  have h := named_any ⟨#[97, 49]⟩ w (by decide)
  rwa [show namB ⟨#[97, 49]⟩ = false from by decide +kernel] at h
theorem ret_cut {a b : ByteArray} {x y : Bool} (h : a = b) (h2 : x = y) : Ending.returned (.tuple #[.string a, .bool x]) = .returned (.tuple #[.string b, .bool y]) := by rw [h, h2]
theorem fix_prefix (w : World) : Calls Tryz.prog 32 #[.string ⟨#[36, 66, 53]⟩, .string ⟨#[36]⟩] w fun e w' => e = .returned (.tuple #[.string ⟨#[66, 53]⟩, .bool true]) ∧ Below w.heap.size w w' := by
  refine (Tryz.strings_CutPrefix ⟨#[36, 66, 53]⟩ ⟨#[36]⟩ w).mono ?_
  rintro e w' ⟨he, rfl⟩
  exact ⟨he.trans (ret_cut (by decide +kernel) (by decide +kernel)), Below.refl _ _⟩
theorem fix_any (w : World) : Calls Tryz.prog 33 #[.string ⟨#[66, 53]⟩, .string ⟨#[48, 49, 50, 51, 52, 53, 54, 55, 56, 57]⟩] w fun e w' => e = .returned (.int .i64 1) ∧ Below w.heap.size w w' := by
  refine (Tryz.strings_IndexAny_laid ⟨#[66, 53]⟩ ⟨#[48, 49, 50, 51, 52, 53, 54, 55, 56, 57]⟩ w (by decide) (by decide) (ascii_of_all (by decide)) (ascii_of_all (by decide))).mono ?_
  rintro e w' ⟨he, hB⟩
  exact ⟨he.trans (ret_int (by decide +kernel)), hB⟩
theorem fix_suffix (w : World) : Calls Tryz.prog 34 #[.string ⟨#[66]⟩, .string ⟨#[36]⟩] w fun e w' => e = .returned (.tuple #[.string ⟨#[66]⟩, .bool false]) ∧ Below w.heap.size w w' := by
  refine (Tryz.strings_CutSuffix ⟨#[66]⟩ ⟨#[36]⟩ w (by decide)).mono ?_
  rintro e w' ⟨he, rfl⟩
  exact ⟨he.trans (ret_cut (by decide +kernel) (by decide +kernel)), Below.refl _ _⟩
theorem fix_addr (w : World) : Calls Tryz.prog 35 #[.string ⟨#[66, 53]⟩] w fun e w' => e = .returned (.tuple #[.int .i64 2, .int .i64 5, .int .i64 0]) ∧ Below w.heap.size w w' := by
  have h := addrParse_any ⟨#[66, 53]⟩ w (by decide)
  rw [show adrP ⟨#[66, 53]⟩ = (2, 5, 0) from by decide +kernel] at h
  exact h
theorem fix_parse (w : World) : Calls Tryz.prog 16 #[.string tab5] w fun e w' => e = .returned (.tuple #[.agg #[.string tabU, .int .i64 2, .int .i64 5, .bool true, .bool false], .int .i64 0]) ∧ Below w.heap.size w w' :=
  parse_walk tab5 tabU ⟨#[36, 66, 53]⟩ ⟨#[66, 53]⟩ ⟨#[66]⟩ ⟨#[66]⟩ ⟨#[53]⟩ ⟨#[66, 53]⟩ w fix_cut fix_named fix_prefix fix_any fix_suffix fix_addr (by decide) (by decide) (by decide) (by decide +kernel) (by decide +kernel) (by decide +kernel)
theorem fix_text (w : World) : Calls Tryz.prog 17 #[.agg #[.string tabU, .int .i64 2, .int .i64 7, .bool true, .bool false]] w fun e w' => e = .returned (.string tab7) ∧ Below w.heap.size w w' := by
  refine text_walk tabU ⟨#[66]⟩ ⟨#[55]⟩ tab7 w (fun w => right1_any ⟨tabU, 2, 7, true, false⟩ true w (by decide) (by decide +kernel)) (fun w => ?_) (fun w => ?_) (by decide) (by decide) (by decide) (by decide) (by decide +kernel)
  · have h := addrCol_any 2 w
    rwa [show colT (2 : Int).toNat = ⟨#[66]⟩ from by decide +kernel] at h
  · have h := itoa_any 7 (by decide) (by decide) w
    rwa [show Nt.D (7 : Int).toNat = ⟨#[55]⟩ from by decide +kernel] at h
theorem fix_insert (w : World) : Calls Tryz.prog 8 #[.agg #[.string tabU, .int .i64 2, .int .i64 5, .bool true, .bool false], .int .i64 1, .int .i64 3, .int .i64 2] w fun e w' => e = .returned (.tuple #[.agg #[.string tabU, .int .i64 2, .int .i64 7, .bool true, .bool false], .bool true]) ∧ Below w.heap.size w w' :=
  insert_any ⟨tabU, 2, 5, true, false⟩ 1 3 2 ⟨tabU, 2, 7, true, false⟩ true w (by decide) (by rw [insR_yes (by decide +kernel)]; rfl) (by decide +kernel)
theorem fix_delete (w : World) : Calls Tryz.prog 10 #[.agg #[.string tabU, .int .i64 2, .int .i64 7, .bool true, .bool false], .int .i64 1, .int .i64 3, .int .i64 5] w fun e w' => e = .returned (.tuple #[.agg #[.string ⟨#[]⟩, .int .i64 0, .int .i64 0, .bool false, .bool false], .bool false]) ∧ Below w.heap.size w w' :=
  delete_any ⟨tabU, 2, 7, true, false⟩ 1 3 5 rf0 false w (by decide) (delR_no (by decide +kernel)) (by decide +kernel)
set_option maxRecDepth 100000 in
set_option maxHeartbeats 4000000 in
theorem known11_any (w : World) : Calls Tryz.prog 5 #[] w fun e w' => e = .returned (.bool true) ∧ Below w.heap.size w w' := by
  have hud : undef = Value.tuple #[] := rfl
  have H1 := Lib.hid fix_parse
  have H2 := Lib.hid fix_insert
  have H3 := Lib.hid fix_delete
  have H4 := Lib.hid fix_text
  have H5 := Lib.hid fix_named2
  go_enter Tryz.func5, Tryz.ntmps5
  go_wp2_with fail
  refine (H1.out _).mono ?_; rintro e s1 ⟨rfl, hb⟩
  have hBo := hb
  skip
  go_wp2_with fail
  obtain ⟨s2, hws⟩ : ∃ s, s = (s1.alloc (.cells #[.string tabU, .int .i64 2, .int .i64 5, .bool true, .bool false] 23)) := ⟨_, rfl⟩
  have hBs : Below w.heap.size w s2 := by rw [hws]; exact ((hBo).alloc (by exact hBo.size) _)
  obtain ⟨R, hdR⟩ : ∃ b, b = s1.heap.size := ⟨_, rfl⟩
  have hsz : s2.heap.size = s1.heap.size + 1 := by rw [hws]; simp
  have kR0 : s2.cell? ⟨R, 0, none⟩ = some (.string tabU) := by rw [hws]; simp [go_sem, hdR]
  have kR1 : s2.cell? ⟨R, 1, none⟩ = some (.int .i64 2) := by rw [hws]; simp [go_sem, hdR]
  have kR2 : s2.cell? ⟨R, 2, none⟩ = some (.int .i64 5) := by rw [hws]; simp [go_sem, hdR]
  have kR3 : s2.cell? ⟨R, 3, none⟩ = some (.bool true) := by rw [hws]; simp [go_sem, hdR]
  have kR4 : s2.cell? ⟨R, 4, none⟩ = some (.bool false) := by rw [hws]; simp [go_sem, hdR]
  have zR : R < s2.heap.size := by omega
  have lR : w.heap.size ≤ R := by have := hBo.size; omega
  rw [← hws]
  try rw [← hdR]
  clear hBo
  clear hws hsz hdR
  have hBo := hBs; clear hBs
  refine (H2.out _).mono ?_; rintro e s3 ⟨rfl, hb⟩
  replace kR0 := belK hb kR0 zR; replace kR1 := belK hb kR1 zR; replace kR2 := belK hb kR2 zR; replace kR3 := belK hb kR3 zR; replace kR4 := belK hb kR4 zR; replace zR := Nat.lt_of_lt_of_le zR hb.size
  replace hBo := hBo.trans (hb.mono hBo.size)
  clear hb
  go_wp2_with fail
  obtain ⟨s4, hws⟩ : ∃ s, s = (s3.alloc (.cells #[.string tabU, .int .i64 2, .int .i64 7, .bool true, .bool false] 23)) := ⟨_, rfl⟩
  have hBs : Below w.heap.size w s4 := by rw [hws]; exact ((hBo).alloc (by exact hBo.size) _)
  obtain ⟨S, hdS⟩ : ∃ b, b = s3.heap.size := ⟨_, rfl⟩
  have hsz : s4.heap.size = s3.heap.size + 1 := by rw [hws]; simp
  have hQC : ∀ p v, s3.cell? p = some v → s4.cell? p = some v := fun p v h => by rw [hws]; exact (alK h)
  have hQZ : ∀ b, b < s3.heap.size → b < s4.heap.size := fun b h => by omega
  replace kR0 := hQC _ _ kR0; replace kR1 := hQC _ _ kR1; replace kR2 := hQC _ _ kR2; replace kR3 := hQC _ _ kR3; replace kR4 := hQC _ _ kR4; replace zR := hQZ _ zR
  clear hQC hQZ
  have kS0 : s4.cell? ⟨S, 0, none⟩ = some (.string tabU) := by rw [hws]; simp [go_sem, hdS]
  have kS1 : s4.cell? ⟨S, 1, none⟩ = some (.int .i64 2) := by rw [hws]; simp [go_sem, hdS]
  have kS2 : s4.cell? ⟨S, 2, none⟩ = some (.int .i64 7) := by rw [hws]; simp [go_sem, hdS]
  have kS3 : s4.cell? ⟨S, 3, none⟩ = some (.bool true) := by rw [hws]; simp [go_sem, hdS]
  have kS4 : s4.cell? ⟨S, 4, none⟩ = some (.bool false) := by rw [hws]; simp [go_sem, hdS]
  have zS : S < s4.heap.size := by omega
  have lS : w.heap.size ≤ S := by have := hBo.size; omega
  rw [← hws]
  try rw [← hdS]
  clear hBo
  clear hws hsz hdS
  have hBo := hBs; clear hBs
  refine (H3.out _).mono ?_; rintro e s5 ⟨rfl, hb⟩
  replace kR0 := belK hb kR0 zR; replace kR1 := belK hb kR1 zR; replace kR2 := belK hb kR2 zR; replace kR3 := belK hb kR3 zR; replace kR4 := belK hb kR4 zR; replace zR := Nat.lt_of_lt_of_le zR hb.size
  replace kS0 := belK hb kS0 zS; replace kS1 := belK hb kS1 zS; replace kS2 := belK hb kS2 zS; replace kS3 := belK hb kS3 zS; replace kS4 := belK hb kS4 zS; replace zS := Nat.lt_of_lt_of_le zS hb.size
  replace hBo := hBo.trans (hb.mono hBo.size)
  clear hb
  go_wp2_with fail
  obtain ⟨s6, hws⟩ : ∃ s, s = (s5.alloc (.cells #[.string ⟨#[]⟩, .int .i64 0, .int .i64 0, .bool false, .bool false] 23)) := ⟨_, rfl⟩
  have hBs : Below w.heap.size w s6 := by rw [hws]; exact ((hBo).alloc (by exact hBo.size) _)
  obtain ⟨D, hdD⟩ : ∃ b, b = s5.heap.size := ⟨_, rfl⟩
  have hsz : s6.heap.size = s5.heap.size + 1 := by rw [hws]; simp
  have hQC : ∀ p v, s5.cell? p = some v → s6.cell? p = some v := fun p v h => by rw [hws]; exact (alK h)
  have hQZ : ∀ b, b < s5.heap.size → b < s6.heap.size := fun b h => by omega
  replace kR0 := hQC _ _ kR0; replace kR1 := hQC _ _ kR1; replace kR2 := hQC _ _ kR2; replace kR3 := hQC _ _ kR3; replace kR4 := hQC _ _ kR4; replace zR := hQZ _ zR
  replace kS0 := hQC _ _ kS0; replace kS1 := hQC _ _ kS1; replace kS2 := hQC _ _ kS2; replace kS3 := hQC _ _ kS3; replace kS4 := hQC _ _ kS4; replace zS := hQZ _ zS
  clear hQC hQZ
  have kD0 : s6.cell? ⟨D, 0, none⟩ = some (.string ⟨#[]⟩) := by rw [hws]; simp [go_sem, hdD]
  have kD1 : s6.cell? ⟨D, 1, none⟩ = some (.int .i64 0) := by rw [hws]; simp [go_sem, hdD]
  have kD2 : s6.cell? ⟨D, 2, none⟩ = some (.int .i64 0) := by rw [hws]; simp [go_sem, hdD]
  have kD3 : s6.cell? ⟨D, 3, none⟩ = some (.bool false) := by rw [hws]; simp [go_sem, hdD]
  have kD4 : s6.cell? ⟨D, 4, none⟩ = some (.bool false) := by rw [hws]; simp [go_sem, hdD]
  have zD : D < s6.heap.size := by omega
  have lD : w.heap.size ≤ D := by have := hBo.size; omega
  rw [← hws]
  try rw [← hdD]
  clear hBo
  clear hws hsz hdD
  have hBo := hBs; clear hBs
  refine (H4.out _).mono ?_; rintro e s7 ⟨rfl, hb⟩
  replace kR0 := belK hb kR0 zR; replace kR1 := belK hb kR1 zR; replace kR2 := belK hb kR2 zR; replace kR3 := belK hb kR3 zR; replace kR4 := belK hb kR4 zR; replace zR := Nat.lt_of_lt_of_le zR hb.size
  replace kS0 := belK hb kS0 zS; replace kS1 := belK hb kS1 zS; replace kS2 := belK hb kS2 zS; replace kS3 := belK hb kS3 zS; replace kS4 := belK hb kS4 zS; replace zS := Nat.lt_of_lt_of_le zS hb.size
  replace kD0 := belK hb kD0 zD; replace kD1 := belK hb kD1 zD; replace kD2 := belK hb kD2 zD; replace kD3 := belK hb kD3 zD; replace kD4 := belK hb kD4 zD; replace zD := Nat.lt_of_lt_of_le zD hb.size
  replace hBo := hBo.trans (hb.mono hBo.size)
  clear hb
  go_wp2_with fail
  refine (H5.out _).mono ?_; rintro e s8 ⟨rfl, hb⟩
  replace kR0 := belK hb kR0 zR; replace kR1 := belK hb kR1 zR; replace kR2 := belK hb kR2 zR; replace kR3 := belK hb kR3 zR; replace kR4 := belK hb kR4 zR; replace zR := Nat.lt_of_lt_of_le zR hb.size
  replace kS0 := belK hb kS0 zS; replace kS1 := belK hb kS1 zS; replace kS2 := belK hb kS2 zS; replace kS3 := belK hb kS3 zS; replace kS4 := belK hb kS4 zS; replace zS := Nat.lt_of_lt_of_le zS hb.size
  replace kD0 := belK hb kD0 zD; replace kD1 := belK hb kD1 zD; replace kD2 := belK hb kD2 zD; replace kD3 := belK hb kD3 zD; replace kD4 := belK hb kD4 zD; replace zD := Nat.lt_of_lt_of_le zD hb.size
  replace hBo := hBo.trans (hb.mono hBo.size)
  clear hb
  all_goals go_wp2_with fail
  all_goals first | go_ret | go_ret2
  all_goals exact ⟨rfl, hBo⟩
end Go.Proofs.YtlpjaflolnggnaaGreatDoor
