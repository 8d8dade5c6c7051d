/-
  LAYER 6's STATEMENTS, WALKED: what is left, where nothing is.
-/
import Derived.Test.YtbgmnpabclfjaaaGreatDoorRound18
import Derived.Test.YtbgmnpabclfjaaaGreatDoorRound17
import Derived.Test.YtbgmnpabclfjaaaGreatDoorRound25
namespace Go.Proofs.YtbgmnpabclfjaaaGreatDoor
open Go.RowKit Go.Shelf
set_option linter.unusedSimpArgs false
set_option linter.unusedVariables false

set_option maxRecDepth 100000 in
set_option maxHeartbeats 16000000 in
theorem roundMods_not (n1 n2 : Bool) (a1 d1 a2 d2 : ByteArray) (w : World) (ha1 : a1.size ≤ 140737488351232) (hd1 : d1.size ≤ 140737488351232) (ha2 : a2.size ≤ 140737488351232) (hd2 : d2.size ≤ 140737488351232) (hn : modE (wl n1 a1 d1) (wl n2 a2 d2) ≠ 0) :
    Calls Tryz.prog 6 #[.agg #[.bool n1, .string a1, .string d1], .agg #[.bool n2, .string a2, .string d2]] w fun e w' => e = .returned (.bool true) ∧ Below w.heap.size w w' := by
  have HK := Lib.hid known6_any
  obtain ⟨q, hq⟩ : ∃ q, modR (wl n1 a1 d1) (wl n2 a2 d2) = q := ⟨_, rfl⟩
  obtain ⟨c, hc⟩ : ∃ c, modE (wl n1 a1 d1) (wl n2 a2 d2) = c := ⟨_, rfl⟩
  have H1 := Lib.hid (fun w => roundMod_any n1 n2 a1 d1 a2 d2 q c w ha1 hd1 ha2 hd2 hq hc)
  have H2 := Lib.hid (fun w => refMod6_any n1 n2 a1 d1 a2 d2 q c w ha1 hd1 ha2 hd2 hq hc)
  have hw1 : ¬ c = 0 := by rw [← hc]; exact hn
  have hw2 : (c == 0) = false := by simpa using hw1
  have hw3 : (c != 0) = true := by simpa using hw1
  clear hq hc hn ha1 hd1 ha2 hd2
  go_enter Tryz.func6, Tryz.ntmps6
  go_wp2_with fail
  obtain ⟨s1, hws⟩ : ∃ s, s = ((w.alloc (.cells #[.bool n1, .string a1, .string d1] 23)).alloc (.cells #[.bool n2, .string a2, .string d2] 23)) := ⟨_, rfl⟩
  have hBs : Below w.heap.size w s1 := by rw [hws]; exact (((Below.refl w.heap.size w).alloc (by simp) _).alloc (by simp) _)
  obtain ⟨A, hdA⟩ : ∃ b, b = w.heap.size := ⟨_, rfl⟩
  obtain ⟨B, hdB⟩ : ∃ b, b = w.heap.size + 1 := ⟨_, rfl⟩
  have hsz : s1.heap.size = w.heap.size + 1 + 1 := by rw [hws]; simp
  have kA0 : s1.cell? ⟨A, 0, none⟩ = some (.bool n1) := by rw [hws]; simp [go_sem, hdA, hdB]
  have kA1 : s1.cell? ⟨A, 1, none⟩ = some (.string a1) := by rw [hws]; simp [go_sem, hdA, hdB]
  have kA2 : s1.cell? ⟨A, 2, none⟩ = some (.string d1) := by rw [hws]; simp [go_sem, hdA, hdB]
  have zA : A < s1.heap.size := by omega
  have lA : w.heap.size ≤ A := by have := Nat.le_refl w.heap.size; omega
  have kB0 : s1.cell? ⟨B, 0, none⟩ = some (.bool n2) := by rw [hws]; simp [go_sem, hdA, hdB]
  have kB1 : s1.cell? ⟨B, 1, none⟩ = some (.string a2) := by rw [hws]; simp [go_sem, hdA, hdB]
  have kB2 : s1.cell? ⟨B, 2, none⟩ = some (.string d2) := by rw [hws]; simp [go_sem, hdA, hdB]
  have zB : B < s1.heap.size := by omega
  have lB : w.heap.size ≤ B := by have := Nat.le_refl w.heap.size; omega
  rw [← hws]
  try rw [← hdB]
  try rw [← hdA]
  clear hws hsz hdA hdB
  have hBo := hBs; clear hBs
  refine (H1.out _).mono ?_; rintro e s2 ⟨rfl, hb⟩
  replace kA0 := belK hb kA0 zA; replace kA1 := belK hb kA1 zA; replace kA2 := belK hb kA2 zA; replace zA := belZ zA hb
  replace kB0 := belK hb kB0 zB; replace kB1 := belK hb kB1 zB; replace kB2 := belK hb kB2 zB; replace zB := belZ zB hb
  replace hBo := hBo.trans (hb.mono hBo.size)
  clear hb
  go_wp2_with fail
  obtain ⟨s3, hws⟩ : ∃ s, s = (s2.alloc (.cells #[.bool (rb q), .string (rn q), .string (rd q)] 23)) := ⟨_, rfl⟩
  have hBs : Below w.heap.size w s3 := by rw [hws]; exact ((hBo).alloc (by exact hBo.size) _)
  obtain ⟨X, hdX⟩ : ∃ b, b = s2.heap.size := ⟨_, rfl⟩
  have hsz : s3.heap.size = s2.heap.size + 1 := by rw [hws]; simp
  have hQC : ∀ p v, s2.cell? p = some v → s3.cell? p = some v := fun p v h => by rw [hws]; exact (alK h)
  have hQZ : ∀ b, b < s2.heap.size → b < s3.heap.size := fun b h => by omega
  replace kA0 := hQC _ _ kA0; replace kA1 := hQC _ _ kA1; replace kA2 := hQC _ _ kA2; replace zA := hQZ _ zA
  replace kB0 := hQC _ _ kB0; replace kB1 := hQC _ _ kB1; replace kB2 := hQC _ _ kB2; replace zB := hQZ _ zB
  clear hQC hQZ
  have kX0 : s3.cell? ⟨X, 0, none⟩ = some (.bool (rb q)) := by rw [hws]; simp [go_sem, hdX]
  have kX1 : s3.cell? ⟨X, 1, none⟩ = some (.string (rn q)) := by rw [hws]; simp [go_sem, hdX]
  have kX2 : s3.cell? ⟨X, 2, none⟩ = some (.string (rd q)) := by rw [hws]; simp [go_sem, hdX]
  have zX : X < s3.heap.size := by omega
  have lX : w.heap.size ≤ X := by have := hBo.size; omega
  rw [← hws]
  try rw [← hdX]
  clear hBo
  clear hws hsz hdX
  have hBo := hBs; clear hBs
  refine (H2.out _).mono ?_; rintro e s4 ⟨rfl, hb⟩
  replace kA0 := belK hb kA0 zA; replace kA1 := belK hb kA1 zA; replace kA2 := belK hb kA2 zA; replace zA := belZ zA hb
  replace kB0 := belK hb kB0 zB; replace kB1 := belK hb kB1 zB; replace kB2 := belK hb kB2 zB; replace zB := belZ zB hb
  replace kX0 := belK hb kX0 zX; replace kX1 := belK hb kX1 zX; replace kX2 := belK hb kX2 zX; replace zX := belZ zX hb
  replace hBo := hBo.trans (hb.mono hBo.size)
  clear hb
  go_wp2_with fail
  obtain ⟨s5, hws⟩ : ∃ s, s = (s4.alloc (.cells #[.bool (rb q), .string (rn q), .string (rd q)] 23)) := ⟨_, rfl⟩
  have hBs : Below w.heap.size w s5 := by rw [hws]; exact ((hBo).alloc (by exact hBo.size) _)
  obtain ⟨Y, hdY⟩ : ∃ b, b = s4.heap.size := ⟨_, rfl⟩
  have hsz : s5.heap.size = s4.heap.size + 1 := by rw [hws]; simp
  have hQC : ∀ p v, s4.cell? p = some v → s5.cell? p = some v := fun p v h => by rw [hws]; exact (alK h)
  have hQZ : ∀ b, b < s4.heap.size → b < s5.heap.size := fun b h => by omega
  replace kA0 := hQC _ _ kA0; replace kA1 := hQC _ _ kA1; replace kA2 := hQC _ _ kA2; replace zA := hQZ _ zA
  replace kB0 := hQC _ _ kB0; replace kB1 := hQC _ _ kB1; replace kB2 := hQC _ _ kB2; replace zB := hQZ _ zB
  replace kX0 := hQC _ _ kX0; replace kX1 := hQC _ _ kX1; replace kX2 := hQC _ _ kX2; replace zX := hQZ _ zX
  clear hQC hQZ
  have kY0 : s5.cell? ⟨Y, 0, none⟩ = some (.bool (rb q)) := by rw [hws]; simp [go_sem, hdY]
  have kY1 : s5.cell? ⟨Y, 1, none⟩ = some (.string (rn q)) := by rw [hws]; simp [go_sem, hdY]
  have kY2 : s5.cell? ⟨Y, 2, none⟩ = some (.string (rd q)) := by rw [hws]; simp [go_sem, hdY]
  have zY : Y < s5.heap.size := by omega
  have lY : w.heap.size ≤ Y := by have := hBo.size; omega
  rw [← hws]
  try rw [← hdY]
  clear hBo
  clear hws hsz hdY
  have hBo := hBs; clear hBs
  have hud : undef = Value.tuple #[] := rfl
  have HF : Hid (∀ W, Below s5.heap.size s5 W → Below w.heap.size w W) := fun W hW => hBo.trans (hW.mono hBo.size)
  clear hBo
  first | (go_region_with (first
    | (rw [if_neg (by exact Bool.false_ne_true)])
    | (go_at_call 18; refine (HK.out _).mono ?_; rintro e x6 ⟨rfl, hbx⟩; have hTx : Below s5.heap.size s5 x6 := (by first | exact (Below.refl _ _).drew.trans hbx | exact Below.trans (by assumption) (hbx.mono (Below.size (by assumption))) | exact (Below.refl _ _).trans hbx); obtain ⟨hcx, hfx⟩ := bcell hTx))) | fail
  all_goals go_wp2_with fail
  all_goals first | go_ret | go_ret2
  all_goals exact ⟨rfl, HF.out _ (by assumption)⟩
end Go.Proofs.YtbgmnpabclfjaaaGreatDoor
