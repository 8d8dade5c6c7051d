/-
  NUMBERS, ROUNDED, IN THE DOCUMENT: is it whole, a small one; down and up to whole ones.
-/
import Derived.Test.YtbgmnpabclfjaaaGreatDoorRound1
namespace Go.Proofs.YtbgmnpabclfjaaaGreatDoor
open Go.RowKit Go.Shelf
set_option linter.unusedSimpArgs false
set_option linter.unusedVariables false

theorem blen_le_iff (n k : Nat) : Nt.blen n ≤ k ↔ n < 2 ^ k := by
  unfold Nt.blen
  split
  · rename_i h; subst h; exact ⟨fun _ => Nat.pow_pos (by omega), fun _ => Nat.zero_le _⟩
  · rename_i h
    rw [← Nat.log2_lt h]; omega
theorem wl_of_ok {q : Rt} (h : RtOk q) : wl (rb q) (rn q) (rd q) = q := by
  have e1 : Nt.V (rn q) = q.num := Nt.V_E _
  have e2 : Nt.V (rd q) = q.den := Nt.V_E _
  have hr : rightB (rb q) (rn q) (rd q) = true := (rightB_iff _ _ _).2 (by rw [e1, e2]; exact ⟨rfl, rfl, h⟩)
  unfold wl
  rw [if_pos hr, e1, e2]
  rfl
theorem mk_one {f : Int} (h : Nt.blen f.natAbs ≤ 256) : mkR f 1 = ⟨zb f, f.natAbs, 1⟩ ∧ mkE f 1 = 0 := by
  have hN : mkN f 1 = f.natAbs := by unfold mkN; simp
  have hD : mkD f 1 = 1 := by unfold mkD; simp
  obtain ⟨e1, e2⟩ := mk_fine (x := f) (y := 1) (by decide) (by rw [hN, hD, show Nt.blen 1 = 1 from by decide]; omega)
  rw [e1, e2, hN, hD, zb_one]
  refine ⟨?_, rfl⟩
  have hz := zb_iff f
  generalize zb f = b at *
  have : ((b != false) && decide (f.natAbs ≠ 0)) = b := by
    cases b with
    | false => rfl
    | true =>
      have : f < 0 := hz.1 rfl
      have : f.natAbs ≠ 0 := by omega
      simp [this]
  rw [this]
set_option maxRecDepth 100000 in
set_option maxHeartbeats 4000000 in
theorem refOne_any (w : World) : Calls Tryz.prog 47 #[] w fun e w' => e = .returned (.agg #[.bool (zb 1), .string (zt 1)]) ∧ Below w.heap.size w w' := by
  have HO := Lib.hid (fun w => refOf_z 1 w (by omega) (by omega))
  generalize zb 1 = b at *
  generalize zt 1 = t at *
  go_enter Tryz.func47, Tryz.ntmps47
  go_wp2_with fail
  obtain ⟨s11, hws⟩ : ∃ s, s = (w.alloc (.cells #[.bool false, .string ⟨#[]⟩] 44)) := ⟨_, rfl⟩
  have hBs : Below w.heap.size w s11 := by rw [hws]; exact ((Below.refl w.heap.size w).alloc (by simp) _)
  obtain ⟨C, hdC⟩ : ∃ b, b = w.heap.size := ⟨_, rfl⟩
  have hsz : s11.heap.size = w.heap.size + 1 := by rw [hws]; simp
  have kC0 : s11.cell? ⟨C, 0, none⟩ = some (.bool false) := by rw [hws]; simp [go_sem, hdC]
  have fC0 : s11.frozen? ⟨C, 0, none⟩ = false := by rw [hws]; simp [go_sem, hdC]
  have kC1 : s11.cell? ⟨C, 1, none⟩ = some (.string ⟨#[]⟩) := by rw [hws]; simp [go_sem, hdC]
  have fC1 : s11.frozen? ⟨C, 1, none⟩ = false := by rw [hws]; simp [go_sem, hdC]
  have zC : C < s11.heap.size := by omega
  have lC : w.heap.size ≤ C := by have := Nat.le_refl w.heap.size; omega
  rw [← hws]
  try rw [← hdC]
  clear hws hsz hdC
  have hBo := hBs; clear hBs
  refine (HO.out _).mono ?_; rintro e s12 ⟨rfl, hb⟩
  replace kC0 := belK hb kC0 zC; replace fC0 := belF hb fC0 zC; replace kC1 := belK hb kC1 zC; replace fC1 := belF hb fC1 zC; replace zC := Nat.lt_of_lt_of_le zC hb.size
  replace hBo := hBo.trans (hb.mono hBo.size)
  clear hb
  all_goals go_wp2_with fail
  all_goals refine bodyPost_ret (v := .agg #[.bool b, .string t]) (by simp [results, Tryz.results47, go_sem, kC0, kC1, zC]) rfl ⟨rfl, ?_⟩
  all_goals exact ((hBo.setCell lC _).setCell lC _)
theorem refFloor_zz (x y q r : Int) (w : World) (hx : (zt x).size ≤ 300) (hy : (zt y).size ≤ 300) (h0 : y ≠ 0) (hq : flq x y = q) (hr : flr x y = r) :
    Calls Tryz.prog 67 #[.agg #[.bool (zb x), .string (zt x)], .agg #[.bool (zb y), .string (zt y)]] w fun e w' => e = .returned (.tuple #[.agg #[.bool (zb q), .string (zt q)], .agg #[.bool (zb r), .string (zt r)], .int .i64 0]) ∧ Below w.heap.size w w' :=
  refFloor_any (zb x) (zb y) (zt x) (zt y) q r w hx hy (V_ne h0) (by rw [sI_z, sI_z, hq]) (by rw [sI_z, sI_z, hr])
theorem topI_abs (q : Rt) : ((topI q).natAbs : Int) = (q.num : Int) := by unfold topI; rw [sI_abs]
theorem topI_neg {q : Rt} (h : RtOk q) : topI q < 0 ↔ q.neg = true := by
  rw [← zb_iff, zb_top h]; rfl
end Go.Proofs.YtbgmnpabclfjaaaGreatDoor
