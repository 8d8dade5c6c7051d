/-
  LAYER 4's STATEMENTS, WALKED: what every one of them asks.
-/
import Derived.Test.YtjbpipbmcicjiaaGreatDoorWhole8
import Derived.Deep.RegionHeld3
namespace Go.Proofs.YtjbpipbmcicjiaaGreatDoor
open Go.RowKit Go.Shelf

theorem mkW_of {neg b : Bool} {n : Nat} {t : ByteArray} (h1 : sgn neg n = b) (h2 : Nt.E n = t) : mkW neg n = .agg #[.bool b, .string t] := by rw [← h1, ← h2]

/-- a small number as a whole one. -/
def ofV (n : Int) : Value := mkW (decide (n < 0)) n.natAbs

set_option maxRecDepth 100000 in
set_option maxHeartbeats 8000000 in
theorem known4_any (w : World) : Calls Tryz.prog 19 #[] w fun e w' => e = .returned (.bool true) ∧ Below w.heap.size w w' := by
  have h1 := fun w => wholeOf_any (-7) w (by decide) (by decide)
  have h2 := fun w => wholeOf_any 2 w (by decide) (by decide)
  have h3 := fun w => wholeFloor_odd ⟨#[7]⟩ ⟨#[2]⟩ w (by decide) (by decide) (by decide) (by decide)
  have h4 := fun w => wholeParse_any ⟨#[45, 48]⟩ w (by decide)
  have h5 := fun w => wholeOf_any (-5) w (by decide) (by decide)
  have h6 := fun w => wholeSmall_any true ⟨#[5]⟩ w
  have h7 := fun w => wholeOf_any (-4) w (by decide) (by decide)
  have h8 := fun w => wholeOf_any 1 w (by decide) (by decide)
  have h9 := fun w => wholeOf_any (-12) w (by decide) (by decide)
  have h10 := fun w => wholeText_any true ⟨#[12]⟩ w (by decide)
  rw [show mkW (decide ((-7 : Int) < 0)) (-7 : Int).natAbs = .agg #[.bool true, .string ⟨#[7]⟩] from mkW_of (by decide) (by decide)] at h1
  rw [show mkW (decide ((2 : Int) < 0)) (2 : Int).natAbs = .agg #[.bool false, .string ⟨#[2]⟩] from mkW_of (by decide) (by decide)] at h2
  rw [show mkW true (Nt.V ⟨#[7]⟩ / Nt.V ⟨#[2]⟩ + 1) = .agg #[.bool true, .string ⟨#[4]⟩] from mkW_of (by decide) (by decide), show mkW false (Nt.V ⟨#[2]⟩ - Nt.V ⟨#[7]⟩ % Nt.V ⟨#[2]⟩) = .agg #[.bool false, .string ⟨#[1]⟩] from mkW_of (by decide) (by decide)] at h3
  rw [show wparse ⟨#[45, 48]⟩ = .tuple #[.agg #[.bool false, .string ⟨#[]⟩], .int .i64 0] from by rw [wparse, if_neg (by decide), if_neg (by decide), wpFine, mkW_of (b := false) (t := ⟨#[]⟩) (by decide) (by decide)]] at h4
  rw [show mkW (decide ((-5 : Int) < 0)) (-5 : Int).natAbs = .agg #[.bool true, .string ⟨#[5]⟩] from mkW_of (by decide) (by decide)] at h5
  rw [show smallOut true (Nt.V ⟨#[5]⟩) = .tuple #[.int .i64 (-5), .bool true] from by rw [show Nt.V ⟨#[5]⟩ = 5 from by decide]; rfl] at h6
  rw [show mkW (decide ((-4 : Int) < 0)) (-4 : Int).natAbs = .agg #[.bool true, .string ⟨#[4]⟩] from mkW_of (by decide) (by decide)] at h7
  rw [show mkW (decide ((1 : Int) < 0)) (1 : Int).natAbs = .agg #[.bool false, .string ⟨#[1]⟩] from mkW_of (by decide) (by decide)] at h8
  rw [show mkW (decide ((-12 : Int) < 0)) (-12 : Int).natAbs = .agg #[.bool true, .string ⟨#[12]⟩] from mkW_of (by decide) (by decide)] at h9
  rw [show Wd true (Nt.V ⟨#[12]⟩) = ⟨#[45, 49, 50]⟩ from by decide] at h10
  have HO : Hid (∀ (n : Int) (w : World), -9223372036854775808 ≤ n → n ≤ 9223372036854775807 → Calls Tryz.prog 12 #[.int .i64 n] w fun e w' => e = .returned (ofV n) ∧ Below w.heap.size w w') := fun n w a b => wholeOf_any n w a b
  have E7 : Hid (ofV (-4) = .agg #[.bool true, .string ⟨#[4]⟩]) := mkW_of (by decide) (by decide)
  have E8 : Hid (ofV 1 = .agg #[.bool false, .string ⟨#[1]⟩]) := mkW_of (by decide) (by decide)
  have E9 : Hid (ofV (-12) = .agg #[.bool true, .string ⟨#[12]⟩]) := mkW_of (by decide) (by decide)
  have H1 := Lib.hid h1
  have H2 := Lib.hid h2
  have H3 := Lib.hid h3
  have H4 := Lib.hid h4
  have H5 := Lib.hid h5
  have H6 := Lib.hid h6
  have H7 := Lib.hid h7
  have H8 := Lib.hid h8
  have H9 := Lib.hid h9
  have H10 := Lib.hid h10
  have hB := Below.refl w.heap.size w
  clear h1 h2 h3 h4 h5 h6 h7 h8 h9 h10
  go_enter Tryz.func19, Tryz.ntmps19
  go_wp2_with fail
  refine (chain hB (H1.out _)).mono ?_; clear hB; rintro e w1 ⟨rfl, hB⟩
  go_wp2_with fail
  refine (chain hB (H2.out _)).mono ?_; clear hB; rintro e w2 ⟨rfl, hB⟩
  go_wp2_with fail
  refine (chain hB (H3.out _)).mono ?_; clear hB; rintro e w3 ⟨rfl, hB⟩
  go_wp2_with fail
  refine (H4.out _).mono ?_; rintro e w4 ⟨rfl, hb4⟩; obtain ⟨hc4, hf4⟩ := bcell hb4; have hz4a : w3.heap.size < w4.heap.size := (by have := hb4.size; simp at this; omega); have hz4b : w3.heap.size + 1 < w4.heap.size := (by have := hb4.size; simp at this; omega)
  go_wp2_with fail
  refine (H5.out _).mono ?_; rintro e w5 ⟨rfl, hb5⟩; obtain ⟨hc5, hf5⟩ := bcell hb5; have hz5a : w4.heap.size < w5.heap.size := (by have := hb5.size; simp at this; omega)
  go_wp2_with fail
  refine (H6.out _).mono ?_; rintro e w6 ⟨rfl, hb6⟩; obtain ⟨hc6, hf6⟩ := bcell hb6; have hz6a : w5.heap.size ≤ w6.heap.size := hb6.size
  go_wp2_with fail
  have hzz : w3.heap.size < w6.heap.size ∧ w3.heap.size + 1 < w6.heap.size ∧ w4.heap.size < w6.heap.size := by omega
  obtain ⟨hzza, hzzb, hzzc⟩ := hzz
  have hz4c : w3.heap.size < w4.heap.size + 1 := by omega
  have hz4d : w3.heap.size + 1 < w4.heap.size + 1 := by omega
  have hz5b : w3.heap.size < w5.heap.size := by omega
  have hz5c : w3.heap.size + 1 < w5.heap.size := by omega
  have hk0 : w6.cell? ⟨w3.heap.size, 0, none⟩ = some (.bool true) := by simp [go_sem, hc6, hc5, hc4, hz4a, hz4c, hz5b]
  have hk1 : w6.cell? ⟨w3.heap.size, 1, none⟩ = some (.string ⟨#[4]⟩) := by simp [go_sem, hc6, hc5, hc4, hz4a, hz4c, hz5b]
  have hk2 : w6.cell? ⟨w3.heap.size + 1, 0, none⟩ = some (.bool false) := by simp [go_sem, hc6, hc5, hc4, hz4b, hz4d, hz5c]
  have hk3 : w6.cell? ⟨w3.heap.size + 1, 1, none⟩ = some (.string ⟨#[1]⟩) := by simp [go_sem, hc6, hc5, hc4, hz4b, hz4d, hz5c]
  have hk4 : w6.cell? ⟨w4.heap.size, 0, none⟩ = some (.bool false) := by simp [go_sem, hc6, hc5, hz5a]
  have hk5 : w6.cell? ⟨w4.heap.size, 1, none⟩ = some (.string ⟨#[]⟩) := by simp [go_sem, hc6, hc5, hz5a]
  have hsz6 := hb6.size
  have hsz5 := hb5.size
  have HF : Hid (∀ W, Below w6.heap.size w6 W → Below w.heap.size w W) := fun W hW => by
    have hs3 := hB.size
    have h4 : Below w.heap.size w w4 := ((hB.alloc hs3 _).alloc (by simp; omega) _).trans (hb4.mono (by simp; omega))
    have hs4 := h4.size
    have h5 : Below w.heap.size w w5 := (h4.alloc hs4 _).trans (hb5.mono (by simp; omega))
    have h6 := h5.trans (hb6.mono h5.size)
    exact h6.trans (hW.mono h6.size)
  clear hc4 hc5 hc6 hf4 hf5 hf6 hb4 hb5 hb6 hz4a hz4b hz4c hz4d hz5a hz5b hz5c hz6a hsz5 hsz6
  go_region_held3 (fun w' => w'.cell? ⟨w3.heap.size, 0, none⟩ = some (.bool true) ∧ w'.cell? ⟨w3.heap.size, 1, none⟩ = some (.string ⟨#[4]⟩) ∧ w'.cell? ⟨w3.heap.size + 1, 0, none⟩ = some (.bool false) ∧ w'.cell? ⟨w3.heap.size + 1, 1, none⟩ = some (.string ⟨#[1]⟩) ∧ w'.cell? ⟨w4.heap.size, 0, none⟩ = some (.bool false) ∧ w'.cell? ⟨w4.heap.size, 1, none⟩ = some (.string ⟨#[]⟩))
    (go_keep) (first
    | (go_at_call 12; refine (HO.out _ _ ?_ ?_).mono ?_; (decide); (decide); rintro e wx ⟨he, hbx⟩; (first | rw [E7.out] at he | rw [E8.out] at he | rw [E9.out] at he); subst he; have hTx : Below w6.heap.size w6 wx := (by first | exact (Below.refl _ _).drew.trans hbx | exact (Below.refl _ _).trans hbx | (rename_i hTp; exact hTp.trans (hbx.mono hTp.size)) | exact Below.trans (by assumption) (hbx.mono (Below.size (by assumption)))); obtain ⟨hcx, hfx⟩ := bcell hTx)
    | (go_at_call 22; refine (H10.out _).mono ?_; rintro e wd ⟨rfl, hbd⟩; have hTd : Below w6.heap.size w6 wd := (by exact Below.trans (by assumption) (hbd.mono (Below.size (by assumption)))); obtain ⟨hcd, hfd⟩ := bcell hTd; have hzd : w3.heap.size < wd.heap.size ∧ w3.heap.size + 1 < wd.heap.size ∧ w4.heap.size < wd.heap.size := (by have := hTd.size; omega); obtain ⟨hzda, hzdb, hzdc⟩ := hzd))
  all_goals go_wp2
  all_goals go_ret
  all_goals exact ⟨rfl, HF.out _ (by assumption)⟩
end Go.Proofs.YtjbpipbmcicjiaaGreatDoor
