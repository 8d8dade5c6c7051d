/-
  LAYER 4's STATEMENTS, WALKED: texts.
-/
import Derived.Test.YtjbpipbmcicjiaaGreatDoorWhole10
import Derived.Test.YtjbpipbmcicjiaaGreatDoorWhole9
namespace Go.Proofs.YtjbpipbmcicjiaaGreatDoor
open Go.RowKit Go.Shelf

theorem wparse_form (s : ByteArray) : ∃ b t c, wparse s = .tuple #[.agg #[.bool b, .string t], .int .i64 c] := by
  rcases wparse_ways s with ⟨c, _, _, h⟩ | ⟨_, h⟩
  · exact ⟨_, _, _, h⟩
  · exact ⟨_, _, _, h⟩

set_option maxRecDepth 100000 in
set_option maxHeartbeats 4000000 in
theorem wholeTexts_any (neg : Bool) (m s : ByteArray) (w : World) (hm : m.size ≤ maxLen) (hs : s.size ≤ maxLen) :
    Calls Tryz.prog 4 #[.agg #[.bool neg, .string m], .string s] w fun e w' => e = .returned (.bool true) ∧ Below w.heap.size w w' := by
  have HK := Lib.hid known4_any
  have hB := (Below.refl w.heap.size w).alloc (Nat.le_refl _) (Obj.cells #[.bool neg, .string m] 23)
  unfold maxLen at hm
  have h1 := fun w => wholeParse_any s w hs
  have h2 := fun w => refParse4_any s w hs
  obtain ⟨b, t, c, hf⟩ := wparse_form s
  rw [hf] at h1 h2
  have H1 := Lib.hid h1
  have H2 := Lib.hid h2
  clear h1 h2 hf
  by_cases h : m.size ≤ 150
  · have hes := Nat.le_trans (Nt.E_size_V m) h
    obtain ⟨k0, hk0⟩ : ∃ k, k = 75 := ⟨_, rfl⟩
    have h10 := Nt.lt_ten (k := k0) hes (by omega)
    obtain ⟨m0, hm0⟩ : ∃ m, 5 * k0 = m + 1 := ⟨5 * k0 - 1, by omega⟩
    rw [hm0] at h10
    obtain ⟨hwb, hws⟩ := wd_back neg (Nt.V m) m0 h10 (by omega)
    have h3 := fun w => wholeText_any neg m w (by omega)
    have h4 := fun w => refText4_any neg m w (by omega)
    have h5 := fun w => wholeParse_any (Wd neg (Nt.V m)) w (by unfold maxLen; omega)
    have h6 := fun w => refMake_any neg m w
    rw [hwb] at h5
    unfold mkW at h5 h6
    generalize Wd neg (Nt.V m) = S at *
    generalize sgn neg (Nt.V m) = b2 at *
    generalize Nt.E (Nt.V m) = t2 at *
    have H3 := Lib.hid h3
    have H4 := Lib.hid h4
    have H5 := Lib.hid h5
    have H6 := Lib.hid h6
    clear h3 h4 h5 h6 hwb hws h10 hm0 hk0 hes
    go_enter Tryz.func4, Tryz.ntmps4
    go_wp2_with fail
    refine (H1.out _).mono ?_; rintro e w1 ⟨rfl, hb1⟩; obtain ⟨hc1, hf1⟩ := bcell hb1; have hz1 : w.heap.size < w1.heap.size := (by have := hb1.size; simp at this; omega)
    go_wp2_with fail
    refine (H2.out _).mono ?_; rintro e w2 ⟨rfl, hb2⟩; obtain ⟨hc2, hf2⟩ := bcell hb2; have hz2 : w.heap.size < w2.heap.size := (by have := hb2.size; simp at this; omega); have hz2b : w1.heap.size < w2.heap.size := (by have := hb2.size; simp at this; omega)
    have hz1c : w.heap.size < w1.heap.size + 1 := by omega
    go_wp2_with fail
    refine (H3.out _).mono ?_; rintro e w3 ⟨rfl, hb3⟩
    go_wp2_with fail
    refine (H5.out _).mono ?_; rintro e w4 ⟨rfl, hb4⟩
    go_wp2_with fail
    have hs1 := hb1.size
    have hs2 := hb2.size
    have hs3 := hb3.size
    have hs4 := hb4.size
    simp at hs1 hs2 hs3
    obtain ⟨hc3, hf3⟩ := bcell hb3
    obtain ⟨hc4, hf4⟩ := bcell hb4
    have hz : w.heap.size < w4.heap.size ∧ w1.heap.size < w4.heap.size ∧ w2.heap.size < w4.heap.size ∧ w.heap.size < w3.heap.size ∧ w1.heap.size < w3.heap.size ∧ w2.heap.size < w3.heap.size ∧ w.heap.size < w2.heap.size + 1 ∧ w1.heap.size < w2.heap.size + 1 := by omega
    obtain ⟨hza, hzb, hzc, hzd, hze, hzf, hzg, hzh⟩ := hz
    have hA : Below w.heap.size w w4 := (((((Below.refl _ _).alloc (Nat.le_refl _) _).trans (hb1.mono (by simp))).alloc (by omega) _).trans (hb2.mono (by simp; omega)) |>.alloc (by omega) _).trans (hb3.mono (by simp; omega)) |>.trans (hb4.mono (by omega))
    have hk0 : (w4.alloc (Obj.cells #[.bool b2, .string t2] 23)).cell? ⟨w.heap.size, 0, none⟩ = some (.bool neg) := by simp [go_sem, hc4, hc3, hc2, hc1, hza, hzd, hzg, hz2, hz1, hz1c]
    have hk1 : (w4.alloc (Obj.cells #[.bool b2, .string t2] 23)).cell? ⟨w.heap.size, 1, none⟩ = some (.string m) := by simp [go_sem, hc4, hc3, hc2, hc1, hza, hzd, hzg, hz2, hz1, hz1c]
    have hk2 : (w4.alloc (Obj.cells #[.bool b2, .string t2] 23)).cell? ⟨w1.heap.size, 0, none⟩ = some (.bool b) := by simp [go_sem, hc4, hc3, hc2, hzb, hze, hzh, hz2b]
    have hk3 : (w4.alloc (Obj.cells #[.bool b2, .string t2] 23)).cell? ⟨w1.heap.size, 1, none⟩ = some (.string t) := by simp [go_sem, hc4, hc3, hc2, hzb, hze, hzh, hz2b]
    have hk4 : (w4.alloc (Obj.cells #[.bool b2, .string t2] 23)).cell? ⟨w2.heap.size, 0, none⟩ = some (.bool b) := by simp [go_sem, hc4, hc3, hzc, hzf]
    have hk5 : (w4.alloc (Obj.cells #[.bool b2, .string t2] 23)).cell? ⟨w2.heap.size, 1, none⟩ = some (.string t) := by simp [go_sem, hc4, hc3, hzc, hzf]
    have hk6 : (w4.alloc (Obj.cells #[.bool b2, .string t2] 23)).cell? ⟨w4.heap.size, 0, none⟩ = some (.bool b2) := by simp [go_sem]
    have hk7 : (w4.alloc (Obj.cells #[.bool b2, .string t2] 23)).cell? ⟨w4.heap.size, 1, none⟩ = some (.string t2) := by simp [go_sem]
    have hA5 := hA.alloc hA.size (Obj.cells #[.bool b2, .string t2] 23)
    have hz5 : w.heap.size < (w4.alloc (Obj.cells #[.bool b2, .string t2] 23)).heap.size ∧ w1.heap.size < (w4.alloc (Obj.cells #[.bool b2, .string t2] 23)).heap.size ∧ w2.heap.size < (w4.alloc (Obj.cells #[.bool b2, .string t2] 23)).heap.size ∧ w4.heap.size < (w4.alloc (Obj.cells #[.bool b2, .string t2] 23)).heap.size := by simp; omega
    clear hc1 hc2 hc3 hc4 hf1 hf2 hf3 hf4 hb1 hb2 hb3 hb4 hs1 hs2 hs3 hs4 hza hzb hzc hzd hze hzf hzg hzh hz1 hz2 hz2b hz1c hA hB
    obtain ⟨hz5a, hz5b, hz5c, hz5d⟩ := hz5
    have HF : Hid (∀ W, Below (w4.alloc (Obj.cells #[.bool b2, .string t2] 23)).heap.size (w4.alloc (Obj.cells #[.bool b2, .string t2] 23)) W → Below w.heap.size w W) := fun W hW => hA5.trans (hW.mono hA5.size)
    clear hA5
    generalize w4.alloc (Obj.cells #[.bool b2, .string t2] 23) = w5 at *
    go_region_held3 (fun w' => w'.cell? ⟨w.heap.size, 0, none⟩ = some (.bool neg) ∧ w'.cell? ⟨w.heap.size, 1, none⟩ = some (.string m) ∧ w'.cell? ⟨w1.heap.size, 0, none⟩ = some (.bool b) ∧ w'.cell? ⟨w1.heap.size, 1, none⟩ = some (.string t) ∧ w'.cell? ⟨w2.heap.size, 0, none⟩ = some (.bool b) ∧ w'.cell? ⟨w2.heap.size, 1, none⟩ = some (.string t) ∧ w'.cell? ⟨w4.heap.size, 0, none⟩ = some (.bool b2) ∧ w'.cell? ⟨w4.heap.size, 1, none⟩ = some (.string t2))
      (go_keep) (first
      | (go_at_call 22; refine (H3.out _).mono ?_; rintro e wx ⟨rfl, hbx⟩; have hTx : Below w5.heap.size w5 wx := (by first | exact (Below.refl _ _).drew.trans hbx | exact (Below.refl _ _).trans hbx | (rename_i hTp; exact hTp.trans (hbx.mono hTp.size)) | exact Below.trans (by assumption) (hbx.mono (Below.size (by assumption)))); obtain ⟨hcx, hfx⟩ := bcell hTx)
      | (go_at_call 23; refine (H4.out _).mono ?_; rintro e wx ⟨rfl, hbx⟩; have hTx : Below w5.heap.size w5 wx := (by first | exact (Below.refl _ _).drew.trans hbx | exact (Below.refl _ _).trans hbx | (rename_i hTp; exact hTp.trans (hbx.mono hTp.size)) | exact Below.trans (by assumption) (hbx.mono (Below.size (by assumption)))); obtain ⟨hcx, hfx⟩ := bcell hTx)
      | (go_at_call 14; refine (H6.out _).mono ?_; rintro e wx ⟨rfl, hbx⟩; have hTx : Below w5.heap.size w5 wx := (by exact Below.trans (by assumption) (hbx.mono (Below.size (by assumption)))); obtain ⟨hcx, hfx⟩ := bcell hTx)
      | (go_at_call 19; refine (HK.out _).mono ?_; rintro e wx ⟨rfl, hbx⟩; have hTx : Below w5.heap.size w5 wx := (by exact Below.trans (by assumption) (hbx.mono (Below.size (by assumption)))); obtain ⟨hcx, hfx⟩ := bcell hTx))
    all_goals go_wp2
    all_goals go_ret
    all_goals exact ⟨rfl, HF.out _ (by assumption)⟩
  · go_enter Tryz.func4, Tryz.ntmps4
    go_wp2_with fail
    refine (chain hB (HK.out _)).mono ?_; clear hB; rintro e w1 ⟨rfl, hB⟩
    go_wp2
    go_ret
    exact ⟨rfl, hB⟩
end Go.Proofs.YtjbpipbmcicjiaaGreatDoor
