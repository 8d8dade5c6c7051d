/-
  WHOLE NUMBERS: the document's Parse; small ones.
-/
import Derived.Test.YtjbpipbmcicjiaaGreatDoorWhole4
namespace Go.Proofs.YtjbpipbmcicjiaaGreatDoor
open Go.RowKit Go.Shelf

set_option maxRecDepth 100000 in
set_option maxHeartbeats 1000000 in
theorem refParse4_any (s : ByteArray) (w : World) (hs : s.size ≤ maxLen) :
    Calls Tryz.prog 21 #[.string s] w fun e w' => e = .returned (wparse s) ∧ Below w.heap.size w w' := by
  have hs2 : s.size ≤ 9223372036854775807 := hs
  have hwy := wparse_ways s
  have hus := Nat.le_trans (unsigned_size s) hs
  have hP := fun w => refParse_any (unsigned s) w hus
  -- the three ways into the digits
  have hway : (s.size = 0 ∧ minus s = false ∧ unsigned s = s) ∨ (∃ h : 0 < s.size, (((s[0]'h).toNat : Int) == 45) = false ∧ minus s = false ∧ unsigned s = s) ∨ (∃ h : 0 < s.size, (((s[0]'h).toNat : Int) == 45) = true ∧ minus s = true ∧ unsigned s = s.extract 1 s.size) := by
    by_cases h0 : s.size = 0
    · have := minus_none s h0
      exact Or.inl ⟨h0, this, by rw [unsigned, this]; rfl⟩
    · have hp : 0 < s.size := by omega
      have hm := minus_head s hp
      by_cases h1 : (s[0]'hp == 45) = true
      · rw [h1] at hm
        have h2 : s[0]'hp = 45 := by simpa using h1
        exact Or.inr (Or.inr ⟨hp, by rw [h2]; rfl, hm, by rw [unsigned, hm]; rfl⟩)
      · have h1' : (s[0]'hp == 45) = false := by simpa using h1
        rw [h1'] at hm
        have h2 : (s[0]'hp).toNat ≠ 45 := fun h => h1 (by
          rw [beq_iff_eq]; apply UInt8.toNat_inj.1; rw [h]; rfl)
        exact Or.inr (Or.inl ⟨hp, by simp; omega, hm, by rw [unsigned, hm]; rfl⟩)
  obtain ⟨mn, hmn⟩ : ∃ mn, mn = minus s := ⟨_, rfl⟩
  obtain ⟨u, hu⟩ : ∃ u, u = unsigned s := ⟨_, rfl⟩
  rw [← hu] at hwy hus hP hway
  rw [← hmn] at hwy hway
  rcases hwy with ⟨c, hc0, hp, hw⟩ | ⟨hp, hw⟩
  · rw [hp] at hP
    have HP := Lib.hid hP
    have HW := Lib.hid hw
    have hc1 : (c == 0) = false := by simpa using hc0
    have hc2 : ¬ c = 0 := hc0
    clear hP hp hw hmn hu hus hc0
    rcases hway with ⟨h0, rfl, rfl⟩ | ⟨hsz, hh, rfl, rfl⟩ | ⟨hsz, hh, rfl, hux⟩
    · go_enter Tryz.func21, Tryz.ntmps21
      go_wp2_with (go_at_call 63; refine (HP.out _).mono ?_; rintro e w2 ⟨rfl, hb2⟩; obtain ⟨hcc, hf⟩ := bcell hb2; have hz2 : w.heap.size < w2.heap.size := by have := hb2.size; simp at this; omega)
      refine bodyPost_ret (v := .tuple #[.agg #[.bool false, .string ⟨#[]⟩], .int .i64 c]) (by simp [results, Tryz.results21, go_sem, hcc]) rfl ⟨congrArg Ending.returned HW.out.symm, ?_⟩
      exact ((((Below.refl w.heap.size w).alloc (Nat.le_refl _) _).trans (hb2.mono (by simp))).setCell (by simp) _).setCell (by simp) _
    · go_enter Tryz.func21, Tryz.ntmps21
      go_wp2_with (go_at_call 63; refine (HP.out _).mono ?_; rintro e w2 ⟨rfl, hb2⟩; obtain ⟨hcc, hf⟩ := bcell hb2; have hz2 : w.heap.size < w2.heap.size := by have := hb2.size; simp at this; omega)
      refine bodyPost_ret (v := .tuple #[.agg #[.bool false, .string ⟨#[]⟩], .int .i64 c]) (by simp [results, Tryz.results21, go_sem, hcc]) rfl ⟨congrArg Ending.returned HW.out.symm, ?_⟩
      exact ((((Below.refl w.heap.size w).alloc (Nat.le_refl _) _).trans (hb2.mono (by simp))).setCell (by simp) _).setCell (by simp) _
    · have hux2 : s.extract 1 s.size = u := hux.symm
      have hs1 : 1 ≤ s.size := by omega
      clear hux
      go_enter Tryz.func21, Tryz.ntmps21
      go_wp2_with (go_at_call 63; refine (HP.out _).mono ?_; rintro e w2 ⟨rfl, hb2⟩; obtain ⟨hcc, hf⟩ := bcell hb2; have hz2 : w.heap.size < w2.heap.size := by have := hb2.size; simp at this; omega)
      refine bodyPost_ret (v := .tuple #[.agg #[.bool false, .string ⟨#[]⟩], .int .i64 c]) (by simp [results, Tryz.results21, go_sem, hcc]) rfl ⟨congrArg Ending.returned HW.out.symm, ?_⟩
      exact ((((Below.refl w.heap.size w).alloc (Nat.le_refl _) _).trans (hb2.mono (by simp))).setCell (by simp) _).setCell (by simp) _
  · rw [hp] at hP
    obtain ⟨x, hx⟩ : ∃ x, x = Nt.dv u.data.toList := ⟨_, rfl⟩
    rw [← hx] at hP
    obtain ⟨t, ht⟩ : ∃ t, t = Nt.E x := ⟨_, rfl⟩
    rw [← ht] at hP
    obtain ⟨b, hb⟩ : ∃ b, b = sgn mn x := ⟨_, rfl⟩
    have HM := Lib.hid (fun w => (by
      have h := refMake_any mn t w
      rw [show Nt.V t = x from by rw [ht, Nt.V_E]] at h
      unfold mkW at h
      rw [← hb, ← ht] at h
      exact h : Calls Tryz.prog 14 #[.bool mn, .string t] w fun e w' => e = .returned (.agg #[.bool b, .string t]) ∧ Below w.heap.size w w'))
    have HP := Lib.hid hP
    have hw2 : wparse s = .tuple #[.agg #[.bool b, .string t], .int .i64 0] := by
      rw [hw, wpFine, ← hx]
      unfold mkW
      rw [← hb, ← ht]
    have HW := Lib.hid hw2
    clear hP hp hw hmn hu hus hx ht hb hw2
    have hfin : ∀ (w2 w3 : World), Below (w.alloc (Obj.cells #[.bool false, .string ⟨#[]⟩] 23)).heap.size (w.alloc (Obj.cells #[.bool false, .string ⟨#[]⟩] 23)) w2 → Below w2.heap.size w2 w3 → Below w.heap.size w w3 := fun w2 w3 hb2 hb3 => by
      have h1 := ((Below.refl w.heap.size w).alloc (Nat.le_refl _) (Obj.cells #[.bool false, .string ⟨#[]⟩] 23)).trans (hb2.mono (by simp))
      exact h1.trans (hb3.mono h1.size)
    have HFin := Lib.hid hfin
    clear hfin
    rcases hway with ⟨h0, rfl, rfl⟩ | ⟨hsz, hh, rfl, rfl⟩ | ⟨hsz, hh, rfl, hux⟩
    · go_enter Tryz.func21, Tryz.ntmps21
      go_wp2_with (first
        | (go_at_call 63; refine (HP.out _).mono ?_; rintro e w2 ⟨rfl, hb2⟩; obtain ⟨hcc, hf⟩ := bcell hb2; have hz2 : w.heap.size < w2.heap.size := by have := hb2.size; simp at this; omega)
        | (go_at_call 14; refine (HM.out _).mono ?_; rintro e w3 ⟨rfl, hb3⟩; obtain ⟨hc3, hf3⟩ := bcell hb3))
      refine bodyPost_ret (v := .tuple #[.agg #[.bool b, .string t], .int .i64 0]) (by simp [results, Tryz.results21, go_sem, hcc, hz2, hc3]) rfl ⟨congrArg Ending.returned HW.out.symm, ?_⟩
      exact ((HFin.out _ _ hb2 hb3).setCell (by simp) _).setCell (by simp) _
    · go_enter Tryz.func21, Tryz.ntmps21
      go_wp2_with (first
        | (go_at_call 63; refine (HP.out _).mono ?_; rintro e w2 ⟨rfl, hb2⟩; obtain ⟨hcc, hf⟩ := bcell hb2; have hz2 : w.heap.size < w2.heap.size := by have := hb2.size; simp at this; omega)
        | (go_at_call 14; refine (HM.out _).mono ?_; rintro e w3 ⟨rfl, hb3⟩; obtain ⟨hc3, hf3⟩ := bcell hb3))
      refine bodyPost_ret (v := .tuple #[.agg #[.bool b, .string t], .int .i64 0]) (by simp [results, Tryz.results21, go_sem, hcc, hz2, hc3]) rfl ⟨congrArg Ending.returned HW.out.symm, ?_⟩
      exact ((HFin.out _ _ hb2 hb3).setCell (by simp) _).setCell (by simp) _
    · have hux2 : s.extract 1 s.size = u := hux.symm
      have hs1 : 1 ≤ s.size := by omega
      clear hux
      go_enter Tryz.func21, Tryz.ntmps21
      go_wp2_with (first
        | (go_at_call 63; refine (HP.out _).mono ?_; rintro e w2 ⟨rfl, hb2⟩; obtain ⟨hcc, hf⟩ := bcell hb2; have hz2 : w.heap.size < w2.heap.size := by have := hb2.size; simp at this; omega)
        | (go_at_call 14; refine (HM.out _).mono ?_; rintro e w3 ⟨rfl, hb3⟩; obtain ⟨hc3, hf3⟩ := bcell hb3))
      refine bodyPost_ret (v := .tuple #[.agg #[.bool b, .string t], .int .i64 0]) (by simp [results, Tryz.results21, go_sem, hcc, hz2, hc3]) rfl ⟨congrArg Ending.returned HW.out.symm, ?_⟩
      exact ((HFin.out _ _ hb2 hb3).setCell (by simp) _).setCell (by simp) _
end Go.Proofs.YtjbpipbmcicjiaaGreatDoor
