/-
  NUMBERS: the document's Right, Zero, Well, numerators and denominators; the program's Of, parts.
-/
import Derived.Test.YtbgmnpabclfjaaaGreatDoorRat5
import Derived.Deep.QuietTactic
import Derived.BigQuiet
namespace Go.Proofs.YtbgmnpabclfjaaaGreatDoor
open Go.RowKit Go.Shelf
set_option linter.unusedSimpArgs false
set_option linter.unusedVariables false

theorem below_drewN {B : Nat} {a w : World} (h : Below B a w) (n : Nat) : Below B a (w.drewN n) := ⟨h.os, h.tape, h.output, h.size, h.block⟩
theorem refTrimS (s : ByteArray) (w : World) : Calls Tryz.prog 109 #[.string s] w fun e w' => e = .returned (.string (Nt.E (Nt.V s))) ∧ w' = w :=
  (refTrim_any s w).mono fun _ _ ⟨he, hw⟩ => ⟨he, hw.symm⟩
theorem size_blen {n : Nat} (h : (Nt.E n).size ≤ 32) : Nt.blen n ≤ 256 := by
  by_cases h0 : 0 < (Nt.E n).size
  · have ht := Nt.blen_top n h0
    have : Nt.blen ((Nt.E n)[0]'h0).toNat ≤ 8 := by
      have hl : ((Nt.E n)[0]'h0).toNat < 256 := UInt8.toNat_lt _
      generalize ((Nt.E n)[0]'h0).toNat = v at *
      unfold Nt.blen
      split
      · omega
      · rename_i hv
        have := (Nat.log2_lt hv (k := 8)).2 hl
        omega
    omega
  · have := Nt.E_nil n h0
    subst this
    decide
theorem not_right {neg : Bool} {a d : ByteArray} (h : ¬ (Nt.E (Nt.V a) = a ∧ Nt.E (Nt.V d) = d ∧ RtOk ⟨neg, Nt.V a, Nt.V d⟩)) : rightB neg a d = false := by
  cases hh : rightB neg a d with
  | false => rfl
  | true => exact absurd ((rightB_iff _ _ _).1 hh) h
theorem toList_ne {d : ByteArray} (h : d ≠ ⟨#[]⟩) : ¬ d.toList = [] ∧ d.toList.isEmpty = false := by
  have h1 := toList_beq h
  rw [show (⟨#[]⟩ : ByteArray).toList = [] from by rw [ByteArray.toList_eq]] at h1
  have h2 : ¬ d.toList = [] := by simpa using h1
  exact ⟨h2, by simpa using h2⟩
set_option maxRecDepth 100000 in
set_option maxHeartbeats 8000000 in
theorem refRight_any (neg : Bool) (a d : ByteArray) (w : World) (ha : a.size ≤ 140737488351232) (hd : d.size ≤ 140737488351232) :
    Calls Tryz.prog 85 #[.agg #[.bool neg, .string a, .string d]] w fun e w' => e = .returned (.bool (rightB neg a d)) ∧ Below w.heap.size w w' := by
  have h1 := fun w => refTrimS a w
  have h2 := fun w => refTrimS d w
  by_cases sa : a.size ≤ 32
  case neg =>
    rw [not_right (fun h => sa (by rw [← h.1]; exact blen_size h.2.2.2.2.1))]
    have t1 : decide ((32 : Int) < (a.size : Int)) = true := decide_eq_true (by omega)
    clear h1 h2
    go_enter Tryz.func85, Tryz.ntmps85
    go_wp2_with fail
    obtain ⟨s1, hws⟩ : ∃ s, s = (w.alloc (.cells #[.bool neg, .string a, .string d] 23)) := ⟨_, rfl⟩
    have hBs : Below w.heap.size w s1 := by rw [hws]; exact ((Below.refl w.heap.size w).alloc (by simp) _)
    obtain ⟨A, hdA⟩ : ∃ b, b = w.heap.size := ⟨_, rfl⟩
    have hsz : s1.heap.size = w.heap.size + 1 := by rw [hws]; simp
    have kA0 : s1.cell? ⟨A, 0, none⟩ = some (.bool neg) := by rw [hws]; simp [go_sem, hdA]
    have kA1 : s1.cell? ⟨A, 1, none⟩ = some (.string a) := by rw [hws]; simp [go_sem, hdA]
    have kA2 : s1.cell? ⟨A, 2, none⟩ = some (.string d) := by rw [hws]; simp [go_sem, hdA]
    have zA : A < s1.heap.size := by omega
    have lA : w.heap.size ≤ A := by have := Nat.le_refl w.heap.size; omega
    rw [← hws]
    try rw [← hdA]
    clear hws hsz hdA
    have hBo := hBs; clear hBs
    go_quiet (fail)
    all_goals go_wp2_with fail
    all_goals first | go_ret | go_ret2
    all_goals exact ⟨rfl, below_drewN hBo _⟩
  have t1 : decide ((32 : Int) < (a.size : Int)) = false := decide_eq_false (by omega)
  by_cases sd : d.size ≤ 32
  case neg =>
    rw [not_right (fun h => sd (by rw [← h.2.1]; exact blen_size h.2.2.2.2.2.1))]
    have t2 : decide ((32 : Int) < (d.size : Int)) = true := decide_eq_true (by omega)
    clear h1 h2
    go_enter Tryz.func85, Tryz.ntmps85
    go_wp2_with fail
    obtain ⟨s2, hws⟩ : ∃ s, s = (w.alloc (.cells #[.bool neg, .string a, .string d] 23)) := ⟨_, rfl⟩
    have hBs : Below w.heap.size w s2 := by rw [hws]; exact ((Below.refl w.heap.size w).alloc (by simp) _)
    obtain ⟨A, hdA⟩ : ∃ b, b = w.heap.size := ⟨_, rfl⟩
    have hsz : s2.heap.size = w.heap.size + 1 := by rw [hws]; simp
    have kA0 : s2.cell? ⟨A, 0, none⟩ = some (.bool neg) := by rw [hws]; simp [go_sem, hdA]
    have kA1 : s2.cell? ⟨A, 1, none⟩ = some (.string a) := by rw [hws]; simp [go_sem, hdA]
    have kA2 : s2.cell? ⟨A, 2, none⟩ = some (.string d) := by rw [hws]; simp [go_sem, hdA]
    have zA : A < s2.heap.size := by omega
    have lA : w.heap.size ≤ A := by have := Nat.le_refl w.heap.size; omega
    rw [← hws]
    try rw [← hdA]
    clear hws hsz hdA
    have hBo := hBs; clear hBs
    go_quiet (fail)
    all_goals go_wp2_with fail
    all_goals first | go_ret | go_ret2
    all_goals exact ⟨rfl, below_drewN hBo _⟩
  have t2 : decide ((32 : Int) < (d.size : Int)) = false := decide_eq_false (by omega)
  by_cases de : d = ⟨#[]⟩
  case pos =>
    subst de
    rw [not_right (fun h => h.2.2.1 (show Nt.V ⟨#[]⟩ = 0 from by decide))]
    clear h1 h2
    go_enter Tryz.func85, Tryz.ntmps85
    go_wp2_with fail
    obtain ⟨s3, hws⟩ : ∃ s, s = (w.alloc (.cells #[.bool neg, .string a, .string ⟨#[]⟩] 23)) := ⟨_, rfl⟩
    have hBs : Below w.heap.size w s3 := by rw [hws]; exact ((Below.refl w.heap.size w).alloc (by simp) _)
    obtain ⟨A, hdA⟩ : ∃ b, b = w.heap.size := ⟨_, rfl⟩
    have hsz : s3.heap.size = w.heap.size + 1 := by rw [hws]; simp
    have kA0 : s3.cell? ⟨A, 0, none⟩ = some (.bool neg) := by rw [hws]; simp [go_sem, hdA]
    have kA1 : s3.cell? ⟨A, 1, none⟩ = some (.string a) := by rw [hws]; simp [go_sem, hdA]
    have kA2 : s3.cell? ⟨A, 2, none⟩ = some (.string ⟨#[]⟩) := by rw [hws]; simp [go_sem, hdA]
    have zA : A < s3.heap.size := by omega
    have lA : w.heap.size ≤ A := by have := Nat.le_refl w.heap.size; omega
    rw [← hws]
    try rw [← hdA]
    clear hws hsz hdA
    have hBo := hBs; clear hBs
    go_quiet (fail)
    all_goals go_wp2_with fail
    all_goals first | go_ret | go_ret2
    all_goals exact ⟨rfl, below_drewN hBo _⟩
  obtain ⟨hnd, hnd2⟩ := toList_ne de
  by_cases ea : Nt.E (Nt.V a) = a
  case neg =>
    rw [not_right (fun h => ea h.1)]
    have hn := toList_beq ea
    generalize Nt.E (Nt.V a) = t at *
    have H1 := Lib.hid h1
    clear h1 h2 ea de
    go_enter Tryz.func85, Tryz.ntmps85
    go_wp2_with fail
    obtain ⟨s4, hws⟩ : ∃ s, s = (w.alloc (.cells #[.bool neg, .string a, .string d] 23)) := ⟨_, rfl⟩
    have hBs : Below w.heap.size w s4 := by rw [hws]; exact ((Below.refl w.heap.size w).alloc (by simp) _)
    obtain ⟨A, hdA⟩ : ∃ b, b = w.heap.size := ⟨_, rfl⟩
    have hsz : s4.heap.size = w.heap.size + 1 := by rw [hws]; simp
    have kA0 : s4.cell? ⟨A, 0, none⟩ = some (.bool neg) := by rw [hws]; simp [go_sem, hdA]
    have kA1 : s4.cell? ⟨A, 1, none⟩ = some (.string a) := by rw [hws]; simp [go_sem, hdA]
    have kA2 : s4.cell? ⟨A, 2, none⟩ = some (.string d) := by rw [hws]; simp [go_sem, hdA]
    have zA : A < s4.heap.size := by omega
    have lA : w.heap.size ≤ A := by have := Nat.le_refl w.heap.size; omega
    rw [← hws]
    try rw [← hdA]
    clear hws hsz hdA
    have hBo := hBs; clear hBs
    go_quiet ((go_at_call 109; exact Calls.quiet_of_same (H1.out _)))
    all_goals go_wp2_with fail
    all_goals first | go_ret | go_ret2
    all_goals exact ⟨rfl, below_drewN hBo _⟩
  rw [ea] at h1
  have H1 := Lib.hid h1
  by_cases ed : Nt.E (Nt.V d) = d
  case neg =>
    rw [not_right (fun h => ed h.2.1)]
    have hn := toList_beq ed
    generalize Nt.E (Nt.V d) = t at *
    have H2 := Lib.hid h2
    clear h1 h2 ea de ed
    go_enter Tryz.func85, Tryz.ntmps85
    go_wp2_with fail
    obtain ⟨s5, hws⟩ : ∃ s, s = (w.alloc (.cells #[.bool neg, .string a, .string d] 23)) := ⟨_, rfl⟩
    have hBs : Below w.heap.size w s5 := by rw [hws]; exact ((Below.refl w.heap.size w).alloc (by simp) _)
    obtain ⟨A, hdA⟩ : ∃ b, b = w.heap.size := ⟨_, rfl⟩
    have hsz : s5.heap.size = w.heap.size + 1 := by rw [hws]; simp
    have kA0 : s5.cell? ⟨A, 0, none⟩ = some (.bool neg) := by rw [hws]; simp [go_sem, hdA]
    have kA1 : s5.cell? ⟨A, 1, none⟩ = some (.string a) := by rw [hws]; simp [go_sem, hdA]
    have kA2 : s5.cell? ⟨A, 2, none⟩ = some (.string d) := by rw [hws]; simp [go_sem, hdA]
    have zA : A < s5.heap.size := by omega
    have lA : w.heap.size ≤ A := by have := Nat.le_refl w.heap.size; omega
    rw [← hws]
    try rw [← hdA]
    clear hws hsz hdA
    have hBo := hBs; clear hBs
    go_quiet (first | (go_at_call 109; with_reducible exact Calls.quiet_of_same (H1.out _)) | (go_at_call 109; with_reducible exact Calls.quiet_of_same (H2.out _)))
    all_goals go_wp2_with fail
    all_goals first | go_ret | go_ret2
    all_goals exact ⟨rfl, below_drewN hBo _⟩
  rw [ed] at h2
  have H2 := Lib.hid h2
  have hri : rightB neg a d = true ↔ RtOk ⟨neg, Nt.V a, Nt.V d⟩ := by rw [rightB_iff]; exact ⟨fun h => h.2.2, fun h => ⟨ea, ed, h⟩⟩
  have ba := size_blen (n := Nt.V a) (by rw [ea]; exact sa)
  have bd := size_blen (n := Nt.V d) (by rw [ed]; exact sd)
  have d0 : Nt.V d ≠ 0 := fun h => de (by rw [← ed, h]; rfl)
  by_cases ae : a = ⟨#[]⟩
  case pos =>
    subst ae
    have hr : rightB neg ⟨#[]⟩ d = (!neg && decide (d = ⟨#[1]⟩)) := by
      rw [Bool.eq_iff_iff, hri, show Nt.V (⟨#[]⟩ : ByteArray) = 0 from by decide]
      simp only [RtOk, Nat.gcd_zero_left, Bool.and_eq_true, Bool.not_eq_true', decide_eq_true_eq]
      constructor
      · rintro ⟨_, h1, _, _, h2⟩
        exact ⟨h2 trivial, by rw [← ed, h1]; decide⟩
      · rintro ⟨h1, h2⟩
        rw [h2]
        exact ⟨by decide, by decide, by decide, by decide, fun _ => h1⟩
    rw [hr]
    clear hri hr ea ed ba bd d0 h1 h2 de
    cases neg
    · by_cases hd1 : d = ⟨#[1]⟩
      · subst hd1
        go_enter Tryz.func85, Tryz.ntmps85
        go_wp2_with fail
        obtain ⟨s6, hws⟩ : ∃ s, s = (w.alloc (.cells #[.bool false, .string ⟨#[]⟩, .string ⟨#[1]⟩] 23)) := ⟨_, rfl⟩
        have hBs : Below w.heap.size w s6 := by rw [hws]; exact ((Below.refl w.heap.size w).alloc (by simp) _)
        obtain ⟨A, hdA⟩ : ∃ b, b = w.heap.size := ⟨_, rfl⟩
        have hsz : s6.heap.size = w.heap.size + 1 := by rw [hws]; simp
        have kA0 : s6.cell? ⟨A, 0, none⟩ = some (.bool false) := by rw [hws]; simp [go_sem, hdA]
        have kA1 : s6.cell? ⟨A, 1, none⟩ = some (.string ⟨#[]⟩) := by rw [hws]; simp [go_sem, hdA]
        have kA2 : s6.cell? ⟨A, 2, none⟩ = some (.string ⟨#[1]⟩) := by rw [hws]; simp [go_sem, hdA]
        have zA : A < s6.heap.size := by omega
        have lA : w.heap.size ≤ A := by have := Nat.le_refl w.heap.size; omega
        rw [← hws]
        try rw [← hdA]
        clear hws hsz hdA
        have hBo := hBs; clear hBs
        go_quiet (first | (go_at_call 109; with_reducible exact Calls.quiet_of_same (H1.out _)) | (go_at_call 109; with_reducible exact Calls.quiet_of_same (H2.out _)))
        all_goals go_wp2_with fail
        all_goals first | go_ret | go_ret2
        all_goals exact ⟨rfl, below_drewN hBo _⟩
      · have hn := toList_one hd1
        have hdd := decide_eq_false hd1
        rw [hdd]
        simp only [Bool.and_false]
        clear hd1 hdd
        go_enter Tryz.func85, Tryz.ntmps85
        go_wp2_with fail
        obtain ⟨s7, hws⟩ : ∃ s, s = (w.alloc (.cells #[.bool false, .string ⟨#[]⟩, .string d] 23)) := ⟨_, rfl⟩
        have hBs : Below w.heap.size w s7 := by rw [hws]; exact ((Below.refl w.heap.size w).alloc (by simp) _)
        obtain ⟨A, hdA⟩ : ∃ b, b = w.heap.size := ⟨_, rfl⟩
        have hsz : s7.heap.size = w.heap.size + 1 := by rw [hws]; simp
        have kA0 : s7.cell? ⟨A, 0, none⟩ = some (.bool false) := by rw [hws]; simp [go_sem, hdA]
        have kA1 : s7.cell? ⟨A, 1, none⟩ = some (.string ⟨#[]⟩) := by rw [hws]; simp [go_sem, hdA]
        have kA2 : s7.cell? ⟨A, 2, none⟩ = some (.string d) := by rw [hws]; simp [go_sem, hdA]
        have zA : A < s7.heap.size := by omega
        have lA : w.heap.size ≤ A := by have := Nat.le_refl w.heap.size; omega
        rw [← hws]
        try rw [← hdA]
        clear hws hsz hdA
        have hBo := hBs; clear hBs
        go_quiet (first | (go_at_call 109; with_reducible exact Calls.quiet_of_same (H1.out _)) | (go_at_call 109; with_reducible exact Calls.quiet_of_same (H2.out _)))
        all_goals go_wp2_with fail
        all_goals first | go_ret | go_ret2
        all_goals exact ⟨rfl, below_drewN hBo _⟩
    · simp only [Bool.not_true, Bool.false_and]
      go_enter Tryz.func85, Tryz.ntmps85
      go_wp2_with fail
      obtain ⟨s8, hws⟩ : ∃ s, s = (w.alloc (.cells #[.bool true, .string ⟨#[]⟩, .string d] 23)) := ⟨_, rfl⟩
      have hBs : Below w.heap.size w s8 := by rw [hws]; exact ((Below.refl w.heap.size w).alloc (by simp) _)
      obtain ⟨A, hdA⟩ : ∃ b, b = w.heap.size := ⟨_, rfl⟩
      have hsz : s8.heap.size = w.heap.size + 1 := by rw [hws]; simp
      have kA0 : s8.cell? ⟨A, 0, none⟩ = some (.bool true) := by rw [hws]; simp [go_sem, hdA]
      have kA1 : s8.cell? ⟨A, 1, none⟩ = some (.string ⟨#[]⟩) := by rw [hws]; simp [go_sem, hdA]
      have kA2 : s8.cell? ⟨A, 2, none⟩ = some (.string d) := by rw [hws]; simp [go_sem, hdA]
      have zA : A < s8.heap.size := by omega
      have lA : w.heap.size ≤ A := by have := Nat.le_refl w.heap.size; omega
      rw [← hws]
      try rw [← hdA]
      clear hws hsz hdA
      have hBo := hBs; clear hBs
      go_quiet (first | (go_at_call 109; with_reducible exact Calls.quiet_of_same (H1.out _)) | (go_at_call 109; with_reducible exact Calls.quiet_of_same (H2.out _)))
      all_goals go_wp2_with fail
      all_goals first | go_ret | go_ret2
      all_goals exact ⟨rfl, below_drewN hBo _⟩
  obtain ⟨hna, hna2⟩ := toList_ne ae
  have a0 : Nt.V a ≠ 0 := fun h => ae (by rw [← ea, h]; rfl)
  have hg := fun w => refGcd_any a d w (by omega) (by omega)
  have hr : rightB neg a d = decide (Nat.gcd (Nt.V a) (Nt.V d) = 1) := by
    rw [Bool.eq_iff_iff, hri]
    simp only [RtOk, decide_eq_true_eq]
    exact ⟨fun h => h.2.1, fun h => ⟨d0, h, ba, bd, fun h => absurd h a0⟩⟩
  rw [hr]
  by_cases g1 : Nat.gcd (Nt.V a) (Nt.V d) = 1
  case pos =>
    rw [g1, show Nt.E 1 = ⟨#[1]⟩ from by decide] at hg
    rw [decide_eq_true g1]
    have HG := Lib.hid hg
    clear hri hr ea ed ba bd d0 h1 h2 de ae a0 g1 hg
    go_enter Tryz.func85, Tryz.ntmps85
    go_wp2_with fail
    obtain ⟨s9, hws⟩ : ∃ s, s = (w.alloc (.cells #[.bool neg, .string a, .string d] 23)) := ⟨_, rfl⟩
    have hBs : Below w.heap.size w s9 := by rw [hws]; exact ((Below.refl w.heap.size w).alloc (by simp) _)
    obtain ⟨A, hdA⟩ : ∃ b, b = w.heap.size := ⟨_, rfl⟩
    have hsz : s9.heap.size = w.heap.size + 1 := by rw [hws]; simp
    have kA0 : s9.cell? ⟨A, 0, none⟩ = some (.bool neg) := by rw [hws]; simp [go_sem, hdA]
    have kA1 : s9.cell? ⟨A, 1, none⟩ = some (.string a) := by rw [hws]; simp [go_sem, hdA]
    have kA2 : s9.cell? ⟨A, 2, none⟩ = some (.string d) := by rw [hws]; simp [go_sem, hdA]
    have zA : A < s9.heap.size := by omega
    have lA : w.heap.size ≤ A := by have := Nat.le_refl w.heap.size; omega
    rw [← hws]
    try rw [← hdA]
    clear hws hsz hdA
    have hBo := hBs; clear hBs
    go_quiet (first | (go_at_call 109; with_reducible exact Calls.quiet_of_same (H1.out _)) | (go_at_call 109; with_reducible exact Calls.quiet_of_same (H2.out _)))
    go_wp2_with fail
    generalize hws : s9.drewN _ = s10 at *
    replace kA0 : s10.cell? ⟨A, 0, none⟩ = some (.bool neg) := by rw [← hws]; simpa [go_sem] using kA0
    replace kA1 : s10.cell? ⟨A, 1, none⟩ = some (.string a) := by rw [← hws]; simpa [go_sem] using kA1
    replace kA2 : s10.cell? ⟨A, 2, none⟩ = some (.string d) := by rw [← hws]; simpa [go_sem] using kA2
    replace zA : A < s10.heap.size := by rw [← hws]; exact zA
    replace hBo : Below w.heap.size w s10 := by rw [← hws]; exact below_drewN hBo _
    clear hws
    refine (HG.out _).mono ?_; rintro e s11 ⟨rfl, hb⟩
    replace kA0 := belK hb kA0 zA; replace kA1 := belK hb kA1 zA; replace kA2 := belK hb kA2 zA; replace zA := Nat.lt_of_lt_of_le zA hb.size
    replace hBo := hBo.trans (hb.mono hBo.size)
    clear hb
    all_goals go_wp2_with fail
    all_goals first | go_ret | go_ret2
    all_goals exact ⟨rfl, hBo⟩
  · have hn1 : Nt.E (Nat.gcd (Nt.V a) (Nt.V d)) ≠ ⟨#[1]⟩ := fun h => g1 (by
      have := Nt.V_E (Nat.gcd (Nt.V a) (Nt.V d))
      rw [h] at this
      exact this.symm.trans (by decide))
    have hn := toList_one hn1
    rw [decide_eq_false g1]
    generalize Nt.E (Nat.gcd (Nt.V a) (Nt.V d)) = g at *
    have HG := Lib.hid hg
    clear hri hr ea ed ba bd d0 h1 h2 de ae a0 g1 hg hn1
    go_enter Tryz.func85, Tryz.ntmps85
    go_wp2_with fail
    obtain ⟨s12, hws⟩ : ∃ s, s = (w.alloc (.cells #[.bool neg, .string a, .string d] 23)) := ⟨_, rfl⟩
    have hBs : Below w.heap.size w s12 := by rw [hws]; exact ((Below.refl w.heap.size w).alloc (by simp) _)
    obtain ⟨A, hdA⟩ : ∃ b, b = w.heap.size := ⟨_, rfl⟩
    have hsz : s12.heap.size = w.heap.size + 1 := by rw [hws]; simp
    have kA0 : s12.cell? ⟨A, 0, none⟩ = some (.bool neg) := by rw [hws]; simp [go_sem, hdA]
    have kA1 : s12.cell? ⟨A, 1, none⟩ = some (.string a) := by rw [hws]; simp [go_sem, hdA]
    have kA2 : s12.cell? ⟨A, 2, none⟩ = some (.string d) := by rw [hws]; simp [go_sem, hdA]
    have zA : A < s12.heap.size := by omega
    have lA : w.heap.size ≤ A := by have := Nat.le_refl w.heap.size; omega
    rw [← hws]
    try rw [← hdA]
    clear hws hsz hdA
    have hBo := hBs; clear hBs
    go_quiet (first | (go_at_call 109; with_reducible exact Calls.quiet_of_same (H1.out _)) | (go_at_call 109; with_reducible exact Calls.quiet_of_same (H2.out _)))
    go_wp2_with fail
    generalize hws : s12.drewN _ = s13 at *
    replace kA0 : s13.cell? ⟨A, 0, none⟩ = some (.bool neg) := by rw [← hws]; simpa [go_sem] using kA0
    replace kA1 : s13.cell? ⟨A, 1, none⟩ = some (.string a) := by rw [← hws]; simpa [go_sem] using kA1
    replace kA2 : s13.cell? ⟨A, 2, none⟩ = some (.string d) := by rw [← hws]; simpa [go_sem] using kA2
    replace zA : A < s13.heap.size := by rw [← hws]; exact zA
    replace hBo : Below w.heap.size w s13 := by rw [← hws]; exact below_drewN hBo _
    clear hws
    refine (HG.out _).mono ?_; rintro e s14 ⟨rfl, hb⟩
    replace kA0 := belK hb kA0 zA; replace kA1 := belK hb kA1 zA; replace kA2 := belK hb kA2 zA; replace zA := Nat.lt_of_lt_of_le zA hb.size
    replace hBo := hBo.trans (hb.mono hBo.size)
    clear hb
    all_goals go_wp2_with fail
    all_goals first | go_ret | go_ret2
    all_goals exact ⟨rfl, hBo⟩
end Go.Proofs.YtbgmnpabclfjaaaGreatDoor
