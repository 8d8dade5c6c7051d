/-
  LAYER 11, REFERENCES: what a reference is, Right and Move of both.
-/
import Derived.Test.YtlpjaflolnggnaaGreatDoorCel6
import Derived.Deep.RegionHeld3
namespace Go.Proofs.YtlpjaflolnggnaaGreatDoor
open Go.RowKit Go.Shelf
set_option linter.unusedSimpArgs false
set_option linter.unusedVariables false

/-- a reference. -/
structure Rf where
  sh : ByteArray
  c : Int
  r : Int
  fc : Bool
  fr : Bool
def rf0 : Rf := ⟨⟨#[]⟩, 0, 0, false, false⟩
def rgtB (s : ByteArray) (c r : Int) : Bool := (decide (s.size = 0) || namB s) && inG c r
theorem rgt_in {s : ByteArray} {c r : Int} (h : rgtB s c r = true) : 1 ≤ c ∧ c ≤ 52 ∧ 1 ≤ r ∧ r ≤ 99 := by
  unfold rgtB at h
  rw [Bool.and_eq_true] at h
  exact (inG_iff c r).1 h.2
theorem rgt_empty {s : ByteArray} (h : s.size = 0) (c r : Int) : rgtB s c r = inG c r := by unfold rgtB; simp [h]
theorem rgt_named {s : ByteArray} (h : s.size ≠ 0) (c r : Int) : rgtB s c r = (namB s && inG c r) := by unfold rgtB; simp [h]
theorem str_nil {s : ByteArray} (h : s.size = 0) : s.toList = [] := by
  rw [ByteArray.toList_eq]; exact List.eq_nil_of_length_eq_zero (by simpa using h)
theorem str_some {s : ByteArray} (h : s.size ≠ 0) : ¬ s.toList = [] := by
  rw [ByteArray.toList_eq]; intro h2; exact h (by have := congrArg List.length h2; simpa using this)
set_option maxRecDepth 100000 in
set_option maxHeartbeats 1000000 in
theorem right1_any (q : Rf) (b : Bool) (w : World) (hs : q.sh.size ≤ maxLen) (hb : rgtB q.sh q.c q.r = b) :
    Calls Tryz.prog 19 #[.agg #[.string q.sh, .int .i64 q.c, .int .i64 q.r, .bool q.fc, .bool q.fr]] w fun e w' => e = .returned (.bool b) ∧ Below w.heap.size w w' := by
  have hud : undef = Value.tuple #[] := rfl
  have HN := Lib.hid (fun w => named_any q.sh w hs)
  have hI := fun w => addrIn_any q.c q.r w
  by_cases h0 : q.sh.size = 0
  · rw [rgt_empty h0] at hb
    rw [hb] at hI
    have hn := str_nil h0
    have HI := Lib.hid hI
    clear hI h0 hb
    go_enter Tryz.func19, Tryz.ntmps19
    go_wp2_with fail
    obtain ⟨s1, hws⟩ : ∃ s, s = (w.alloc (.cells #[.string q.sh, .int .i64 q.c, .int .i64 q.r, .bool q.fc, .bool q.fr] 23)) := ⟨_, rfl⟩
    have hBs : Below w.heap.size w s1 := by rw [hws]; exact ((Below.refl w.heap.size w).alloc (by simp) _)
    obtain ⟨A, hdA⟩ : ∃ b, b = w.heap.size := ⟨_, rfl⟩
    have hsz : s1.heap.size = w.heap.size + 1 := by rw [hws]; simp
    have kA0 : s1.cell? ⟨A, 0, none⟩ = some (.string q.sh) := by rw [hws]; simp [go_sem, hdA]
    have kA1 : s1.cell? ⟨A, 1, none⟩ = some (.int .i64 q.c) := by rw [hws]; simp [go_sem, hdA]
    have kA2 : s1.cell? ⟨A, 2, none⟩ = some (.int .i64 q.r) := by rw [hws]; simp [go_sem, hdA]
    have kA3 : s1.cell? ⟨A, 3, none⟩ = some (.bool q.fc) := by rw [hws]; simp [go_sem, hdA]
    have kA4 : s1.cell? ⟨A, 4, none⟩ = some (.bool q.fr) := by rw [hws]; simp [go_sem, hdA]
    have zA : A < s1.heap.size := by omega
    have lA : w.heap.size ≤ A := by have := Nat.le_refl w.heap.size; omega
    rw [← hws]
    try rw [← hdA]
    clear hws hsz hdA
    have hBo := hBs; clear hBs
    refine (HI.out _).mono ?_; rintro e wq ⟨rfl, rfl⟩
    all_goals go_wp2_with fail
    all_goals first | go_ret | go_ret2
    all_goals exact ⟨rfl, hBo⟩
  · rw [rgt_named h0] at hb
    have hn := str_some h0
    have hn2 : q.sh.toList.isEmpty = false := by simpa using hn
    cases hnb : namB q.sh with
    | false =>
      rw [hnb, Bool.false_and] at hb
      subst hb
      rw [hnb] at HN
      clear hI h0 hnb
      go_enter Tryz.func19, Tryz.ntmps19
      go_wp2_with fail
      obtain ⟨s2, hws⟩ : ∃ s, s = (w.alloc (.cells #[.string q.sh, .int .i64 q.c, .int .i64 q.r, .bool q.fc, .bool q.fr] 23)) := ⟨_, rfl⟩
      have hBs : Below w.heap.size w s2 := by rw [hws]; exact ((Below.refl w.heap.size w).alloc (by simp) _)
      obtain ⟨A, hdA⟩ : ∃ b, b = w.heap.size := ⟨_, rfl⟩
      have hsz : s2.heap.size = w.heap.size + 1 := by rw [hws]; simp
      have kA0 : s2.cell? ⟨A, 0, none⟩ = some (.string q.sh) := by rw [hws]; simp [go_sem, hdA]
      have kA1 : s2.cell? ⟨A, 1, none⟩ = some (.int .i64 q.c) := by rw [hws]; simp [go_sem, hdA]
      have kA2 : s2.cell? ⟨A, 2, none⟩ = some (.int .i64 q.r) := by rw [hws]; simp [go_sem, hdA]
      have kA3 : s2.cell? ⟨A, 3, none⟩ = some (.bool q.fc) := by rw [hws]; simp [go_sem, hdA]
      have kA4 : s2.cell? ⟨A, 4, none⟩ = some (.bool q.fr) := by rw [hws]; simp [go_sem, hdA]
      have zA : A < s2.heap.size := by omega
      have lA : w.heap.size ≤ A := by have := Nat.le_refl w.heap.size; omega
      rw [← hws]
      try rw [← hdA]
      clear hws hsz hdA
      have hBo := hBs; clear hBs
      refine (HN.out _).mono ?_; rintro e s3 ⟨rfl, hb⟩
      replace kA0 := belK hb kA0 zA; replace kA1 := belK hb kA1 zA; replace kA2 := belK hb kA2 zA; replace kA3 := belK hb kA3 zA; replace kA4 := belK hb kA4 zA; replace zA := Nat.lt_of_lt_of_le zA hb.size
      replace hBo := hBo.trans (hb.mono hBo.size)
      clear hb
      all_goals go_wp2_with fail
      all_goals first | go_ret | go_ret2
      all_goals exact ⟨rfl, hBo⟩
    | true =>
      rw [hnb, Bool.true_and] at hb
      rw [hnb] at HN
      rw [hb] at hI
      have HI := Lib.hid hI
      clear hI h0 hnb hb
      go_enter Tryz.func19, Tryz.ntmps19
      go_wp2_with fail
      obtain ⟨s4, hws⟩ : ∃ s, s = (w.alloc (.cells #[.string q.sh, .int .i64 q.c, .int .i64 q.r, .bool q.fc, .bool q.fr] 23)) := ⟨_, rfl⟩
      have hBs : Below w.heap.size w s4 := by rw [hws]; exact ((Below.refl w.heap.size w).alloc (by simp) _)
      obtain ⟨A, hdA⟩ : ∃ b, b = w.heap.size := ⟨_, rfl⟩
      have hsz : s4.heap.size = w.heap.size + 1 := by rw [hws]; simp
      have kA0 : s4.cell? ⟨A, 0, none⟩ = some (.string q.sh) := by rw [hws]; simp [go_sem, hdA]
      have kA1 : s4.cell? ⟨A, 1, none⟩ = some (.int .i64 q.c) := by rw [hws]; simp [go_sem, hdA]
      have kA2 : s4.cell? ⟨A, 2, none⟩ = some (.int .i64 q.r) := by rw [hws]; simp [go_sem, hdA]
      have kA3 : s4.cell? ⟨A, 3, none⟩ = some (.bool q.fc) := by rw [hws]; simp [go_sem, hdA]
      have kA4 : s4.cell? ⟨A, 4, none⟩ = some (.bool q.fr) := by rw [hws]; simp [go_sem, hdA]
      have zA : A < s4.heap.size := by omega
      have lA : w.heap.size ≤ A := by have := Nat.le_refl w.heap.size; omega
      rw [← hws]
      try rw [← hdA]
      clear hws hsz hdA
      have hBo := hBs; clear hBs
      refine (HN.out _).mono ?_; rintro e s5 ⟨rfl, hb⟩
      replace kA0 := belK hb kA0 zA; replace kA1 := belK hb kA1 zA; replace kA2 := belK hb kA2 zA; replace kA3 := belK hb kA3 zA; replace kA4 := belK hb kA4 zA; replace zA := Nat.lt_of_lt_of_le zA hb.size
      replace hBo := hBo.trans (hb.mono hBo.size)
      clear hb
      go_wp2_with fail
      refine (HI.out _).mono ?_; rintro e wq ⟨rfl, rfl⟩
      all_goals go_wp2_with fail
      all_goals first | go_ret | go_ret2
      all_goals exact ⟨rfl, hBo⟩
set_option maxRecDepth 100000 in
set_option maxHeartbeats 1000000 in
theorem right2_any (q : Rf) (b : Bool) (w : World) (hs : q.sh.size ≤ maxLen) (hb : rgtB q.sh q.c q.r = b) :
    Calls Tryz.prog 20 #[.agg #[.string q.sh, .int .i64 q.c, .int .i64 q.r, .bool q.fc, .bool q.fr]] w fun e w' => e = .returned (.bool b) ∧ Below w.heap.size w w' := by
  have hud : undef = Value.tuple #[] := rfl
  have HN := Lib.hid (fun w => refNamed_any q.sh w hs)
  have hI := fun w => refIn_any q.c q.r w
  by_cases h0 : q.sh.size = 0
  · rw [rgt_empty h0] at hb
    rw [hb] at hI
    have hn := str_nil h0
    have HI := Lib.hid hI
    clear hI h0 hb
    go_enter Tryz.func20, Tryz.ntmps20
    go_wp2_with fail
    obtain ⟨s6, hws⟩ : ∃ s, s = (w.alloc (.cells #[.string q.sh, .int .i64 q.c, .int .i64 q.r, .bool q.fc, .bool q.fr] 23)) := ⟨_, rfl⟩
    have hBs : Below w.heap.size w s6 := by rw [hws]; exact ((Below.refl w.heap.size w).alloc (by simp) _)
    obtain ⟨A, hdA⟩ : ∃ b, b = w.heap.size := ⟨_, rfl⟩
    have hsz : s6.heap.size = w.heap.size + 1 := by rw [hws]; simp
    have kA0 : s6.cell? ⟨A, 0, none⟩ = some (.string q.sh) := by rw [hws]; simp [go_sem, hdA]
    have kA1 : s6.cell? ⟨A, 1, none⟩ = some (.int .i64 q.c) := by rw [hws]; simp [go_sem, hdA]
    have kA2 : s6.cell? ⟨A, 2, none⟩ = some (.int .i64 q.r) := by rw [hws]; simp [go_sem, hdA]
    have kA3 : s6.cell? ⟨A, 3, none⟩ = some (.bool q.fc) := by rw [hws]; simp [go_sem, hdA]
    have kA4 : s6.cell? ⟨A, 4, none⟩ = some (.bool q.fr) := by rw [hws]; simp [go_sem, hdA]
    have zA : A < s6.heap.size := by omega
    have lA : w.heap.size ≤ A := by have := Nat.le_refl w.heap.size; omega
    rw [← hws]
    try rw [← hdA]
    clear hws hsz hdA
    have hBo := hBs; clear hBs
    refine (HI.out _).mono ?_; rintro e wq ⟨rfl, rfl⟩
    all_goals go_wp2_with fail
    all_goals first | go_ret | go_ret2
    all_goals exact ⟨rfl, hBo⟩
  · rw [rgt_named h0] at hb
    have hn := str_some h0
    have hn2 : q.sh.toList.isEmpty = false := by simpa using hn
    cases hnb : namB q.sh with
    | false =>
      rw [hnb, Bool.false_and] at hb
      subst hb
      rw [hnb] at HN
      clear hI h0 hnb
      go_enter Tryz.func20, Tryz.ntmps20
      go_wp2_with fail
      obtain ⟨s7, hws⟩ : ∃ s, s = (w.alloc (.cells #[.string q.sh, .int .i64 q.c, .int .i64 q.r, .bool q.fc, .bool q.fr] 23)) := ⟨_, rfl⟩
      have hBs : Below w.heap.size w s7 := by rw [hws]; exact ((Below.refl w.heap.size w).alloc (by simp) _)
      obtain ⟨A, hdA⟩ : ∃ b, b = w.heap.size := ⟨_, rfl⟩
      have hsz : s7.heap.size = w.heap.size + 1 := by rw [hws]; simp
      have kA0 : s7.cell? ⟨A, 0, none⟩ = some (.string q.sh) := by rw [hws]; simp [go_sem, hdA]
      have kA1 : s7.cell? ⟨A, 1, none⟩ = some (.int .i64 q.c) := by rw [hws]; simp [go_sem, hdA]
      have kA2 : s7.cell? ⟨A, 2, none⟩ = some (.int .i64 q.r) := by rw [hws]; simp [go_sem, hdA]
      have kA3 : s7.cell? ⟨A, 3, none⟩ = some (.bool q.fc) := by rw [hws]; simp [go_sem, hdA]
      have kA4 : s7.cell? ⟨A, 4, none⟩ = some (.bool q.fr) := by rw [hws]; simp [go_sem, hdA]
      have zA : A < s7.heap.size := by omega
      have lA : w.heap.size ≤ A := by have := Nat.le_refl w.heap.size; omega
      rw [← hws]
      try rw [← hdA]
      clear hws hsz hdA
      have hBo := hBs; clear hBs
      refine (HN.out _).mono ?_; rintro e s8 ⟨rfl, hb⟩
      replace kA0 := belK hb kA0 zA; replace kA1 := belK hb kA1 zA; replace kA2 := belK hb kA2 zA; replace kA3 := belK hb kA3 zA; replace kA4 := belK hb kA4 zA; replace zA := Nat.lt_of_lt_of_le zA hb.size
      replace hBo := hBo.trans (hb.mono hBo.size)
      clear hb
      all_goals go_wp2_with fail
      all_goals first | go_ret | go_ret2
      all_goals exact ⟨rfl, hBo⟩
    | true =>
      rw [hnb, Bool.true_and] at hb
      rw [hnb] at HN
      rw [hb] at hI
      have HI := Lib.hid hI
      clear hI h0 hnb hb
      go_enter Tryz.func20, Tryz.ntmps20
      go_wp2_with fail
      obtain ⟨s9, hws⟩ : ∃ s, s = (w.alloc (.cells #[.string q.sh, .int .i64 q.c, .int .i64 q.r, .bool q.fc, .bool q.fr] 23)) := ⟨_, rfl⟩
      have hBs : Below w.heap.size w s9 := by rw [hws]; exact ((Below.refl w.heap.size w).alloc (by simp) _)
      obtain ⟨A, hdA⟩ : ∃ b, b = w.heap.size := ⟨_, rfl⟩
      have hsz : s9.heap.size = w.heap.size + 1 := by rw [hws]; simp
      have kA0 : s9.cell? ⟨A, 0, none⟩ = some (.string q.sh) := by rw [hws]; simp [go_sem, hdA]
      have kA1 : s9.cell? ⟨A, 1, none⟩ = some (.int .i64 q.c) := by rw [hws]; simp [go_sem, hdA]
      have kA2 : s9.cell? ⟨A, 2, none⟩ = some (.int .i64 q.r) := by rw [hws]; simp [go_sem, hdA]
      have kA3 : s9.cell? ⟨A, 3, none⟩ = some (.bool q.fc) := by rw [hws]; simp [go_sem, hdA]
      have kA4 : s9.cell? ⟨A, 4, none⟩ = some (.bool q.fr) := by rw [hws]; simp [go_sem, hdA]
      have zA : A < s9.heap.size := by omega
      have lA : w.heap.size ≤ A := by have := Nat.le_refl w.heap.size; omega
      rw [← hws]
      try rw [← hdA]
      clear hws hsz hdA
      have hBo := hBs; clear hBs
      refine (HN.out _).mono ?_; rintro e s10 ⟨rfl, hb⟩
      replace kA0 := belK hb kA0 zA; replace kA1 := belK hb kA1 zA; replace kA2 := belK hb kA2 zA; replace kA3 := belK hb kA3 zA; replace kA4 := belK hb kA4 zA; replace zA := Nat.lt_of_lt_of_le zA hb.size
      replace hBo := hBo.trans (hb.mono hBo.size)
      clear hb
      go_wp2_with fail
      refine (HI.out _).mono ?_; rintro e wq ⟨rfl, rfl⟩
      all_goals go_wp2_with fail
      all_goals first | go_ret | go_ret2
      all_goals exact ⟨rfl, hBo⟩
end Go.Proofs.YtlpjaflolnggnaaGreatDoor
