/-
  WHOLE NUMBERS: the document's Text; texts as whole numbers.
-/
import Derived.Test.YtjbpipbmcicjiaaGreatDoorWhole3
namespace Go.Proofs.YtjbpipbmcicjiaaGreatDoor
open Go.RowKit Go.Shelf

set_option maxRecDepth 100000 in
set_option maxHeartbeats 1000000 in
theorem refText4_any (neg : Bool) (m : ByteArray) (w : World) (hm : m.size ≤ 2000) :
    Calls Tryz.prog 23 #[.agg #[.bool neg, .string m]] w fun e w' => e = .returned (.string (Wd neg (Nt.V m))) ∧ Below w.heap.size w w' := by
  obtain ⟨b, hb⟩ : ∃ b, b = sgn neg (Nt.V m) := ⟨_, rfl⟩
  obtain ⟨t, ht⟩ : ∃ t, t = Nt.E (Nt.V m) := ⟨_, rfl⟩
  have htv : Nt.V t = Nt.V m := by rw [ht, Nt.V_E]
  have hts := Nat.le_trans (Nt.E_size_V m) hm
  rw [← ht] at hts
  have HW := Lib.hid (fun w => (by have h := refWell_any neg m w; unfold mkW at h; rw [← hb, ← ht] at h; exact h : Calls Tryz.prog 54 #[.agg #[.bool neg, .string m]] w fun e w' => e = .returned (.agg #[.bool b, .string t]) ∧ Below w.heap.size w w'))
  have hD := fun w => refText_of t w hts
  rw [htv] at hD
  obtain ⟨d, hd⟩ : ∃ d, d = Nt.D (Nt.V m) := ⟨_, rfl⟩
  have hds : d.size ≤ 5000 := by
    rw [hd, Nt.D, Nt.S_size]
    obtain ⟨k0, hk0⟩ : ∃ k, k = 1000 := ⟨_, rfl⟩
    have h10 := Nt.lt_ten (k := k0) (Nat.le_trans (Nt.E_size_V m) hm) (by omega)
    obtain ⟨m0, hm0⟩ : ∃ m, 5 * k0 = m + 1 := ⟨5 * k0 - 1, by omega⟩
    rw [hm0] at h10
    have := Nt.dec_length_le h10
    omega
  rw [← hd] at hD
  have HD := Lib.hid hD
  have hB := (Below.refl w.heap.size w).alloc (Nat.le_refl _) (Obj.cells #[.bool neg, .string m] 23)
  have hwd : Hid (Wd neg (Nt.V m) = if b then ⟨#[45]⟩ ++ d else d) := by rw [Hid, Wd, ← hb, hd]
  clear hb ht htv hts hD hd
  cases b
  all_goals
    go_enter Tryz.func23, Tryz.ntmps23
    go_wp2_with (first
      | (go_at_call 54; refine (HW.out _).mono ?_; rintro e w1 ⟨rfl, hb1⟩; obtain ⟨hc, hf⟩ := bcell hb1; have hz1 : w.heap.size < w1.heap.size := by have := hb1.size; simp at this; omega)
      | (go_at_call 66; refine (HD.out _).mono ?_; rintro e w2 ⟨rfl, hb2⟩))
    go_ret
    exact ⟨ret_str (by rw [hwd.out]; rfl), (((hB.trans (hb1.mono (by simp))).setCell (by simp) _).setCell (by simp) _).trans (hb2.mono (by simp [World.setCell]; omega))⟩

/-- has it a minus ahead? what stands behind it. -/
def minus (s : ByteArray) : Bool := match s.data.toList with | [] => false | c :: _ => c == 45
def unsigned (s : ByteArray) : ByteArray := if minus s then s.extract 1 s.size else s
def wpFine (neg : Bool) (d : ByteArray) : Value := .tuple #[mkW neg (Nt.dv d.data.toList), .int .i64 0]
def wpBad (c : Int) : Value := .tuple #[.agg #[.bool false, .string ⟨#[]⟩], .int .i64 c]
/-- what a text is as a whole number, or why it is none. -/
def wparse (s : ByteArray) : Value :=
  if (unsigned s).data.toList.all Nt.isDig = false ∨ (unsigned s).size = 0 then wpBad 3
  else if 400 < (unsigned s).size then wpBad 9 else wpFine (minus s) (unsigned s)
theorem wparse_ways (s : ByteArray) : (∃ c : Int, c ≠ 0 ∧ parseOut (unsigned s) = .tuple #[.string ⟨#[]⟩, .int .i64 c] ∧ wparse s = wpBad c) ∨
    (parseOut (unsigned s) = .tuple #[.string (Nt.E (Nt.dv (unsigned s).data.toList)), .int .i64 0] ∧ wparse s = wpFine (minus s) (unsigned s)) := by
  by_cases h1 : (unsigned s).data.toList.all Nt.isDig = false ∨ (unsigned s).size = 0
  · exact Or.inl ⟨3, by decide, parseOut_bad _ h1, by rw [wparse, if_pos h1]⟩
  · by_cases h2 : 400 < (unsigned s).size
    · exact Or.inl ⟨9, by decide, by rw [parseOut, if_neg h1, if_pos h2], by rw [wparse, if_neg h1, if_pos h2]⟩
    · exact Or.inr ⟨by rw [parseOut, if_neg h1, if_neg h2], by rw [wparse, if_neg h1, if_neg h2]⟩
theorem ba_ext : ∀ (a b : ByteArray), a.data.toList = b.data.toList → a = b := fun a b hab => by
  obtain ⟨⟨x⟩⟩ := a; obtain ⟨⟨y⟩⟩ := b; simpa using hab
theorem cut_minus (s : ByteArray) : Lib.hasPrefix s.data.toList [45] = minus s ∧ (⟨(Lib.trimPrefix s.data.toList [45]).toArray⟩ : ByteArray) = unsigned s := by
  have h1 : Lib.hasPrefix s.data.toList [45] = minus s := by
    unfold Lib.hasPrefix minus
    cases s.data.toList with
    | nil => rfl
    | cons c r =>
      simp only [List.isPrefixOf, Bool.and_true]
      exact BEq.comm
  refine ⟨h1, ba_ext _ _ ?_⟩
  unfold Lib.trimPrefix unsigned
  rw [h1]
  by_cases h : minus s = true
  · rw [if_pos h, if_pos h, Lib.extract_data]
    exact (List.take_of_length_le (by rw [List.length_drop]; simp)).symm
  · rw [if_neg h, if_neg h]
theorem minus_head (s : ByteArray) (h : 0 < s.size) : minus s = (s[0]'h == 45) := by
  obtain ⟨⟨l⟩⟩ := s
  cases l with
  | nil => exact absurd h (by decide)
  | cons c r => rfl
theorem minus_none (s : ByteArray) (h : s.size = 0) : minus s = false := by
  obtain ⟨⟨l⟩⟩ := s
  cases l with
  | nil => rfl
  | cons c r => exact absurd h (by show ¬ (c :: r).length = 0; simp)
theorem unsigned_size (s : ByteArray) : (unsigned s).size ≤ s.size := by
  unfold unsigned
  split
  · simp
  · exact Nat.le_refl _
theorem ret_pair {a b : Value} {c d : Value} (h : a = b) (h' : c = d) : Ending.returned (.tuple #[a, c]) = .returned (.tuple #[b, d]) := by rw [h, h']
set_option maxRecDepth 100000 in
set_option maxHeartbeats 1000000 in
theorem wholeParse_any (s : ByteArray) (w : World) (hs : s.size ≤ maxLen) :
    Calls Tryz.prog 20 #[.string s] w fun e w' => e = .returned (wparse s) ∧ Below w.heap.size w w' := by
  have hcm := cut_minus s
  have hwy := wparse_ways s
  have hus := Nat.le_trans (unsigned_size s) hs
  obtain ⟨mn, hmn⟩ : ∃ mn, mn = minus s := ⟨_, rfl⟩
  obtain ⟨u, hu⟩ : ∃ u, u = unsigned s := ⟨_, rfl⟩
  rw [← hmn, ← hu] at hcm
  rw [← hu] at hwy hus
  rw [← hmn] at hwy
  have HC := Lib.hid (fun w => (by
    have h := Tryz.strings_CutPrefix s ⟨#[45]⟩ w
    rw [show (⟨#[45]⟩ : ByteArray).data.toList = [45] from rfl, hcm.1, hcm.2] at h
    exact h.mono (fun e w' ⟨h1, h2⟩ => ⟨h1, h2.symm⟩) : Calls Tryz.prog 61 #[.string s, .string ⟨#[45]⟩] w fun e w' => e = .returned (.tuple #[.string u, .bool mn]) ∧ w = w'))
  have hP := fun w => natParse_any u w hus
  rcases hwy with ⟨c, hc0, hp, hw⟩ | ⟨hp, hw⟩
  · rw [hp] at hP
    have HP := Lib.hid hP
    have HW := Lib.hid hw
    have hc1 : (c == 0) = false := by simpa using hc0
    have hc2 : ¬ c = 0 := hc0
    clear hcm hP hp hw hmn hu hus hc0
    go_enter Tryz.func20, Tryz.ntmps20
    go_wp2_with (first
      | (go_at_call 61; refine (HC.out _).mono ?_; rintro e w1 ⟨rfl, rfl⟩)
      | (go_at_call 62; refine (HP.out _).mono ?_; rintro e w2 ⟨rfl, hb2⟩; obtain ⟨hcc, hf⟩ := bcell hb2; have hz2 : w.heap.size < w2.heap.size := by have := hb2.size; simp at this; omega))
    refine bodyPost_ret (v := .tuple #[.agg #[.bool false, .string ⟨#[]⟩], .int .i64 c]) (by simp [results, Tryz.results20, go_sem, hcc]) rfl ⟨congrArg Ending.returned HW.out.symm, ?_⟩
    exact ((((Below.refl w.heap.size w).alloc (Nat.le_refl _) _).trans (hb2.mono (by simp))).setCell (by simp) _).setCell (by simp) _
  · rw [hp] at hP
    obtain ⟨x, hx⟩ : ∃ x, x = Nt.dv u.data.toList := ⟨_, rfl⟩
    rw [← hx] at hP
    obtain ⟨t, ht⟩ : ∃ t, t = Nt.E x := ⟨_, rfl⟩
    rw [← ht] at hP
    obtain ⟨b, hb⟩ : ∃ b, b = sgn mn x := ⟨_, rfl⟩
    have HM := Lib.hid (fun w => (by
      have h := wholeMake_any mn t w
      rw [show Nt.V t = x from by rw [ht, Nt.V_E]] at h
      unfold mkW at h
      rw [← hb, ← ht] at h
      exact h : Calls Tryz.prog 13 #[.bool mn, .string t] w fun e w' => e = .returned (.agg #[.bool b, .string t]) ∧ Below w.heap.size w w'))
    have HP := Lib.hid hP
    have hw2 : wparse s = .tuple #[.agg #[.bool b, .string t], .int .i64 0] := by
      rw [hw, wpFine, ← hx]
      unfold mkW
      rw [← hb, ← ht]
    have HW := Lib.hid hw2
    clear hcm hP hp hw hmn hu hus hx ht hb hw2
    go_enter Tryz.func20, Tryz.ntmps20
    go_wp2_with (first
      | (go_at_call 61; refine (HC.out _).mono ?_; rintro e w1 ⟨rfl, rfl⟩)
      | (go_at_call 62; refine (HP.out _).mono ?_; rintro e w2 ⟨rfl, hb2⟩; obtain ⟨hcc, hf⟩ := bcell hb2; have hz2 : w.heap.size < w2.heap.size := by have := hb2.size; simp at this; omega)
      | (go_at_call 13; refine (HM.out _).mono ?_; rintro e w3 ⟨rfl, hb3⟩; obtain ⟨hc3, hf3⟩ := bcell hb3; have hz3 : w.heap.size < w3.heap.size := by have := hb3.size; omega))
    refine bodyPost_ret (v := .tuple #[.agg #[.bool b, .string t], .int .i64 0]) (by simp [results, Tryz.results20, go_sem, hcc, hz2, hc3]) rfl ⟨congrArg Ending.returned HW.out.symm, ?_⟩
    have h1 := ((Below.refl w.heap.size w).alloc (Nat.le_refl _) (Obj.cells #[.bool false, .string ⟨#[]⟩] 23)).trans (hb2.mono (by simp))
    exact ((h1.trans (hb3.mono h1.size)).setCell (by simp) _).setCell (by simp) _
end Go.Proofs.YtjbpipbmcicjiaaGreatDoor
