/-
  WHOLE NUMBERS: the document's Of; texts of digits with a sign.
-/
import Derived.Test.YtjbpipbmcicjiaaGreatDoorWhole2
import Derived.Test.YtjbpipbmcicjiaaGreatDoorDec8
namespace Go.Proofs.YtjbpipbmcicjiaaGreatDoor
open Go.RowKit Go.Shelf

set_option maxRecDepth 100000 in
set_option maxHeartbeats 1000000 in
theorem refOf4_any (n : Int) (w : World) (h1 : -9223372036854775808 ≤ n) (h2 : n ≤ 9223372036854775807) :
    Calls Tryz.prog 15 #[.int .i64 n] w fun e w' => e = .returned (mkW (decide (n < 0)) n.natAbs) ∧ Below w.heap.size w w' := by
  obtain ⟨k, hk⟩ : ∃ k, k = n.natAbs := ⟨_, rfl⟩
  have HO := Lib.hid (fun w => refOf_any k w (by omega))
  obtain ⟨t, ht⟩ : ∃ t, t = Nt.E k := ⟨_, rfl⟩
  rw [← ht] at HO
  rw [← hk]
  have htv : Nt.V t = k := by rw [ht, Nt.V_E]
  have HM := Lib.hid (fun (neg : Bool) w => (by have h := refMake_any neg t w; rw [htv] at h; exact h : Calls Tryz.prog 14 #[.bool neg, .string t] w fun e w' => e = .returned (mkW neg k) ∧ Below w.heap.size w w'))
  obtain ⟨b, hb⟩ : ∃ b, b = sgn (decide (n < 0)) k := ⟨_, rfl⟩
  have HBB := Lib.hid hb
  have HTT := Lib.hid ht
  by_cases hn : n < 0
  · have hdn : decide (n < 0) = true := by simpa using hn
    rw [hdn] at hb HBB
    rw [hdn]
    have HM2 := Lib.hid (fun w => (by have h := HM.out true w; unfold mkW at h; rw [← hb, ← ht] at h; exact h : Calls Tryz.prog 14 #[.bool true, .string t] w fun e w' => e = .returned (.agg #[.bool b, .string t]) ∧ Below w.heap.size w w'))
    have hnk : n = -(k : Int) := by omega
    subst hnk
    have hk0 : 0 < k := by omega
    have hk3 : k ≤ 9223372036854775808 := by omega
    obtain ⟨c, hc0⟩ : ∃ c, c = 18446744073709551616 - k := ⟨_, rfl⟩
    have q1 : IntKind.u64.wrap (-(k : Int)) = (c : Int) := by rw [IntKind.wrap_u64]; omega
    have q2 : IntKind.u64.wrap (-(c : Int)) = (k : Int) := by rw [IntKind.wrap_u64]; omega
    clear hk ht htv HM hb hdn hc0
    go_enter Tryz.func15, Tryz.ntmps15
    go_wp2_with (first
      | (go_at_call 59; (with_reducible refine (HO.out _).mono ?_); rintro e w1 ⟨rfl, hb1⟩; obtain ⟨hc, hf⟩ := bcell hb1; have hz1 : w.heap.size < w1.heap.size := by have := hb1.size; simp at this; omega)
      | (go_at_call 14; refine (HM2.out _).mono ?_; rintro e w2 ⟨rfl, hb2⟩; obtain ⟨hc2, hf2⟩ := bcell hb2))
    refine bodyPost_ret (v := .agg #[.bool b, .string t]) (by simp [results, Tryz.results15, go_sem, hc, hc2, hz1]) rfl ⟨ret_agg2 HBB.out HTT.out, ?_⟩
    have h1 := ((Below.refl w.heap.size w).alloc (Nat.le_refl _) (Obj.cells #[.bool false, .string ⟨#[]⟩] 23)).trans (hb1.mono (by simp))
    exact ((h1.trans (hb2.mono h1.size)).setCell (by simp) _).setCell (by simp) _
  · have hdn : decide (n < 0) = false := by simpa using hn
    rw [hdn] at hb HBB
    rw [hdn]
    have HM2 := Lib.hid (fun w => (by have h := HM.out false w; unfold mkW at h; rw [← hb, ← ht] at h; exact h : Calls Tryz.prog 14 #[.bool false, .string t] w fun e w' => e = .returned (.agg #[.bool b, .string t]) ∧ Below w.heap.size w w'))
    have hnk : n = (k : Int) := by omega
    subst hnk
    have hk2 : k < 9223372036854775808 := by omega
    clear hk ht htv HM hb hdn
    go_enter Tryz.func15, Tryz.ntmps15
    go_wp2_with (first
      | (go_at_call 59; (with_reducible refine (HO.out _).mono ?_); rintro e w1 ⟨rfl, hb1⟩; obtain ⟨hc, hf⟩ := bcell hb1; have hz1 : w.heap.size < w1.heap.size := by have := hb1.size; simp at this; omega)
      | (go_at_call 14; refine (HM2.out _).mono ?_; rintro e w2 ⟨rfl, hb2⟩; obtain ⟨hc2, hf2⟩ := bcell hb2))
    refine bodyPost_ret (v := .agg #[.bool b, .string t]) (by simp [results, Tryz.results15, go_sem, hc, hc2, hz1]) rfl ⟨ret_agg2 HBB.out HTT.out, ?_⟩
    have h1 := ((Below.refl w.heap.size w).alloc (Nat.le_refl _) (Obj.cells #[.bool false, .string ⟨#[]⟩] 23)).trans (hb1.mono (by simp))
    exact ((h1.trans (hb2.mono h1.size)).setCell (by simp) _).setCell (by simp) _

/-- a whole number's digits. -/
def Wd (neg : Bool) (n : Nat) : ByteArray := if sgn neg n then ⟨#[45]⟩ ++ Nt.D n else Nt.D n
def sgnZ (neg : Bool) (n : Nat) : Int := if n = 0 then 0 else if neg then -1 else 1
set_option maxRecDepth 100000 in
set_option maxHeartbeats 1000000 in
theorem wholeSign_any (neg : Bool) (m : ByteArray) (w : World) :
    Calls Tryz.prog 65 #[.agg #[.bool neg, .string m]] w fun e w' => e = .returned (.int .i64 (sgnZ neg (Nt.V m))) ∧ Below w.heap.size w w' := by
  have HT := Lib.hid (fun w => natTrim_any m w)
  have hB := (Below.refl w.heap.size w).alloc (Nat.le_refl _) (Obj.cells #[.bool neg, .string m] 23)
  by_cases h0 : Nt.V m = 0
  · have hz : Hid (sgnZ neg (Nt.V m) = 0) := by rw [Hid, sgnZ, if_pos h0]
    have e0 : Nt.E 0 = ⟨#[]⟩ := rfl
    rw [h0, e0] at HT
    clear h0 e0
    go_enter Tryz.func65, Tryz.ntmps65
    go_wp2_with (go_at_call 57; refine (HT.out _).mono ?_; rintro e w1 ⟨rfl, rfl⟩)
    go_ret
    exact ⟨ret_int hz.out.symm, hB⟩
  · have hne := E_toList_ne _ h0
    have hne2 : (Nt.E (Nt.V m)).toList.isEmpty = false := by simpa using hne
    have hz : Hid (sgnZ neg (Nt.V m) = if neg then -1 else 1) := by rw [Hid, sgnZ, if_neg h0]
    obtain ⟨t, ht⟩ : ∃ t, t = Nt.E (Nt.V m) := ⟨_, rfl⟩
    rw [← ht] at HT hne hne2
    clear h0 ht
    cases neg
    all_goals
      go_enter Tryz.func65, Tryz.ntmps65
      go_wp2_with (go_at_call 57; refine (HT.out _).mono ?_; rintro e w1 ⟨rfl, rfl⟩)
      go_ret
      exact ⟨ret_int (by rw [hz.out]; rfl), hB⟩
set_option maxRecDepth 100000 in
set_option maxHeartbeats 1000000 in
theorem wholeText_any (neg : Bool) (m : ByteArray) (w : World) (hm : m.size ≤ 2000) :
    Calls Tryz.prog 22 #[.agg #[.bool neg, .string m]] w fun e w' => e = .returned (.string (Wd neg (Nt.V m))) ∧ Below w.heap.size w w' := by
  have HD := Lib.hid (fun w => natText_of m w hm)
  have HS := Lib.hid (fun w => wholeSign_any neg m w)
  have hB := (Below.refl w.heap.size w).alloc (Nat.le_refl _) (Obj.cells #[.bool neg, .string m] 23)
  obtain ⟨t, ht⟩ : ∃ t, t = Nt.D (Nt.V m) := ⟨_, rfl⟩
  have hts : t.size ≤ 5000 := by
    rw [ht, Nt.D, Nt.S_size]
    obtain ⟨k0, hk0⟩ : ∃ k, k = 1000 := ⟨_, rfl⟩
    have h10 := Nt.lt_ten (k := k0) (Nat.le_trans (Nt.E_size_V m) hm) (by omega)
    obtain ⟨m0, hm0⟩ : ∃ m, 5 * k0 = m + 1 := ⟨5 * k0 - 1, by omega⟩
    rw [hm0] at h10
    have := Nt.dec_length_le h10
    omega
  rw [← ht] at HD
  by_cases hs : sgn neg (Nt.V m) = true
  · have hw : Hid (Wd neg (Nt.V m) = ⟨#[45]⟩ ++ t) := by rw [Hid, Wd, if_pos hs, ht]
    have hz : sgnZ neg (Nt.V m) = -1 := by
      unfold sgn at hs
      simp at hs
      rw [sgnZ, if_neg hs.2, hs.1]; rfl
    rw [hz] at HS
    clear hs ht hz
    go_enter Tryz.func22, Tryz.ntmps22
    go_wp2_with (first
      | (go_at_call 64; refine (HD.out _).mono ?_; rintro e w1 ⟨rfl, hb1⟩; obtain ⟨hc, hf⟩ := bcell hb1; have hz1 : w.heap.size < w1.heap.size := by have := hb1.size; simp at this; omega)
      | (go_at_call 65; refine (HS.out _).mono ?_; rintro e w2 ⟨rfl, hb2⟩))
    go_ret
    have h1 := hB.trans (hb1.mono (by simp))
    exact ⟨ret_str hw.out.symm, h1.trans (hb2.mono h1.size)⟩
  · have hw : Hid (Wd neg (Nt.V m) = t) := by rw [Hid, Wd, if_neg hs, ht]
    have hz : ¬ sgnZ neg (Nt.V m) < 0 := by
      unfold sgn at hs
      simp at hs
      unfold sgnZ
      split
      · omega
      · rename_i h0
        cases neg
        · simp
        · exact absurd (hs rfl) h0
    generalize sgnZ neg (Nt.V m) = z at *
    clear hs ht
    go_enter Tryz.func22, Tryz.ntmps22
    go_wp2_with (first
      | (go_at_call 64; refine (HD.out _).mono ?_; rintro e w1 ⟨rfl, hb1⟩; obtain ⟨hc, hf⟩ := bcell hb1; have hz1 : w.heap.size < w1.heap.size := by have := hb1.size; simp at this; omega)
      | (go_at_call 65; refine (HS.out _).mono ?_; rintro e w2 ⟨rfl, hb2⟩))
    go_ret
    have h1 := hB.trans (hb1.mono (by simp))
    exact ⟨ret_str hw.out.symm, h1.trans (hb2.mono h1.size)⟩
end Go.Proofs.YtjbpipbmcicjiaaGreatDoor
