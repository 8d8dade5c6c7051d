/-
  WHOLE NUMBERS: a quotient rounded down.
-/
import Derived.Test.YtjbpipbmcicjiaaGreatDoorWhole7
namespace Go.Proofs.YtjbpipbmcicjiaaGreatDoor
open Go.RowKit Go.Shelf

/-- what the two amounts have become. -/
def FlRel (w1 : World) (tx ty : ByteArray) (s7 s8 : Value) (wx : World) : Prop := s7 = .string tx ∧ s8 = .string ty ∧ Below w1.heap.size w1 wx

set_option maxRecDepth 100000 in
set_option maxHeartbeats 4000000 in
/-- a quotient below 0 that does not come out even. -/
theorem wholeFloor_odd (a b : ByteArray) (w : World) (ha : a.size ≤ 1000) (hb : b.size ≤ 1000) (h0 : Nt.V b ≠ 0) (hr : Nt.V a % Nt.V b ≠ 0) :
    Calls Tryz.prog 60 #[.agg #[.bool true, .string a], .agg #[.bool false, .string b]] w fun e w' => e = .returned (.tuple #[mkW true (Nt.V a / Nt.V b + 1), mkW false (Nt.V b - Nt.V a % Nt.V b), .int .i64 0]) ∧ Below w.heap.size w w' := by
  have hdm := fun w => divMod_ok a b w (by omega) (by omega)
  rw [divOut, if_neg h0] at hdm
  have hsa := Nt.E_size_V a
  have hq := Nat.le_trans (Nt.E_size_le (Nat.div_le_self (Nt.V a) (Nt.V b))) hsa
  have hml := Nat.le_trans (Nt.E_size_le (Nat.mod_le (Nt.V a) (Nt.V b))) hsa
  have hO := fun w => natOf_any 1 w (by omega)
  have hA := fun w => natAdd_any (Nt.E (Nt.V a / Nt.V b)) (Nt.E 1) w (by omega) (by decide)
  have hS := fun w => natSub_any b (Nt.E (Nt.V a % Nt.V b)) w (by omega) (by omega)
  rw [Nt.V_E, Nt.V_E] at hA
  rw [Nt.V_E] at hS
  have hne := E_toList_ne _ hr
  have hne2 : (Nt.E (Nt.V a % Nt.V b)).toList.isEmpty = false := by simpa using hne
  obtain ⟨x, hx⟩ : ∃ x, x = Nt.V a / Nt.V b + 1 := ⟨_, rfl⟩
  obtain ⟨y, hy⟩ : ∃ y, y = Nt.V b - Nt.V a % Nt.V b := ⟨_, rfl⟩
  rw [← hx] at hA ⊢
  rw [← hy] at hS ⊢
  obtain ⟨q, hqd⟩ : ∃ q, q = Nt.E (Nt.V a / Nt.V b) := ⟨_, rfl⟩
  obtain ⟨r, hrd⟩ : ∃ r, r = Nt.E (Nt.V a % Nt.V b) := ⟨_, rfl⟩
  obtain ⟨o, hod⟩ : ∃ o, o = Nt.E 1 := ⟨_, rfl⟩
  obtain ⟨tx, htx⟩ : ∃ t, t = Nt.E x := ⟨_, rfl⟩
  obtain ⟨ty, hty⟩ : ∃ t, t = Nt.E y := ⟨_, rfl⟩
  obtain ⟨bx, hbx⟩ : ∃ c, c = sgn true x := ⟨_, rfl⟩
  obtain ⟨b2, hb2⟩ : ∃ c, c = sgn false y := ⟨_, rfl⟩
  rw [← hqd, ← hrd] at hdm
  rw [← hrd] at hne hne2 hS
  rw [← hqd, ← hod, ← htx] at hA
  rw [← hty] at hS
  rw [← hod] at hO
  have HMx := Lib.hid (fun w => (by
    have h := wholeMake_any true tx w
    rw [show Nt.V tx = x from by rw [htx, Nt.V_E]] at h
    unfold mkW at h
    rw [← hbx, ← htx] at h
    exact h : Calls Tryz.prog 13 #[.bool true, .string tx] w fun e w' => e = .returned (.agg #[.bool bx, .string tx]) ∧ Below w.heap.size w w'))
  have HMy := Lib.hid (fun w => (by
    have h := wholeMake_any false ty w
    rw [show Nt.V ty = y from by rw [hty, Nt.V_E]] at h
    unfold mkW at h
    rw [← hb2, ← hty] at h
    exact h : Calls Tryz.prog 13 #[.bool false, .string ty] w fun e w' => e = .returned (.agg #[.bool b2, .string ty]) ∧ Below w.heap.size w w'))
  have HD := Lib.hid hdm
  have HO := Lib.hid hO
  have HA := Lib.hid hA
  have HS := Lib.hid hS
  have HTX := Lib.hid htx
  have HTY := Lib.hid hty
  have HBX := Lib.hid hbx
  have HB2 := Lib.hid hb2
  have HE : Hid (Value.tuple #[mkW true x, mkW false y, .int .i64 0] = .tuple #[.agg #[.bool bx, .string tx], .agg #[.bool b2, .string ty], .int .i64 0]) := by
    rw [Hid]; unfold mkW; rw [← hbx, ← htx, ← hb2, ← hty]
  clear hdm hO hA hS htx hty hbx hb2 hqd hrd hod hx hy h0 hr hsa hq hml
  go_enter Tryz.func60, Tryz.ntmps60
  go_upto_region 6 with (first
    | (go_at_call 98; refine (HD.out _).mono ?_; rintro e w1 ⟨rfl, hb1⟩; obtain ⟨hc, hf⟩ := bcell hb1; have hz1 : w.heap.size + 1 + 1 + 1 < w1.heap.size := by have := hb1.size; simp at this; omega))
  have hza : w.heap.size < w1.heap.size := by omega
  have hzb : w.heap.size + 1 < w1.heap.size := by omega
  have hzc : w.heap.size + 1 + 1 < w1.heap.size := by omega
  go_cut [7, 8] (FlRel w1 tx ty)
  case first =>
    go_region_with (first
      | (go_at_call 56; refine (HO.out _).mono ?_; rintro e wO ⟨rfl, hbO⟩; have hTO : Below w1.heap.size w1 wO := (by first | exact (Below.refl _ _).drew.trans hbO | exact (Below.refl _ _).trans hbO | exact hTS.trans (hbO.mono hTS.size)); obtain ⟨hcO, hfO⟩ := bcell hTO)
      | (go_at_call 83; refine (HA.out _).mono ?_; rintro e wA ⟨rfl, hbA⟩; have hTA : Below w1.heap.size w1 wA := (by first | exact hTO.trans (hbA.mono hTO.size) | exact hTS.trans (hbA.mono hTS.size)); obtain ⟨hcA, hfA⟩ := bcell hTA)
      | (go_at_call 99; refine (HS.out _).mono ?_; rintro e wS ⟨rfl, hbS⟩; have hTS : Below w1.heap.size w1 wS := (by first | exact (Below.refl _ _).drew.trans hbS | exact (Below.refl _ _).trans hbS | exact hTA.trans (hbS.mono hTA.size) | exact hTO.trans (hbS.mono hTO.size)); obtain ⟨hcS, hfS⟩ := bcell hTS))
    all_goals go_wp2_with fail
    all_goals go_meet
    all_goals first
      | exact ⟨rfl, rfl, hTA⟩
      | exact ⟨rfl, rfl, hTS⟩
  case rest =>
    obtain ⟨rfl, rfl, hT⟩ := hcut
    obtain ⟨hcT, hfT⟩ := bcell hT
    have hsz := hT.size
    have HF : Hid (∀ W, Below wc.heap.size wc W → Below w.heap.size w W) := fun W hW => by
      have h0 := ((((Below.refl w.heap.size w).alloc (Nat.le_refl _) (.cells #[.bool true, .string a] 23)).alloc (by first | (simp; done) | (simp; omega) | omega) (.cells #[.bool false, .string b] 23)).alloc (by first | (simp; done) | (simp; omega) | omega) (.cells #[.bool false, .string ⟨#[]⟩] 23)).alloc (by first | (simp; done) | (simp; omega) | omega) (.cells #[.bool false, .string ⟨#[]⟩] 23)
      have h1 := h0.trans (hb1.mono (by first | (simp; done) | (simp; omega) | omega))
      have h2 := h1.trans (hT.mono h1.size)
      exact h2.trans (hW.mono h2.size)
    have hya : w.heap.size < wc.heap.size := by omega
    have hyb : w.heap.size + 1 < wc.heap.size := by omega
    have hyc : w.heap.size + 1 + 1 < wc.heap.size := by omega
    have hyd : w.heap.size + 1 + 1 + 1 < wc.heap.size := by omega
    go_wp2
    go_region_with (first
      | (go_at_call_of 13 tx; refine (HMx.out _).mono ?_; rintro e wX ⟨rfl, hbX⟩; have hTX : Below wc.heap.size wc wX := (by first | exact (Below.refl _ _).drew.trans hbX | exact (Below.refl _ _).trans hbX | exact hTY.trans (hbX.mono hTY.size)); obtain ⟨hcX, hfX⟩ := bcell hTX; have hzsX := hTX.size; have hzXa : w.heap.size + 1 + 1 < wX.heap.size := (by omega); have hzXb : w.heap.size + 1 + 1 + 1 < wX.heap.size := (by omega))
      | (go_at_call_of 13 ty; refine (HMy.out _).mono ?_; rintro e wY ⟨rfl, hbY⟩; have hTY : Below wc.heap.size wc wY := (by first | exact (Below.refl _ _).drew.trans hbY | exact (Below.refl _ _).trans hbY | exact hTX.trans (hbY.mono hTX.size)); obtain ⟨hcY, hfY⟩ := bcell hTY; have hzsY := hTY.size; have hzYa : w.heap.size + 1 + 1 < wY.heap.size := (by omega); have hzYb : w.heap.size + 1 + 1 + 1 < wY.heap.size := (by omega)))
    all_goals go_wp2
    all_goals refine bodyPost_ret (v := .tuple #[.agg #[.bool bx, .string tx], .agg #[.bool b2, .string ty], .int .i64 0]) (by simp [results, Tryz.results60, go_sem, hcY, hcT, hc, hyc, hyd, hz1, hzc]) rfl ⟨congrArg Ending.returned HE.out.symm, ?_⟩
    all_goals first
      | exact ((((HF.out _ hTY).setCell (by first | (simp; done) | (simp; omega) | omega) _).setCell (by first | (simp; done) | (simp; omega) | omega) _).setCell (by first | (simp; done) | (simp; omega) | omega) _).setCell (by first | (simp; done) | (simp; omega) | omega) _
      | exact ((((HF.out _ hTX).setCell (by first | (simp; done) | (simp; omega) | omega) _).setCell (by first | (simp; done) | (simp; omega) | omega) _).setCell (by first | (simp; done) | (simp; omega) | omega) _).setCell (by first | (simp; done) | (simp; omega) | omega) _
end Go.Proofs.YtjbpipbmcicjiaaGreatDoor
