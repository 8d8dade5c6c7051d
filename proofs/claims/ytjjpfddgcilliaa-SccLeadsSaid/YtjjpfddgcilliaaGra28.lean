/-
  GRAPHS, the document's side: its rows in memory; where a cell's row is; what it needs.
  GRAPHS, the document's side: Has and Needs.
-/
import Derived.Test.YtjjpfddgcilliaaGra25
set_option linter.unusedSimpArgs false
set_option linter.unusedVariables false
namespace Go.Proofs.Ytjjpfddgcilliaa
open Go.RowKit Go.Shelf Go.Sort Go.Lib Go.Maps
set_option maxRecDepth 100000

/-- a row: a cell, and what it needs. -/
abbrev Rw := Ce × List Ce
/-- the document's graph in memory, as it is read: block p holds the list of its rows. -/
def RgV (W : World) (p : Nat) (R : List Rw) : Prop := p < W.heap.size ∧ ∃ (a : Option Addr) (cap : Nat), W.cell? ⟨p, 0, none⟩ = some (.slice a R.length cap) ∧ ∀ i (h : i < R.length), ∃ g o u, a = some ⟨g, o, none⟩ ∧ g < W.heap.size ∧ W.cell? ⟨g, o + i * 4, none⟩ = some (.int .i64 R[i].1.1) ∧ W.cell? ⟨g, o + i * 4 + 1, none⟩ = some (.int .i64 R[i].1.2.1) ∧ W.cell? ⟨g, o + i * 4 + 2, none⟩ = some (.int .i64 R[i].1.2.2) ∧ W.cell? ⟨g, o + i * 4 + 3, none⟩ = some u ∧ CsAt W u R[i].2
theorem RgV.below {W W' : World} {p : Nat} {R : List Rw} (h : RgV W p R) (hb : Below W.heap.size W W') : RgV W' p R := by
  obtain ⟨hp, a, cap, hv, hc⟩ := h
  refine ⟨Nat.lt_of_lt_of_le hp hb.size, a, cap, belK hb hv hp, fun i hi => ?_⟩
  obtain ⟨g, o, u, e, hg, c0, c1, c2, c3, hu⟩ := hc i hi
  exact ⟨g, o, u, e, Nat.lt_of_lt_of_le hg hb.size, belK hb c0 hg, belK hb c1 hg, belK hb c2 hg, belK hb c3 hg, hu.below hb⟩
/-- a cell's place among rows: -1 if it has none. -/
def PlR (R : List Rw) (x : Ce) (z : Int) : Prop := (z = -1 ∧ ∀ i (h : i < R.length), R[i].1 ≠ x) ∨ ∃ k, ∃ h : k < R.length, z = (k : Int) ∧ R[k].1 = x ∧ ∀ i (h : i < R.length), i < k → R[i].1 ≠ x
theorem PlR.has {R : List Rw} {x : Ce} {z : Int} (h : PlR R x z) : decide (0 ≤ z) = decide (∃ r ∈ R, r.1 = x) := by
  rcases h with ⟨rfl, h⟩ | ⟨k, hk, rfl, h, _⟩
  · rw [decide_eq_false (by omega), decide_eq_false]
    rintro ⟨r, hr, e⟩
    obtain ⟨i, hi, rfl⟩ := List.getElem_of_mem hr
    exact h i hi e
  · rw [decide_eq_true (by omega), decide_eq_true ⟨R[k], List.getElem_mem hk, h⟩]
set_option maxRecDepth 100000 in
set_option maxHeartbeats 4000000 in
theorem place_any (p : Nat) (R : List Rw) (x : Ce) (w : World) (h : RgV w p R) (hn : R.length ≤ 100000) : Calls Try.prog 42 #[.pointer (some ⟨p, 0, none⟩), mkC x] w fun e w' => (∃ z, e = .returned (.int .i64 z) ∧ PlR R x z) ∧ Below w.heap.size w w' := by
  obtain ⟨Po, hPo⟩ : ∃ Po : Ending → World → Prop, Po = fun e w' => (∃ z, e = .returned (.int .i64 z) ∧ PlR R x z) ∧ Below w.heap.size w w' := ⟨_, rfl⟩
  rw [← hPo]
  have HPO := Lib.hid hPo
  clear hPo
  obtain ⟨A, hA⟩ : ∃ A, A = w.heap.size := ⟨_, rfl⟩
  obtain ⟨s, hs⟩ : ∃ s, s = w.alloc (.cells #[.int .i64 x.1, .int .i64 x.2.1, .int .i64 x.2.2] 32) := ⟨_, rfl⟩
  have hb : Below w.heap.size w s := by rw [hs]; exact (Below.refl _ w).alloc (Nat.le_refl _) _
  have hbx := box_at hs
  have zA : A < s.heap.size := by rw [hs, hA]; simp
  rw [← hA] at hbx
  obtain ⟨hp, a, cap, hv, hc⟩ := h.below hb
  have HC := Lib.hid hc
  have HV := Lib.hid hv
  have HP := Lib.hid hp
  have HBX := Lib.hid hbx
  have HZA := Lib.hid zA
  have HB := Lib.hid hb
  have HS := Lib.hid hs
  have HA := Lib.hid hA
  obtain ⟨L, hL⟩ : ∃ L, L = R.length := ⟨_, rfl⟩
  rw [← hL] at hn HV
  have HLL := Lib.hid hL
  clear h hs hA hb hbx zA hp hv hc hL
  obtain ⟨x1, x2, x3⟩ := x
  unfold mkC
  go_enter Try.func42, Try.ntmps42
  go_wp2_with fail
  rw [← HS.out, ← HA.out]
  go_loopw [5] (fun i wr => ∃ k : Nat, k ≤ L ∧ i = .int .i64 k ∧ (∀ i (h : i < R.length), i < k → R[i].1 ≠ (x1, x2, x3)) ∧ Below s.heap.size s wr) (fun i _ => L - (intOf i).toNat)
  case atStart => exact ⟨0, by omega, rfl, fun i _ hi => absurd hi (by omega), Below.refl _ _⟩
  case round =>
    obtain ⟨k, hk, rfl, hpre, hR⟩ := hrel
    have HPRE := Lib.hid hpre
    have HR := Lib.hid hR
    clear hpre hR
    have v0 := belK HR.out HV.out HP.out
    by_cases hlt : k < L
    · have hkl : k < R.length := by rw [← HLL.out]; exact hlt
      obtain ⟨g, o, u, rfl, hg, c0, c1, c2, _, _⟩ := HC.out k hkl
      have HKL := Lib.hid hkl
      generalize hz : R[k] = z at *
      have HZ := Lib.hid hz
      clear hz hkl
      obtain ⟨⟨z1, z2, z3⟩, zl⟩ := z
      dsimp only at c0 c1 c2
      have d0 := belK HR.out c0 hg
      have d1 := belK HR.out c1 hg
      have d2 := belK HR.out c2 hg
      have e0 := belK HR.out HBX.out.1 HZA.out
      have e1 := belK HR.out HBX.out.2.1 HZA.out
      have e2 := belK HR.out HBX.out.2.2 HZA.out
      have hgr := Nat.lt_of_lt_of_le hg HR.out.size
      have zp := Nat.lt_of_lt_of_le HP.out HR.out.size
      have zA := Nat.lt_of_lt_of_le HZA.out HR.out.size
      clear c0 c1 c2
      go_wp2_with fail
      refine wrp (S := fun w' => Below wr.heap.size wr w' ∧ w'.cell? ⟨p, 0, none⟩ = some (.slice (some ⟨g, o, none⟩) L cap) ∧ (w'.cell? ⟨A, 0, none⟩ = some (.int .i64 x1) ∧ w'.cell? ⟨A, 1, none⟩ = some (.int .i64 x2) ∧ w'.cell? ⟨A, 2, none⟩ = some (.int .i64 x3)) ∧ w'.cell? ⟨g, o + k * 4, none⟩ = some (.int .i64 z1) ∧ w'.cell? ⟨g, o + k * 4 + 1, none⟩ = some (.int .i64 z2) ∧ w'.cell? ⟨g, o + k * 4 + 2, none⟩ = some (.int .i64 z3)) (by kernel_rfl) (fun w' hx => ⟨hx, belK hx v0 zp, ⟨belK hx e0 zA, belK hx e1 zA, belK hx e2 zA⟩, belK hx d0 hgr, belK hx d1 hgr, belK hx d2 hgr⟩) (fun HKP hHeld => ?_)
      clear d0 d1 d2 e0 e1 e2 v0
      refine tk 0 ?_
      refine tk 1 ?_
      refine tk 2 ?_
      refine tk 3 ?_
      refine tk 4 ?_
      refine tk 5 ?_
      refine tk 6 ?_
      refine tk 7 ?_
      refine tk 8 ?_
      obtain ⟨r, hr⟩ : ∃ r, decide ((z1, z2, z3) = (x1, x2, x3)) = r := ⟨_, rfl⟩
      refine tk 9 ?_ (hy := eq_y rfl rfl rfl rfl rfl hr)
      refine wpAnyH_done (by kernel_rfl) ?_ _
      clear hHeld HKP
      have HRR := Lib.hid hr
      clear hr
      cases r with
      | true =>
        go_wp2_with fail
        show Po (.returned (.int .i64 k)) _
        rw [HPO.out]
        exact ⟨⟨_, rfl, Or.inr ⟨k, HKL.out, rfl, (congrArg (fun q : Rw => q.1) HZ.out).trans (of_decide_eq_true HRR.out), HPRE.out⟩⟩, HB.out.trans (HR.out.drew.mono HB.out.size)⟩
      | false =>
        go_wp2_with fail
        go_roundw
        case rel =>
          refine ⟨k + 1, by omega, by go_num, fun i hi hik => ?_, HR.out.drew⟩
          by_cases ei : i = k
          · subst ei; exact fun h => of_decide_eq_false HRR.out ((congrArg (fun q : Rw => q.1) HZ.out).symm.trans h)
          · exact HPRE.out i hi (by omega)
        case measure => simp [intOf]; omega
    · obtain rfl : k = L := by omega
      clear hlt
      have zp := Nat.lt_of_lt_of_le HP.out HR.out.size
      go_wp2_with fail
      show Po (.returned (.int .i64 (-1))) _
      rw [HPO.out]
      exact ⟨⟨_, rfl, Or.inl ⟨rfl, fun i hi => HPRE.out i hi (by rw [HLL.out]; exact hi)⟩⟩, HB.out.trans (HR.out.mono HB.out.size)⟩
end Go.Proofs.Ytjjpfddgcilliaa
namespace Go.Proofs.Ytjjpfddgcilliaa
open Go.RowKit Go.Shelf Go.Sort Go.Lib Go.Maps
set_option maxRecDepth 100000

/-- what a cell needs, by rows. -/
def rowOf (R : List Rw) (x : Ce) : Option (List Ce) := (R.find? fun r => decide (r.1 = x)).map fun r => r.2
theorem rowOf_none {R : List Rw} {x : Ce} (h : ∀ i (h : i < R.length), R[i].1 ≠ x) : rowOf R x = none := by
  unfold rowOf
  rw [List.find?_eq_none.2 fun r hr => by
    obtain ⟨i, hi, rfl⟩ := List.getElem_of_mem hr
    simpa using h i hi]
  rfl
theorem rowOf_some : ∀ {R : List Rw} {x : Ce} (k : Nat) (hk : k < R.length), R[k].1 = x → (∀ i (h : i < R.length), i < k → R[i].1 ≠ x) → rowOf R x = some R[k].2
  | [], _, _, hk, _, _ => absurd hk (by simp)
  | r :: R, x, 0, _, h, _ => by
    have h : r.1 = x := h
    unfold rowOf
    rw [List.find?_cons, decide_eq_true h]; rfl
  | r :: R, x, k + 1, hk, h, hp => by
    have h0 : r.1 ≠ x := hp 0 (by simp) (by omega)
    have ih := rowOf_some (R := R) (x := x) k (by simpa using hk) h (fun i hi hik => hp (i + 1) (by simpa using hi) (by omega))
    unfold rowOf at ih ⊢
    rw [List.find?_cons, decide_eq_false h0]
    exact ih
theorem PlR.row {R : List Rw} {x : Ce} {z : Int} (h : PlR R x z) : (z = -1 ∧ rowOf R x = none) ∨ ∃ k, ∃ h : k < R.length, z = (k : Int) ∧ rowOf R x = some R[k].2 ∧ R[k].1 = x := by
  rcases h with ⟨rfl, h⟩ | ⟨k, hk, rfl, h, hp⟩
  · exact Or.inl ⟨rfl, rowOf_none h⟩
  · exact Or.inr ⟨k, hk, rfl, rowOf_some k hk h hp, h⟩
theorem PlR.uniq {R : List Rw} {x : Ce} {z z' : Int} (h : PlR R x z) (h' : PlR R x z') : z = z' := by
  rcases h with ⟨rfl, h⟩ | ⟨k, hk, rfl, h, hp⟩ <;> rcases h' with ⟨rfl, h'⟩ | ⟨k', hk', rfl, h', hp'⟩
  · rfl
  · exact absurd h' (h k' hk')
  · exact absurd h (h' k hk)
  · rcases Nat.lt_trichotomy k k' with e | e | e
    · exact absurd h (hp' k hk e)
    · rw [e]
    · exact absurd h' (hp k' hk' e)
theorem PlR.ex : ∀ (R : List Rw) (x : Ce), ∃ z, PlR R x z
  | [], _ => ⟨-1, Or.inl ⟨rfl, fun _ h => absurd h (by simp)⟩⟩
  | r :: R, x => by
    by_cases e : r.1 = x
    · exact ⟨0, Or.inr ⟨0, by simp, rfl, e, fun i _ h => absurd h (by omega)⟩⟩
    · obtain ⟨z, h⟩ := PlR.ex R x
      rcases h with ⟨rfl, h⟩ | ⟨k, hk, rfl, h, hp⟩
      · refine ⟨-1, Or.inl ⟨rfl, fun i hi => ?_⟩⟩
        match i, hi with
        | 0, _ => exact e
        | i + 1, hi => exact h i (by simpa using hi)
      · refine ⟨((k + 1 : Nat) : Int), Or.inr ⟨k + 1, by simpa using hk, rfl, h, fun i hi hik => ?_⟩⟩
        match i, hi with
        | 0, _ => exact e
        | i + 1, hi => exact hp i (by simpa using hi) (by omega)
/-- where it is, told ahead. -/
theorem PlR.pick (R : List Rw) (x : Ce) : ((∀ z, PlR R x z → z = -1) ∧ rowOf R x = none) ∨ ∃ k, ∃ h : k < R.length, (∀ z, PlR R x z → z = (k : Int)) ∧ rowOf R x = some R[k].2 ∧ R[k].1 = x := by
  obtain ⟨z, hz⟩ := PlR.ex R x
  rcases hz.row with ⟨rfl, hr⟩ | ⟨k, hk, rfl, hr, hx⟩
  · exact Or.inl ⟨fun z' h => h.uniq hz, hr⟩
  · exact Or.inr ⟨k, hk, fun z' h => h.uniq hz, hr, hx⟩
set_option maxRecDepth 100000 in
set_option maxHeartbeats 4000000 in
theorem rhas_any (p : Nat) (R : List Rw) (x : Ce) (w : World) (h : RgV w p R) (hn : R.length ≤ 100000) : Calls Try.prog 32 #[.pointer (some ⟨p, 0, none⟩), mkC x] w fun e w' => e = .returned (.bool (rowOf R x).isSome) ∧ Below w.heap.size w w' := by
  obtain ⟨A, hA⟩ : ∃ A, A = w.heap.size := ⟨_, rfl⟩
  obtain ⟨s, hs⟩ : ∃ s, s = w.alloc (.cells #[.int .i64 x.1, .int .i64 x.2.1, .int .i64 x.2.2] 32) := ⟨_, rfl⟩
  have hb : Below w.heap.size w s := by rw [hs]; exact (Below.refl _ w).alloc (Nat.le_refl _) _
  have hbx := box_at hs
  rw [← hA] at hbx
  obtain ⟨b, hbb⟩ : ∃ b, b = (rowOf R x).isSome := ⟨_, rfl⟩
  rw [← hbb]
  have HPL : Hid (Calls Try.prog 42 #[.pointer (some ⟨p, 0, none⟩), mkC x] s fun e w' => (∃ z, e = .returned (.int .i64 z) ∧ decide (0 ≤ z) = b) ∧ Below s.heap.size s w') := Lib.hid ((place_any p R x s (h.below hb) hn).mono (by
    rintro e w' ⟨⟨z, rfl, hz⟩, hb⟩
    refine ⟨⟨z, rfl, ?_⟩, hb⟩
    rcases hz.row with ⟨rfl, hr⟩ | ⟨k, hk, rfl, hr, _⟩
    · rw [hbb, hr]; rfl
    · rw [hbb, hr]; simp))
  have HB := Lib.hid hb
  have HS := Lib.hid hs
  have HA := Lib.hid hA
  clear h hs hA hb hbb
  obtain ⟨x1, x2, x3⟩ := x
  obtain ⟨k0, k1, k2⟩ := hbx
  unfold mkC at *
  dsimp only at k0 k1 k2 HPL
  go_enter Try.func32, Try.ntmps32
  go_wp2_with (go_at_call 42; rw [← HS.out]; refine HPL.out.mono ?_; rintro e y1 ⟨⟨z, rfl, hz⟩, hby⟩; have HZ := Lib.hid hz; clear hz)
  all_goals first | go_ret | go_ret2
  exact ⟨congrArg (fun b => Ending.returned (Value.bool b)) HZ.out, HB.out.trans (hby.mono HB.out.size)⟩
set_option maxRecDepth 100000 in
set_option maxHeartbeats 4000000 in
theorem rneeds_any (p : Nat) (R : List Rw) (x : Ce) (w : World) (h : RgV w p R) (hn : R.length ≤ 100000) : Calls Try.prog 46 #[.pointer (some ⟨p, 0, none⟩), mkC x] w fun e w' => (∃ v, e = .returned v ∧ CsAt w' v (lOf (rowOf R) x)) ∧ Below w.heap.size w w' := by
  obtain ⟨Po, hPo⟩ : ∃ Po : Ending → World → Prop, Po = fun e w' => (∃ v, e = .returned v ∧ CsAt w' v (lOf (rowOf R) x)) ∧ Below w.heap.size w w' := ⟨_, rfl⟩
  rw [← hPo]
  have HPO := Lib.hid hPo
  clear hPo
  obtain ⟨A, hA⟩ : ∃ A, A = w.heap.size := ⟨_, rfl⟩
  obtain ⟨s, hs⟩ : ∃ s, s = w.alloc (.cells #[.int .i64 x.1, .int .i64 x.2.1, .int .i64 x.2.2] 32) := ⟨_, rfl⟩
  have hb : Below w.heap.size w s := by rw [hs]; exact (Below.refl _ w).alloc (Nat.le_refl _) _
  have hbx := box_at hs
  rw [← hA] at hbx
  obtain ⟨hp, a, cap, hv, hc⟩ := h.below hb
  have HPL := Lib.hid (place_any p R x s (h.below hb) hn)
  have HC := Lib.hid hc
  have HV := Lib.hid hv
  have HP := Lib.hid hp
  have HB := Lib.hid hb
  have HS := Lib.hid hs
  have HA := Lib.hid hA
  obtain ⟨L, hL⟩ : ∃ L, L = R.length := ⟨_, rfl⟩
  rw [← hL] at HV hn
  have HLL := Lib.hid hL
  clear h hs hA hb hp hv hc hL
  rcases PlR.pick R x with ⟨hz, hr⟩ | ⟨k, hk, hz, hr, hx⟩
  · have HP1 : Hid (Calls Try.prog 42 #[.pointer (some ⟨p, 0, none⟩), mkC x] s fun e w' => e = .returned (.int .i64 (-1)) ∧ Below s.heap.size s w') := Lib.hid (HPL.out.mono (by rintro e w' ⟨⟨z, rfl, h⟩, hb⟩; rw [hz z h]; exact ⟨rfl, hb⟩))
    have HLX : Hid (lOf (rowOf R) x = []) := Lib.hid (by unfold lOf; rw [hr]; rfl)
    rw [HLX.out] at HPO
    clear hz hr HPL
    obtain ⟨x1, x2, x3⟩ := x
    obtain ⟨k0, k1, k2⟩ := hbx
    unfold mkC at *
    dsimp only at k0 k1 k2 HP1
    go_enter Try.func46, Try.ntmps46
    go_wp2_with (go_at_call 42; rw [← HS.out]; refine HP1.out.mono ?_; rintro e y1 ⟨rfl, hby⟩)
    show Po (.returned (.slice none 0 0)) _
    rw [HPO.out]
    exact ⟨⟨_, rfl, Or.inl ⟨rfl, rfl⟩⟩, HB.out.trans (hby.mono HB.out.size)⟩
  · have HP1 : Hid (Calls Try.prog 42 #[.pointer (some ⟨p, 0, none⟩), mkC x] s fun e w' => e = .returned (.int .i64 (k : Int)) ∧ Below s.heap.size s w') := Lib.hid (HPL.out.mono (by rintro e w' ⟨⟨z, rfl, h⟩, hb⟩; rw [hz z h]; exact ⟨rfl, hb⟩))
    have HLX : Hid (lOf (rowOf R) x = R[k].2) := Lib.hid (by unfold lOf; rw [hr]; rfl)
    rw [HLX.out] at HPO
    obtain ⟨g, o, u, rfl, hg, c0, c1, c2, c3, hu⟩ := HC.out k hk
    have hkL : k < L := by rw [HLL.out]; exact hk
    have HU := Lib.hid hu
    clear hz hr HPL c0 c1 c2 hu hx HLX
    generalize R[k] = zz at *
    obtain ⟨x1, x2, x3⟩ := x
    obtain ⟨k0, k1, k2⟩ := hbx
    unfold mkC at *
    dsimp only at k0 k1 k2 HP1
    go_enter Try.func46, Try.ntmps46
    go_wp2_with (go_at_call 42; rw [← HS.out]; refine HP1.out.mono ?_; rintro e y1 ⟨rfl, hby⟩; have v0 := belK hby HV.out HP.out; have d3 := belK hby c3 hg; have hzp := Nat.lt_of_lt_of_le HP.out hby.size; have hzg := Nat.lt_of_lt_of_le hg hby.size)
    show Po (.returned u) _
    rw [HPO.out]
    exact ⟨⟨_, rfl, HU.out.below hby⟩, HB.out.trans (hby.mono HB.out.size)⟩
end Go.Proofs.Ytjjpfddgcilliaa
