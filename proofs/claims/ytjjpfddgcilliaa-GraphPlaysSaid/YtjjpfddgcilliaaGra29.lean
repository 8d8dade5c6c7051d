/-
  GRAPHS, the document's side: Has and Needs.
-/
import Derived.Test.YtjjpfddgcilliaaGra28
set_option linter.unusedSimpArgs false
set_option linter.unusedVariables false
namespace Go.Proofs.Ytjjpfddgcilliaa
open Go.RowKit Go.Shelf Go.Sort Go.Lib Go.Maps
set_option maxRecDepth 100000

/-- what a cell needs, by rows. -/
def rowOf (R : List Rw) (x : Ce) : Option (List Ce) := (R.find? fun r => decide (r.1 = x)).map fun r => r.2
theorem rowOf_none {R : List Rw} {x : Ce} (h : ∀ i (h : i < R.length), R[i].1 ≠ x) : rowOf R x = none := by
  unfold rowOf
  rw [List.find?_eq_none.2 fun r hr => by
    obtain ⟨i, hi, rfl⟩ := List.getElem_of_mem hr
    simpa using h i hi]
  rfl
theorem rowOf_some : ∀ {R : List Rw} {x : Ce} (k : Nat) (hk : k < R.length), R[k].1 = x → (∀ i (h : i < R.length), i < k → R[i].1 ≠ x) → rowOf R x = some R[k].2
  | [], _, _, hk, _, _ => absurd hk (by simp)
  | r :: R, x, 0, _, h, _ => by
    have h : r.1 = x := h
    unfold rowOf
    rw [List.find?_cons, decide_eq_true h]; rfl
  | r :: R, x, k + 1, hk, h, hp => by
    have h0 : r.1 ≠ x := hp 0 (by simp) (by omega)
    have ih := rowOf_some (R := R) (x := x) k (by simpa using hk) h (fun i hi hik => hp (i + 1) (by simpa using hi) (by omega))
    unfold rowOf at ih ⊢
    rw [List.find?_cons, decide_eq_false h0]
    exact ih
theorem PlR.row {R : List Rw} {x : Ce} {z : Int} (h : PlR R x z) : (z = -1 ∧ rowOf R x = none) ∨ ∃ k, ∃ h : k < R.length, z = (k : Int) ∧ rowOf R x = some R[k].2 ∧ R[k].1 = x := by
  rcases h with ⟨rfl, h⟩ | ⟨k, hk, rfl, h, hp⟩
  · exact Or.inl ⟨rfl, rowOf_none h⟩
  · exact Or.inr ⟨k, hk, rfl, rowOf_some k hk h hp, h⟩
theorem PlR.uniq {R : List Rw} {x : Ce} {z z' : Int} (h : PlR R x z) (h' : PlR R x z') : z = z' := by
  rcases h with ⟨rfl, h⟩ | ⟨k, hk, rfl, h, hp⟩ <;> rcases h' with ⟨rfl, h'⟩ | ⟨k', hk', rfl, h', hp'⟩
  · rfl
  · exact absurd h' (h k' hk')
  · exact absurd h (h' k hk)
  · rcases Nat.lt_trichotomy k k' with e | e | e
    · exact absurd h (hp' k hk e)
    · rw [e]
    · exact absurd h' (hp k' hk' e)
theorem PlR.ex : ∀ (R : List Rw) (x : Ce), ∃ z, PlR R x z
  | [], _ => ⟨-1, Or.inl ⟨rfl, fun _ h => absurd h (by simp)⟩⟩
  | r :: R, x => by
    by_cases e : r.1 = x
    · exact ⟨0, Or.inr ⟨0, by simp, rfl, e, fun i _ h => absurd h (by omega)⟩⟩
    · obtain ⟨z, h⟩ := PlR.ex R x
      rcases h with ⟨rfl, h⟩ | ⟨k, hk, rfl, h, hp⟩
      · refine ⟨-1, Or.inl ⟨rfl, fun i hi => ?_⟩⟩
        match i, hi with
        | 0, _ => exact e
        | i + 1, hi => exact h i (by simpa using hi)
      · refine ⟨((k + 1 : Nat) : Int), Or.inr ⟨k + 1, by simpa using hk, rfl, h, fun i hi hik => ?_⟩⟩
        match i, hi with
        | 0, _ => exact e
        | i + 1, hi => exact hp i (by simpa using hi) (by omega)
/-- where it is, told ahead. -/
theorem PlR.pick (R : List Rw) (x : Ce) : ((∀ z, PlR R x z → z = -1) ∧ rowOf R x = none) ∨ ∃ k, ∃ h : k < R.length, (∀ z, PlR R x z → z = (k : Int)) ∧ rowOf R x = some R[k].2 ∧ R[k].1 = x := by
  obtain ⟨z, hz⟩ := PlR.ex R x
  rcases hz.row with ⟨rfl, hr⟩ | ⟨k, hk, rfl, hr, hx⟩
  · exact Or.inl ⟨fun z' h => h.uniq hz, hr⟩
  · exact Or.inr ⟨k, hk, fun z' h => h.uniq hz, hr, hx⟩
set_option maxRecDepth 100000 in
set_option maxHeartbeats 4000000 in
theorem rhas_any (p : Nat) (R : List Rw) (x : Ce) (w : World) (h : RgV w p R) (hn : R.length ≤ 100000) : Calls Try.prog 32 #[.pointer (some ⟨p, 0, none⟩), mkC x] w fun e w' => e = .returned (.bool (rowOf R x).isSome) ∧ Below w.heap.size w w' := by
  obtain ⟨A, hA⟩ : ∃ A, A = w.heap.size := ⟨_, rfl⟩
  obtain ⟨s, hs⟩ : ∃ s, s = w.alloc (.cells #[.int .i64 x.1, .int .i64 x.2.1, .int .i64 x.2.2] 32) := ⟨_, rfl⟩
  have hb : Below w.heap.size w s := by rw [hs]; exact (Below.refl _ w).alloc (Nat.le_refl _) _
  have hbx := box_at hs
  rw [← hA] at hbx
  obtain ⟨b, hbb⟩ : ∃ b, b = (rowOf R x).isSome := ⟨_, rfl⟩
  rw [← hbb]
  have HPL : Hid (Calls Try.prog 42 #[.pointer (some ⟨p, 0, none⟩), mkC x] s fun e w' => (∃ z, e = .returned (.int .i64 z) ∧ decide (0 ≤ z) = b) ∧ Below s.heap.size s w') := Lib.hid ((place_any p R x s (h.below hb) hn).mono (by
    rintro e w' ⟨⟨z, rfl, hz⟩, hb⟩
    refine ⟨⟨z, rfl, ?_⟩, hb⟩
    rcases hz.row with ⟨rfl, hr⟩ | ⟨k, hk, rfl, hr, _⟩
    · rw [hbb, hr]; rfl
    · rw [hbb, hr]; simp))
  have HB := Lib.hid hb
  have HS := Lib.hid hs
  have HA := Lib.hid hA
  clear h hs hA hb hbb
  obtain ⟨x1, x2, x3⟩ := x
  obtain ⟨k0, k1, k2⟩ := hbx
  unfold mkC at *
  dsimp only at k0 k1 k2 HPL
  go_enter Try.func32, Try.ntmps32
  go_wp2_with (go_at_call 42; rw [← HS.out]; refine HPL.out.mono ?_; rintro e y1 ⟨⟨z, rfl, hz⟩, hby⟩; have HZ := Lib.hid hz; clear hz)
  all_goals first | go_ret | go_ret2
  exact ⟨congrArg (fun b => Ending.returned (Value.bool b)) HZ.out, HB.out.trans (hby.mono HB.out.size)⟩
set_option maxRecDepth 100000 in
set_option maxHeartbeats 4000000 in
theorem rneeds_any (p : Nat) (R : List Rw) (x : Ce) (w : World) (h : RgV w p R) (hn : R.length ≤ 100000) : Calls Try.prog 46 #[.pointer (some ⟨p, 0, none⟩), mkC x] w fun e w' => (∃ v, e = .returned v ∧ CsAt w' v (lOf (rowOf R) x)) ∧ Below w.heap.size w w' := by
  obtain ⟨Po, hPo⟩ : ∃ Po : Ending → World → Prop, Po = fun e w' => (∃ v, e = .returned v ∧ CsAt w' v (lOf (rowOf R) x)) ∧ Below w.heap.size w w' := ⟨_, rfl⟩
  rw [← hPo]
  have HPO := Lib.hid hPo
  clear hPo
  obtain ⟨A, hA⟩ : ∃ A, A = w.heap.size := ⟨_, rfl⟩
  obtain ⟨s, hs⟩ : ∃ s, s = w.alloc (.cells #[.int .i64 x.1, .int .i64 x.2.1, .int .i64 x.2.2] 32) := ⟨_, rfl⟩
  have hb : Below w.heap.size w s := by rw [hs]; exact (Below.refl _ w).alloc (Nat.le_refl _) _
  have hbx := box_at hs
  rw [← hA] at hbx
  obtain ⟨hp, a, cap, hv, hc⟩ := h.below hb
  have HPL := Lib.hid (place_any p R x s (h.below hb) hn)
  have HC := Lib.hid hc
  have HV := Lib.hid hv
  have HP := Lib.hid hp
  have HB := Lib.hid hb
  have HS := Lib.hid hs
  have HA := Lib.hid hA
  obtain ⟨L, hL⟩ : ∃ L, L = R.length := ⟨_, rfl⟩
  rw [← hL] at HV hn
  have HLL := Lib.hid hL
  clear h hs hA hb hp hv hc hL
  rcases PlR.pick R x with ⟨hz, hr⟩ | ⟨k, hk, hz, hr, hx⟩
  · have HP1 : Hid (Calls Try.prog 42 #[.pointer (some ⟨p, 0, none⟩), mkC x] s fun e w' => e = .returned (.int .i64 (-1)) ∧ Below s.heap.size s w') := Lib.hid (HPL.out.mono (by rintro e w' ⟨⟨z, rfl, h⟩, hb⟩; rw [hz z h]; exact ⟨rfl, hb⟩))
    have HLX : Hid (lOf (rowOf R) x = []) := Lib.hid (by unfold lOf; rw [hr]; rfl)
    rw [HLX.out] at HPO
    clear hz hr HPL
    obtain ⟨x1, x2, x3⟩ := x
    obtain ⟨k0, k1, k2⟩ := hbx
    unfold mkC at *
    dsimp only at k0 k1 k2 HP1
    go_enter Try.func46, Try.ntmps46
    go_wp2_with (go_at_call 42; rw [← HS.out]; refine HP1.out.mono ?_; rintro e y1 ⟨rfl, hby⟩)
    show Po (.returned (.slice none 0 0)) _
    rw [HPO.out]
    exact ⟨⟨_, rfl, Or.inl ⟨rfl, rfl⟩⟩, HB.out.trans (hby.mono HB.out.size)⟩
  · have HP1 : Hid (Calls Try.prog 42 #[.pointer (some ⟨p, 0, none⟩), mkC x] s fun e w' => e = .returned (.int .i64 (k : Int)) ∧ Below s.heap.size s w') := Lib.hid (HPL.out.mono (by rintro e w' ⟨⟨z, rfl, h⟩, hb⟩; rw [hz z h]; exact ⟨rfl, hb⟩))
    have HLX : Hid (lOf (rowOf R) x = R[k].2) := Lib.hid (by unfold lOf; rw [hr]; rfl)
    rw [HLX.out] at HPO
    obtain ⟨g, o, u, rfl, hg, c0, c1, c2, c3, hu⟩ := HC.out k hk
    have hkL : k < L := by rw [HLL.out]; exact hk
    have HU := Lib.hid hu
    clear hz hr HPL c0 c1 c2 hu hx HLX
    generalize R[k] = zz at *
    obtain ⟨x1, x2, x3⟩ := x
    obtain ⟨k0, k1, k2⟩ := hbx
    unfold mkC at *
    dsimp only at k0 k1 k2 HP1
    go_enter Try.func46, Try.ntmps46
    go_wp2_with (go_at_call 42; rw [← HS.out]; refine HP1.out.mono ?_; rintro e y1 ⟨rfl, hby⟩; have v0 := belK hby HV.out HP.out; have d3 := belK hby c3 hg; have hzp := Nat.lt_of_lt_of_le HP.out hby.size; have hzg := Nat.lt_of_lt_of_le hg hby.size)
    show Po (.returned u) _
    rw [HPO.out]
    exact ⟨⟨_, rfl, HU.out.below hby⟩, HB.out.trans (hby.mono HB.out.size)⟩
end Go.Proofs.Ytjjpfddgcilliaa
