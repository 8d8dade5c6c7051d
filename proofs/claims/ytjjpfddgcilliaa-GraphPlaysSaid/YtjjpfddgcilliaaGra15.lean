/-
  LAYER 28: A CELL'S FORMULA IS TAKEN AWAY (Drop).
-/
import Derived.Test.YtjjpfddgcilliaaGra14
set_option linter.unusedSimpArgs false
set_option linter.unusedVariables false
namespace Go.Proofs.Ytjjpfddgcilliaa
open Go.RowKit Go.Shelf Go.Sort Go.Lib Go.Maps
set_option maxRecDepth 100000

theorem del_none {G : Ce → Option (List Ce)} {x : Ce} (h : G x = none) : delG G x = G := funext fun z => by
  unfold delG
  by_cases e : z = x
  · rw [if_pos e, e, h]
  · rw [if_neg e]
/-- what Drop answers. -/
def dropE (G : Ce → Option (List Ce)) (x : Ce) : Int := if (G x).isSome then 0 else 11
set_option maxRecDepth 100000 in
set_option maxHeartbeats 4000000 in
theorem drop_any (p n : Nat) (S : Nat → Prop) (G : Ce → Option (List Ce)) (x : Ce) (hx : okC x) (w : World) (h : GrAt w S p n G) (hn : n * 24 ≤ 140737488355328) : Calls Try.prog 10 #[.pointer (some ⟨p, 0, none⟩), mkC x] w fun e w' => e = .returned (.int .i64 (dropE G x)) ∧ GrAt w' S p n (delG G x) ∧ Trn S w w' := by
  obtain ⟨A, hA⟩ : ∃ A, A = w.heap.size := ⟨_, rfl⟩
  obtain ⟨s, hs⟩ : ∃ s, s = w.alloc (.cells #[.int .i64 x.1, .int .i64 x.2.1, .int .i64 x.2.2] 32) := ⟨_, rfl⟩
  have hb : Below w.heap.size w s := by rw [hs]; exact (Below.refl _ w).alloc (Nat.le_refl _) _
  have hk : ∀ w1, Below s.heap.size s w1 → GrAt w1 S p n G ∧ Trn S w w1 ∧ w1.cell? ⟨A, 0, none⟩ = some (.int .i64 x.1) ∧ w1.cell? ⟨A, 1, none⟩ = some (.int .i64 x.2.1) ∧ w1.cell? ⟨A, 2, none⟩ = some (.int .i64 x.2.2) := fun w1 h1 => by
    have hc := box_at hs
    rw [← hA] at hc
    have hz : A < s.heap.size := by rw [hs, hA]; simp
    have h2 : Below w.heap.size w w1 := hb.trans (h1.mono hb.size)
    exact ⟨h.kept (Kept.of_below h2), Trn.of_below h2, belK h1 hc.1 hz, belK h1 hc.2.1 hz, belK h1 hc.2.2 hz⟩
  have HK := Lib.hid hk
  have HS := Lib.hid hs
  have HA := Lib.hid hA
  have HX := Lib.hid hx
  have HN := Lib.hid hn
  clear hk hs hA hx hb h hn
  have H1 : Hid (∀ w, GrAt w S p n G → Calls Try.prog 40 #[.pointer (some ⟨p, 0, none⟩), mkC x] w fun e w' => e = .returned (.bool (G x).isSome) ∧ Below w.heap.size w w') := Lib.hid fun w h => has_any p n S G x HX.out w h
  have H2 : Hid (∀ w, GrAt w S p n G → Calls Try.prog 41 #[.pointer (some ⟨p, 0, none⟩), mkC x] w fun e w' => e = .returned (.tuple #[]) ∧ GrAt w' S p n (delG G x) ∧ Trn S w w') := Lib.hid fun w h => forget_any p n S G x HX.out w h HN.out
  have HD := Lib.hid (del_none (G := G) (x := x))
  have HE : Hid (dropE G x = if (G x).isSome then 0 else 11) := Lib.hid rfl
  have HI : Hid ((G x).isSome = false → G x = none) := Lib.hid fun h => by cases hg : G x with
    | none => rfl
    | some l => rw [hg] at h; cases h
  generalize dropE G x = R at *
  generalize delG G x = G' at *
  generalize (G x).isSome = q at *
  obtain ⟨x1, x2, x3⟩ := x
  unfold mkC at *
  dsimp only at H1 H2 HK ⊢
  cases q with
  | false =>
    have HR := HE.out
    simp only [Bool.false_eq_true, if_false] at HR
    replace HR := Lib.hid HR
    go_enter Try.func10, Try.ntmps10
    go_wp2_with (go_at_call 40; rw [← HS.out]; refine (H1.out _ (HK.out _ (Below.refl _ _)).1).mono ?_; rintro e w1 ⟨rfl, hb1⟩; obtain ⟨hg1, ht1, kA0, kA1, kA2⟩ := HK.out _ hb1)
    go_ret
    exact ⟨ret_int HR.out.symm, by rw [HD.out (HI.out (by first | rfl | trivial))]; exact hg1, ht1⟩
  | true =>
    have HR := HE.out
    simp only [if_true] at HR
    replace HR := Lib.hid HR
    go_enter Try.func10, Try.ntmps10
    go_wp2_with (first | (go_at_call 40; rw [← HS.out, ← HA.out]; refine (H1.out _ (HK.out _ (Below.refl _ _)).1).mono ?_; rintro e w1 ⟨rfl, hb1⟩; obtain ⟨hg1, ht1, kA0, kA1, kA2⟩ := HK.out _ hb1; have HG1 := Lib.hid hg1; have HT1 := Lib.hid ht1; clear hg1 ht1 hb1) | (go_at_call 41; refine (H2.out _ HG1.out).mono ?_; rintro e w2 ⟨rfl, hg2, ht2⟩))
    go_ret
    exact ⟨ret_int HR.out.symm, hg2, HT1.out.trans (ht2.mono fun k _ hk => Or.inl hk)⟩
end Go.Proofs.Ytjjpfddgcilliaa
