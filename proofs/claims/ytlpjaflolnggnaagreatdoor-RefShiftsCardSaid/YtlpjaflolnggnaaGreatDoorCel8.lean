/-
  LAYER 11, REFERENCES: Move of both.
-/
import Derived.Test.YtlpjaflolnggnaaGreatDoorCel7
namespace Go.Proofs.YtlpjaflolnggnaaGreatDoor
open Go.RowKit Go.Shelf
set_option linter.unusedSimpArgs false
set_option linter.unusedVariables false

def mvC (f : Bool) (c d : Int) : Int := if f then c else c + d
def mvB (q : Rf) (d e : Int) : Bool := rgtB q.sh q.c q.r && rgtB q.sh (mvC q.fc q.c d) (mvC q.fr q.r e)
def mvR (q : Rf) (d e : Int) : Rf := if mvB q d e then ⟨q.sh, mvC q.fc q.c d, mvC q.fr q.r e, q.fc, q.fr⟩ else rf0
/-- as the program reckons it. -/
def mvW (f : Bool) (c d : Int) : Int := if f then c else IntKind.i64.wrap (c + d)
theorem mvW_or {f : Bool} {c d : Int} (h1 : 1 ≤ c) (h2 : c ≤ 99) (h3 : -9223372036854775808 ≤ d) (h4 : d ≤ 9223372036854775807) : mvW f c d = mvC f c d ∨ (mvW f c d < 1 ∧ 99 < mvC f c d) := by
  unfold mvW mvC
  cases f with
  | true => exact Or.inl rfl
  | false =>
    rw [if_neg Bool.false_ne_true, if_neg Bool.false_ne_true]
    by_cases h : c + d ≤ 9223372036854775807
    · left; simp [IntKind.wrap, IntKind.signed, IntKind.bits]; omega
    · right; refine ⟨?_, by omega⟩; simp [IntKind.wrap, IntKind.signed, IntKind.bits]; omega
/-- as the document reckons it. -/
def clD (d : Int) : Int := if d < -1000 ∨ 1000 < d then 1000 else d
theorem clD_or {f : Bool} {c d : Int} (h1 : 1 ≤ c) (h2 : c ≤ 99) : mvC f c (clD d) = mvC f c d ∨ ((mvC f c (clD d) < 1 ∨ 99 < mvC f c (clD d)) ∧ (mvC f c d < 1 ∨ 99 < mvC f c d)) := by
  unfold mvC
  cases f with
  | true => exact Or.inl rfl
  | false =>
    rw [if_neg Bool.false_ne_true, if_neg Bool.false_ne_true]
    unfold clD
    split <;> omega
/-- one of these two ways of reckoning will do. -/
theorem rgt_same {s : ByteArray} {c r c' r' : Int} (hc : c' = c ∨ ((c' < 1 ∨ 99 < c') ∧ (c < 1 ∨ 99 < c))) (hr : r' = r ∨ ((r' < 1 ∨ 99 < r') ∧ (r < 1 ∨ 99 < r))) :
    rgtB s c' r' = rgtB s c r ∧ (rgtB s c r = true → c' = c ∧ r' = r) := by
  have yes : rgtB s c' r' = true → c' = c ∧ r' = r := fun h => by have := rgt_in h; omega
  have yes2 : rgtB s c r = true → c' = c ∧ r' = r := fun h => by have := rgt_in h; omega
  refine ⟨?_, yes2⟩
  cases h : rgtB s c r with
  | true => obtain ⟨rfl, rfl⟩ := yes2 h; exact h
  | false =>
    cases h2 : rgtB s c' r' with
    | false => rfl
    | true => obtain ⟨rfl, rfl⟩ := yes h2; rw [h2] at h; cases h
theorem mvR_no {q : Rf} {d e : Int} (h : mvB q d e = false) : mvR q d e = rf0 := by unfold mvR; rw [h]; rfl
theorem mvR_yes {q : Rf} {d e : Int} (h : mvB q d e = true) : mvR q d e = ⟨q.sh, mvC q.fc q.c d, mvC q.fr q.r e, q.fc, q.fr⟩ := by unfold mvR; rw [h]; rfl
set_option maxRecDepth 100000 in
set_option maxHeartbeats 8000000 in
theorem move_any (q : Rf) (d e : Int) (p : Rf) (b : Bool) (w : World) (hs : q.sh.size ≤ maxLen) (hd1 : -9223372036854775808 ≤ d) (hd2 : d ≤ 9223372036854775807) (he1 : -9223372036854775808 ≤ e) (he2 : e ≤ 9223372036854775807) (hp : mvR q d e = p) (hb : mvB q d e = b) :
    Calls Tryz.prog 6 #[.agg #[.string q.sh, .int .i64 q.c, .int .i64 q.r, .bool q.fc, .bool q.fr], .int .i64 d, .int .i64 e] w fun e w' => e = .returned (.tuple #[.agg #[.string p.sh, .int .i64 p.c, .int .i64 p.r, .bool p.fc, .bool p.fr], .bool b]) ∧ Below w.heap.size w w' := by
  have hud : undef = Value.tuple #[] := rfl
  cases h0 : rgtB q.sh q.c q.r with
  | false =>
    have hb' : mvB q d e = false := by unfold mvB; rw [h0, Bool.false_and]
    rw [mvR_no hb'] at hp
    rw [hb'] at hb
    subst hp hb
    have HR := Lib.hid (fun w => right1_any q false w hs h0)
    obtain ⟨sh, c, r, fc, fr⟩ := q
    dsimp only at *
    clear h0 hb' hd1 hd2 he1 he2
    go_enter Tryz.func6, Tryz.ntmps6
    go_wp2_with fail
    obtain ⟨s1, hws⟩ : ∃ s, s = ((w.alloc (.cells #[.string sh, .int .i64 c, .int .i64 r, .bool fc, .bool fr] 23)).alloc (.cells #[.string ⟨#[]⟩, .int .i64 0, .int .i64 0, .bool false, .bool false] 23)) := ⟨_, rfl⟩
    have hBs : Below w.heap.size w s1 := by rw [hws]; exact (((Below.refl w.heap.size w).alloc (by simp) _).alloc (by simp) _)
    obtain ⟨A, hdA⟩ : ∃ b, b = w.heap.size := ⟨_, rfl⟩
    obtain ⟨C, hdC⟩ : ∃ b, b = w.heap.size + 1 := ⟨_, rfl⟩
    have hsz : s1.heap.size = w.heap.size + 1 + 1 := by rw [hws]; simp
    have dCA : C ≠ A := by omega
    have kA0 : s1.cell? ⟨A, 0, none⟩ = some (.string sh) := by rw [hws]; simp [go_sem, hdA, hdC]
    have kA1 : s1.cell? ⟨A, 1, none⟩ = some (.int .i64 c) := by rw [hws]; simp [go_sem, hdA, hdC]
    have kA2 : s1.cell? ⟨A, 2, none⟩ = some (.int .i64 r) := by rw [hws]; simp [go_sem, hdA, hdC]
    have kA3 : s1.cell? ⟨A, 3, none⟩ = some (.bool fc) := by rw [hws]; simp [go_sem, hdA, hdC]
    have kA4 : s1.cell? ⟨A, 4, none⟩ = some (.bool fr) := by rw [hws]; simp [go_sem, hdA, hdC]
    have zA : A < s1.heap.size := by omega
    have lA : w.heap.size ≤ A := by have := Nat.le_refl w.heap.size; omega
    have kC0 : s1.cell? ⟨C, 0, none⟩ = some (.string ⟨#[]⟩) := by rw [hws]; simp [go_sem, hdA, hdC]
    have fC0 : s1.frozen? ⟨C, 0, none⟩ = false := by rw [hws]; simp [go_sem, hdA, hdC]
    have kC1 : s1.cell? ⟨C, 1, none⟩ = some (.int .i64 0) := by rw [hws]; simp [go_sem, hdA, hdC]
    have fC1 : s1.frozen? ⟨C, 1, none⟩ = false := by rw [hws]; simp [go_sem, hdA, hdC]
    have kC2 : s1.cell? ⟨C, 2, none⟩ = some (.int .i64 0) := by rw [hws]; simp [go_sem, hdA, hdC]
    have fC2 : s1.frozen? ⟨C, 2, none⟩ = false := by rw [hws]; simp [go_sem, hdA, hdC]
    have kC3 : s1.cell? ⟨C, 3, none⟩ = some (.bool false) := by rw [hws]; simp [go_sem, hdA, hdC]
    have fC3 : s1.frozen? ⟨C, 3, none⟩ = false := by rw [hws]; simp [go_sem, hdA, hdC]
    have kC4 : s1.cell? ⟨C, 4, none⟩ = some (.bool false) := by rw [hws]; simp [go_sem, hdA, hdC]
    have fC4 : s1.frozen? ⟨C, 4, none⟩ = false := by rw [hws]; simp [go_sem, hdA, hdC]
    have zC : C < s1.heap.size := by omega
    have lC : w.heap.size ≤ C := by have := Nat.le_refl w.heap.size; omega
    rw [← hws]
    try rw [← hdC]
    try rw [← hdA]
    clear hws hsz hdA hdC
    have hBo := hBs; clear hBs
    refine (HR.out _).mono ?_; rintro e s2 ⟨rfl, hb⟩
    replace kA0 := belK hb kA0 zA; replace kA1 := belK hb kA1 zA; replace kA2 := belK hb kA2 zA; replace kA3 := belK hb kA3 zA; replace kA4 := belK hb kA4 zA; replace zA := Nat.lt_of_lt_of_le zA hb.size
    replace kC0 := belK hb kC0 zC; replace fC0 := belF hb fC0 zC; replace kC1 := belK hb kC1 zC; replace fC1 := belF hb fC1 zC; replace kC2 := belK hb kC2 zC; replace fC2 := belF hb fC2 zC; replace kC3 := belK hb kC3 zC; replace fC3 := belF hb fC3 zC; replace kC4 := belK hb kC4 zC; replace fC4 := belF hb fC4 zC; replace zC := Nat.lt_of_lt_of_le zC hb.size
    replace hBo := hBo.trans (hb.mono hBo.size)
    clear hb
    all_goals go_wp2_with fail
    all_goals refine bodyPost_ret (v := .tuple #[.agg #[.string ⟨#[]⟩, .int .i64 0, .int .i64 0, .bool false, .bool false], .bool false]) (by simp [results, Tryz.results6, go_sem, kC0, kC1, kC2, kC3, kC4, zC]) rfl ⟨rfl, ?_⟩
    all_goals exact (((((hBo.setCell lC _).setCell lC _).setCell lC _).setCell lC _).setCell lC _)
  | true =>
    obtain ⟨g1, g2, g3, g4⟩ := rgt_in h0
    have HR := Lib.hid (fun w => right1_any q true w hs h0)
    have hk := rgt_same (s := q.sh) ((mvW_or (f := q.fc) g1 (by omega) hd1 hd2).imp_right fun h => ⟨Or.inl h.1, Or.inr h.2⟩) ((mvW_or (f := q.fr) g3 g4 he1 he2).imp_right fun h => ⟨Or.inl h.1, Or.inr h.2⟩)
    have hb2 : mvB q d e = rgtB q.sh (mvW q.fc q.c d) (mvW q.fr q.r e) := by unfold mvB; rw [h0, Bool.true_and, hk.1]
    have hp2 : mvB q d e = true → mvR q d e = ⟨q.sh, mvW q.fc q.c d, mvW q.fr q.r e, q.fc, q.fr⟩ := fun h => by
      have h3 := hk.2 (by rw [hb2, hk.1] at h; exact h)
      rw [mvR_yes h, h3.1, h3.2]
    have HS := Lib.hid (fun (x y : Int) (b' : Bool) w (h : rgtB q.sh x y = b') => right1_any ⟨q.sh, x, y, q.fc, q.fr⟩ b' w hs h)
    rw [hb2] at hb
    obtain ⟨sh, c, r, fc, fr⟩ := q
    dsimp only at *
    clear hk
    cases b with
    | false =>
      rw [mvR_no (hb2.trans hb)] at hp
      subst hp
      clear hb2 hp2
      cases fc with
      | true =>
        cases fr with
        | true =>
          try dsimp only at *
          exfalso; rw [show mvW true c d = c from rfl, show mvW true r e = r from rfl] at hb; rw [h0] at hb; cases hb
        | false =>
          try dsimp only at *
          clear h0
          rw [show mvW true c d = c from rfl] at *
          obtain ⟨rn, hrn⟩ : ∃ z, IntKind.i64.wrap (r + e) = z := ⟨_, rfl⟩
          rw [show mvW false r e = rn from hrn] at *
          have HB := Lib.hid (fun w => HS.out c rn false w hb)
          clear HS hb g1 g2 g3 g4 hd1 hd2 he1 he2
          go_enter Tryz.func6, Tryz.ntmps6
          go_wp2_with fail
          obtain ⟨s3, hws⟩ : ∃ s, s = ((w.alloc (.cells #[.string sh, .int .i64 c, .int .i64 r, .bool true, .bool false] 23)).alloc (.cells #[.string ⟨#[]⟩, .int .i64 0, .int .i64 0, .bool false, .bool false] 23)) := ⟨_, rfl⟩
          have hBs : Below w.heap.size w s3 := by rw [hws]; exact (((Below.refl w.heap.size w).alloc (by simp) _).alloc (by simp) _)
          obtain ⟨A, hdA⟩ : ∃ b, b = w.heap.size := ⟨_, rfl⟩
          obtain ⟨C, hdC⟩ : ∃ b, b = w.heap.size + 1 := ⟨_, rfl⟩
          have hsz : s3.heap.size = w.heap.size + 1 + 1 := by rw [hws]; simp
          have dAC : A ≠ C := by omega
          have dCA : C ≠ A := by omega
          have kA0 : s3.cell? ⟨A, 0, none⟩ = some (.string sh) := by rw [hws]; simp [go_sem, hdA, hdC]
          have fA0 : s3.frozen? ⟨A, 0, none⟩ = false := by rw [hws]; simp [go_sem, hdA, hdC]
          have kA1 : s3.cell? ⟨A, 1, none⟩ = some (.int .i64 c) := by rw [hws]; simp [go_sem, hdA, hdC]
          have fA1 : s3.frozen? ⟨A, 1, none⟩ = false := by rw [hws]; simp [go_sem, hdA, hdC]
          have kA2 : s3.cell? ⟨A, 2, none⟩ = some (.int .i64 r) := by rw [hws]; simp [go_sem, hdA, hdC]
          have fA2 : s3.frozen? ⟨A, 2, none⟩ = false := by rw [hws]; simp [go_sem, hdA, hdC]
          have kA3 : s3.cell? ⟨A, 3, none⟩ = some (.bool true) := by rw [hws]; simp [go_sem, hdA, hdC]
          have fA3 : s3.frozen? ⟨A, 3, none⟩ = false := by rw [hws]; simp [go_sem, hdA, hdC]
          have kA4 : s3.cell? ⟨A, 4, none⟩ = some (.bool false) := by rw [hws]; simp [go_sem, hdA, hdC]
          have fA4 : s3.frozen? ⟨A, 4, none⟩ = false := by rw [hws]; simp [go_sem, hdA, hdC]
          have zA : A < s3.heap.size := by omega
          have lA : w.heap.size ≤ A := by have := Nat.le_refl w.heap.size; omega
          have kC0 : s3.cell? ⟨C, 0, none⟩ = some (.string ⟨#[]⟩) := by rw [hws]; simp [go_sem, hdA, hdC]
          have fC0 : s3.frozen? ⟨C, 0, none⟩ = false := by rw [hws]; simp [go_sem, hdA, hdC]
          have kC1 : s3.cell? ⟨C, 1, none⟩ = some (.int .i64 0) := by rw [hws]; simp [go_sem, hdA, hdC]
          have fC1 : s3.frozen? ⟨C, 1, none⟩ = false := by rw [hws]; simp [go_sem, hdA, hdC]
          have kC2 : s3.cell? ⟨C, 2, none⟩ = some (.int .i64 0) := by rw [hws]; simp [go_sem, hdA, hdC]
          have fC2 : s3.frozen? ⟨C, 2, none⟩ = false := by rw [hws]; simp [go_sem, hdA, hdC]
          have kC3 : s3.cell? ⟨C, 3, none⟩ = some (.bool false) := by rw [hws]; simp [go_sem, hdA, hdC]
          have fC3 : s3.frozen? ⟨C, 3, none⟩ = false := by rw [hws]; simp [go_sem, hdA, hdC]
          have kC4 : s3.cell? ⟨C, 4, none⟩ = some (.bool false) := by rw [hws]; simp [go_sem, hdA, hdC]
          have fC4 : s3.frozen? ⟨C, 4, none⟩ = false := by rw [hws]; simp [go_sem, hdA, hdC]
          have zC : C < s3.heap.size := by omega
          have lC : w.heap.size ≤ C := by have := Nat.le_refl w.heap.size; omega
          rw [← hws]
          try rw [← hdC]
          try rw [← hdA]
          clear hws hsz hdA hdC
          have hBo := hBs; clear hBs
          refine (HR.out _).mono ?_; rintro e s4 ⟨rfl, hb⟩
          replace kA0 := belK hb kA0 zA; replace fA0 := belF hb fA0 zA; replace kA1 := belK hb kA1 zA; replace fA1 := belF hb fA1 zA; replace kA2 := belK hb kA2 zA; replace fA2 := belF hb fA2 zA; replace kA3 := belK hb kA3 zA; replace fA3 := belF hb fA3 zA; replace kA4 := belK hb kA4 zA; replace fA4 := belF hb fA4 zA; replace zA := Nat.lt_of_lt_of_le zA hb.size
          replace kC0 := belK hb kC0 zC; replace fC0 := belF hb fC0 zC; replace kC1 := belK hb kC1 zC; replace fC1 := belF hb fC1 zC; replace kC2 := belK hb kC2 zC; replace fC2 := belF hb fC2 zC; replace kC3 := belK hb kC3 zC; replace fC3 := belF hb fC3 zC; replace kC4 := belK hb kC4 zC; replace fC4 := belF hb fC4 zC; replace zC := Nat.lt_of_lt_of_le zC hb.size
          replace hBo := hBo.trans (hb.mono hBo.size)
          clear hb
          go_wp2_with fail
          obtain ⟨s5, hws⟩ : ∃ s, s = (s4.setCell ⟨A, 2, none⟩ (.int .i64 rn)) := ⟨_, rfl⟩
          have hBs : Below w.heap.size w s5 := by rw [hws]; exact ((hBo).setCell lA _)
          have hsz : s5.heap.size = s4.heap.size := by rw [hws]; simp
          have hQC : ∀ b j v, s4.cell? ⟨b, j, none⟩ = some v → A ≠ b → s5.cell? ⟨b, j, none⟩ = some v := fun b j v h dA => by rw [hws]; exact (stK h dA)
          replace kC0 := hQC _ _ _ kC0 dAC; replace kC1 := hQC _ _ _ kC1 dAC; replace kC2 := hQC _ _ _ kC2 dAC; replace kC3 := hQC _ _ _ kC3 dAC; replace kC4 := hQC _ _ _ kC4 dAC
          clear hQC
          have kA0_ : s5.cell? ⟨A, 0, none⟩ = some (.string sh) := by rw [hws]; simp [go_sem, kA0, kA1, kA2, kA3, kA4, fA0, fA1, fA2, fA3, fA4]
          have kA1_ : s5.cell? ⟨A, 1, none⟩ = some (.int .i64 c) := by rw [hws]; simp [go_sem, kA0, kA1, kA2, kA3, kA4, fA0, fA1, fA2, fA3, fA4]
          have kA2_ : s5.cell? ⟨A, 2, none⟩ = some (.int .i64 rn) := by rw [hws]; simp [go_sem, kA0, kA1, kA2, kA3, kA4, fA0, fA1, fA2, fA3, fA4]
          have kA3_ : s5.cell? ⟨A, 3, none⟩ = some (.bool true) := by rw [hws]; simp [go_sem, kA0, kA1, kA2, kA3, kA4, fA0, fA1, fA2, fA3, fA4]
          have kA4_ : s5.cell? ⟨A, 4, none⟩ = some (.bool false) := by rw [hws]; simp [go_sem, kA0, kA1, kA2, kA3, kA4, fA0, fA1, fA2, fA3, fA4]
          replace kA0 := kA0_; clear kA0_; replace kA1 := kA1_; clear kA1_; replace kA2 := kA2_; clear kA2_; replace kA3 := kA3_; clear kA3_; replace kA4 := kA4_; clear kA4_
          have hQF : ∀ p, s5.frozen? p = s4.frozen? p := fun p => by rw [hws]; simp [go_sem]
          replace fA0 := (hQF _).trans fA0; replace fA1 := (hQF _).trans fA1; replace fA2 := (hQF _).trans fA2; replace fA3 := (hQF _).trans fA3; replace fA4 := (hQF _).trans fA4
          replace fC0 := (hQF _).trans fC0; replace fC1 := (hQF _).trans fC1; replace fC2 := (hQF _).trans fC2; replace fC3 := (hQF _).trans fC3; replace fC4 := (hQF _).trans fC4
          clear hQF
          replace zA : A < s5.heap.size := by omega
          replace zC : C < s5.heap.size := by omega
          rw [← hws]
          clear hBo hws hsz
          have hBo := hBs; clear hBs
          refine (HB.out _).mono ?_; rintro e s6 ⟨rfl, hb⟩
          replace kA0 := belK hb kA0 zA; replace fA0 := belF hb fA0 zA; replace kA1 := belK hb kA1 zA; replace fA1 := belF hb fA1 zA; replace kA2 := belK hb kA2 zA; replace fA2 := belF hb fA2 zA; replace kA3 := belK hb kA3 zA; replace fA3 := belF hb fA3 zA; replace kA4 := belK hb kA4 zA; replace fA4 := belF hb fA4 zA; replace zA := Nat.lt_of_lt_of_le zA hb.size
          replace kC0 := belK hb kC0 zC; replace fC0 := belF hb fC0 zC; replace kC1 := belK hb kC1 zC; replace fC1 := belF hb fC1 zC; replace kC2 := belK hb kC2 zC; replace fC2 := belF hb fC2 zC; replace kC3 := belK hb kC3 zC; replace fC3 := belF hb fC3 zC; replace kC4 := belK hb kC4 zC; replace fC4 := belF hb fC4 zC; replace zC := Nat.lt_of_lt_of_le zC hb.size
          replace hBo := hBo.trans (hb.mono hBo.size)
          clear hb
          all_goals go_wp2_with fail
          all_goals refine bodyPost_ret (v := .tuple #[.agg #[.string ⟨#[]⟩, .int .i64 0, .int .i64 0, .bool false, .bool false], .bool false]) (by simp [results, Tryz.results6, go_sem, kC0, kC1, kC2, kC3, kC4, zC]) rfl ⟨rfl, ?_⟩
          all_goals exact (((((hBo.setCell lC _).setCell lC _).setCell lC _).setCell lC _).setCell lC _)
      | false =>
        cases fr with
        | true =>
          try dsimp only at *
          clear h0
          rw [show mvW true r e = r from rfl] at *
          obtain ⟨cn, hcn⟩ : ∃ z, IntKind.i64.wrap (c + d) = z := ⟨_, rfl⟩
          rw [show mvW false c d = cn from hcn] at *
          have HB := Lib.hid (fun w => HS.out cn r false w hb)
          clear HS hb g1 g2 g3 g4 hd1 hd2 he1 he2
          go_enter Tryz.func6, Tryz.ntmps6
          go_wp2_with fail
          obtain ⟨s7, hws⟩ : ∃ s, s = ((w.alloc (.cells #[.string sh, .int .i64 c, .int .i64 r, .bool false, .bool true] 23)).alloc (.cells #[.string ⟨#[]⟩, .int .i64 0, .int .i64 0, .bool false, .bool false] 23)) := ⟨_, rfl⟩
          have hBs : Below w.heap.size w s7 := by rw [hws]; exact (((Below.refl w.heap.size w).alloc (by simp) _).alloc (by simp) _)
          obtain ⟨A, hdA⟩ : ∃ b, b = w.heap.size := ⟨_, rfl⟩
          obtain ⟨C, hdC⟩ : ∃ b, b = w.heap.size + 1 := ⟨_, rfl⟩
          have hsz : s7.heap.size = w.heap.size + 1 + 1 := by rw [hws]; simp
          have dAC : A ≠ C := by omega
          have dCA : C ≠ A := by omega
          have kA0 : s7.cell? ⟨A, 0, none⟩ = some (.string sh) := by rw [hws]; simp [go_sem, hdA, hdC]
          have fA0 : s7.frozen? ⟨A, 0, none⟩ = false := by rw [hws]; simp [go_sem, hdA, hdC]
          have kA1 : s7.cell? ⟨A, 1, none⟩ = some (.int .i64 c) := by rw [hws]; simp [go_sem, hdA, hdC]
          have fA1 : s7.frozen? ⟨A, 1, none⟩ = false := by rw [hws]; simp [go_sem, hdA, hdC]
          have kA2 : s7.cell? ⟨A, 2, none⟩ = some (.int .i64 r) := by rw [hws]; simp [go_sem, hdA, hdC]
          have fA2 : s7.frozen? ⟨A, 2, none⟩ = false := by rw [hws]; simp [go_sem, hdA, hdC]
          have kA3 : s7.cell? ⟨A, 3, none⟩ = some (.bool false) := by rw [hws]; simp [go_sem, hdA, hdC]
          have fA3 : s7.frozen? ⟨A, 3, none⟩ = false := by rw [hws]; simp [go_sem, hdA, hdC]
          have kA4 : s7.cell? ⟨A, 4, none⟩ = some (.bool true) := by rw [hws]; simp [go_sem, hdA, hdC]
          have fA4 : s7.frozen? ⟨A, 4, none⟩ = false := by rw [hws]; simp [go_sem, hdA, hdC]
          have zA : A < s7.heap.size := by omega
          have lA : w.heap.size ≤ A := by have := Nat.le_refl w.heap.size; omega
          have kC0 : s7.cell? ⟨C, 0, none⟩ = some (.string ⟨#[]⟩) := by rw [hws]; simp [go_sem, hdA, hdC]
          have fC0 : s7.frozen? ⟨C, 0, none⟩ = false := by rw [hws]; simp [go_sem, hdA, hdC]
          have kC1 : s7.cell? ⟨C, 1, none⟩ = some (.int .i64 0) := by rw [hws]; simp [go_sem, hdA, hdC]
          have fC1 : s7.frozen? ⟨C, 1, none⟩ = false := by rw [hws]; simp [go_sem, hdA, hdC]
          have kC2 : s7.cell? ⟨C, 2, none⟩ = some (.int .i64 0) := by rw [hws]; simp [go_sem, hdA, hdC]
          have fC2 : s7.frozen? ⟨C, 2, none⟩ = false := by rw [hws]; simp [go_sem, hdA, hdC]
          have kC3 : s7.cell? ⟨C, 3, none⟩ = some (.bool false) := by rw [hws]; simp [go_sem, hdA, hdC]
          have fC3 : s7.frozen? ⟨C, 3, none⟩ = false := by rw [hws]; simp [go_sem, hdA, hdC]
          have kC4 : s7.cell? ⟨C, 4, none⟩ = some (.bool false) := by rw [hws]; simp [go_sem, hdA, hdC]
          have fC4 : s7.frozen? ⟨C, 4, none⟩ = false := by rw [hws]; simp [go_sem, hdA, hdC]
          have zC : C < s7.heap.size := by omega
          have lC : w.heap.size ≤ C := by have := Nat.le_refl w.heap.size; omega
          rw [← hws]
          try rw [← hdC]
          try rw [← hdA]
          clear hws hsz hdA hdC
          have hBo := hBs; clear hBs
          refine (HR.out _).mono ?_; rintro e s8 ⟨rfl, hb⟩
          replace kA0 := belK hb kA0 zA; replace fA0 := belF hb fA0 zA; replace kA1 := belK hb kA1 zA; replace fA1 := belF hb fA1 zA; replace kA2 := belK hb kA2 zA; replace fA2 := belF hb fA2 zA; replace kA3 := belK hb kA3 zA; replace fA3 := belF hb fA3 zA; replace kA4 := belK hb kA4 zA; replace fA4 := belF hb fA4 zA; replace zA := Nat.lt_of_lt_of_le zA hb.size
          replace kC0 := belK hb kC0 zC; replace fC0 := belF hb fC0 zC; replace kC1 := belK hb kC1 zC; replace fC1 := belF hb fC1 zC; replace kC2 := belK hb kC2 zC; replace fC2 := belF hb fC2 zC; replace kC3 := belK hb kC3 zC; replace fC3 := belF hb fC3 zC; replace kC4 := belK hb kC4 zC; replace fC4 := belF hb fC4 zC; replace zC := Nat.lt_of_lt_of_le zC hb.size
          replace hBo := hBo.trans (hb.mono hBo.size)
          clear hb
          go_wp2_with fail
          obtain ⟨s9, hws⟩ : ∃ s, s = (s8.setCell ⟨A, 1, none⟩ (.int .i64 cn)) := ⟨_, rfl⟩
          have hBs : Below w.heap.size w s9 := by rw [hws]; exact ((hBo).setCell lA _)
          have hsz : s9.heap.size = s8.heap.size := by rw [hws]; simp
          have hQC : ∀ b j v, s8.cell? ⟨b, j, none⟩ = some v → A ≠ b → s9.cell? ⟨b, j, none⟩ = some v := fun b j v h dA => by rw [hws]; exact (stK h dA)
          replace kC0 := hQC _ _ _ kC0 dAC; replace kC1 := hQC _ _ _ kC1 dAC; replace kC2 := hQC _ _ _ kC2 dAC; replace kC3 := hQC _ _ _ kC3 dAC; replace kC4 := hQC _ _ _ kC4 dAC
          clear hQC
          have kA0_ : s9.cell? ⟨A, 0, none⟩ = some (.string sh) := by rw [hws]; simp [go_sem, kA0, kA1, kA2, kA3, kA4, fA0, fA1, fA2, fA3, fA4]
          have kA1_ : s9.cell? ⟨A, 1, none⟩ = some (.int .i64 cn) := by rw [hws]; simp [go_sem, kA0, kA1, kA2, kA3, kA4, fA0, fA1, fA2, fA3, fA4]
          have kA2_ : s9.cell? ⟨A, 2, none⟩ = some (.int .i64 r) := by rw [hws]; simp [go_sem, kA0, kA1, kA2, kA3, kA4, fA0, fA1, fA2, fA3, fA4]
          have kA3_ : s9.cell? ⟨A, 3, none⟩ = some (.bool false) := by rw [hws]; simp [go_sem, kA0, kA1, kA2, kA3, kA4, fA0, fA1, fA2, fA3, fA4]
          have kA4_ : s9.cell? ⟨A, 4, none⟩ = some (.bool true) := by rw [hws]; simp [go_sem, kA0, kA1, kA2, kA3, kA4, fA0, fA1, fA2, fA3, fA4]
          replace kA0 := kA0_; clear kA0_; replace kA1 := kA1_; clear kA1_; replace kA2 := kA2_; clear kA2_; replace kA3 := kA3_; clear kA3_; replace kA4 := kA4_; clear kA4_
          have hQF : ∀ p, s9.frozen? p = s8.frozen? p := fun p => by rw [hws]; simp [go_sem]
          replace fA0 := (hQF _).trans fA0; replace fA1 := (hQF _).trans fA1; replace fA2 := (hQF _).trans fA2; replace fA3 := (hQF _).trans fA3; replace fA4 := (hQF _).trans fA4
          replace fC0 := (hQF _).trans fC0; replace fC1 := (hQF _).trans fC1; replace fC2 := (hQF _).trans fC2; replace fC3 := (hQF _).trans fC3; replace fC4 := (hQF _).trans fC4
          clear hQF
          replace zA : A < s9.heap.size := by omega
          replace zC : C < s9.heap.size := by omega
          rw [← hws]
          clear hBo hws hsz
          have hBo := hBs; clear hBs
          refine (HB.out _).mono ?_; rintro e s10 ⟨rfl, hb⟩
          replace kA0 := belK hb kA0 zA; replace fA0 := belF hb fA0 zA; replace kA1 := belK hb kA1 zA; replace fA1 := belF hb fA1 zA; replace kA2 := belK hb kA2 zA; replace fA2 := belF hb fA2 zA; replace kA3 := belK hb kA3 zA; replace fA3 := belF hb fA3 zA; replace kA4 := belK hb kA4 zA; replace fA4 := belF hb fA4 zA; replace zA := Nat.lt_of_lt_of_le zA hb.size
          replace kC0 := belK hb kC0 zC; replace fC0 := belF hb fC0 zC; replace kC1 := belK hb kC1 zC; replace fC1 := belF hb fC1 zC; replace kC2 := belK hb kC2 zC; replace fC2 := belF hb fC2 zC; replace kC3 := belK hb kC3 zC; replace fC3 := belF hb fC3 zC; replace kC4 := belK hb kC4 zC; replace fC4 := belF hb fC4 zC; replace zC := Nat.lt_of_lt_of_le zC hb.size
          replace hBo := hBo.trans (hb.mono hBo.size)
          clear hb
          all_goals go_wp2_with fail
          all_goals refine bodyPost_ret (v := .tuple #[.agg #[.string ⟨#[]⟩, .int .i64 0, .int .i64 0, .bool false, .bool false], .bool false]) (by simp [results, Tryz.results6, go_sem, kC0, kC1, kC2, kC3, kC4, zC]) rfl ⟨rfl, ?_⟩
          all_goals exact (((((hBo.setCell lC _).setCell lC _).setCell lC _).setCell lC _).setCell lC _)
        | false =>
          try dsimp only at *
          clear h0
          obtain ⟨cn, hcn⟩ : ∃ z, IntKind.i64.wrap (c + d) = z := ⟨_, rfl⟩
          rw [show mvW false c d = cn from hcn] at *
          obtain ⟨rn, hrn⟩ : ∃ z, IntKind.i64.wrap (r + e) = z := ⟨_, rfl⟩
          rw [show mvW false r e = rn from hrn] at *
          have HB := Lib.hid (fun w => HS.out cn rn false w hb)
          clear HS hb g1 g2 g3 g4 hd1 hd2 he1 he2
          go_enter Tryz.func6, Tryz.ntmps6
          go_wp2_with fail
          obtain ⟨s11, hws⟩ : ∃ s, s = ((w.alloc (.cells #[.string sh, .int .i64 c, .int .i64 r, .bool false, .bool false] 23)).alloc (.cells #[.string ⟨#[]⟩, .int .i64 0, .int .i64 0, .bool false, .bool false] 23)) := ⟨_, rfl⟩
          have hBs : Below w.heap.size w s11 := by rw [hws]; exact (((Below.refl w.heap.size w).alloc (by simp) _).alloc (by simp) _)
          obtain ⟨A, hdA⟩ : ∃ b, b = w.heap.size := ⟨_, rfl⟩
          obtain ⟨C, hdC⟩ : ∃ b, b = w.heap.size + 1 := ⟨_, rfl⟩
          have hsz : s11.heap.size = w.heap.size + 1 + 1 := by rw [hws]; simp
          have dAC : A ≠ C := by omega
          have dCA : C ≠ A := by omega
          have kA0 : s11.cell? ⟨A, 0, none⟩ = some (.string sh) := by rw [hws]; simp [go_sem, hdA, hdC]
          have fA0 : s11.frozen? ⟨A, 0, none⟩ = false := by rw [hws]; simp [go_sem, hdA, hdC]
          have kA1 : s11.cell? ⟨A, 1, none⟩ = some (.int .i64 c) := by rw [hws]; simp [go_sem, hdA, hdC]
          have fA1 : s11.frozen? ⟨A, 1, none⟩ = false := by rw [hws]; simp [go_sem, hdA, hdC]
          have kA2 : s11.cell? ⟨A, 2, none⟩ = some (.int .i64 r) := by rw [hws]; simp [go_sem, hdA, hdC]
          have fA2 : s11.frozen? ⟨A, 2, none⟩ = false := by rw [hws]; simp [go_sem, hdA, hdC]
          have kA3 : s11.cell? ⟨A, 3, none⟩ = some (.bool false) := by rw [hws]; simp [go_sem, hdA, hdC]
          have fA3 : s11.frozen? ⟨A, 3, none⟩ = false := by rw [hws]; simp [go_sem, hdA, hdC]
          have kA4 : s11.cell? ⟨A, 4, none⟩ = some (.bool false) := by rw [hws]; simp [go_sem, hdA, hdC]
          have fA4 : s11.frozen? ⟨A, 4, none⟩ = false := by rw [hws]; simp [go_sem, hdA, hdC]
          have zA : A < s11.heap.size := by omega
          have lA : w.heap.size ≤ A := by have := Nat.le_refl w.heap.size; omega
          have kC0 : s11.cell? ⟨C, 0, none⟩ = some (.string ⟨#[]⟩) := by rw [hws]; simp [go_sem, hdA, hdC]
          have fC0 : s11.frozen? ⟨C, 0, none⟩ = false := by rw [hws]; simp [go_sem, hdA, hdC]
          have kC1 : s11.cell? ⟨C, 1, none⟩ = some (.int .i64 0) := by rw [hws]; simp [go_sem, hdA, hdC]
          have fC1 : s11.frozen? ⟨C, 1, none⟩ = false := by rw [hws]; simp [go_sem, hdA, hdC]
          have kC2 : s11.cell? ⟨C, 2, none⟩ = some (.int .i64 0) := by rw [hws]; simp [go_sem, hdA, hdC]
          have fC2 : s11.frozen? ⟨C, 2, none⟩ = false := by rw [hws]; simp [go_sem, hdA, hdC]
          have kC3 : s11.cell? ⟨C, 3, none⟩ = some (.bool false) := by rw [hws]; simp [go_sem, hdA, hdC]
          have fC3 : s11.frozen? ⟨C, 3, none⟩ = false := by rw [hws]; simp [go_sem, hdA, hdC]
          have kC4 : s11.cell? ⟨C, 4, none⟩ = some (.bool false) := by rw [hws]; simp [go_sem, hdA, hdC]
          have fC4 : s11.frozen? ⟨C, 4, none⟩ = false := by rw [hws]; simp [go_sem, hdA, hdC]
          have zC : C < s11.heap.size := by omega
          have lC : w.heap.size ≤ C := by have := Nat.le_refl w.heap.size; omega
          rw [← hws]
          try rw [← hdC]
          try rw [← hdA]
          clear hws hsz hdA hdC
          have hBo := hBs; clear hBs
          refine (HR.out _).mono ?_; rintro e s12 ⟨rfl, hb⟩
          replace kA0 := belK hb kA0 zA; replace fA0 := belF hb fA0 zA; replace kA1 := belK hb kA1 zA; replace fA1 := belF hb fA1 zA; replace kA2 := belK hb kA2 zA; replace fA2 := belF hb fA2 zA; replace kA3 := belK hb kA3 zA; replace fA3 := belF hb fA3 zA; replace kA4 := belK hb kA4 zA; replace fA4 := belF hb fA4 zA; replace zA := Nat.lt_of_lt_of_le zA hb.size
          replace kC0 := belK hb kC0 zC; replace fC0 := belF hb fC0 zC; replace kC1 := belK hb kC1 zC; replace fC1 := belF hb fC1 zC; replace kC2 := belK hb kC2 zC; replace fC2 := belF hb fC2 zC; replace kC3 := belK hb kC3 zC; replace fC3 := belF hb fC3 zC; replace kC4 := belK hb kC4 zC; replace fC4 := belF hb fC4 zC; replace zC := Nat.lt_of_lt_of_le zC hb.size
          replace hBo := hBo.trans (hb.mono hBo.size)
          clear hb
          go_wp2_with fail
          obtain ⟨s13, hws⟩ : ∃ s, s = ((s12.setCell ⟨A, 1, none⟩ (.int .i64 cn)).setCell ⟨A, 2, none⟩ (.int .i64 rn)) := ⟨_, rfl⟩
          have hBs : Below w.heap.size w s13 := by rw [hws]; exact (((hBo).setCell lA _).setCell lA _)
          have hsz : s13.heap.size = s12.heap.size := by rw [hws]; simp
          have hQC : ∀ b j v, s12.cell? ⟨b, j, none⟩ = some v → A ≠ b → s13.cell? ⟨b, j, none⟩ = some v := fun b j v h dA => by rw [hws]; exact (stK (stK h dA) dA)
          replace kC0 := hQC _ _ _ kC0 dAC; replace kC1 := hQC _ _ _ kC1 dAC; replace kC2 := hQC _ _ _ kC2 dAC; replace kC3 := hQC _ _ _ kC3 dAC; replace kC4 := hQC _ _ _ kC4 dAC
          clear hQC
          have kA0_ : s13.cell? ⟨A, 0, none⟩ = some (.string sh) := by rw [hws]; simp [go_sem, kA0, kA1, kA2, kA3, kA4, fA0, fA1, fA2, fA3, fA4]
          have kA1_ : s13.cell? ⟨A, 1, none⟩ = some (.int .i64 cn) := by rw [hws]; simp [go_sem, kA0, kA1, kA2, kA3, kA4, fA0, fA1, fA2, fA3, fA4]
          have kA2_ : s13.cell? ⟨A, 2, none⟩ = some (.int .i64 rn) := by rw [hws]; simp [go_sem, kA0, kA1, kA2, kA3, kA4, fA0, fA1, fA2, fA3, fA4]
          have kA3_ : s13.cell? ⟨A, 3, none⟩ = some (.bool false) := by rw [hws]; simp [go_sem, kA0, kA1, kA2, kA3, kA4, fA0, fA1, fA2, fA3, fA4]
          have kA4_ : s13.cell? ⟨A, 4, none⟩ = some (.bool false) := by rw [hws]; simp [go_sem, kA0, kA1, kA2, kA3, kA4, fA0, fA1, fA2, fA3, fA4]
          replace kA0 := kA0_; clear kA0_; replace kA1 := kA1_; clear kA1_; replace kA2 := kA2_; clear kA2_; replace kA3 := kA3_; clear kA3_; replace kA4 := kA4_; clear kA4_
          have hQF : ∀ p, s13.frozen? p = s12.frozen? p := fun p => by rw [hws]; simp [go_sem]
          replace fA0 := (hQF _).trans fA0; replace fA1 := (hQF _).trans fA1; replace fA2 := (hQF _).trans fA2; replace fA3 := (hQF _).trans fA3; replace fA4 := (hQF _).trans fA4
          replace fC0 := (hQF _).trans fC0; replace fC1 := (hQF _).trans fC1; replace fC2 := (hQF _).trans fC2; replace fC3 := (hQF _).trans fC3; replace fC4 := (hQF _).trans fC4
          clear hQF
          replace zA : A < s13.heap.size := by omega
          replace zC : C < s13.heap.size := by omega
          rw [← hws]
          clear hBo hws hsz
          have hBo := hBs; clear hBs
          refine (HB.out _).mono ?_; rintro e s14 ⟨rfl, hb⟩
          replace kA0 := belK hb kA0 zA; replace fA0 := belF hb fA0 zA; replace kA1 := belK hb kA1 zA; replace fA1 := belF hb fA1 zA; replace kA2 := belK hb kA2 zA; replace fA2 := belF hb fA2 zA; replace kA3 := belK hb kA3 zA; replace fA3 := belF hb fA3 zA; replace kA4 := belK hb kA4 zA; replace fA4 := belF hb fA4 zA; replace zA := Nat.lt_of_lt_of_le zA hb.size
          replace kC0 := belK hb kC0 zC; replace fC0 := belF hb fC0 zC; replace kC1 := belK hb kC1 zC; replace fC1 := belF hb fC1 zC; replace kC2 := belK hb kC2 zC; replace fC2 := belF hb fC2 zC; replace kC3 := belK hb kC3 zC; replace fC3 := belF hb fC3 zC; replace kC4 := belK hb kC4 zC; replace fC4 := belF hb fC4 zC; replace zC := Nat.lt_of_lt_of_le zC hb.size
          replace hBo := hBo.trans (hb.mono hBo.size)
          clear hb
          all_goals go_wp2_with fail
          all_goals refine bodyPost_ret (v := .tuple #[.agg #[.string ⟨#[]⟩, .int .i64 0, .int .i64 0, .bool false, .bool false], .bool false]) (by simp [results, Tryz.results6, go_sem, kC0, kC1, kC2, kC3, kC4, zC]) rfl ⟨rfl, ?_⟩
          all_goals exact (((((hBo.setCell lC _).setCell lC _).setCell lC _).setCell lC _).setCell lC _)
    | true =>
      rw [hp2 (hb2.trans hb)] at hp
      subst hp
      clear hb2 hp2
      cases fc with
      | true =>
        cases fr with
        | true =>
          try dsimp only at *
          clear h0
          rw [show mvW true c d = c from rfl] at *
          rw [show mvW true r e = r from rfl] at *
          have HB := Lib.hid (fun w => HS.out c r true w hb)
          clear HS hb g1 g2 g3 g4 hd1 hd2 he1 he2
          go_enter Tryz.func6, Tryz.ntmps6
          go_wp2_with fail
          obtain ⟨s15, hws⟩ : ∃ s, s = ((w.alloc (.cells #[.string sh, .int .i64 c, .int .i64 r, .bool true, .bool true] 23)).alloc (.cells #[.string ⟨#[]⟩, .int .i64 0, .int .i64 0, .bool false, .bool false] 23)) := ⟨_, rfl⟩
          have hBs : Below w.heap.size w s15 := by rw [hws]; exact (((Below.refl w.heap.size w).alloc (by simp) _).alloc (by simp) _)
          obtain ⟨A, hdA⟩ : ∃ b, b = w.heap.size := ⟨_, rfl⟩
          obtain ⟨C, hdC⟩ : ∃ b, b = w.heap.size + 1 := ⟨_, rfl⟩
          have hsz : s15.heap.size = w.heap.size + 1 + 1 := by rw [hws]; simp
          have dCA : C ≠ A := by omega
          have kA0 : s15.cell? ⟨A, 0, none⟩ = some (.string sh) := by rw [hws]; simp [go_sem, hdA, hdC]
          have kA1 : s15.cell? ⟨A, 1, none⟩ = some (.int .i64 c) := by rw [hws]; simp [go_sem, hdA, hdC]
          have kA2 : s15.cell? ⟨A, 2, none⟩ = some (.int .i64 r) := by rw [hws]; simp [go_sem, hdA, hdC]
          have kA3 : s15.cell? ⟨A, 3, none⟩ = some (.bool true) := by rw [hws]; simp [go_sem, hdA, hdC]
          have kA4 : s15.cell? ⟨A, 4, none⟩ = some (.bool true) := by rw [hws]; simp [go_sem, hdA, hdC]
          have zA : A < s15.heap.size := by omega
          have lA : w.heap.size ≤ A := by have := Nat.le_refl w.heap.size; omega
          have kC0 : s15.cell? ⟨C, 0, none⟩ = some (.string ⟨#[]⟩) := by rw [hws]; simp [go_sem, hdA, hdC]
          have fC0 : s15.frozen? ⟨C, 0, none⟩ = false := by rw [hws]; simp [go_sem, hdA, hdC]
          have kC1 : s15.cell? ⟨C, 1, none⟩ = some (.int .i64 0) := by rw [hws]; simp [go_sem, hdA, hdC]
          have fC1 : s15.frozen? ⟨C, 1, none⟩ = false := by rw [hws]; simp [go_sem, hdA, hdC]
          have kC2 : s15.cell? ⟨C, 2, none⟩ = some (.int .i64 0) := by rw [hws]; simp [go_sem, hdA, hdC]
          have fC2 : s15.frozen? ⟨C, 2, none⟩ = false := by rw [hws]; simp [go_sem, hdA, hdC]
          have kC3 : s15.cell? ⟨C, 3, none⟩ = some (.bool false) := by rw [hws]; simp [go_sem, hdA, hdC]
          have fC3 : s15.frozen? ⟨C, 3, none⟩ = false := by rw [hws]; simp [go_sem, hdA, hdC]
          have kC4 : s15.cell? ⟨C, 4, none⟩ = some (.bool false) := by rw [hws]; simp [go_sem, hdA, hdC]
          have fC4 : s15.frozen? ⟨C, 4, none⟩ = false := by rw [hws]; simp [go_sem, hdA, hdC]
          have zC : C < s15.heap.size := by omega
          have lC : w.heap.size ≤ C := by have := Nat.le_refl w.heap.size; omega
          rw [← hws]
          try rw [← hdC]
          try rw [← hdA]
          clear hws hsz hdA hdC
          have hBo := hBs; clear hBs
          refine (HR.out _).mono ?_; rintro e s16 ⟨rfl, hb⟩
          replace kA0 := belK hb kA0 zA; replace kA1 := belK hb kA1 zA; replace kA2 := belK hb kA2 zA; replace kA3 := belK hb kA3 zA; replace kA4 := belK hb kA4 zA; replace zA := Nat.lt_of_lt_of_le zA hb.size
          replace kC0 := belK hb kC0 zC; replace fC0 := belF hb fC0 zC; replace kC1 := belK hb kC1 zC; replace fC1 := belF hb fC1 zC; replace kC2 := belK hb kC2 zC; replace fC2 := belF hb fC2 zC; replace kC3 := belK hb kC3 zC; replace fC3 := belF hb fC3 zC; replace kC4 := belK hb kC4 zC; replace fC4 := belF hb fC4 zC; replace zC := Nat.lt_of_lt_of_le zC hb.size
          replace hBo := hBo.trans (hb.mono hBo.size)
          clear hb
          go_wp2_with fail
          refine (HB.out _).mono ?_; rintro e s17 ⟨rfl, hb⟩
          replace kA0 := belK hb kA0 zA; replace kA1 := belK hb kA1 zA; replace kA2 := belK hb kA2 zA; replace kA3 := belK hb kA3 zA; replace kA4 := belK hb kA4 zA; replace zA := Nat.lt_of_lt_of_le zA hb.size
          replace kC0 := belK hb kC0 zC; replace fC0 := belF hb fC0 zC; replace kC1 := belK hb kC1 zC; replace fC1 := belF hb fC1 zC; replace kC2 := belK hb kC2 zC; replace fC2 := belF hb fC2 zC; replace kC3 := belK hb kC3 zC; replace fC3 := belF hb fC3 zC; replace kC4 := belK hb kC4 zC; replace fC4 := belF hb fC4 zC; replace zC := Nat.lt_of_lt_of_le zC hb.size
          replace hBo := hBo.trans (hb.mono hBo.size)
          clear hb
          all_goals go_wp2_with fail
          all_goals refine bodyPost_ret (v := .tuple #[.agg #[.string sh, .int .i64 c, .int .i64 r, .bool true, .bool true], .bool true]) (by simp [results, Tryz.results6, go_sem, kC0, kC1, kC2, kC3, kC4, zC]) rfl ⟨rfl, ?_⟩
          all_goals exact (((((hBo.setCell lC _).setCell lC _).setCell lC _).setCell lC _).setCell lC _)
        | false =>
          try dsimp only at *
          clear h0
          rw [show mvW true c d = c from rfl] at *
          obtain ⟨rn, hrn⟩ : ∃ z, IntKind.i64.wrap (r + e) = z := ⟨_, rfl⟩
          rw [show mvW false r e = rn from hrn] at *
          have HB := Lib.hid (fun w => HS.out c rn true w hb)
          clear HS hb g1 g2 g3 g4 hd1 hd2 he1 he2
          go_enter Tryz.func6, Tryz.ntmps6
          go_wp2_with fail
          obtain ⟨s18, hws⟩ : ∃ s, s = ((w.alloc (.cells #[.string sh, .int .i64 c, .int .i64 r, .bool true, .bool false] 23)).alloc (.cells #[.string ⟨#[]⟩, .int .i64 0, .int .i64 0, .bool false, .bool false] 23)) := ⟨_, rfl⟩
          have hBs : Below w.heap.size w s18 := by rw [hws]; exact (((Below.refl w.heap.size w).alloc (by simp) _).alloc (by simp) _)
          obtain ⟨A, hdA⟩ : ∃ b, b = w.heap.size := ⟨_, rfl⟩
          obtain ⟨C, hdC⟩ : ∃ b, b = w.heap.size + 1 := ⟨_, rfl⟩
          have hsz : s18.heap.size = w.heap.size + 1 + 1 := by rw [hws]; simp
          have dAC : A ≠ C := by omega
          have dCA : C ≠ A := by omega
          have kA0 : s18.cell? ⟨A, 0, none⟩ = some (.string sh) := by rw [hws]; simp [go_sem, hdA, hdC]
          have fA0 : s18.frozen? ⟨A, 0, none⟩ = false := by rw [hws]; simp [go_sem, hdA, hdC]
          have kA1 : s18.cell? ⟨A, 1, none⟩ = some (.int .i64 c) := by rw [hws]; simp [go_sem, hdA, hdC]
          have fA1 : s18.frozen? ⟨A, 1, none⟩ = false := by rw [hws]; simp [go_sem, hdA, hdC]
          have kA2 : s18.cell? ⟨A, 2, none⟩ = some (.int .i64 r) := by rw [hws]; simp [go_sem, hdA, hdC]
          have fA2 : s18.frozen? ⟨A, 2, none⟩ = false := by rw [hws]; simp [go_sem, hdA, hdC]
          have kA3 : s18.cell? ⟨A, 3, none⟩ = some (.bool true) := by rw [hws]; simp [go_sem, hdA, hdC]
          have fA3 : s18.frozen? ⟨A, 3, none⟩ = false := by rw [hws]; simp [go_sem, hdA, hdC]
          have kA4 : s18.cell? ⟨A, 4, none⟩ = some (.bool false) := by rw [hws]; simp [go_sem, hdA, hdC]
          have fA4 : s18.frozen? ⟨A, 4, none⟩ = false := by rw [hws]; simp [go_sem, hdA, hdC]
          have zA : A < s18.heap.size := by omega
          have lA : w.heap.size ≤ A := by have := Nat.le_refl w.heap.size; omega
          have kC0 : s18.cell? ⟨C, 0, none⟩ = some (.string ⟨#[]⟩) := by rw [hws]; simp [go_sem, hdA, hdC]
          have fC0 : s18.frozen? ⟨C, 0, none⟩ = false := by rw [hws]; simp [go_sem, hdA, hdC]
          have kC1 : s18.cell? ⟨C, 1, none⟩ = some (.int .i64 0) := by rw [hws]; simp [go_sem, hdA, hdC]
          have fC1 : s18.frozen? ⟨C, 1, none⟩ = false := by rw [hws]; simp [go_sem, hdA, hdC]
          have kC2 : s18.cell? ⟨C, 2, none⟩ = some (.int .i64 0) := by rw [hws]; simp [go_sem, hdA, hdC]
          have fC2 : s18.frozen? ⟨C, 2, none⟩ = false := by rw [hws]; simp [go_sem, hdA, hdC]
          have kC3 : s18.cell? ⟨C, 3, none⟩ = some (.bool false) := by rw [hws]; simp [go_sem, hdA, hdC]
          have fC3 : s18.frozen? ⟨C, 3, none⟩ = false := by rw [hws]; simp [go_sem, hdA, hdC]
          have kC4 : s18.cell? ⟨C, 4, none⟩ = some (.bool false) := by rw [hws]; simp [go_sem, hdA, hdC]
          have fC4 : s18.frozen? ⟨C, 4, none⟩ = false := by rw [hws]; simp [go_sem, hdA, hdC]
          have zC : C < s18.heap.size := by omega
          have lC : w.heap.size ≤ C := by have := Nat.le_refl w.heap.size; omega
          rw [← hws]
          try rw [← hdC]
          try rw [← hdA]
          clear hws hsz hdA hdC
          have hBo := hBs; clear hBs
          refine (HR.out _).mono ?_; rintro e s19 ⟨rfl, hb⟩
          replace kA0 := belK hb kA0 zA; replace fA0 := belF hb fA0 zA; replace kA1 := belK hb kA1 zA; replace fA1 := belF hb fA1 zA; replace kA2 := belK hb kA2 zA; replace fA2 := belF hb fA2 zA; replace kA3 := belK hb kA3 zA; replace fA3 := belF hb fA3 zA; replace kA4 := belK hb kA4 zA; replace fA4 := belF hb fA4 zA; replace zA := Nat.lt_of_lt_of_le zA hb.size
          replace kC0 := belK hb kC0 zC; replace fC0 := belF hb fC0 zC; replace kC1 := belK hb kC1 zC; replace fC1 := belF hb fC1 zC; replace kC2 := belK hb kC2 zC; replace fC2 := belF hb fC2 zC; replace kC3 := belK hb kC3 zC; replace fC3 := belF hb fC3 zC; replace kC4 := belK hb kC4 zC; replace fC4 := belF hb fC4 zC; replace zC := Nat.lt_of_lt_of_le zC hb.size
          replace hBo := hBo.trans (hb.mono hBo.size)
          clear hb
          go_wp2_with fail
          obtain ⟨s20, hws⟩ : ∃ s, s = (s19.setCell ⟨A, 2, none⟩ (.int .i64 rn)) := ⟨_, rfl⟩
          have hBs : Below w.heap.size w s20 := by rw [hws]; exact ((hBo).setCell lA _)
          have hsz : s20.heap.size = s19.heap.size := by rw [hws]; simp
          have hQC : ∀ b j v, s19.cell? ⟨b, j, none⟩ = some v → A ≠ b → s20.cell? ⟨b, j, none⟩ = some v := fun b j v h dA => by rw [hws]; exact (stK h dA)
          replace kC0 := hQC _ _ _ kC0 dAC; replace kC1 := hQC _ _ _ kC1 dAC; replace kC2 := hQC _ _ _ kC2 dAC; replace kC3 := hQC _ _ _ kC3 dAC; replace kC4 := hQC _ _ _ kC4 dAC
          clear hQC
          have kA0_ : s20.cell? ⟨A, 0, none⟩ = some (.string sh) := by rw [hws]; simp [go_sem, kA0, kA1, kA2, kA3, kA4, fA0, fA1, fA2, fA3, fA4]
          have kA1_ : s20.cell? ⟨A, 1, none⟩ = some (.int .i64 c) := by rw [hws]; simp [go_sem, kA0, kA1, kA2, kA3, kA4, fA0, fA1, fA2, fA3, fA4]
          have kA2_ : s20.cell? ⟨A, 2, none⟩ = some (.int .i64 rn) := by rw [hws]; simp [go_sem, kA0, kA1, kA2, kA3, kA4, fA0, fA1, fA2, fA3, fA4]
          have kA3_ : s20.cell? ⟨A, 3, none⟩ = some (.bool true) := by rw [hws]; simp [go_sem, kA0, kA1, kA2, kA3, kA4, fA0, fA1, fA2, fA3, fA4]
          have kA4_ : s20.cell? ⟨A, 4, none⟩ = some (.bool false) := by rw [hws]; simp [go_sem, kA0, kA1, kA2, kA3, kA4, fA0, fA1, fA2, fA3, fA4]
          replace kA0 := kA0_; clear kA0_; replace kA1 := kA1_; clear kA1_; replace kA2 := kA2_; clear kA2_; replace kA3 := kA3_; clear kA3_; replace kA4 := kA4_; clear kA4_
          have hQF : ∀ p, s20.frozen? p = s19.frozen? p := fun p => by rw [hws]; simp [go_sem]
          replace fA0 := (hQF _).trans fA0; replace fA1 := (hQF _).trans fA1; replace fA2 := (hQF _).trans fA2; replace fA3 := (hQF _).trans fA3; replace fA4 := (hQF _).trans fA4
          replace fC0 := (hQF _).trans fC0; replace fC1 := (hQF _).trans fC1; replace fC2 := (hQF _).trans fC2; replace fC3 := (hQF _).trans fC3; replace fC4 := (hQF _).trans fC4
          clear hQF
          replace zA : A < s20.heap.size := by omega
          replace zC : C < s20.heap.size := by omega
          rw [← hws]
          clear hBo hws hsz
          have hBo := hBs; clear hBs
          refine (HB.out _).mono ?_; rintro e s21 ⟨rfl, hb⟩
          replace kA0 := belK hb kA0 zA; replace fA0 := belF hb fA0 zA; replace kA1 := belK hb kA1 zA; replace fA1 := belF hb fA1 zA; replace kA2 := belK hb kA2 zA; replace fA2 := belF hb fA2 zA; replace kA3 := belK hb kA3 zA; replace fA3 := belF hb fA3 zA; replace kA4 := belK hb kA4 zA; replace fA4 := belF hb fA4 zA; replace zA := Nat.lt_of_lt_of_le zA hb.size
          replace kC0 := belK hb kC0 zC; replace fC0 := belF hb fC0 zC; replace kC1 := belK hb kC1 zC; replace fC1 := belF hb fC1 zC; replace kC2 := belK hb kC2 zC; replace fC2 := belF hb fC2 zC; replace kC3 := belK hb kC3 zC; replace fC3 := belF hb fC3 zC; replace kC4 := belK hb kC4 zC; replace fC4 := belF hb fC4 zC; replace zC := Nat.lt_of_lt_of_le zC hb.size
          replace hBo := hBo.trans (hb.mono hBo.size)
          clear hb
          all_goals go_wp2_with fail
          all_goals refine bodyPost_ret (v := .tuple #[.agg #[.string sh, .int .i64 c, .int .i64 rn, .bool true, .bool false], .bool true]) (by simp [results, Tryz.results6, go_sem, kC0, kC1, kC2, kC3, kC4, zC]) rfl ⟨rfl, ?_⟩
          all_goals exact (((((hBo.setCell lC _).setCell lC _).setCell lC _).setCell lC _).setCell lC _)
      | false =>
        cases fr with
        | true =>
          try dsimp only at *
          clear h0
          rw [show mvW true r e = r from rfl] at *
          obtain ⟨cn, hcn⟩ : ∃ z, IntKind.i64.wrap (c + d) = z := ⟨_, rfl⟩
          rw [show mvW false c d = cn from hcn] at *
          have HB := Lib.hid (fun w => HS.out cn r true w hb)
          clear HS hb g1 g2 g3 g4 hd1 hd2 he1 he2
          go_enter Tryz.func6, Tryz.ntmps6
          go_wp2_with fail
          obtain ⟨s22, hws⟩ : ∃ s, s = ((w.alloc (.cells #[.string sh, .int .i64 c, .int .i64 r, .bool false, .bool true] 23)).alloc (.cells #[.string ⟨#[]⟩, .int .i64 0, .int .i64 0, .bool false, .bool false] 23)) := ⟨_, rfl⟩
          have hBs : Below w.heap.size w s22 := by rw [hws]; exact (((Below.refl w.heap.size w).alloc (by simp) _).alloc (by simp) _)
          obtain ⟨A, hdA⟩ : ∃ b, b = w.heap.size := ⟨_, rfl⟩
          obtain ⟨C, hdC⟩ : ∃ b, b = w.heap.size + 1 := ⟨_, rfl⟩
          have hsz : s22.heap.size = w.heap.size + 1 + 1 := by rw [hws]; simp
          have dAC : A ≠ C := by omega
          have dCA : C ≠ A := by omega
          have kA0 : s22.cell? ⟨A, 0, none⟩ = some (.string sh) := by rw [hws]; simp [go_sem, hdA, hdC]
          have fA0 : s22.frozen? ⟨A, 0, none⟩ = false := by rw [hws]; simp [go_sem, hdA, hdC]
          have kA1 : s22.cell? ⟨A, 1, none⟩ = some (.int .i64 c) := by rw [hws]; simp [go_sem, hdA, hdC]
          have fA1 : s22.frozen? ⟨A, 1, none⟩ = false := by rw [hws]; simp [go_sem, hdA, hdC]
          have kA2 : s22.cell? ⟨A, 2, none⟩ = some (.int .i64 r) := by rw [hws]; simp [go_sem, hdA, hdC]
          have fA2 : s22.frozen? ⟨A, 2, none⟩ = false := by rw [hws]; simp [go_sem, hdA, hdC]
          have kA3 : s22.cell? ⟨A, 3, none⟩ = some (.bool false) := by rw [hws]; simp [go_sem, hdA, hdC]
          have fA3 : s22.frozen? ⟨A, 3, none⟩ = false := by rw [hws]; simp [go_sem, hdA, hdC]
          have kA4 : s22.cell? ⟨A, 4, none⟩ = some (.bool true) := by rw [hws]; simp [go_sem, hdA, hdC]
          have fA4 : s22.frozen? ⟨A, 4, none⟩ = false := by rw [hws]; simp [go_sem, hdA, hdC]
          have zA : A < s22.heap.size := by omega
          have lA : w.heap.size ≤ A := by have := Nat.le_refl w.heap.size; omega
          have kC0 : s22.cell? ⟨C, 0, none⟩ = some (.string ⟨#[]⟩) := by rw [hws]; simp [go_sem, hdA, hdC]
          have fC0 : s22.frozen? ⟨C, 0, none⟩ = false := by rw [hws]; simp [go_sem, hdA, hdC]
          have kC1 : s22.cell? ⟨C, 1, none⟩ = some (.int .i64 0) := by rw [hws]; simp [go_sem, hdA, hdC]
          have fC1 : s22.frozen? ⟨C, 1, none⟩ = false := by rw [hws]; simp [go_sem, hdA, hdC]
          have kC2 : s22.cell? ⟨C, 2, none⟩ = some (.int .i64 0) := by rw [hws]; simp [go_sem, hdA, hdC]
          have fC2 : s22.frozen? ⟨C, 2, none⟩ = false := by rw [hws]; simp [go_sem, hdA, hdC]
          have kC3 : s22.cell? ⟨C, 3, none⟩ = some (.bool false) := by rw [hws]; simp [go_sem, hdA, hdC]
          have fC3 : s22.frozen? ⟨C, 3, none⟩ = false := by rw [hws]; simp [go_sem, hdA, hdC]
          have kC4 : s22.cell? ⟨C, 4, none⟩ = some (.bool false) := by rw [hws]; simp [go_sem, hdA, hdC]
          have fC4 : s22.frozen? ⟨C, 4, none⟩ = false := by rw [hws]; simp [go_sem, hdA, hdC]
          have zC : C < s22.heap.size := by omega
          have lC : w.heap.size ≤ C := by have := Nat.le_refl w.heap.size; omega
          rw [← hws]
          try rw [← hdC]
          try rw [← hdA]
          clear hws hsz hdA hdC
          have hBo := hBs; clear hBs
          refine (HR.out _).mono ?_; rintro e s23 ⟨rfl, hb⟩
          replace kA0 := belK hb kA0 zA; replace fA0 := belF hb fA0 zA; replace kA1 := belK hb kA1 zA; replace fA1 := belF hb fA1 zA; replace kA2 := belK hb kA2 zA; replace fA2 := belF hb fA2 zA; replace kA3 := belK hb kA3 zA; replace fA3 := belF hb fA3 zA; replace kA4 := belK hb kA4 zA; replace fA4 := belF hb fA4 zA; replace zA := Nat.lt_of_lt_of_le zA hb.size
          replace kC0 := belK hb kC0 zC; replace fC0 := belF hb fC0 zC; replace kC1 := belK hb kC1 zC; replace fC1 := belF hb fC1 zC; replace kC2 := belK hb kC2 zC; replace fC2 := belF hb fC2 zC; replace kC3 := belK hb kC3 zC; replace fC3 := belF hb fC3 zC; replace kC4 := belK hb kC4 zC; replace fC4 := belF hb fC4 zC; replace zC := Nat.lt_of_lt_of_le zC hb.size
          replace hBo := hBo.trans (hb.mono hBo.size)
          clear hb
          go_wp2_with fail
          obtain ⟨s24, hws⟩ : ∃ s, s = (s23.setCell ⟨A, 1, none⟩ (.int .i64 cn)) := ⟨_, rfl⟩
          have hBs : Below w.heap.size w s24 := by rw [hws]; exact ((hBo).setCell lA _)
          have hsz : s24.heap.size = s23.heap.size := by rw [hws]; simp
          have hQC : ∀ b j v, s23.cell? ⟨b, j, none⟩ = some v → A ≠ b → s24.cell? ⟨b, j, none⟩ = some v := fun b j v h dA => by rw [hws]; exact (stK h dA)
          replace kC0 := hQC _ _ _ kC0 dAC; replace kC1 := hQC _ _ _ kC1 dAC; replace kC2 := hQC _ _ _ kC2 dAC; replace kC3 := hQC _ _ _ kC3 dAC; replace kC4 := hQC _ _ _ kC4 dAC
          clear hQC
          have kA0_ : s24.cell? ⟨A, 0, none⟩ = some (.string sh) := by rw [hws]; simp [go_sem, kA0, kA1, kA2, kA3, kA4, fA0, fA1, fA2, fA3, fA4]
          have kA1_ : s24.cell? ⟨A, 1, none⟩ = some (.int .i64 cn) := by rw [hws]; simp [go_sem, kA0, kA1, kA2, kA3, kA4, fA0, fA1, fA2, fA3, fA4]
          have kA2_ : s24.cell? ⟨A, 2, none⟩ = some (.int .i64 r) := by rw [hws]; simp [go_sem, kA0, kA1, kA2, kA3, kA4, fA0, fA1, fA2, fA3, fA4]
          have kA3_ : s24.cell? ⟨A, 3, none⟩ = some (.bool false) := by rw [hws]; simp [go_sem, kA0, kA1, kA2, kA3, kA4, fA0, fA1, fA2, fA3, fA4]
          have kA4_ : s24.cell? ⟨A, 4, none⟩ = some (.bool true) := by rw [hws]; simp [go_sem, kA0, kA1, kA2, kA3, kA4, fA0, fA1, fA2, fA3, fA4]
          replace kA0 := kA0_; clear kA0_; replace kA1 := kA1_; clear kA1_; replace kA2 := kA2_; clear kA2_; replace kA3 := kA3_; clear kA3_; replace kA4 := kA4_; clear kA4_
          have hQF : ∀ p, s24.frozen? p = s23.frozen? p := fun p => by rw [hws]; simp [go_sem]
          replace fA0 := (hQF _).trans fA0; replace fA1 := (hQF _).trans fA1; replace fA2 := (hQF _).trans fA2; replace fA3 := (hQF _).trans fA3; replace fA4 := (hQF _).trans fA4
          replace fC0 := (hQF _).trans fC0; replace fC1 := (hQF _).trans fC1; replace fC2 := (hQF _).trans fC2; replace fC3 := (hQF _).trans fC3; replace fC4 := (hQF _).trans fC4
          clear hQF
          replace zA : A < s24.heap.size := by omega
          replace zC : C < s24.heap.size := by omega
          rw [← hws]
          clear hBo hws hsz
          have hBo := hBs; clear hBs
          refine (HB.out _).mono ?_; rintro e s25 ⟨rfl, hb⟩
          replace kA0 := belK hb kA0 zA; replace fA0 := belF hb fA0 zA; replace kA1 := belK hb kA1 zA; replace fA1 := belF hb fA1 zA; replace kA2 := belK hb kA2 zA; replace fA2 := belF hb fA2 zA; replace kA3 := belK hb kA3 zA; replace fA3 := belF hb fA3 zA; replace kA4 := belK hb kA4 zA; replace fA4 := belF hb fA4 zA; replace zA := Nat.lt_of_lt_of_le zA hb.size
          replace kC0 := belK hb kC0 zC; replace fC0 := belF hb fC0 zC; replace kC1 := belK hb kC1 zC; replace fC1 := belF hb fC1 zC; replace kC2 := belK hb kC2 zC; replace fC2 := belF hb fC2 zC; replace kC3 := belK hb kC3 zC; replace fC3 := belF hb fC3 zC; replace kC4 := belK hb kC4 zC; replace fC4 := belF hb fC4 zC; replace zC := Nat.lt_of_lt_of_le zC hb.size
          replace hBo := hBo.trans (hb.mono hBo.size)
          clear hb
          all_goals go_wp2_with fail
          all_goals refine bodyPost_ret (v := .tuple #[.agg #[.string sh, .int .i64 cn, .int .i64 r, .bool false, .bool true], .bool true]) (by simp [results, Tryz.results6, go_sem, kC0, kC1, kC2, kC3, kC4, zC]) rfl ⟨rfl, ?_⟩
          all_goals exact (((((hBo.setCell lC _).setCell lC _).setCell lC _).setCell lC _).setCell lC _)
        | false =>
          try dsimp only at *
          clear h0
          obtain ⟨cn, hcn⟩ : ∃ z, IntKind.i64.wrap (c + d) = z := ⟨_, rfl⟩
          rw [show mvW false c d = cn from hcn] at *
          obtain ⟨rn, hrn⟩ : ∃ z, IntKind.i64.wrap (r + e) = z := ⟨_, rfl⟩
          rw [show mvW false r e = rn from hrn] at *
          have HB := Lib.hid (fun w => HS.out cn rn true w hb)
          clear HS hb g1 g2 g3 g4 hd1 hd2 he1 he2
          go_enter Tryz.func6, Tryz.ntmps6
          go_wp2_with fail
          obtain ⟨s26, hws⟩ : ∃ s, s = ((w.alloc (.cells #[.string sh, .int .i64 c, .int .i64 r, .bool false, .bool false] 23)).alloc (.cells #[.string ⟨#[]⟩, .int .i64 0, .int .i64 0, .bool false, .bool false] 23)) := ⟨_, rfl⟩
          have hBs : Below w.heap.size w s26 := by rw [hws]; exact (((Below.refl w.heap.size w).alloc (by simp) _).alloc (by simp) _)
          obtain ⟨A, hdA⟩ : ∃ b, b = w.heap.size := ⟨_, rfl⟩
          obtain ⟨C, hdC⟩ : ∃ b, b = w.heap.size + 1 := ⟨_, rfl⟩
          have hsz : s26.heap.size = w.heap.size + 1 + 1 := by rw [hws]; simp
          have dAC : A ≠ C := by omega
          have dCA : C ≠ A := by omega
          have kA0 : s26.cell? ⟨A, 0, none⟩ = some (.string sh) := by rw [hws]; simp [go_sem, hdA, hdC]
          have fA0 : s26.frozen? ⟨A, 0, none⟩ = false := by rw [hws]; simp [go_sem, hdA, hdC]
          have kA1 : s26.cell? ⟨A, 1, none⟩ = some (.int .i64 c) := by rw [hws]; simp [go_sem, hdA, hdC]
          have fA1 : s26.frozen? ⟨A, 1, none⟩ = false := by rw [hws]; simp [go_sem, hdA, hdC]
          have kA2 : s26.cell? ⟨A, 2, none⟩ = some (.int .i64 r) := by rw [hws]; simp [go_sem, hdA, hdC]
          have fA2 : s26.frozen? ⟨A, 2, none⟩ = false := by rw [hws]; simp [go_sem, hdA, hdC]
          have kA3 : s26.cell? ⟨A, 3, none⟩ = some (.bool false) := by rw [hws]; simp [go_sem, hdA, hdC]
          have fA3 : s26.frozen? ⟨A, 3, none⟩ = false := by rw [hws]; simp [go_sem, hdA, hdC]
          have kA4 : s26.cell? ⟨A, 4, none⟩ = some (.bool false) := by rw [hws]; simp [go_sem, hdA, hdC]
          have fA4 : s26.frozen? ⟨A, 4, none⟩ = false := by rw [hws]; simp [go_sem, hdA, hdC]
          have zA : A < s26.heap.size := by omega
          have lA : w.heap.size ≤ A := by have := Nat.le_refl w.heap.size; omega
          have kC0 : s26.cell? ⟨C, 0, none⟩ = some (.string ⟨#[]⟩) := by rw [hws]; simp [go_sem, hdA, hdC]
          have fC0 : s26.frozen? ⟨C, 0, none⟩ = false := by rw [hws]; simp [go_sem, hdA, hdC]
          have kC1 : s26.cell? ⟨C, 1, none⟩ = some (.int .i64 0) := by rw [hws]; simp [go_sem, hdA, hdC]
          have fC1 : s26.frozen? ⟨C, 1, none⟩ = false := by rw [hws]; simp [go_sem, hdA, hdC]
          have kC2 : s26.cell? ⟨C, 2, none⟩ = some (.int .i64 0) := by rw [hws]; simp [go_sem, hdA, hdC]
          have fC2 : s26.frozen? ⟨C, 2, none⟩ = false := by rw [hws]; simp [go_sem, hdA, hdC]
          have kC3 : s26.cell? ⟨C, 3, none⟩ = some (.bool false) := by rw [hws]; simp [go_sem, hdA, hdC]
          have fC3 : s26.frozen? ⟨C, 3, none⟩ = false := by rw [hws]; simp [go_sem, hdA, hdC]
          have kC4 : s26.cell? ⟨C, 4, none⟩ = some (.bool false) := by rw [hws]; simp [go_sem, hdA, hdC]
          have fC4 : s26.frozen? ⟨C, 4, none⟩ = false := by rw [hws]; simp [go_sem, hdA, hdC]
          have zC : C < s26.heap.size := by omega
          have lC : w.heap.size ≤ C := by have := Nat.le_refl w.heap.size; omega
          rw [← hws]
          try rw [← hdC]
          try rw [← hdA]
          clear hws hsz hdA hdC
          have hBo := hBs; clear hBs
          refine (HR.out _).mono ?_; rintro e s27 ⟨rfl, hb⟩
          replace kA0 := belK hb kA0 zA; replace fA0 := belF hb fA0 zA; replace kA1 := belK hb kA1 zA; replace fA1 := belF hb fA1 zA; replace kA2 := belK hb kA2 zA; replace fA2 := belF hb fA2 zA; replace kA3 := belK hb kA3 zA; replace fA3 := belF hb fA3 zA; replace kA4 := belK hb kA4 zA; replace fA4 := belF hb fA4 zA; replace zA := Nat.lt_of_lt_of_le zA hb.size
          replace kC0 := belK hb kC0 zC; replace fC0 := belF hb fC0 zC; replace kC1 := belK hb kC1 zC; replace fC1 := belF hb fC1 zC; replace kC2 := belK hb kC2 zC; replace fC2 := belF hb fC2 zC; replace kC3 := belK hb kC3 zC; replace fC3 := belF hb fC3 zC; replace kC4 := belK hb kC4 zC; replace fC4 := belF hb fC4 zC; replace zC := Nat.lt_of_lt_of_le zC hb.size
          replace hBo := hBo.trans (hb.mono hBo.size)
          clear hb
          go_wp2_with fail
          obtain ⟨s28, hws⟩ : ∃ s, s = ((s27.setCell ⟨A, 1, none⟩ (.int .i64 cn)).setCell ⟨A, 2, none⟩ (.int .i64 rn)) := ⟨_, rfl⟩
          have hBs : Below w.heap.size w s28 := by rw [hws]; exact (((hBo).setCell lA _).setCell lA _)
          have hsz : s28.heap.size = s27.heap.size := by rw [hws]; simp
          have hQC : ∀ b j v, s27.cell? ⟨b, j, none⟩ = some v → A ≠ b → s28.cell? ⟨b, j, none⟩ = some v := fun b j v h dA => by rw [hws]; exact (stK (stK h dA) dA)
          replace kC0 := hQC _ _ _ kC0 dAC; replace kC1 := hQC _ _ _ kC1 dAC; replace kC2 := hQC _ _ _ kC2 dAC; replace kC3 := hQC _ _ _ kC3 dAC; replace kC4 := hQC _ _ _ kC4 dAC
          clear hQC
          have kA0_ : s28.cell? ⟨A, 0, none⟩ = some (.string sh) := by rw [hws]; simp [go_sem, kA0, kA1, kA2, kA3, kA4, fA0, fA1, fA2, fA3, fA4]
          have kA1_ : s28.cell? ⟨A, 1, none⟩ = some (.int .i64 cn) := by rw [hws]; simp [go_sem, kA0, kA1, kA2, kA3, kA4, fA0, fA1, fA2, fA3, fA4]
          have kA2_ : s28.cell? ⟨A, 2, none⟩ = some (.int .i64 rn) := by rw [hws]; simp [go_sem, kA0, kA1, kA2, kA3, kA4, fA0, fA1, fA2, fA3, fA4]
          have kA3_ : s28.cell? ⟨A, 3, none⟩ = some (.bool false) := by rw [hws]; simp [go_sem, kA0, kA1, kA2, kA3, kA4, fA0, fA1, fA2, fA3, fA4]
          have kA4_ : s28.cell? ⟨A, 4, none⟩ = some (.bool false) := by rw [hws]; simp [go_sem, kA0, kA1, kA2, kA3, kA4, fA0, fA1, fA2, fA3, fA4]
          replace kA0 := kA0_; clear kA0_; replace kA1 := kA1_; clear kA1_; replace kA2 := kA2_; clear kA2_; replace kA3 := kA3_; clear kA3_; replace kA4 := kA4_; clear kA4_
          have hQF : ∀ p, s28.frozen? p = s27.frozen? p := fun p => by rw [hws]; simp [go_sem]
          replace fA0 := (hQF _).trans fA0; replace fA1 := (hQF _).trans fA1; replace fA2 := (hQF _).trans fA2; replace fA3 := (hQF _).trans fA3; replace fA4 := (hQF _).trans fA4
          replace fC0 := (hQF _).trans fC0; replace fC1 := (hQF _).trans fC1; replace fC2 := (hQF _).trans fC2; replace fC3 := (hQF _).trans fC3; replace fC4 := (hQF _).trans fC4
          clear hQF
          replace zA : A < s28.heap.size := by omega
          replace zC : C < s28.heap.size := by omega
          rw [← hws]
          clear hBo hws hsz
          have hBo := hBs; clear hBs
          refine (HB.out _).mono ?_; rintro e s29 ⟨rfl, hb⟩
          replace kA0 := belK hb kA0 zA; replace fA0 := belF hb fA0 zA; replace kA1 := belK hb kA1 zA; replace fA1 := belF hb fA1 zA; replace kA2 := belK hb kA2 zA; replace fA2 := belF hb fA2 zA; replace kA3 := belK hb kA3 zA; replace fA3 := belF hb fA3 zA; replace kA4 := belK hb kA4 zA; replace fA4 := belF hb fA4 zA; replace zA := Nat.lt_of_lt_of_le zA hb.size
          replace kC0 := belK hb kC0 zC; replace fC0 := belF hb fC0 zC; replace kC1 := belK hb kC1 zC; replace fC1 := belF hb fC1 zC; replace kC2 := belK hb kC2 zC; replace fC2 := belF hb fC2 zC; replace kC3 := belK hb kC3 zC; replace fC3 := belF hb fC3 zC; replace kC4 := belK hb kC4 zC; replace fC4 := belF hb fC4 zC; replace zC := Nat.lt_of_lt_of_le zC hb.size
          replace hBo := hBo.trans (hb.mono hBo.size)
          clear hb
          all_goals go_wp2_with fail
          all_goals refine bodyPost_ret (v := .tuple #[.agg #[.string sh, .int .i64 cn, .int .i64 rn, .bool false, .bool false], .bool true]) (by simp [results, Tryz.results6, go_sem, kC0, kC1, kC2, kC3, kC4, zC]) rfl ⟨rfl, ?_⟩
          all_goals exact (((((hBo.setCell lC _).setCell lC _).setCell lC _).setCell lC _).setCell lC _)
end Go.Proofs.YtlpjaflolnggnaaGreatDoor
