/-
  LAYER 11, REFERENCES: Insert2 and Delete2 of both.
-/
import Derived.Test.YtlpjaflolnggnaaGreatDoorCel24
import Derived.Test.YtlpjaflolnggnaaGreatDoorCel25
import Derived.Test.YtlpjaflolnggnaaGreatDoorCel13
import Derived.Test.YtlpjaflolnggnaaGreatDoorCel14
import Derived.Test.YtlpjaflolnggnaaGreatDoorCel15
import Derived.Test.YtlpjaflolnggnaaGreatDoorCel16
import Derived.Test.YtlpjaflolnggnaaGreatDoorCel17
import Derived.Test.YtlpjaflolnggnaaGreatDoorCel18
import Derived.Test.YtlpjaflolnggnaaGreatDoorCel19
import Derived.Test.YtlpjaflolnggnaaGreatDoorCel20
namespace Go.Proofs.YtlpjaflolnggnaaGreatDoor
open Go.RowKit Go.Shelf
set_option linter.unusedSimpArgs false
set_option linter.unusedVariables false

def del2B (a b : Rf) (way x n : Int) : Bool := preB a b way x n && (delB a way x n || delB b way x n)
def del2a (a b : Rf) (way x n : Int) : Rf := if del2B a b way x n then (if delB a way x n then delR a way x n else ptR a way x) else rf0
def del2b (a b : Rf) (way x n : Int) : Rf := if del2B a b way x n then (if delB b way x n then delR b way x n else ptR b way (x - 1)) else rf0
theorem del2_no {a b : Rf} {way x n : Int} (h : del2B a b way x n = false) : del2a a b way x n = rf0 ∧ del2b a b way x n = rf0 := by
  unfold del2a del2b; rw [h]; exact ⟨rfl, rfl⟩
theorem del2_yes {a b : Rf} {way x n : Int} (h : del2B a b way x n = true) : del2a a b way x n = (if delB a way x n then delR a way x n else ptR a way x) ∧ del2b a b way x n = if delB b way x n then delR b way x n else ptR b way (x - 1) := by
  unfold del2a del2b; rw [h]; exact ⟨rfl, rfl⟩
theorem pre_yes {a b : Rf} {way x n : Int} (h : preB a b way x n = true) : rgtR a = true ∧ rgtR b = true ∧ mayB way x n = true ∧ ¬ plZ b way < plZ a way := by
  rcases preB_cases a b way x n with ⟨_, g⟩ | ⟨_, _, g⟩ | ⟨_, _, _, g⟩ | ⟨_, _, _, _, g⟩ | ⟨g1, g2, g3, g4, g⟩
  · rw [h] at g; cases g
  · rw [h] at g; cases g
  · rw [h] at g; cases g
  · rw [h] at g; cases g
  · exact ⟨g1, g2, g3, g4⟩
theorem pl_pt (q : Rf) (way z : Int) : plZ (ptR q way z) way = z := by
  unfold plZ ptR
  split <;> rfl
theorem sh_pt (q : Rf) (way z : Int) : (ptR q way z).sh = q.sh := by
  unfold ptR
  split <;> rfl
theorem rgt_pt {q : Rf} {way z : Int} (h : rgtR q = true) (hw : way = 0 ∨ way = 1) (h1 : 1 ≤ z) (h2 : z ≤ lastZ way) : rgtR (ptR q way z) = true := by
  obtain ⟨g1, g2, g3, g4⟩ := rgt_in h
  unfold rgtR rgtB at *
  rw [Bool.and_eq_true] at h ⊢
  rw [sh_pt]
  refine ⟨h.1, ?_⟩
  rcases hw with rfl | rfl
  · rw [inG_iff]
    rw [show lastZ 0 = 52 from rfl] at h2
    exact ⟨h1, h2, g3, g4⟩
  · rw [inG_iff]
    rw [show lastZ 1 = 99 from rfl] at h2
    exact ⟨g1, g2, h1, h2⟩
theorem refInsert2_any (a b : Rf) (way x n : Int) (p q : Rf) (k : Bool) (w : World) (hs : a.sh.size ≤ maxLen) (hs2 : b.sh.size ≤ maxLen) (hp : ins2a a b way x n = p) (hq : ins2b a b way x n = q) (hk : ins2B a b way x n = k) :
    Calls Tryz.prog 13 #[.agg #[.string a.sh, .int .i64 a.c, .int .i64 a.r, .bool a.fc, .bool a.fr], .agg #[.string b.sh, .int .i64 b.c, .int .i64 b.r, .bool b.fc, .bool b.fr], .int .i64 way, .int .i64 x, .int .i64 n] w fun e w' => e = .returned (.tuple #[.agg #[.string p.sh, .int .i64 p.c, .int .i64 p.r, .bool p.fc, .bool p.fr], .agg #[.string q.sh, .int .i64 q.c, .int .i64 q.r, .bool q.fc, .bool q.fr], .bool k]) ∧ Below w.heap.size w w' := by
  cases k with
  | false =>
    obtain ⟨e1, e2⟩ := ins2_no hk
    obtain rfl : rf0 = p := e1.symm.trans hp
    obtain rfl : rf0 = q := e2.symm.trans hq
    cases g : preB a b way x n with
    | false => exact refInsert2_no a b way x n w hs hs2 g
    | true =>
      obtain ⟨g1, g2, g3, g4⟩ := pre_yes g
      exact refInsert2_out a b way x n (by unfold ins2B at hk; rwa [g, Bool.true_and] at hk) w hs hs2 g1 g2 g3 g4
  | true =>
    obtain ⟨e1, e2⟩ := ins2_yes hk
    rw [e1] at hp
    rw [e2] at hq
    unfold ins2B at hk
    rw [Bool.and_eq_true] at hk
    obtain ⟨g, h1⟩ := hk
    obtain ⟨g1, g2, g3, g4⟩ := pre_yes g
    cases h2 : insB b way x n with
    | true =>
      rw [h2, if_pos rfl] at hq
      exact refInsert2_both a b way x n p q h1 h2 hp hq w hs hs2 g1 g2 g3 g4
    | false =>
      rw [h2, if_neg Bool.false_ne_true] at hq
      exact refInsert2_stay a b way x n p q h1 h2 hp hq w hs hs2 g1 g2 g3 g4
theorem delB_iff {q : Rf} {way x n : Int} (hm : mayB way x n = true) (hr : rgtR q = true) : (delB q way x n = true ↔ ¬ (x ≤ plZ q way ∧ plZ q way < x + n)) ∧ (delB q way x n = false ↔ (x ≤ plZ q way ∧ plZ q way < x + n)) := by
  rw [delB_may hm hr]
  constructor <;> simp <;> omega
theorem refDelete2_any (a b : Rf) (way x n : Int) (p q : Rf) (k : Bool) (w : World) (hs : a.sh.size ≤ maxLen) (hs2 : b.sh.size ≤ maxLen) (hp : del2a a b way x n = p) (hq : del2b a b way x n = q) (hk : del2B a b way x n = k) :
    Calls Tryz.prog 15 #[.agg #[.string a.sh, .int .i64 a.c, .int .i64 a.r, .bool a.fc, .bool a.fr], .agg #[.string b.sh, .int .i64 b.c, .int .i64 b.r, .bool b.fc, .bool b.fr], .int .i64 way, .int .i64 x, .int .i64 n] w fun e w' => e = .returned (.tuple #[.agg #[.string p.sh, .int .i64 p.c, .int .i64 p.r, .bool p.fc, .bool p.fr], .agg #[.string q.sh, .int .i64 q.c, .int .i64 q.r, .bool q.fc, .bool q.fr], .bool k]) ∧ Below w.heap.size w w' := by
  cases g : preB a b way x n with
  | false =>
    have h2 : del2B a b way x n = false := by unfold del2B; rw [g, Bool.false_and]
    obtain ⟨e1, e2⟩ := del2_no h2
    obtain rfl : rf0 = p := e1.symm.trans hp
    obtain rfl : rf0 = q := e2.symm.trans hq
    obtain rfl : false = k := h2.symm.trans hk
    exact refDelete2_no a b way x n w hs hs2 g
  | true =>
  obtain ⟨g1, g2, g3, g4⟩ := pre_yes g
  obtain ⟨k0, k1, k2, k3, k4, k5, k6⟩ := may_yes g3
  obtain ⟨a1, a2⟩ := pl_in g1 k0
  obtain ⟨b1, b2⟩ := pl_in g2 k0
  have hB : del2B a b way x n = (delB a way x n || delB b way x n) := by unfold del2B; rw [g, Bool.true_and]
  have da : 1 ≤ dlP (plZ a way) x n → dlP (plZ a way) x n ≤ lastZ way → rgtR (ptR a way (dlP (plZ a way) x n)) = true := fun h1 h2 => rgt_pt g1 k0 h1 h2
  have ia := delB_iff g3 g1
  have ib := delB_iff g3 g2
  cases h1 : delB a way x n with
  | true =>
    have ja := ia.1.1 h1
    have ea := delR_yes h1
    cases h2 : delB b way x n with
    | true =>
      have jb := ib.1.1 h2
      have eb := delR_yes h2
      have hk2 : del2B a b way x n = true := by rw [hB, h1, h2]; rfl
      obtain ⟨e1, e2⟩ := del2_yes hk2
      rw [e1, h1, if_pos rfl] at hp
      rw [e2, h2, if_pos rfl] at hq
      obtain rfl : true = k := hk2.symm.trans hk
      have v1 : 1 ≤ dlP (plZ a way) x n ∧ dlP (plZ a way) x n ≤ lastZ way := by unfold dlP; split <;> omega
      have v2 : 1 ≤ dlP (plZ b way) x n ∧ dlP (plZ b way) x n ≤ lastZ way := by unfold dlP; split <;> omega
      have v3 : ¬ dlP (plZ b way) x n < dlP (plZ a way) x n := by unfold dlP; split <;> split <;> omega
      have p1 : p = ptR a way (dlP (plZ a way) x n) := hp.symm.trans ea
      have q1 : q = ptR b way (dlP (plZ b way) x n) := hq.symm.trans eb
      refine refDelete2_tt a b way x n p q h1 h2 hp hq _ _ (by rw [p1, pl_pt]) (by rw [q1, pl_pt]) (by rw [p1]; exact rgt_pt g1 k0 v1.1 v1.2) (by rw [q1]; exact rgt_pt g2 k0 v2.1 v2.2) v3 (by rw [p1, sh_pt]; exact hs) (by rw [q1, sh_pt]; exact hs2) k1 (by omega) w hs hs2 g1 g2 g3 g4
    | false =>
      have jb := ib.2.1 h2
      have hk2 : del2B a b way x n = true := by rw [hB, h1, h2]; rfl
      obtain ⟨e1, e2⟩ := del2_yes hk2
      rw [e1, h1, if_pos rfl] at hp
      rw [e2, h2, if_neg Bool.false_ne_true] at hq
      obtain rfl : true = k := hk2.symm.trans hk
      have v1 : 1 ≤ dlP (plZ a way) x n ∧ dlP (plZ a way) x n ≤ lastZ way := by unfold dlP; split <;> omega
      have v3 : ¬ x - 1 < dlP (plZ a way) x n := by unfold dlP; split <;> omega
      have p1 : p = ptR a way (dlP (plZ a way) x n) := hp.symm.trans ea
      refine refDelete2_tf a b way x n p q h1 h2 hp hq _ _ (by rw [p1, pl_pt]) (by rw [← hq, pl_pt]) (by rw [p1]; exact rgt_pt g1 k0 v1.1 v1.2) (by rw [← hq]; exact rgt_pt g2 k0 (by omega) (by omega)) v3 (by rw [p1, sh_pt]; exact hs) (by rw [← hq, sh_pt]; exact hs2) k1 (by omega) w hs hs2 g1 g2 g3 g4
  | false =>
    have ja := ia.2.1 h1
    cases h2 : delB b way x n with
    | true =>
      have jb := ib.1.1 h2
      have eb := delR_yes h2
      have hk2 : del2B a b way x n = true := by rw [hB, h1, h2]; rfl
      obtain ⟨e1, e2⟩ := del2_yes hk2
      rw [e1, h1, if_neg Bool.false_ne_true] at hp
      rw [e2, h2, if_pos rfl] at hq
      obtain rfl : true = k := hk2.symm.trans hk
      have v2 : 1 ≤ dlP (plZ b way) x n ∧ dlP (plZ b way) x n ≤ lastZ way := by unfold dlP; split <;> omega
      have v3 : ¬ dlP (plZ b way) x n < x := by unfold dlP; split <;> omega
      have q1 : q = ptR b way (dlP (plZ b way) x n) := hq.symm.trans eb
      refine refDelete2_ft a b way x n p q h1 h2 hp hq _ _ (by rw [← hp, pl_pt]) (by rw [q1, pl_pt]) (by rw [← hp]; exact rgt_pt g1 k0 (by omega) (by omega)) (by rw [q1]; exact rgt_pt g2 k0 v2.1 v2.2) v3 (by rw [← hp, sh_pt]; exact hs) (by rw [q1, sh_pt]; exact hs2) k1 (by omega) w hs hs2 g1 g2 g3 g4
    | false =>
      have jb := ib.2.1 h2
      have hk2 : del2B a b way x n = false := by rw [hB, h1, h2]; rfl
      obtain ⟨e1, e2⟩ := del2_no hk2
      obtain rfl : rf0 = p := e1.symm.trans hp
      obtain rfl : rf0 = q := e2.symm.trans hq
      obtain rfl : false = k := hk2.symm.trans hk
      exact refDelete2_ff a b way x n _ _ h1 h2 rfl rfl _ _ (pl_pt a way x) (pl_pt b way (x - 1)) (by omega) (by rw [sh_pt]; exact hs) (by rw [sh_pt]; exact hs2) k1 (by omega) w hs hs2 g1 g2 g3 g4
set_option maxRecDepth 100000 in
set_option maxHeartbeats 4000000 in
theorem callIn2_any (a b : Rf) (way x n : Int) (p q : Rf) (k : Bool) (w : World)
    (HF : ∀ w, Calls Tryz.prog 28 #[.agg #[.string a.sh, .int .i64 a.c, .int .i64 a.r, .bool a.fc, .bool a.fr], .agg #[.string b.sh, .int .i64 b.c, .int .i64 b.r, .bool b.fc, .bool b.fr], .int .i64 way, .int .i64 x, .int .i64 n, .func (.func 29) #[] #[]] w fun e w' => e = .returned (.tuple #[.agg #[.string p.sh, .int .i64 p.c, .int .i64 p.r, .bool p.fc, .bool p.fr], .agg #[.string q.sh, .int .i64 q.c, .int .i64 q.r, .bool q.fc, .bool q.fr], .bool k]) ∧ Below w.heap.size w w') :
    Calls Tryz.prog 12 #[.agg #[.string a.sh, .int .i64 a.c, .int .i64 a.r, .bool a.fc, .bool a.fr], .agg #[.string b.sh, .int .i64 b.c, .int .i64 b.r, .bool b.fc, .bool b.fr], .int .i64 way, .int .i64 x, .int .i64 n] w fun e w' => e = .returned (.tuple #[.agg #[.string p.sh, .int .i64 p.c, .int .i64 p.r, .bool p.fc, .bool p.fr], .agg #[.string q.sh, .int .i64 q.c, .int .i64 q.r, .bool q.fc, .bool q.fr], .bool k]) ∧ Below w.heap.size w w' := by
  have HFF := Lib.hid HF
  clear HF
  go_enter Tryz.func12, Tryz.ntmps12
  go_wp2_with fail
  obtain ⟨s1, hws⟩ : ∃ s, s = ((((w.alloc (.cells #[.string a.sh, .int .i64 a.c, .int .i64 a.r, .bool a.fc, .bool a.fr] 23)).alloc (.cells #[.string b.sh, .int .i64 b.c, .int .i64 b.r, .bool b.fc, .bool b.fr] 23)).alloc (.cells #[.string ⟨#[]⟩, .int .i64 0, .int .i64 0, .bool false, .bool false] 23)).alloc (.cells #[.string ⟨#[]⟩, .int .i64 0, .int .i64 0, .bool false, .bool false] 23)) := ⟨_, rfl⟩
  have hBs : Below w.heap.size w s1 := by rw [hws]; exact (((((Below.refl w.heap.size w).alloc (by simp) _).alloc (by simp) _).alloc (by simp; omega) _).alloc (by simp; omega) _)
  obtain ⟨A, hdA⟩ : ∃ b, b = w.heap.size := ⟨_, rfl⟩
  obtain ⟨B, hdB⟩ : ∃ b, b = w.heap.size + 1 := ⟨_, rfl⟩
  obtain ⟨C, hdC⟩ : ∃ b, b = w.heap.size + 1 + 1 := ⟨_, rfl⟩
  obtain ⟨D, hdD⟩ : ∃ b, b = w.heap.size + 1 + 1 + 1 := ⟨_, rfl⟩
  have hsz : s1.heap.size = w.heap.size + 1 + 1 + 1 + 1 := by rw [hws]; simp
  have dCA : C ≠ A := by omega
  have dCB : C ≠ B := by omega
  have dCD : C ≠ D := by omega
  have dDA : D ≠ A := by omega
  have dDB : D ≠ B := by omega
  have dDC : D ≠ C := by omega
  have kA0 : s1.cell? ⟨A, 0, none⟩ = some (.string a.sh) := by rw [hws]; simp [go_sem, hdA, hdB, hdC, hdD]
  have kA1 : s1.cell? ⟨A, 1, none⟩ = some (.int .i64 a.c) := by rw [hws]; simp [go_sem, hdA, hdB, hdC, hdD]
  have kA2 : s1.cell? ⟨A, 2, none⟩ = some (.int .i64 a.r) := by rw [hws]; simp [go_sem, hdA, hdB, hdC, hdD]
  have kA3 : s1.cell? ⟨A, 3, none⟩ = some (.bool a.fc) := by rw [hws]; simp [go_sem, hdA, hdB, hdC, hdD]
  have kA4 : s1.cell? ⟨A, 4, none⟩ = some (.bool a.fr) := by rw [hws]; simp [go_sem, hdA, hdB, hdC, hdD]
  have zA : A < s1.heap.size := by omega
  have lA : w.heap.size ≤ A := by have := Nat.le_refl w.heap.size; omega
  have kB0 : s1.cell? ⟨B, 0, none⟩ = some (.string b.sh) := by rw [hws]; simp [go_sem, hdA, hdB, hdC, hdD]
  have kB1 : s1.cell? ⟨B, 1, none⟩ = some (.int .i64 b.c) := by rw [hws]; simp [go_sem, hdA, hdB, hdC, hdD]
  have kB2 : s1.cell? ⟨B, 2, none⟩ = some (.int .i64 b.r) := by rw [hws]; simp [go_sem, hdA, hdB, hdC, hdD]
  have kB3 : s1.cell? ⟨B, 3, none⟩ = some (.bool b.fc) := by rw [hws]; simp [go_sem, hdA, hdB, hdC, hdD]
  have kB4 : s1.cell? ⟨B, 4, none⟩ = some (.bool b.fr) := by rw [hws]; simp [go_sem, hdA, hdB, hdC, hdD]
  have zB : B < s1.heap.size := by omega
  have lB : w.heap.size ≤ B := by have := Nat.le_refl w.heap.size; omega
  have kC0 : s1.cell? ⟨C, 0, none⟩ = some (.string ⟨#[]⟩) := by rw [hws]; simp [go_sem, hdA, hdB, hdC, hdD]
  have fC0 : s1.frozen? ⟨C, 0, none⟩ = false := by rw [hws]; simp [go_sem, hdA, hdB, hdC, hdD]
  have kC1 : s1.cell? ⟨C, 1, none⟩ = some (.int .i64 0) := by rw [hws]; simp [go_sem, hdA, hdB, hdC, hdD]
  have fC1 : s1.frozen? ⟨C, 1, none⟩ = false := by rw [hws]; simp [go_sem, hdA, hdB, hdC, hdD]
  have kC2 : s1.cell? ⟨C, 2, none⟩ = some (.int .i64 0) := by rw [hws]; simp [go_sem, hdA, hdB, hdC, hdD]
  have fC2 : s1.frozen? ⟨C, 2, none⟩ = false := by rw [hws]; simp [go_sem, hdA, hdB, hdC, hdD]
  have kC3 : s1.cell? ⟨C, 3, none⟩ = some (.bool false) := by rw [hws]; simp [go_sem, hdA, hdB, hdC, hdD]
  have fC3 : s1.frozen? ⟨C, 3, none⟩ = false := by rw [hws]; simp [go_sem, hdA, hdB, hdC, hdD]
  have kC4 : s1.cell? ⟨C, 4, none⟩ = some (.bool false) := by rw [hws]; simp [go_sem, hdA, hdB, hdC, hdD]
  have fC4 : s1.frozen? ⟨C, 4, none⟩ = false := by rw [hws]; simp [go_sem, hdA, hdB, hdC, hdD]
  have zC : C < s1.heap.size := by omega
  have lC : w.heap.size ≤ C := by have := Nat.le_refl w.heap.size; omega
  have kD0 : s1.cell? ⟨D, 0, none⟩ = some (.string ⟨#[]⟩) := by rw [hws]; simp [go_sem, hdA, hdB, hdC, hdD]
  have fD0 : s1.frozen? ⟨D, 0, none⟩ = false := by rw [hws]; simp [go_sem, hdA, hdB, hdC, hdD]
  have kD1 : s1.cell? ⟨D, 1, none⟩ = some (.int .i64 0) := by rw [hws]; simp [go_sem, hdA, hdB, hdC, hdD]
  have fD1 : s1.frozen? ⟨D, 1, none⟩ = false := by rw [hws]; simp [go_sem, hdA, hdB, hdC, hdD]
  have kD2 : s1.cell? ⟨D, 2, none⟩ = some (.int .i64 0) := by rw [hws]; simp [go_sem, hdA, hdB, hdC, hdD]
  have fD2 : s1.frozen? ⟨D, 2, none⟩ = false := by rw [hws]; simp [go_sem, hdA, hdB, hdC, hdD]
  have kD3 : s1.cell? ⟨D, 3, none⟩ = some (.bool false) := by rw [hws]; simp [go_sem, hdA, hdB, hdC, hdD]
  have fD3 : s1.frozen? ⟨D, 3, none⟩ = false := by rw [hws]; simp [go_sem, hdA, hdB, hdC, hdD]
  have kD4 : s1.cell? ⟨D, 4, none⟩ = some (.bool false) := by rw [hws]; simp [go_sem, hdA, hdB, hdC, hdD]
  have fD4 : s1.frozen? ⟨D, 4, none⟩ = false := by rw [hws]; simp [go_sem, hdA, hdB, hdC, hdD]
  have zD : D < s1.heap.size := by omega
  have lD : w.heap.size ≤ D := by have := Nat.le_refl w.heap.size; omega
  rw [← hws]
  try rw [← hdD]
  try rw [← hdC]
  try rw [← hdB]
  try rw [← hdA]
  clear hws hsz hdA hdB hdC hdD
  have hBo := hBs; clear hBs
  refine (HFF.out _).mono ?_; rintro e s2 ⟨rfl, hb⟩
  replace kA0 := belK hb kA0 zA; replace kA1 := belK hb kA1 zA; replace kA2 := belK hb kA2 zA; replace kA3 := belK hb kA3 zA; replace kA4 := belK hb kA4 zA; replace zA := Nat.lt_of_lt_of_le zA hb.size
  replace kB0 := belK hb kB0 zB; replace kB1 := belK hb kB1 zB; replace kB2 := belK hb kB2 zB; replace kB3 := belK hb kB3 zB; replace kB4 := belK hb kB4 zB; replace zB := Nat.lt_of_lt_of_le zB hb.size
  replace kC0 := belK hb kC0 zC; replace fC0 := belF hb fC0 zC; replace kC1 := belK hb kC1 zC; replace fC1 := belF hb fC1 zC; replace kC2 := belK hb kC2 zC; replace fC2 := belF hb fC2 zC; replace kC3 := belK hb kC3 zC; replace fC3 := belF hb fC3 zC; replace kC4 := belK hb kC4 zC; replace fC4 := belF hb fC4 zC; replace zC := Nat.lt_of_lt_of_le zC hb.size
  replace kD0 := belK hb kD0 zD; replace fD0 := belF hb fD0 zD; replace kD1 := belK hb kD1 zD; replace fD1 := belF hb fD1 zD; replace kD2 := belK hb kD2 zD; replace fD2 := belF hb fD2 zD; replace kD3 := belK hb kD3 zD; replace fD3 := belF hb fD3 zD; replace kD4 := belK hb kD4 zD; replace fD4 := belF hb fD4 zD; replace zD := Nat.lt_of_lt_of_le zD hb.size
  replace hBo := hBo.trans (hb.mono hBo.size)
  clear hb
  all_goals go_wp2_with fail
  all_goals refine bodyPost_ret (v := .tuple #[.agg #[.string p.sh, .int .i64 p.c, .int .i64 p.r, .bool p.fc, .bool p.fr], .agg #[.string q.sh, .int .i64 q.c, .int .i64 q.r, .bool q.fc, .bool q.fr], .bool k]) (by simp [results, Tryz.results12, go_sem, kC0, kC1, kC2, kC3, kC4, kD0, kD1, kD2, kD3, kD4, zC, zD]) rfl ⟨rfl, ?_⟩
  all_goals exact ((((((((((hBo.setCell lC _).setCell lC _).setCell lC _).setCell lC _).setCell lC _).setCell lD _).setCell lD _).setCell lD _).setCell lD _).setCell lD _)
set_option maxRecDepth 100000 in
set_option maxHeartbeats 4000000 in
theorem callOut2_any (a b : Rf) (way x n : Int) (p q : Rf) (k : Bool) (w : World)
    (HF : ∀ w, Calls Tryz.prog 28 #[.agg #[.string a.sh, .int .i64 a.c, .int .i64 a.r, .bool a.fc, .bool a.fr], .agg #[.string b.sh, .int .i64 b.c, .int .i64 b.r, .bool b.fc, .bool b.fr], .int .i64 way, .int .i64 x, .int .i64 n, .func (.func 30) #[] #[]] w fun e w' => e = .returned (.tuple #[.agg #[.string p.sh, .int .i64 p.c, .int .i64 p.r, .bool p.fc, .bool p.fr], .agg #[.string q.sh, .int .i64 q.c, .int .i64 q.r, .bool q.fc, .bool q.fr], .bool k]) ∧ Below w.heap.size w w') :
    Calls Tryz.prog 14 #[.agg #[.string a.sh, .int .i64 a.c, .int .i64 a.r, .bool a.fc, .bool a.fr], .agg #[.string b.sh, .int .i64 b.c, .int .i64 b.r, .bool b.fc, .bool b.fr], .int .i64 way, .int .i64 x, .int .i64 n] w fun e w' => e = .returned (.tuple #[.agg #[.string p.sh, .int .i64 p.c, .int .i64 p.r, .bool p.fc, .bool p.fr], .agg #[.string q.sh, .int .i64 q.c, .int .i64 q.r, .bool q.fc, .bool q.fr], .bool k]) ∧ Below w.heap.size w w' := by
  have HFF := Lib.hid HF
  clear HF
  go_enter Tryz.func14, Tryz.ntmps14
  go_wp2_with fail
  obtain ⟨s3, hws⟩ : ∃ s, s = ((((w.alloc (.cells #[.string a.sh, .int .i64 a.c, .int .i64 a.r, .bool a.fc, .bool a.fr] 23)).alloc (.cells #[.string b.sh, .int .i64 b.c, .int .i64 b.r, .bool b.fc, .bool b.fr] 23)).alloc (.cells #[.string ⟨#[]⟩, .int .i64 0, .int .i64 0, .bool false, .bool false] 23)).alloc (.cells #[.string ⟨#[]⟩, .int .i64 0, .int .i64 0, .bool false, .bool false] 23)) := ⟨_, rfl⟩
  have hBs : Below w.heap.size w s3 := by rw [hws]; exact (((((Below.refl w.heap.size w).alloc (by simp) _).alloc (by simp) _).alloc (by simp; omega) _).alloc (by simp; omega) _)
  obtain ⟨A, hdA⟩ : ∃ b, b = w.heap.size := ⟨_, rfl⟩
  obtain ⟨B, hdB⟩ : ∃ b, b = w.heap.size + 1 := ⟨_, rfl⟩
  obtain ⟨C, hdC⟩ : ∃ b, b = w.heap.size + 1 + 1 := ⟨_, rfl⟩
  obtain ⟨D, hdD⟩ : ∃ b, b = w.heap.size + 1 + 1 + 1 := ⟨_, rfl⟩
  have hsz : s3.heap.size = w.heap.size + 1 + 1 + 1 + 1 := by rw [hws]; simp
  have dCA : C ≠ A := by omega
  have dCB : C ≠ B := by omega
  have dCD : C ≠ D := by omega
  have dDA : D ≠ A := by omega
  have dDB : D ≠ B := by omega
  have dDC : D ≠ C := by omega
  have kA0 : s3.cell? ⟨A, 0, none⟩ = some (.string a.sh) := by rw [hws]; simp [go_sem, hdA, hdB, hdC, hdD]
  have kA1 : s3.cell? ⟨A, 1, none⟩ = some (.int .i64 a.c) := by rw [hws]; simp [go_sem, hdA, hdB, hdC, hdD]
  have kA2 : s3.cell? ⟨A, 2, none⟩ = some (.int .i64 a.r) := by rw [hws]; simp [go_sem, hdA, hdB, hdC, hdD]
  have kA3 : s3.cell? ⟨A, 3, none⟩ = some (.bool a.fc) := by rw [hws]; simp [go_sem, hdA, hdB, hdC, hdD]
  have kA4 : s3.cell? ⟨A, 4, none⟩ = some (.bool a.fr) := by rw [hws]; simp [go_sem, hdA, hdB, hdC, hdD]
  have zA : A < s3.heap.size := by omega
  have lA : w.heap.size ≤ A := by have := Nat.le_refl w.heap.size; omega
  have kB0 : s3.cell? ⟨B, 0, none⟩ = some (.string b.sh) := by rw [hws]; simp [go_sem, hdA, hdB, hdC, hdD]
  have kB1 : s3.cell? ⟨B, 1, none⟩ = some (.int .i64 b.c) := by rw [hws]; simp [go_sem, hdA, hdB, hdC, hdD]
  have kB2 : s3.cell? ⟨B, 2, none⟩ = some (.int .i64 b.r) := by rw [hws]; simp [go_sem, hdA, hdB, hdC, hdD]
  have kB3 : s3.cell? ⟨B, 3, none⟩ = some (.bool b.fc) := by rw [hws]; simp [go_sem, hdA, hdB, hdC, hdD]
  have kB4 : s3.cell? ⟨B, 4, none⟩ = some (.bool b.fr) := by rw [hws]; simp [go_sem, hdA, hdB, hdC, hdD]
  have zB : B < s3.heap.size := by omega
  have lB : w.heap.size ≤ B := by have := Nat.le_refl w.heap.size; omega
  have kC0 : s3.cell? ⟨C, 0, none⟩ = some (.string ⟨#[]⟩) := by rw [hws]; simp [go_sem, hdA, hdB, hdC, hdD]
  have fC0 : s3.frozen? ⟨C, 0, none⟩ = false := by rw [hws]; simp [go_sem, hdA, hdB, hdC, hdD]
  have kC1 : s3.cell? ⟨C, 1, none⟩ = some (.int .i64 0) := by rw [hws]; simp [go_sem, hdA, hdB, hdC, hdD]
  have fC1 : s3.frozen? ⟨C, 1, none⟩ = false := by rw [hws]; simp [go_sem, hdA, hdB, hdC, hdD]
  have kC2 : s3.cell? ⟨C, 2, none⟩ = some (.int .i64 0) := by rw [hws]; simp [go_sem, hdA, hdB, hdC, hdD]
  have fC2 : s3.frozen? ⟨C, 2, none⟩ = false := by rw [hws]; simp [go_sem, hdA, hdB, hdC, hdD]
  have kC3 : s3.cell? ⟨C, 3, none⟩ = some (.bool false) := by rw [hws]; simp [go_sem, hdA, hdB, hdC, hdD]
  have fC3 : s3.frozen? ⟨C, 3, none⟩ = false := by rw [hws]; simp [go_sem, hdA, hdB, hdC, hdD]
  have kC4 : s3.cell? ⟨C, 4, none⟩ = some (.bool false) := by rw [hws]; simp [go_sem, hdA, hdB, hdC, hdD]
  have fC4 : s3.frozen? ⟨C, 4, none⟩ = false := by rw [hws]; simp [go_sem, hdA, hdB, hdC, hdD]
  have zC : C < s3.heap.size := by omega
  have lC : w.heap.size ≤ C := by have := Nat.le_refl w.heap.size; omega
  have kD0 : s3.cell? ⟨D, 0, none⟩ = some (.string ⟨#[]⟩) := by rw [hws]; simp [go_sem, hdA, hdB, hdC, hdD]
  have fD0 : s3.frozen? ⟨D, 0, none⟩ = false := by rw [hws]; simp [go_sem, hdA, hdB, hdC, hdD]
  have kD1 : s3.cell? ⟨D, 1, none⟩ = some (.int .i64 0) := by rw [hws]; simp [go_sem, hdA, hdB, hdC, hdD]
  have fD1 : s3.frozen? ⟨D, 1, none⟩ = false := by rw [hws]; simp [go_sem, hdA, hdB, hdC, hdD]
  have kD2 : s3.cell? ⟨D, 2, none⟩ = some (.int .i64 0) := by rw [hws]; simp [go_sem, hdA, hdB, hdC, hdD]
  have fD2 : s3.frozen? ⟨D, 2, none⟩ = false := by rw [hws]; simp [go_sem, hdA, hdB, hdC, hdD]
  have kD3 : s3.cell? ⟨D, 3, none⟩ = some (.bool false) := by rw [hws]; simp [go_sem, hdA, hdB, hdC, hdD]
  have fD3 : s3.frozen? ⟨D, 3, none⟩ = false := by rw [hws]; simp [go_sem, hdA, hdB, hdC, hdD]
  have kD4 : s3.cell? ⟨D, 4, none⟩ = some (.bool false) := by rw [hws]; simp [go_sem, hdA, hdB, hdC, hdD]
  have fD4 : s3.frozen? ⟨D, 4, none⟩ = false := by rw [hws]; simp [go_sem, hdA, hdB, hdC, hdD]
  have zD : D < s3.heap.size := by omega
  have lD : w.heap.size ≤ D := by have := Nat.le_refl w.heap.size; omega
  rw [← hws]
  try rw [← hdD]
  try rw [← hdC]
  try rw [← hdB]
  try rw [← hdA]
  clear hws hsz hdA hdB hdC hdD
  have hBo := hBs; clear hBs
  refine (HFF.out _).mono ?_; rintro e s4 ⟨rfl, hb⟩
  replace kA0 := belK hb kA0 zA; replace kA1 := belK hb kA1 zA; replace kA2 := belK hb kA2 zA; replace kA3 := belK hb kA3 zA; replace kA4 := belK hb kA4 zA; replace zA := Nat.lt_of_lt_of_le zA hb.size
  replace kB0 := belK hb kB0 zB; replace kB1 := belK hb kB1 zB; replace kB2 := belK hb kB2 zB; replace kB3 := belK hb kB3 zB; replace kB4 := belK hb kB4 zB; replace zB := Nat.lt_of_lt_of_le zB hb.size
  replace kC0 := belK hb kC0 zC; replace fC0 := belF hb fC0 zC; replace kC1 := belK hb kC1 zC; replace fC1 := belF hb fC1 zC; replace kC2 := belK hb kC2 zC; replace fC2 := belF hb fC2 zC; replace kC3 := belK hb kC3 zC; replace fC3 := belF hb fC3 zC; replace kC4 := belK hb kC4 zC; replace fC4 := belF hb fC4 zC; replace zC := Nat.lt_of_lt_of_le zC hb.size
  replace kD0 := belK hb kD0 zD; replace fD0 := belF hb fD0 zD; replace kD1 := belK hb kD1 zD; replace fD1 := belF hb fD1 zD; replace kD2 := belK hb kD2 zD; replace fD2 := belF hb fD2 zD; replace kD3 := belK hb kD3 zD; replace fD3 := belF hb fD3 zD; replace kD4 := belK hb kD4 zD; replace fD4 := belF hb fD4 zD; replace zD := Nat.lt_of_lt_of_le zD hb.size
  replace hBo := hBo.trans (hb.mono hBo.size)
  clear hb
  all_goals go_wp2_with fail
  all_goals refine bodyPost_ret (v := .tuple #[.agg #[.string p.sh, .int .i64 p.c, .int .i64 p.r, .bool p.fc, .bool p.fr], .agg #[.string q.sh, .int .i64 q.c, .int .i64 q.r, .bool q.fc, .bool q.fr], .bool k]) (by simp [results, Tryz.results14, go_sem, kC0, kC1, kC2, kC3, kC4, kD0, kD1, kD2, kD3, kD4, zC, zD]) rfl ⟨rfl, ?_⟩
  all_goals exact ((((((((((hBo.setCell lC _).setCell lC _).setCell lC _).setCell lC _).setCell lC _).setCell lD _).setCell lD _).setCell lD _).setCell lD _).setCell lD _)
theorem insert2_any (a b : Rf) (way x n : Int) (p q : Rf) (k : Bool) (w : World) (hs : a.sh.size ≤ maxLen) (hs2 : b.sh.size ≤ maxLen) (hp : ins2a a b way x n = p) (hq : ins2b a b way x n = q) (hk : ins2B a b way x n = k) :
    Calls Tryz.prog 12 #[.agg #[.string a.sh, .int .i64 a.c, .int .i64 a.r, .bool a.fc, .bool a.fr], .agg #[.string b.sh, .int .i64 b.c, .int .i64 b.r, .bool b.fc, .bool b.fr], .int .i64 way, .int .i64 x, .int .i64 n] w fun e w' => e = .returned (.tuple #[.agg #[.string p.sh, .int .i64 p.c, .int .i64 p.r, .bool p.fc, .bool p.fr], .agg #[.string q.sh, .int .i64 q.c, .int .i64 q.r, .bool q.fc, .bool q.fr], .bool k]) ∧ Below w.heap.size w w' := by
  refine callIn2_any a b way x n p q k w fun w => ?_
  cases g : preB a b way x n with
  | false =>
    have h2 : ins2B a b way x n = false := by unfold ins2B; rw [g, Bool.false_and]
    obtain ⟨e1, e2⟩ := ins2_no h2
    obtain rfl : rf0 = p := e1.symm.trans hp
    obtain rfl : rf0 = q := e2.symm.trans hq
    obtain rfl : false = k := h2.symm.trans hk
    exact follow2_no _ a b way x n w hs hs2 g
  | true =>
  obtain ⟨g1, g2, g3, g4⟩ := pre_yes g
  obtain ⟨k0, k1, k2, k3, k4, k5, k6⟩ := may_yes g3
  obtain ⟨a1, a2⟩ := pl_in g1 k0
  obtain ⟨b1, b2⟩ := pl_in g2 k0
  have hB : ins2B a b way x n = insB a way x n := by unfold ins2B; rw [g, Bool.true_and]
  have ia := insB_may g3 g1
  have ib := insB_may g3 g2
  refine follow2_yes _ cfIn2 a b way x n _ _ p q k w hs hs2 g3 g1 g2 g4 (fun g p w => putIn2_any _ x n g p _ _ _ _ w (by omega) (by omega) (by omega) (by omega) (by omega) (by omega) rfl rfl) ?_
  have hmono : shP (plZ a way) x n ≤ shP (plZ b way) x n := by unfold shP; split <;> split <;> omega
  cases h1 : insB a way x n with
  | false =>
    have hk2 := hB.trans h1
    obtain ⟨e1, e2⟩ := ins2_no hk2
    left
    have h5 := of_decide_eq_false (ia.symm.trans h1)
    exact ⟨by omega, hp.symm.trans e1, hq.symm.trans e2, hk.symm.trans hk2⟩
  | true =>
    have hk2 := hB.trans h1
    obtain ⟨e1, e2⟩ := ins2_yes hk2
    right
    have h5 := of_decide_eq_true (ia.symm.trans h1)
    refine ⟨by omega, (insR_yes h1).symm.trans (e1.symm.trans hp), ?_, hk.symm.trans hk2⟩
    rw [← hq, e2]
    cases h2 : insB b way x n with
    | true =>
      have h6 := of_decide_eq_true (ib.symm.trans h2)
      rw [if_pos rfl, insR_yes h2, Int.min_eq_left h6]
    | false =>
      have h6 := of_decide_eq_false (ib.symm.trans h2)
      rw [if_neg Bool.false_ne_true, Int.min_eq_right (by omega)]
theorem delete2_any (a b : Rf) (way x n : Int) (p q : Rf) (k : Bool) (w : World) (hs : a.sh.size ≤ maxLen) (hs2 : b.sh.size ≤ maxLen) (hp : del2a a b way x n = p) (hq : del2b a b way x n = q) (hk : del2B a b way x n = k) :
    Calls Tryz.prog 14 #[.agg #[.string a.sh, .int .i64 a.c, .int .i64 a.r, .bool a.fc, .bool a.fr], .agg #[.string b.sh, .int .i64 b.c, .int .i64 b.r, .bool b.fc, .bool b.fr], .int .i64 way, .int .i64 x, .int .i64 n] w fun e w' => e = .returned (.tuple #[.agg #[.string p.sh, .int .i64 p.c, .int .i64 p.r, .bool p.fc, .bool p.fr], .agg #[.string q.sh, .int .i64 q.c, .int .i64 q.r, .bool q.fc, .bool q.fr], .bool k]) ∧ Below w.heap.size w w' := by
  refine callOut2_any a b way x n p q k w fun w => ?_
  cases g : preB a b way x n with
  | false =>
    have h2 : del2B a b way x n = false := by unfold del2B; rw [g, Bool.false_and]
    obtain ⟨e1, e2⟩ := del2_no h2
    obtain rfl : rf0 = p := e1.symm.trans hp
    obtain rfl : rf0 = q := e2.symm.trans hq
    obtain rfl : false = k := h2.symm.trans hk
    exact follow2_no _ a b way x n w hs hs2 g
  | true =>
  obtain ⟨g1, g2, g3, g4⟩ := pre_yes g
  obtain ⟨k0, k1, k2, k3, k4, k5, k6⟩ := may_yes g3
  obtain ⟨a1, a2⟩ := pl_in g1 k0
  obtain ⟨b1, b2⟩ := pl_in g2 k0
  have hB : del2B a b way x n = (delB a way x n || delB b way x n) := by unfold del2B; rw [g, Bool.true_and]
  have ia := delB_iff g3 g1
  have ib := delB_iff g3 g2
  refine follow2_yes _ cfOut2 a b way x n _ _ p q k w hs hs2 g3 g1 g2 g4 (fun g p w => takenOut2_any _ x n g p _ _ w (by omega) (by omega) (by omega) (by omega) (by omega) (by omega) (by omega) (by omega)) ?_
  have t1 : ∀ z, 1 ≤ z → (¬ (x ≤ z ∧ z < x + n) → tk1 z x n = dlP z x n ∧ tk2 z x n = dlP z x n) ∧ ((x ≤ z ∧ z < x + n) → tk1 z x n = x ∧ tk2 z x n = x - 1) := fun z hz => by
    unfold tk1 tk2 tkP dlP
    constructor
    · intro h
      by_cases h2 : x + n ≤ z
      · rw [if_pos h2, if_pos h2, if_neg (by omega), if_neg (by omega)]; exact ⟨rfl, rfl⟩
      · rw [if_neg h2, if_neg h2, if_neg (by omega : ¬ x ≤ z), if_neg (by omega), if_neg (by omega)]; exact ⟨rfl, rfl⟩
    · rintro ⟨h, h2⟩
      rw [if_neg (by omega : ¬ x + n ≤ z), if_pos h, if_pos rfl, if_pos rfl]; exact ⟨rfl, rfl⟩
  have ta := t1 _ a1
  have tb := t1 _ b1
  cases h1 : delB a way x n with
  | true =>
    have ja := ia.1.1 h1
    rw [(ta.1 ja).1]
    right
    have hk2 : del2B a b way x n = true := by rw [hB, h1]; rfl
    obtain ⟨e1, e2⟩ := del2_yes hk2
    rw [h1, if_pos rfl] at e1
    cases h2 : delB b way x n with
    | true =>
      have jb := ib.1.1 h2
      rw [(tb.1 jb).2]
      rw [h2, if_pos rfl] at e2
      exact ⟨by unfold dlP; split <;> split <;> omega, (delR_yes h1).symm.trans (e1.symm.trans hp), (delR_yes h2).symm.trans (e2.symm.trans hq), hk.symm.trans hk2⟩
    | false =>
      have jb := ib.2.1 h2
      rw [(tb.2 jb).2]
      rw [h2, if_neg Bool.false_ne_true] at e2
      exact ⟨by unfold dlP; split <;> omega, (delR_yes h1).symm.trans (e1.symm.trans hp), e2.symm.trans hq, hk.symm.trans hk2⟩
  | false =>
    have ja := ia.2.1 h1
    rw [(ta.2 ja).1]
    cases h2 : delB b way x n with
    | true =>
      have jb := ib.1.1 h2
      rw [(tb.1 jb).2]
      right
      have hk2 : del2B a b way x n = true := by rw [hB, h1, h2]; rfl
      obtain ⟨e1, e2⟩ := del2_yes hk2
      rw [h1, if_neg Bool.false_ne_true] at e1
      rw [h2, if_pos rfl] at e2
      exact ⟨by unfold dlP; split <;> omega, e1.symm.trans hp, (delR_yes h2).symm.trans (e2.symm.trans hq), hk.symm.trans hk2⟩
    | false =>
      have jb := ib.2.1 h2
      rw [(tb.2 jb).2]
      left
      have hk2 : del2B a b way x n = false := by rw [hB, h1, h2]; rfl
      obtain ⟨e1, e2⟩ := del2_no hk2
      exact ⟨by omega, hp.symm.trans e1, hq.symm.trans e2, hk.symm.trans hk2⟩
end Go.Proofs.YtlpjaflolnggnaaGreatDoor
