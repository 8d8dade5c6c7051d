/-
  LAYER 11, REFERENCES: where a cell comes to; the document's place, put, last, may.
-/
import Derived.Test.YtlpjaflolnggnaaGreatDoorCel8
namespace Go.Proofs.YtlpjaflolnggnaaGreatDoor
open Go.RowKit Go.Shelf
set_option linter.unusedSimpArgs false
set_option linter.unusedVariables false

def lastZ (way : Int) : Int := if way = 0 then 52 else if way = 1 then 99 else 0
def mayB (way a n : Int) : Bool := decide (1 ≤ a) && decide (a ≤ lastZ way) && decide (1 ≤ n) && decide (n ≤ lastZ way)
def plZ (q : Rf) (way : Int) : Int := if way = 0 then q.c else q.r
def ptR (q : Rf) (way p : Int) : Rf := if way = 0 then ⟨q.sh, p, q.r, q.fc, q.fr⟩ else ⟨q.sh, q.c, p, q.fc, q.fr⟩
def rgtR (q : Rf) : Bool := rgtB q.sh q.c q.r
/-- a place behind some that were put in, or taken out. -/
def shP (p a n : Int) : Int := if a ≤ p then p + n else p
def dlP (p a n : Int) : Int := if a + n ≤ p then p - n else p
def insB (q : Rf) (way a n : Int) : Bool := rgtR q && mayB way a n && decide (shP (plZ q way) a n ≤ lastZ way)
def insR (q : Rf) (way a n : Int) : Rf := if insB q way a n then ptR q way (shP (plZ q way) a n) else rf0
def delB (q : Rf) (way a n : Int) : Bool := rgtR q && mayB way a n && !(decide (a ≤ plZ q way) && decide (plZ q way < a + n))
def delR (q : Rf) (way a n : Int) : Rf := if delB q way a n then ptR q way (dlP (plZ q way) a n) else rf0
theorem may_yes {way a n : Int} (h : mayB way a n = true) : (way = 0 ∨ way = 1) ∧ 1 ≤ a ∧ a ≤ lastZ way ∧ 1 ≤ n ∧ n ≤ lastZ way ∧ lastZ way ≤ 99 ∧ 52 ≤ lastZ way := by
  unfold mayB at h
  simp only [Bool.and_eq_true, decide_eq_true_eq] at h
  obtain ⟨⟨⟨h1, h2⟩, h3⟩, h4⟩ := h
  by_cases hw : way = 0
  · have e : lastZ way = 52 := if_pos hw
    omega
  · by_cases hw2 : way = 1
    · have e : lastZ way = 99 := by unfold lastZ; rw [if_neg hw, if_pos hw2]
      omega
    · have e : lastZ way = 0 := by unfold lastZ; rw [if_neg hw, if_neg hw2]
      omega
theorem pl_in {q : Rf} {way : Int} (h : rgtR q = true) (hw : way = 0 ∨ way = 1) : 1 ≤ plZ q way ∧ plZ q way ≤ lastZ way := by
  have := rgt_in h
  unfold plZ lastZ
  rcases hw with rfl | rfl
  · simp; omega
  · simp; omega
theorem insR_no {q : Rf} {way a n : Int} (h : insB q way a n = false) : insR q way a n = rf0 := by unfold insR; rw [h]; rfl
theorem insR_yes {q : Rf} {way a n : Int} (h : insB q way a n = true) : insR q way a n = ptR q way (shP (plZ q way) a n) := by unfold insR; rw [h]; rfl
theorem delR_no {q : Rf} {way a n : Int} (h : delB q way a n = false) : delR q way a n = rf0 := by unfold delR; rw [h]; rfl
theorem delR_yes {q : Rf} {way a n : Int} (h : delB q way a n = true) : delR q way a n = ptR q way (dlP (plZ q way) a n) := by unfold delR; rw [h]; rfl
set_option maxRecDepth 100000 in
theorem refLast_any (way : Int) (w : World) :
    Calls Tryz.prog 25 #[.int .i64 way] w fun e w' => e = .returned (.int .i64 (lastZ way)) ∧ w' = w := by
  unfold lastZ
  go_enter Tryz.func25, Tryz.ntmps25
  by_cases h0 : way = 0
  · subst h0
    go_wp2
    go_ret
    exact ⟨rfl, rfl⟩
  · have hq : (way == 0) = false := by simpa using h0
    by_cases h1 : way = 1
    · subst h1
      go_wp2
      go_ret
      exact ⟨rfl, rfl⟩
    · have hq1 : (way == 1) = false := by simpa using h1
      rw [if_neg h0, if_neg h1]
      go_wp2
      go_ret
      exact ⟨rfl, rfl⟩
set_option maxRecDepth 100000 in
theorem refMay_any (way a n : Int) (b : Bool) (w : World) (hb : mayB way a n = b) :
    Calls Tryz.prog 23 #[.int .i64 way, .int .i64 a, .int .i64 n] w fun e w' => e = .returned (.bool b) ∧ w' = w := by
  have HL := Lib.hid (fun w => refLast_any way w)
  unfold mayB at hb
  generalize lastZ way = L at *
  have HB := Lib.hid hb
  clear hb
  go_enter Tryz.func23, Tryz.ntmps23
  go_wp2_with (go_at_call 25; refine (HL.out _).mono ?_; rintro e w1 ⟨rfl, rfl⟩)
  all_goals (go_ret; exact ⟨ret_bool (by rw [← HB.out, Bool.eq_iff_iff]; simp <;> omega), rfl⟩)
set_option maxRecDepth 100000 in
theorem refPlace_any (q : Rf) (way z : Int) (w : World) (hz : plZ q way = z) :
    Calls Tryz.prog 24 #[.agg #[.string q.sh, .int .i64 q.c, .int .i64 q.r, .bool q.fc, .bool q.fr], .int .i64 way] w fun e w' => e = .returned (.int .i64 z) ∧ Below w.heap.size w w' := by
  by_cases h0 : way = 0
  · subst h0
    obtain rfl : q.c = z := hz
    go_enter Tryz.func24, Tryz.ntmps24
    go_wp2_with fail
    go_ret
    exact ⟨rfl, (Below.refl _ _).alloc (Nat.le_refl _) _⟩
  · have hq : (way == 0) = false := by simpa using h0
    obtain rfl : q.r = z := by unfold plZ at hz; rwa [if_neg h0] at hz
    go_enter Tryz.func24, Tryz.ntmps24
    go_wp2_with fail
    go_ret
    exact ⟨rfl, (Below.refl _ _).alloc (Nat.le_refl _) _⟩
set_option maxRecDepth 100000 in
theorem refPut_any (q : Rf) (way z : Int) (t : Rf) (w : World) (ht : ptR q way z = t) :
    Calls Tryz.prog 26 #[.agg #[.string q.sh, .int .i64 q.c, .int .i64 q.r, .bool q.fc, .bool q.fr], .int .i64 way, .int .i64 z] w fun e w' => e = .returned (.agg #[.string t.sh, .int .i64 t.c, .int .i64 t.r, .bool t.fc, .bool t.fr]) ∧ Below w.heap.size w w' := by
  by_cases h0 : way = 0
  · subst h0
    obtain rfl : (⟨q.sh, z, q.r, q.fc, q.fr⟩ : Rf) = t := ht
    go_enter Tryz.func26, Tryz.ntmps26
    go_wp2_with fail
    refine bodyPost_ret (v := .agg #[.string q.sh, .int .i64 z, .int .i64 q.r, .bool q.fc, .bool q.fr]) (by simp [results, Tryz.results26, go_sem]) rfl ⟨rfl, ?_⟩
    exact ((Below.refl _ _).alloc (Nat.le_refl _) _).alloc (by simp) _
  · have hq : (way == 0) = false := by simpa using h0
    obtain rfl : (⟨q.sh, q.c, z, q.fc, q.fr⟩ : Rf) = t := by unfold ptR at ht; rwa [if_neg h0] at ht
    go_enter Tryz.func26, Tryz.ntmps26
    go_wp2_with fail
    refine bodyPost_ret (v := .agg #[.string q.sh, .int .i64 q.c, .int .i64 z, .bool q.fc, .bool q.fr]) (by simp [results, Tryz.results26, go_sem]) rfl ⟨rfl, ?_⟩
    exact ((Below.refl _ _).alloc (Nat.le_refl _) _).alloc (by simp) _
end Go.Proofs.YtlpjaflolnggnaaGreatDoor
