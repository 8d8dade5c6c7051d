/-
  LAYER 11, REFERENCES: the program's change, and places of it.
-/
import Derived.Test.YtlpjaflolnggnaaGreatDoorCel10
import Derived.Laws.EntriesVeiled
import Derived.BigQuiet
namespace Go.Proofs.YtlpjaflolnggnaaGreatDoor
open Go.RowKit Go.Shelf
set_option linter.unusedSimpArgs false
set_option linter.unusedVariables false

def ch0 : Value := .agg #[.int .i64 0, .int .i64 0, .int .i64 0, .nilFunc, .nilFunc]
def getF (way : Int) : Nat := if way = 0 then 70 else 72
def putF (way : Int) : Nat := if way = 0 then 71 else 73
def chV (way a n : Int) : Value := .agg #[.int .i64 (lastZ way), .int .i64 a, .int .i64 n, .func (.func (getF way)) #[] #[], .func (.func (putF way)) #[] #[]]
set_option maxRecDepth 100000 in
set_option maxHeartbeats 4000000 in
theorem changeOf_no (way a n : Int) (w : World) (h : mayB way a n = false) :
    Calls Tryz.prog 45 #[.int .i64 way, .int .i64 a, .int .i64 n] w fun e w' => e = .returned (.tuple #[ch0, .bool false]) ∧ Below w.heap.size w w' := by
  have hud : undef = Value.tuple #[] := rfl
  have hB : Below w.heap.size w ((w.alloc (.cells #[.int .i64 0, .int .i64 0, .int .i64 0, .nilFunc, .nilFunc] 46)).alloc (.cells #[.int .i64 0, .int .i64 0, .int .i64 0, .nilFunc, .nilFunc] 46)) := al_below (al_below (Below.refl _ _))
  unfold mayB lastZ at h
  by_cases h0 : way = 0
  · subst h0
    rw [if_pos rfl] at h
    have h1 : a < 1 ∨ (1 ≤ a ∧ 52 < a) ∨ (1 ≤ a ∧ a ≤ 52 ∧ n < 1) ∨ (1 ≤ a ∧ a ≤ 52 ∧ 1 ≤ n ∧ 52 < n) := by
      simp only [Bool.and_eq_false_iff, decide_eq_false_iff_not] at h; omega
    clear h hB
    rcases h1 with h1 | ⟨h1, h2⟩ | ⟨h1, h2, h3⟩ | ⟨h1, h2, h3, h4⟩
    all_goals
      go_enter Tryz.func45, Tryz.ntmps45
      go_wp2_with fail
      refine bodyPost_ret (v := .tuple #[ch0, .bool false]) (by simp [results, Tryz.results45, go_sem, ch0]) rfl ⟨rfl, ?_⟩
      repeat (with_reducible first | exact Below.refl _ _ | apply al_below | refine set_below ?_ (by simp))
  · have hq : (way == 0) = false := by simpa using h0
    rw [if_neg h0] at h
    by_cases h5 : way = 1
    · subst h5
      rw [if_pos rfl] at h
      have h1 : a < 1 ∨ (1 ≤ a ∧ 99 < a) ∨ (1 ≤ a ∧ a ≤ 99 ∧ n < 1) ∨ (1 ≤ a ∧ a ≤ 99 ∧ 1 ≤ n ∧ 99 < n) := by
        simp only [Bool.and_eq_false_iff, decide_eq_false_iff_not] at h; omega
      clear h hB hq h0
      rcases h1 with h1 | ⟨h1, h2⟩ | ⟨h1, h2, h3⟩ | ⟨h1, h2, h3, h4⟩
      all_goals
        go_enter Tryz.func45, Tryz.ntmps45
        go_wp2_with fail
        refine bodyPost_ret (v := .tuple #[ch0, .bool false]) (by simp [results, Tryz.results45, go_sem, ch0]) rfl ⟨rfl, ?_⟩
        repeat (with_reducible first | exact Below.refl _ _ | apply al_below | refine set_below ?_ (by simp))
    · have hq1 : (way == 1) = false := by simpa using h5
      have h1 : a < 1 ∨ (1 ≤ a ∧ 0 < a) := by omega
      clear h hB h0 h5
      rcases h1 with h1 | ⟨h1, h2⟩
      all_goals
        go_enter Tryz.func45, Tryz.ntmps45
        go_wp2_with fail
        refine bodyPost_ret (v := .tuple #[ch0, .bool false]) (by simp [results, Tryz.results45, go_sem, ch0]) rfl ⟨rfl, ?_⟩
        repeat (with_reducible first | exact Below.refl _ _ | apply al_below | refine set_below ?_ (by simp))
set_option maxRecDepth 100000 in
set_option maxHeartbeats 4000000 in
theorem changeOf_yes (way a n : Int) (w : World) (h : mayB way a n = true) :
    Calls Tryz.prog 45 #[.int .i64 way, .int .i64 a, .int .i64 n] w fun e w' => e = .returned (.tuple #[chV way a n, .bool true]) ∧ Below w.heap.size w w' := by
  have hud : undef = Value.tuple #[] := rfl
  obtain ⟨k0, k1, k2, k3, k4, k5, k6⟩ := may_yes h
  clear h
  rcases k0 with rfl | rfl
  · have e : chV 0 a n = .agg #[.int .i64 52, .int .i64 a, .int .i64 n, .func (.func 70) #[] #[], .func (.func 71) #[] #[]] := rfl
    rw [show lastZ 0 = 52 from rfl] at *
    rw [e]
    clear e k5 k6
    go_enter Tryz.func45, Tryz.ntmps45
    go_wp2_with fail
    refine bodyPost_ret (v := .tuple #[.agg #[.int .i64 52, .int .i64 a, .int .i64 n, .func (.func 70) #[] #[], .func (.func 71) #[] #[]], .bool true]) (by simp [results, Tryz.results45, go_sem]) rfl ⟨rfl, ?_⟩
    repeat (with_reducible first | exact Below.refl _ _ | apply al_below | refine set_below ?_ (by simp))
  · have e : chV 1 a n = .agg #[.int .i64 99, .int .i64 a, .int .i64 n, .func (.func 72) #[] #[], .func (.func 73) #[] #[]] := rfl
    rw [show lastZ 1 = 99 from rfl] at *
    rw [e]
    clear e k5 k6
    go_enter Tryz.func45, Tryz.ntmps45
    go_wp2_with fail
    refine bodyPost_ret (v := .tuple #[.agg #[.int .i64 99, .int .i64 a, .int .i64 n, .func (.func 72) #[] #[], .func (.func 73) #[] #[]], .bool true]) (by simp [results, Tryz.results45, go_sem]) rfl ⟨rfl, ?_⟩
    repeat (with_reducible first | exact Below.refl _ _ | apply al_below | refine set_below ?_ (by simp))
end Go.Proofs.YtlpjaflolnggnaaGreatDoor
