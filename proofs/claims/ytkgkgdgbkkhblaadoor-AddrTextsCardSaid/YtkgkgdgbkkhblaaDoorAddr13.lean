/-
  LAYER 10, AREAS: lists held against each other; the document's Has.
-/
import Derived.Test.YtkgkgdgbkkhblaaDoorAddr12
namespace Go.Proofs.YtkgkgdgbkkhblaaDoor
open Go.RowKit Go.Shelf
set_option linter.unusedSimpArgs false
set_option linter.unusedVariables false

/-- so many were seen. -/
def SeenRel (W : World) (n : Nat) (i : Value) (wr : World) : Prop := ∃ k : Nat, k ≤ n ∧ i = .int .i64 k ∧ Below W.heap.size W wr
set_option maxRecDepth 100000 in
set_option maxHeartbeats 4000000 in
theorem cellsSame_any (u v : Value) (n : Nat) (sheet a b : Int) (nc : Nat) (w : World) (h1 : CellsAt w u n sheet a b nc) (h2 : CellsAt w v n sheet a b nc) :
    Calls Tryd.prog 19 #[u, v] w fun e w' => e = .returned (.bool true) ∧ Below w.heap.size w w' := by
  by_cases h0 : n = 0
  · subst h0
    rcases h1 with ⟨rfl, _⟩ | ⟨g1, c1, rfl, _⟩ <;> rcases h2 with ⟨rfl, _⟩ | ⟨g2, c2, rfl, _⟩
    all_goals
      go_enter Tryd.func19, Tryd.ntmps19
      go_wp2
      go_loopw [5] (SeenRel w 0) (fun i _ => 0)
      case atStart => exact ⟨0, by omega, rfl, Below.refl _ _⟩
      case round =>
        obtain ⟨k, hk, rfl, hW⟩ := hrel
        obtain rfl : k = 0 := by omega
        go_wp2
        go_ret
        exact ⟨rfl, hW⟩
  · rcases h1 with ⟨_, h⟩ | ⟨g1, c1, rfl, hg1, hn, hc1⟩
    · exact absurd h h0
    rcases h2 with ⟨_, h⟩ | ⟨g2, c2, rfl, hg2, _, hc2⟩
    · exact absurd h h0
    have HC1 := Lib.hid hc1
    have HC2 := Lib.hid hc2
    clear hc1 hc2
    go_enter Tryd.func19, Tryd.ntmps19
    go_wp2
    go_loopw [5] (SeenRel w n) (fun i _ => n - (intOf i).toNat)
    case atStart => exact ⟨0, by omega, rfl, Below.refl _ _⟩
    case round =>
      obtain ⟨k, hk, rfl, hW⟩ := hrel
      by_cases hlt : k < n
      · obtain ⟨p0, p1, p2⟩ := HC1.out k hlt
        obtain ⟨q0, q1, q2⟩ := HC2.out k hlt
        have r0 := belK hW p0 hg1
        have r1 := belK hW p1 hg1
        have r2 := belK hW p2 hg1
        have t0 := belK hW q0 hg2
        have t1 := belK hW q1 hg2
        have t2 := belK hW q2 hg2
        rw [Nat.mul_comm 3 k] at r0 r1 r2 t0 t1 t2
        clear p0 p1 p2 q0 q1 q2
        generalize a + ((k % nc : Nat) : Int) = x at *
        generalize b + ((k / nc : Nat) : Int) = y at *
        go_wp2
        go_region
        go_wp2
        go_roundw
        case rel => exact ⟨k + 1, by omega, by go_num, hW.drew⟩
        case measure => simp [intOf]; omega
      · obtain rfl : k = n := by omega
        go_wp2
        go_ret
        exact ⟨rfl, hW⟩

theorem has_of {a b c d x y : Int} {k : Nat} (h : nrmB a b c d = true) (hk : k < cntN a b c d) (hx : a + ((k % (c - a + 1).toNat : Nat) : Int) = x) (hy : b + ((k / (c - a + 1).toNat : Nat) : Int) = y) : hasB a b c d x y = true := by
  rw [cntN_yes h] at hk
  obtain ⟨a1, a2, b1, b2, c1, c2, d1, d2, h1, h2, _⟩ := nrm_facts h
  have h3 : k % (c - a + 1).toNat < (c - a + 1).toNat := Nat.mod_lt _ (by omega)
  have h4 : k / (c - a + 1).toNat < (d - b + 1).toNat := Nat.div_lt_of_lt_mul hk
  generalize k % (c - a + 1).toNat = p at *
  generalize k / (c - a + 1).toNat = q at *
  have e1 : a ≤ x := by omega
  have e2 : x ≤ c := by omega
  have e3 : b ≤ y := by omega
  have e4 : y ≤ d := by omega
  unfold hasB
  rw [h, decide_eq_true e1, decide_eq_true e2, decide_eq_true e3, decide_eq_true e4]; rfl
theorem has_at {a b c d x y : Int} (h : hasB a b c d x y = true) : ∃ k, k < cntN a b c d ∧ a + ((k % (c - a + 1).toNat : Nat) : Int) = x ∧ b + ((k / (c - a + 1).toNat : Nat) : Int) = y := by
  unfold hasB at h
  simp only [Bool.and_eq_true, decide_eq_true_eq] at h
  obtain ⟨⟨⟨⟨h, x1⟩, x2⟩, y1⟩, y2⟩ := h
  obtain ⟨a1, a2, b1, b2, c1, c2, d1, d2, h1, h2, _⟩ := nrm_facts h
  rw [cntN_yes h]
  obtain ⟨nc, hnc⟩ : ∃ nc, nc = (c - a + 1).toNat := ⟨_, rfl⟩
  obtain ⟨nr, hnr⟩ : ∃ nr, nr = (d - b + 1).toNat := ⟨_, rfl⟩
  obtain ⟨i, hi⟩ : ∃ i, i = (x - a).toNat := ⟨_, rfl⟩
  obtain ⟨j, hj⟩ : ∃ j, j = (y - b).toNat := ⟨_, rfl⟩
  rw [← hnc, ← hnr]
  have hin : i < nc := by omega
  have h5 : (j * nc + i) % nc = i := by rw [Nat.mul_comm, Nat.mul_add_mod]; exact Nat.mod_eq_of_lt hin
  have h6 : (j * nc + i) / nc = j := by
    rw [Nat.mul_comm, Nat.mul_add_div (by omega), Nat.div_eq_of_lt hin]; omega
  have h7 := grid_le (nc := nc) (nr := nr) (show j < nr by omega) (show i + 1 ≤ nc from hin)
  refine ⟨j * nc + i, by omega, ?_, ?_⟩
  · rw [h5]; omega
  · rw [h6]; omega
/-- none of so many was it. -/
def LookRel (W : World) (n : Nat) (a b x y : Int) (nc : Nat) (i : Value) (wr : World) : Prop := ∃ k : Nat, k ≤ n ∧ i = .int .i64 k ∧ (∀ j : Nat, j < k → ¬ (a + ((j % nc : Nat) : Int) = x ∧ b + ((j / nc : Nat) : Int) = y)) ∧ Below W.heap.size W wr
set_option maxRecDepth 100000 in
set_option maxHeartbeats 4000000 in
theorem refHas_any (a b c d x y : Int) (w : World) :
    Calls Tryd.prog 23 #[areaV a b c d, .int .i64 x, .int .i64 y] w fun e w' => e = .returned (.bool (hasB a b c d x y)) ∧ Below w.heap.size w w' := by
  have HC := Lib.hid (fun w => refCells_any a b c d 0 w)
  obtain ⟨R, hR⟩ : ∃ R, R = hasB a b c d x y := ⟨_, rfl⟩
  have hud : undef = Value.tuple #[] := rfl
  rw [← hR]
  have hyes : Hid (∀ k, k < cntN a b c d → a + ((k % (c - a + 1).toNat : Nat) : Int) = x → b + ((k / (c - a + 1).toNat : Nat) : Int) = y → R = true) := fun k hk hx hy => by
    have hn : nrmB a b c d = true := by
      cases h : nrmB a b c d with
      | true => rfl
      | false => rw [cntN_no h] at hk; omega
    rw [hR]; exact has_of hn hk hx hy
  have hno : Hid ((∀ j, j < cntN a b c d → ¬ (a + ((j % (c - a + 1).toNat : Nat) : Int) = x ∧ b + ((j / (c - a + 1).toNat : Nat) : Int) = y)) → R = false) := fun h => by
    cases hb : R with
    | false => rfl
    | true =>
      rw [hR] at hb
      obtain ⟨k, hk, hx, hy⟩ := has_at hb
      exact absurd ⟨hx, hy⟩ (h k hk)
  generalize cntN a b c d = n at *
  generalize (c - a + 1).toNat = nc at *
  clear hR
  go_enter Tryd.func23, Tryd.ntmps23
  go_wp2_with fail
  obtain ⟨s1, hws⟩ : ∃ s, s = (w.alloc (.cells #[.int .i64 a, .int .i64 b, .int .i64 c, .int .i64 d] 33)) := ⟨_, rfl⟩
  have hBs : Below w.heap.size w s1 := by rw [hws]; exact ((Below.refl w.heap.size w).alloc (by simp) _)
  obtain ⟨A, hdA⟩ : ∃ b, b = w.heap.size := ⟨_, rfl⟩
  have hsz : s1.heap.size = w.heap.size + 1 := by rw [hws]; simp
  have kA0 : s1.cell? ⟨A, 0, none⟩ = some (.int .i64 a) := by rw [hws]; simp [go_sem, hdA]
  have kA1 : s1.cell? ⟨A, 1, none⟩ = some (.int .i64 b) := by rw [hws]; simp [go_sem, hdA]
  have kA2 : s1.cell? ⟨A, 2, none⟩ = some (.int .i64 c) := by rw [hws]; simp [go_sem, hdA]
  have kA3 : s1.cell? ⟨A, 3, none⟩ = some (.int .i64 d) := by rw [hws]; simp [go_sem, hdA]
  have zA : A < s1.heap.size := by omega
  have lA : w.heap.size ≤ A := by have := Nat.le_refl w.heap.size; omega
  rw [← hws]
  try rw [← hdA]
  clear hws hsz hdA
  have hBo := hBs; clear hBs
  refine (HC.out _).mono ?_
  rintro e w1 ⟨⟨v, rfl, hv⟩, hb⟩
  replace hBo := hBo.trans (hb.mono hBo.size)
  clear hb kA0 kA1 kA2 kA3 zA lA HC
  have HZ : Hid (∀ W, Below w1.heap.size w1 W → Below w.heap.size w W) := fun W h => hBo.trans (h.mono hBo.size)
  clear hBo
  rcases hv with ⟨rfl, rfl⟩ | ⟨g, cap, rfl, hg, hn, hc⟩
  · have hf := Lib.hid (hno.out fun j hj => absurd hj (by omega))
    clear hyes hno
    go_wp2
    go_loopw [8] (SeenRel w1 0) (fun i _ => 0)
    case atStart => exact ⟨0, by omega, rfl, Below.refl _ _⟩
    case round =>
      obtain ⟨k, hk, rfl, hW⟩ := hrel
      obtain rfl : k = 0 := by omega
      go_wp2
      go_ret
      exact ⟨ret_bool hf.out.symm, HZ.out _ hW⟩
  · have HC := Lib.hid hc
    clear hc
    go_wp2
    go_loopw [8] (LookRel w1 n a b x y nc) (fun i _ => n - (intOf i).toNat)
    case atStart => exact ⟨0, by omega, rfl, fun j hj => absurd hj (by omega), Below.refl _ _⟩
    case round =>
      obtain ⟨k, hk, rfl, hall, hW⟩ := hrel
      by_cases hlt : k < n
      · obtain ⟨p0, p1, p2⟩ := HC.out k hlt
        have r1 := belK hW p1 hg
        have r2 := belK hW p2 hg
        rw [Nat.mul_comm 3 k] at r1 r2
        have hy := Lib.hid (hyes.out k hlt)
        have hm := Lib.hid (fun (h : ¬ (a + ((k % nc : Nat) : Int) = x ∧ b + ((k / nc : Nat) : Int) = y)) j (hj : j < k + 1) => (if e : j = k then e ▸ h else hall j (by omega) : ¬ (a + ((j % nc : Nat) : Int) = x ∧ b + ((j / nc : Nat) : Int) = y)))
        have HX := Lib.hid hall
        clear p0 p1 p2 hall
        generalize a + ((k % nc : Nat) : Int) = p at *
        generalize b + ((k / nc : Nat) : Int) = q at *
        by_cases hpx : p = x
        · by_cases hqy : q = y
          · have ht := Lib.hid (hy.out hpx hqy)
            subst hpx hqy
            go_wp2
            go_ret
            exact ⟨ret_bool ht.out.symm, HZ.out _ hW⟩
          · have hqb : (q == y) = false := by simp; omega
            have h2 := Lib.hid (hm.out fun h => hqy h.2)
            subst hpx
            go_wp2
            refine ⟨⟨k + 1, by omega, by go_num, h2.out, hW⟩, by simp [intOf]; omega⟩
        · have hpb : (p == x) = false := by simp; omega
          have h2 := Lib.hid (hm.out fun h => hpx h.1)
          go_wp2
          refine ⟨⟨k + 1, by omega, by go_num, h2.out, hW⟩, by simp [intOf]; omega⟩
      · obtain rfl : k = n := by omega
        have hf := Lib.hid (hno.out hall)
        clear hall
        go_wp2
        go_ret
        exact ⟨ret_bool hf.out.symm, HZ.out _ hW⟩
end Go.Proofs.YtkgkgdgbkkhblaaDoor
