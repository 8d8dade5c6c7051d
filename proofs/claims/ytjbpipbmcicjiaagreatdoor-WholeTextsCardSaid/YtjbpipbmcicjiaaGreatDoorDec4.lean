/-
  NUMBERS IN DIGITS: the program's Text.
-/
import Derived.Test.YtjbpipbmcicjiaaGreatDoorDec3
namespace Go.Proofs.YtjbpipbmcicjiaaGreatDoor
open Go.RowKit Go.Shelf

theorem Nt.dcs_get (n m i : Nat) (h : i < (Nt.dcs n m).length) : (Nt.dcs n m)[i] = 48 + n / 10 ^ (m - 1 - i) % 10 := by
  induction m generalizing i with
  | zero => simp [Nt.dcs] at h
  | succ m ih =>
    have e := Nt.dcs_one n m
    rcases i with _ | i
    · simp only [e, List.getElem_cons_zero]; rfl
    · have h2 : i < (Nt.dcs n m).length := by rw [Nt.dcs_length] at *; omega
      simp only [e, List.getElem_cons_succ]
      rw [ih i h2, show m + 1 - 1 - (i + 1) = m - 1 - i from by omega]
theorem Nt.dcs_fn (n m : Nat) : Nt.dcs n m = fnL (fun i => 48 + n / 10 ^ (m - 1 - i) % 10) m := by
  apply List.ext_getElem (by rw [Nt.dcs_length, fnL_length])
  intro i h1 h2
  rw [Nt.dcs_get, fnL_get]
/-- nine places from p on, of which the last k are x's digits; the others are f's. -/
def Nt.nine (f : Nat → Nat) (p x k i : Nat) : Nat := if p + 9 ≤ i + k ∧ i < p + 9 then 48 + x / 10 ^ (p + 8 - i) % 10 else f i
theorem Nt.nine_set (f : Nat → Nat) (p x k m : Nat) (hk : k < 9) : (fnL (Nt.nine f p x k) m).set (p + (8 - k)) (48 + x / 10 ^ k % 10) = fnL (Nt.nine f p x (k + 1)) m := by
  apply fnL_set
  · unfold Nt.nine
    rw [if_pos (by omega), show p + 8 - (p + (8 - k)) = k from by omega]
  · intro i _ hi
    unfold Nt.nine
    by_cases h : p + 9 ≤ i + k ∧ i < p + 9
    · rw [if_pos h, if_pos (by omega)]
    · rw [if_neg h, if_neg (by omega)]
/-- the places from behind, as far as j times nine, are n's digits; those ahead are 0. -/
def Nt.tail (n m j i : Nat) : Nat := if m ≤ i + 9 * j then 48 + n / 10 ^ (m - 1 - i) % 10 else 0
theorem Nt.tail_next (n m j p : Nat) (hp : p + 9 + 9 * j = m) : fnL (Nt.nine (Nt.tail n m j) p (n / 10 ^ (9 * j) % 1000000000) 9) m = fnL (Nt.tail n m (j + 1)) m := by
  refine fnL_ext fun i hi => ?_
  unfold Nt.nine Nt.tail
  by_cases h : p + 9 ≤ i + 9 ∧ i < p + 9
  · rw [if_pos h, if_pos (by omega)]
    obtain ⟨t, ht⟩ : ∃ t, t = p + 8 - i := ⟨_, rfl⟩
    rw [← ht, show m - 1 - i = 9 * j + t from by omega, Nat.pow_add, ← Nat.div_div_eq_div_mul]
    generalize n / 10 ^ (9 * j) = y
    obtain ⟨s, hs⟩ : ∃ s, t + s + 1 = 9 := ⟨8 - t, by omega⟩
    have e : (1000000000 : Nat) = 10 ^ t * (10 * 10 ^ s) := by
      rw [show (1000000000 : Nat) = 10 ^ 9 from by decide, ← hs, Nat.pow_succ, Nat.pow_add]
      rw [Nat.mul_assoc, Nat.mul_comm (10 ^ s)]
    have hp10 : 0 < 10 ^ t := Nat.pow_pos (by omega)
    rw [e, Nat.mod_mul, Nat.add_mul_div_left _ _ hp10, Nat.div_eq_of_lt (Nat.mod_lt _ hp10), Nat.zero_add, Nat.mod_mul]
    omega
  · rw [if_neg h]
    by_cases h2 : m ≤ i + 9 * j
    · rw [if_pos h2, if_pos (by omega)]
    · rw [if_neg h2, if_neg (by omega)]
theorem Nt.tail_zero (n m : Nat) : fnL (Nt.tail n m 0) m = List.replicate m 0 := by
  apply List.ext_getElem (by rw [fnL_length, List.length_replicate])
  intro i h1 h2
  rw [fnL_length] at h1
  rw [fnL_get, List.getElem_replicate, Nt.tail, if_neg (by omega)]
theorem Nt.tail_all (n c : Nat) : fnL (Nt.tail n (9 * c) c) (9 * c) = Nt.dcs n (9 * c) := by
  rw [Nt.dcs_fn]
  exact fnL_ext fun i _ => by unfold Nt.tail; rw [if_pos (by omega)]
theorem Nt.drop_zeros : ∀ (l : List Nat), (∀ x ∈ l, 48 ≤ x ∧ x < 58) → (l.map UInt8.ofNat).dropWhile (· == 48) = (l.dropWhile (· == 48)).map UInt8.ofNat
  | [], _ => rfl
  | x :: r, h => by
    have hx := h x List.mem_cons_self
    have e : (UInt8.ofNat x == 48) = (x == 48) := by
      have h1 : (UInt8.ofNat x).toNat = x := by rw [UInt8.toNat_ofNat']; exact Nat.mod_eq_of_lt (by omega)
      rw [Bool.eq_iff_iff, beq_iff_eq, beq_iff_eq]
      constructor
      · intro hh; rw [← h1, hh]; rfl
      · intro hh; rw [hh]; rfl
    by_cases h0 : (x == 48) = true
    · rw [List.map_cons, List.dropWhile_cons_of_pos (p := (· == 48)) (by rw [e]; exact h0), List.dropWhile_cons_of_pos (p := (· == 48)) h0]
      exact Nt.drop_zeros r fun y hy => h y (List.mem_cons_of_mem _ hy)
    · rw [List.map_cons, List.dropWhile_cons_of_neg (p := (· == 48)) (by rw [e]; exact h0), List.dropWhile_cons_of_neg (p := (· == 48)) h0, List.map_cons]

set_option maxRecDepth 100000 in
set_option maxHeartbeats 1000000 in
theorem writeNine_any (G p cap x m : Nat) (f : Nat → Nat) (w : World) (hx : x < 1000000000) (hm : p + 9 ≤ m) (hB : Blk w G 5 (kV .u8 (fnL f m))) :
    Calls Tryz.prog 106 #[.slice (some ⟨G, p, none⟩) 9 cap, .string (Nt.E x)] w fun e w' => (e = .returned (.tuple #[]) ∧ Blk w' G 5 (kV .u8 (fnL (Nt.nine f p x 9) m))) ∧ Below G w w' := by
  have hsm := fun W => natSmall_any (Nt.E x) W
  rw [Nt.V_E, show Nt.sm x = x from by rw [Nt.sm, if_pos (by omega)], show Nt.smB x = true from by rw [Nt.smB]; simp; omega] at hsm
  have HSM := Lib.hid hsm
  have HB := Lib.hid hB
  have HX := Lib.hid hx
  clear hsm hB hx
  go_enter Tryz.func106, Tryz.ntmps106
  go_wp2_with (go_at_call 53; refine (HSM.out _).mono ?_; rintro e w1 ⟨rfl, hb1⟩)
  have HB1 := Lib.hid (HB.out.below hb1 HB.out.lt)
  have HW1 := Lib.hid (hb1.mono (Nat.le_of_lt HB.out.lt))
  clear hb1
  go_loopw [4, 14] (fun a i wr => ∃ k : Nat, k ≤ 9 ∧ i = .int .i64 (k : Int) ∧ a = .int .u64 ((x / 10 ^ k : Nat) : Int) ∧ Blk wr G 5 (kV .u8 (fnL (Nt.nine f p x k) m)) ∧ Below G w wr) (fun _ i _ => 9 - (intOf i).toNat)
  case atStart =>
    refine ⟨0, by omega, rfl, by rw [Nat.pow_zero, Nat.div_one], ?_, HW1.out⟩
    have e : fnL (Nt.nine f p x 0) m = fnL f m := fnL_ext fun i _ => by unfold Nt.nine; rw [if_neg (by omega)]
    rw [e]; exact HB1.out
  case round =>
    obtain ⟨k, hk, rfl, rfl, hBk, hW⟩ := hrel
    by_cases hlt : k < 9
    · have hi : p + (8 - k) < (fnL (Nt.nine f p x k) m).length := by rw [fnL_length]; omega
      have c1 : wr.cell? ⟨G, p + (8 - k), none⟩ = some (.int .u8 (((fnL (Nt.nine f p x k) m)[p + (8 - k)]'hi : Nat) : Int)) := (hBk.cell _).trans (kV_get_lt _ _ _ hi)
      have f1 : wr.frozen? ⟨G, p + (8 - k), none⟩ = false := hBk.frozen _
      have g1 : (8 : Int) - (k : Int) = ((8 - k : Nat) : Int) := by omega
      have hset := Nt.nine_set f p x k m hlt
      have hn : Hid (x / 10 ^ (k + 1) = x / 10 ^ k / 10) := by rw [Hid, Nat.pow_succ, Nat.div_div_eq_div_mul]
      have hyl : x / 10 ^ k < 1000000000 := Nat.lt_of_le_of_lt (Nat.div_le_self _ _) HX.out
      generalize x / 10 ^ k = y at *
      have HSET := Lib.hid hset
      have HBK := Lib.hid hBk
      have HW := Lib.hid hW
      obtain ⟨q, hq⟩ : ∃ q, q = 8 - k := ⟨_, rfl⟩
      have hq8 : q ≤ 8 := by omega
      rw [← hq] at g1 f1 HSET
      have c2 : ∃ v, wr.cell? ⟨G, p + q, none⟩ = some (.int .u8 v) := ⟨_, by rw [hq]; exact c1⟩
      obtain ⟨v, c2⟩ := c2
      obtain ⟨d, hd⟩ : ∃ d, d = 48 + y % 10 := ⟨_, rfl⟩
      rw [← hd] at HSET
      have d1 : (48 : Int) + (y : Int) % 10 = (d : Int) := by omega
      clear hset hBk hW hq c1 hi hd
      go_wp2
      refine ⟨⟨k + 1, by omega, by go_num, by rw [hn.out]; rfl, ?_, HW.out.setCell (p := ⟨G, p + q, none⟩) (Nat.le_refl _) _⟩, by simp [intOf]; omega⟩
      rw [← HSET.out, ← kV_set]
      exact HBK.out.put _ _
    · have hk9 : k = 9 := by omega
      subst hk9
      go_wp2
      go_end0
      exact ⟨⟨rfl, hBk⟩, hW⟩
end Go.Proofs.YtjbpipbmcicjiaaGreatDoor
