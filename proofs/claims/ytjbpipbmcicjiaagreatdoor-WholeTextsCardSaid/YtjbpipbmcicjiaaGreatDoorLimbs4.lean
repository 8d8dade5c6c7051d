/-
  LIMBS IN THE PROGRAM: a number that is taken away from a window so many times, and one that is put back.
-/
import Derived.Test.YtjbpipbmcicjiaaGreatDoorLimbs3
namespace Go.Proofs.YtjbpipbmcicjiaaGreatDoor
open Go.RowKit Go.Shelf

/-- all but the block G is as it was, and there is no new one. -/
structure Only (G : Nat) (w w' : World) : Prop where
  os : w'.os = w.os
  tape : w'.tape = w.tape
  output : w'.output = w.output
  size : w'.heap.size = w.heap.size
  block : ∀ k, k ≠ G → w'.heap[k]? = w.heap[k]?
theorem Only.refl (G : Nat) (w : World) : Only G w w := ⟨rfl, rfl, rfl, rfl, fun _ _ => rfl⟩
theorem Only.setCell {G : Nat} {a w : World} (h : Only G a w) (i : Nat) (u : Value) : Only G a (w.setCell ⟨G, i, none⟩ u) :=
  ⟨h.os, h.tape, h.output, (by simp [World.setCell]; exact h.size), fun k hk => (Below.heap_setCell w ⟨G, i, none⟩ u k hk).trans (h.block k hk)⟩
theorem Only.trans {G : Nat} {a b c : World} (h : Only G a b) (k : Only G b c) : Only G a c :=
  ⟨k.os.trans h.os, k.tape.trans h.tape, k.output.trans h.output, k.size.trans h.size, fun i hi => (k.block i hi).trans (h.block i hi)⟩
theorem Only.below {G B : Nat} {a b : World} (h : Only G a b) (hB : B ≤ G) : Below B a b := ⟨h.os, h.tape, h.output, Nat.le_of_eq h.size.symm, fun k hk => h.block k (by omega)⟩
theorem Only.cell {G : Nat} {a b : World} (h : Only G a b) {p : Addr} (hp : p.block ≠ G) : b.cell? p = a.cell? p := World.cell?_of_block (w := a) (h.block p.block hp)
theorem Only.lm {G g : Nat} {a b : World} (h : Only G a b) (hg : g ≠ G) {l : List Nat} (hl : Lm a g l) : Lm b g l := fun i hi => (h.cell (p := ⟨g, i, none⟩) hg).trans (hl i hi)
theorem Only.blk {G g : Nat} {a b : World} (h : Only G a b) (hg : g ≠ G) {t : TypeId} {cs : Array Value} (hl : Blk a g t cs) : Blk b g t cs := (h.block g hg).trans hl

theorem Nt.take_word {x z y b b' : Nat} (hz : z < 4294967296) (hb : b' ≤ 1) (h : x + 4294967296 * b' = z + y + b) : Nt.sb x y b = z ∧ Nt.sbo x y b = b' := by
  unfold Nt.sb Nt.sbo
  rcases (by omega : b' = 0 ∨ b' = 1) with rfl | rfl
  · exact ⟨by omega, by rw [if_neg (by omega)]⟩
  · exact ⟨by omega, by rw [if_pos (by omega)]⟩
theorem sub32_at {x y b : Int} (x0 y0 b0 z0 c0 : Nat) (ex : x = x0) (ey : y = y0) (eb : b = b0) (hx : x0 < 4294967296) (hy : y0 < 4294967296) (hb : b0 ≤ 1) (h : Nt.sb x0 y0 b0 = z0 ∧ Nt.sbo x0 y0 b0 = c0) (w : World) :
    Calls Tryz.prog 182 #[.int .u32 x, .int .u32 y, .int .u32 b] w fun e w' => e = .returned (.tuple #[.int .u32 (z0 : Int), .int .u32 (c0 : Int)]) ∧ w = w' := by
  rw [ex, ey, eb, ← h.1, ← h.2]
  exact sub32_any x0 y0 b0 w hx hy hb
theorem add32_at {x y b : Int} (x0 y0 b0 z0 c0 : Nat) (ex : x = x0) (ey : y = y0) (eb : b = b0) (hx : x0 < 4294967296) (hy : y0 < 4294967296) (hb : b0 ≤ 1) (h : (x0 + y0 + b0) % 4294967296 = z0 ∧ (x0 + y0 + b0) / 4294967296 = c0) (w : World) :
    Calls Tryz.prog 183 #[.int .u32 x, .int .u32 y, .int .u32 b] w fun e w' => e = .returned (.tuple #[.int .u32 (z0 : Int), .int .u32 (c0 : Int)]) ∧ w = w' := by
  rw [ex, ey, eb, ← h.1, ← h.2]
  exact add32_any x0 y0 b0 w hx hy hb

set_option maxRecDepth 100000 in
set_option maxHeartbeats 4000000 in
theorem takeTimes_any (G p n c1 g c2 L M V t : Nat) (w : World) (hn : n ≤ 100000) (hM : M ≤ 200000) (hpM : p + (n + 1) ≤ M) (hne : g ≠ G) (hV : V < 4294967296 ^ n) (ht : t < 4294967296) (hL : L < 4294967296 ^ (p + (n + 1)))
    (hB : Blk w G 84 (kV .u32 (Nt.wds L M))) (hc : Lm w g (Nt.wds V n)) :
    Calls Tryz.prog 161 #[.slice (some ⟨G, p, none⟩) (n + 1) c1, .slice (some ⟨g, 0, none⟩) n c2, .int .u32 (t : Int)] w fun e w' =>
      e = .returned (.bool (decide (L / 4294967296 ^ p < t * V))) ∧ Blk w' G 84 (kV .u32 (Nt.wds (L % 4294967296 ^ p + Nt.zof (L / 4294967296 ^ p) (t * V) (n + 1) % 4294967296 ^ (n + 1) * 4294967296 ^ p) M)) ∧ Only G w w' := by
  obtain ⟨X, hX⟩ : ∃ X, X = t * V := ⟨_, rfl⟩
  obtain ⟨P, hP⟩ : ∃ P, P = L / 4294967296 ^ p := ⟨_, rfl⟩
  obtain ⟨Z, hZ⟩ : ∃ Z, Z = Nt.zof P X (n + 1) := ⟨_, rfl⟩
  rw [← hX, ← hP, ← hZ]
  have hPl : P < 4294967296 ^ (n + 1) := by
    rw [hP, Nat.div_lt_iff_lt_mul (Nat.pow_pos (by omega)), Nat.mul_comm, ← Nat.pow_add]; exact hL
  have hXl : X < 4294967296 ^ (n + 1) := by
    rw [hX, Nat.pow_succ, Nat.mul_comm]
    exact Nat.mul_lt_mul'' hV ht
  have hst : Hid (∀ k, k < n + 1 → Nt.wd P k + 4294967296 * Nt.wbw P X (k + 1) = Nt.wd Z k + Nt.wd X k + Nt.wbw P X k) := fun k hk => by rw [hZ]; exact Nt.zof_step P X (n + 1) k hk (Nat.le_of_lt hXl)
  have htc : Hid (∀ k, (Nt.tcy t V k + Nt.wd V k * t) % 4294967296 = Nt.wd X k ∧ (Nt.tcy t V k + Nt.wd V k * t) / 4294967296 = Nt.tcy t V (k + 1) ∧ Nt.tcy t V k + Nt.wd V k * t < 18446744073709551616) := fun k => by
    have h1 := Nt.tcy_step t V k
    rw [← hX] at h1
    exact ⟨h1.1, h1.2, Nt.tcy_sum t V k ht⟩
  have hwP : Hid (∀ k, Nt.wd L (p + k) = Nt.wd P k) := fun k => by rw [hP, Nt.wd_high]
  have hend : Hid (fnL (Nt.mixf L p (n + 1) Z) M = Nt.wds (L % 4294967296 ^ p + Z % 4294967296 ^ (n + 1) * 4294967296 ^ p) M) := by
    have h1 := Nt.mix_end L p (n + 1) (Z % 4294967296 ^ (n + 1)) M hL (Nat.mod_lt _ (Nat.pow_pos (by omega)))
    rw [← h1]
    refine fnL_ext fun k _ => ?_
    unfold Nt.mixf
    split
    · rw [Nt.wd_low _ _ _ (by omega)]
    · rfl
  have hall : Hid (decide (P < X) = decide (0 < Nt.wbw P X (n + 1))) := by
    rw [Hid, Nt.wbw_all P X (n + 1) hPl hXl]
    by_cases h : P < X <;> simp [h]
  have hVn : Hid (Nt.wd V n = 0) := Nt.wd_zero hV
  have HC := Lib.hid hc
  have HB := Lib.hid hB
  clear hX hP hZ hPl hXl hc hB hL hV
  go_enter Tryz.func161, Tryz.ntmps161
  go_wp2
  go_loopw [7, 8, 12] (fun c b i wr => ∃ k : Nat, k ≤ n + 1 ∧ i = .int .i64 (k : Int) ∧ c = .int .u64 ((Nt.tcy t V k : Nat) : Int) ∧ b = .int .u32 ((Nt.wbw P X k : Nat) : Int) ∧ Blk wr G 84 (kV .u32 (fnL (Nt.mixf L p k Z) M)) ∧ Only G w wr) (fun _ _ i _ => n + 1 - (intOf i).toNat)
  case atStart => exact ⟨0, by omega, rfl, by rw [Nt.tcy_zero]; rfl, by rw [Nt.wbw_zero]; rfl, by rw [Nt.mix_zero]; exact HB.out, Only.refl _ _⟩
  case round =>
    obtain ⟨k, hk, rfl, rfl, rfl, hB, hW⟩ := hrel
    by_cases hlt : k < n + 1
    · have hkM : p + k < (fnL (Nt.mixf L p k Z) M).length := by rw [fnL_length]; omega
      have c1 : wr.cell? ⟨G, p + k, none⟩ = some (.int .u32 ((Nt.wd P k : Nat) : Int)) := (hB.cell _).trans ((kV_get_lt _ _ _ hkM).trans (by rw [fnL_get, Nt.mix_next, hwP.out]))
      have f1 : wr.frozen? ⟨G, p + k, none⟩ = false := hB.frozen _
      have hset := Nt.mix_set L p k Z M
      have hs := hst.out k hlt
      have ht3 := htc.out k
      have b1 := Nt.wbw_le P X k
      have b2 := Nt.wbw_le P X (k + 1)
      have l1 := Nt.wd_lt P k
      have l2 := Nt.wd_lt Z k
      have l3 := Nt.wd_lt X k
      have htw := Nt.take_word l2 b2 hs
      obtain ⟨cc, hcc⟩ : ∃ cc, cc = Nt.tcy t V k + Nt.wd V k * t := ⟨_, rfl⟩
      rw [← hcc] at ht3
      obtain ⟨h31, h32, h33⟩ := ht3
      have HCC := Lib.hid hcc
      have HSET := Lib.hid hset
      have HB2 := Lib.hid hB
      have HW := Lib.hid hW
      have HTW := Lib.hid htw
      have H31 := Lib.hid h31
      have H32 := Lib.hid h32
      generalize Nt.wd P k = x at *
      generalize Nt.wbw P X k = b at *
      have hfin : Hid ((cc : Int) / 4294967296 = ((Nt.tcy t V (k + 1) : Nat) : Int)) := by rw [Hid, ← h32]; omega
      by_cases hkn : k < n
      · have hkl : k < (Nt.wds V n).length := by rw [Nt.wds_length]; omega
        have c2 : wr.cell? ⟨g, k, none⟩ = some (.int .u32 ((Nt.wd V k : Nat) : Int)) := (HW.out.cell (p := ⟨g, k, none⟩) hne).trans (by have := HC.out k hkl; rwa [Nt.wds_get] at this)
        have hcn : cc = Nt.tcy t V k + Nt.wd V k * t := HCC.out
        obtain ⟨pr, hpr⟩ : ∃ pr, pr = Nt.wd V k * t := ⟨_, rfl⟩
        have hPI : ((Nt.wd V k : Nat) : Int) * (t : Int) = (pr : Int) := by rw [hpr]; simp
        rw [← hpr] at hcn
        have hl4 := Nt.wd_lt V k
        generalize Nt.wd V k = vd at *
        generalize Nt.tcy t V k = tc at *
        have hsum : tc + pr < 18446744073709551616 := by omega
        have HCN := Lib.hid hcn
        clear hpr hcn hcc h31 h32 htw hs hset hB hW
        go_wp2_with (go_at_call 182; refine (sub32_at x (Nt.wd X k) b (Nt.wd Z k) (Nt.wbw P X (k + 1)) rfl (by have := HCN.out; have := H31.out; omega) rfl l1 l3 b1 HTW.out _).mono ?_; rintro e w1 ⟨rfl, rfl⟩)
        rw [show ((tc : Int) + (pr : Int)) = (cc : Int) from by have := HCN.out; omega, hfin.out]
        refine ⟨⟨k + 1, by omega, by go_num, rfl, rfl, ?_, HW.out.setCell _ _⟩, by simp [intOf]; omega⟩
        rw [← HSET.out, ← kV_set]
        exact HB2.out.put _ _
      · have hkn' : k = n := by omega
        have hcn : cc = Nt.tcy t V k := by rw [HCC.out, hkn', hVn.out, Nat.zero_mul, Nat.add_zero]
        generalize Nt.tcy t V k = tc at *
        subst hcn
        clear h31 h32 htw hs hset hB hW hcc
        have hkk := Lib.hid hkn'
        clear hkn'
        go_wp2_with (go_at_call 182; refine (sub32_at x (Nt.wd X k) b (Nt.wd Z k) (Nt.wbw P X (k + 1)) rfl (by have := H31.out; omega) rfl l1 l3 b1 HTW.out _).mono ?_; rintro e w1 ⟨rfl, rfl⟩)
        rw [hfin.out]
        refine ⟨⟨k + 1, by omega, by go_num, rfl, rfl, ?_, HW.out.setCell _ _⟩, by simp [intOf]; omega⟩
        rw [← HSET.out, ← kV_set]
        exact HB2.out.put _ _
    · obtain rfl : k = n + 1 := by omega
      have hr : Hid (∀ b : Nat, b = Nt.wbw P X (n + 1) → decide (P < X) = decide (0 < b)) := fun b hb => by rw [hb]; exact hall.out
      obtain ⟨b, hb⟩ : ∃ b, b = Nt.wbw P X (n + 1) := ⟨_, rfl⟩
      rw [← hb]
      have HBB := Lib.hid hb
      clear hb
      go_wp2
      go_ret
      exact ⟨ret_bool (by rw [hr.out b HBB.out]), by rw [← hend.out]; exact hB, hW⟩
/-- what has gone over is added: one more carry, one more word. -/
theorem Nt.put_word (R V k : Nat) : (Nt.wd R k + Nt.wd V k + Nt.wcy R V k) % 4294967296 = Nt.wd (R + V) k ∧ (Nt.wd R k + Nt.wd V k + Nt.wcy R V k) / 4294967296 = Nt.wcy R V (k + 1) := by
  have h := Nt.wcy_step R V k
  have h1 := Nt.wd_lt (R + V) k
  exact ⟨by omega, by omega⟩
set_option maxRecDepth 100000 in
set_option maxHeartbeats 4000000 in
theorem putBack_any (G p n c1 g c2 L M V : Nat) (w : World) (hn : n ≤ 100000) (hM : M ≤ 200000) (hpM : p + (n + 1) ≤ M) (hne : g ≠ G) (hV : V < 4294967296 ^ n) (hL : L < 4294967296 ^ (p + (n + 1)))
    (hB : Blk w G 84 (kV .u32 (Nt.wds L M))) (hc : Lm w g (Nt.wds V n)) :
    Calls Tryz.prog 162 #[.slice (some ⟨G, p, none⟩) (n + 1) c1, .slice (some ⟨g, 0, none⟩) n c2] w fun e w' =>
      e = .returned (.tuple #[]) ∧ Blk w' G 84 (kV .u32 (Nt.wds (L % 4294967296 ^ p + (L / 4294967296 ^ p + V) % 4294967296 ^ (n + 1) * 4294967296 ^ p) M)) ∧ Only G w w' := by
  obtain ⟨P, hP⟩ : ∃ P, P = L / 4294967296 ^ p := ⟨_, rfl⟩
  obtain ⟨Z, hZ⟩ : ∃ Z, Z = P + V := ⟨_, rfl⟩
  rw [← hP, ← hZ]
  have hst : Hid (∀ k, (Nt.wd P k + Nt.wd V k + Nt.wcy P V k) % 4294967296 = Nt.wd Z k ∧ (Nt.wd P k + Nt.wd V k + Nt.wcy P V k) / 4294967296 = Nt.wcy P V (k + 1)) := fun k => by rw [hZ]; exact Nt.put_word P V k
  have hwP : Hid (∀ k, Nt.wd L (p + k) = Nt.wd P k) := fun k => by rw [hP, Nt.wd_high]
  have hend : Hid (fnL (Nt.mixf L p (n + 1) Z) M = Nt.wds (L % 4294967296 ^ p + Z % 4294967296 ^ (n + 1) * 4294967296 ^ p) M) := by
    have h1 := Nt.mix_end L p (n + 1) (Z % 4294967296 ^ (n + 1)) M hL (Nat.mod_lt _ (Nat.pow_pos (by omega)))
    rw [← h1]
    refine fnL_ext fun k _ => ?_
    unfold Nt.mixf
    split
    · rw [Nt.wd_low _ _ _ (by omega)]
    · rfl
  have hVn : Hid (Nt.wd V n = 0) := Nt.wd_zero hV
  have HC := Lib.hid hc
  have HB := Lib.hid hB
  clear hP hZ hc hB hL hV
  go_enter Tryz.func162, Tryz.ntmps162
  go_wp2
  go_loopw [4, 9] (fun b i wr => ∃ k : Nat, k ≤ n ∧ i = .int .i64 (k : Int) ∧ b = .int .u32 ((Nt.wcy P V k : Nat) : Int) ∧ Blk wr G 84 (kV .u32 (fnL (Nt.mixf L p k Z) M)) ∧ Only G w wr) (fun _ i _ => n - (intOf i).toNat)
  case atStart => exact ⟨0, by omega, rfl, by rw [Nt.wcy_zero]; rfl, by rw [Nt.mix_zero]; exact HB.out, Only.refl _ _⟩
  case round =>
    obtain ⟨k, hk, rfl, rfl, hB, hW⟩ := hrel
    have hkM : p + k < (fnL (Nt.mixf L p k Z) M).length := by rw [fnL_length]; omega
    have c1 : wr.cell? ⟨G, p + k, none⟩ = some (.int .u32 ((Nt.wd P k : Nat) : Int)) := (hB.cell _).trans ((kV_get_lt _ _ _ hkM).trans (by rw [fnL_get, Nt.mix_next, hwP.out]))
    have f1 : wr.frozen? ⟨G, p + k, none⟩ = false := hB.frozen _
    have hset := Nt.mix_set L p k Z M
    have hs := hst.out k
    have b1 := Nt.wcy_le P V k
    have l1 := Nt.wd_lt P k
    have l3 := Nt.wd_lt V k
    have HSET := Lib.hid hset
    have HB2 := Lib.hid hB
    have HW := Lib.hid hW
    have HS := Lib.hid hs
    by_cases hlt : k < n
    · have hkl : k < (Nt.wds V n).length := by rw [Nt.wds_length]; omega
      have c2 : wr.cell? ⟨g, k, none⟩ = some (.int .u32 ((Nt.wd V k : Nat) : Int)) := (HW.out.cell (p := ⟨g, k, none⟩) hne).trans (by have := HC.out k hkl; rwa [Nt.wds_get] at this)
      generalize Nt.wd P k = x at *
      generalize Nt.wd V k = y at *
      generalize Nt.wcy P V k = b at *
      clear hset hB hW hs
      go_wp2_with (go_at_call 183; refine (add32_at x y b (Nt.wd Z k) (Nt.wcy P V (k + 1)) rfl rfl rfl l1 l3 b1 HS.out _).mono ?_; rintro e w1 ⟨rfl, rfl⟩)
      refine ⟨⟨k + 1, by omega, by go_num, rfl, ?_, HW.out.setCell _ _⟩, by simp [intOf]; omega⟩
      rw [← HSET.out, ← kV_set]
      exact HB2.out.put _ _
    · have hkn' : k = n := by omega
      subst hkn'
      have hz : (Nt.wd P k + Nt.wcy P V k) % 4294967296 = Nt.wd Z k := by have := hs.1; rwa [hVn.out, Nat.add_zero] at this
      have HZ := Lib.hid hz
      generalize Nt.wd P k = x at *
      generalize Nt.wcy P V k = b at *
      clear hset hB hW hs hz
      go_wp2
      go_end0
      refine ⟨rfl, ?_, HW.out.setCell _ _⟩
      rw [show (((x : Int) + (b : Int)) % 4294967296) = ((Nt.wd Z k : Nat) : Int) from by have := HZ.out; omega, ← hend.out, ← HSET.out, ← kV_set]
      exact HB2.out.put _ _
end Go.Proofs.YtjbpipbmcicjiaaGreatDoor
