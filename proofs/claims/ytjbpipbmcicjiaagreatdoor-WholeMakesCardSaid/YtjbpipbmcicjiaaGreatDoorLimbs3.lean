/-
  WORDS IN THE PROGRAM: a difference and a sum of two with what is owed, and limbs that are shifted up and down.
-/
import Derived.Test.YtjbpipbmcicjiaaGreatDoorMath8
import Derived.Test.YtjbpipbmcicjiaaGreatDoorDivMod
import Derived.Laws.BitsAllLaws
namespace Go.Proofs.YtjbpipbmcicjiaaGreatDoor
open Go.RowKit Go.Shelf

def Nt.sb (x y b : Nat) : Nat := (x + 4294967296 - y - b) % 4294967296
def Nt.sbo (x y b : Nat) : Nat := if x < y + b then 1 else 0
theorem ret_u32_2 {a b c d : Int} (h : a = b) (h' : c = d) : Ending.returned (.tuple #[.int .u32 a, .int .u32 c]) = .returned (.tuple #[.int .u32 b, .int .u32 d]) := by rw [h, h']
set_option maxRecDepth 100000 in
theorem sub32_any (x y b : Nat) (w : World) (hx : x < 4294967296) (hy : y < 4294967296) (hb : b ≤ 1) :
    Calls Tryz.prog 182 #[.int .u32 (x : Int), .int .u32 (y : Int), .int .u32 (b : Int)] w fun e w' => e = .returned (.tuple #[.int .u32 ((Nt.sb x y b : Nat) : Int), .int .u32 ((Nt.sbo x y b : Nat) : Int)]) ∧ w = w' := by
  go_enter Tryz.func182, Tryz.ntmps182
  go_wp2
  go_ret2
  refine ⟨ret_u32_2 ?_ ?_, rfl⟩
  · unfold Nt.sb; omega
  · have em : IntKind.u32.max = ((4294967295 : Nat) : Int) := by decide
    have ed : (((x : Int) - (y : Int) - (b : Int)) % 4294967296) = ((Nt.sb x y b : Nat) : Int) := by unfold Nt.sb; omega
    have hd : Nt.sb x y b < 4294967296 := Nat.mod_lt _ (by omega)
    have hn1 : 4294967295 ^^^ x < 4294967296 := Nat.xor_lt_two_pow (n := 32) (by decide) hx
    have hn2 : x ^^^ y < 4294967296 := Nat.xor_lt_two_pow (n := 32) hx hy
    have hn3 : 4294967295 ^^^ (x ^^^ y) < 4294967296 := Nat.xor_lt_two_pow (n := 32) (by decide) hn2
    have hn4 : (4294967295 ^^^ x) &&& y < 4294967296 := Nat.and_lt_two_pow (n := 32) _ hy
    have hn5 : (4294967295 ^^^ (x ^^^ y)) &&& Nt.sb x y b < 4294967296 := Nat.and_lt_two_pow (n := 32) _ hd
    have hb := Nt.sub_borrow x y b (Nt.sb x y b) hx hy hb rfl
    rw [em, ed, u32_xor_nat _ _ (by decide) hx, u32_xor_nat _ _ hx hy, u32_xor_nat _ _ (by decide) hn2, u32_and_nat _ _ hn1 hy, u32_and_nat _ _ hn3 hd, u32_or_nat _ _ hn4 hn5]
    rw [show Nt.sbo x y b = _ from hb.symm]
    simp
set_option maxRecDepth 100000 in
theorem add32_any (x y b : Nat) (w : World) (hx : x < 4294967296) (hy : y < 4294967296) (hb : b ≤ 1) :
    Calls Tryz.prog 183 #[.int .u32 (x : Int), .int .u32 (y : Int), .int .u32 (b : Int)] w fun e w' => e = .returned (.tuple #[.int .u32 (((x + y + b) % 4294967296 : Nat) : Int), .int .u32 (((x + y + b) / 4294967296 : Nat) : Int)]) ∧ w = w' := by
  go_enter Tryz.func183, Tryz.ntmps183
  go_wp2
  go_ret2
  exact ⟨ret_u32_2 (by omega) (by omega), rfl⟩

set_option maxRecDepth 100000 in
set_option maxHeartbeats 4000000 in
theorem limbsUp_any (g n cap U s : Nat) (w : World) (hn : n ≤ 100000) (hU : U < 4294967296 ^ n) (hs : s < 32) (hg : g < w.heap.size) (hc : Lm w g (Nt.wds U n)) :
    Calls Tryz.prog 159 #[.slice (some ⟨g, 0, none⟩) n cap, .int .i64 (s : Int)] w fun e w' => (e = .returned (.slice (some ⟨w.heap.size, 0, none⟩) (n + 1) (n + 1)) ∧ Blk w' w.heap.size 84 (kV .u32 (Nt.wds (U * 2 ^ s) (n + 1)))) ∧ Below w.heap.size w w' := by
  have hmk := fun W => run_zeros (P := Tryz.prog) 112 84 .u32 4 Tryz.underlying112 Tryz.infoU32 (n + 1) (by omega) (by omega) W
  rw [show ((n + 1 : Nat) : Int) = (n : Int) + 1 from by omega] at hmk
  have HC := Lib.hid hc
  have HU := Lib.hid hU
  have hs0 : (0 : Int) ≤ (s : Int) := by omega
  clear hc hU
  go_enter Tryz.func159, Tryz.ntmps159
  go_wp2
  go_loopw [15] (fun i wr => ∃ k : Nat, k ≤ n ∧ i = .int .i64 (k : Int) ∧ Blk wr w.heap.size 84 (kV .u32 (Nt.wds (Nt.ups U s k) (n + 1))) ∧ Below w.heap.size w wr) (fun i _ => n - (intOf i).toNat)
  case atStart => exact ⟨0, by omega, rfl, by rw [Nt.ups_zero, Nt.wds_zero]; exact Blk.new _ _ _, (Below.refl _ _).alloc (Nat.le_refl _) _⟩
  case round =>
    obtain ⟨k, hk, rfl, hB, hW⟩ := hrel
    by_cases hlt : k < n
    · have hkl : k < (Nt.wds U n).length := by rw [Nt.wds_length]; omega
      have c1 : wr.cell? ⟨g, k, none⟩ = some (.int .u32 ((Nt.wd U k : Nat) : Int)) := (hW.cell (p := ⟨g, k, none⟩) hg).trans (by have := HC.out k hkl; rwa [Nt.wds_get] at this)
      have hwd := Nt.wd_lt U k
      have hkm : k < (Nt.wds (Nt.ups U s k) (n + 1)).length := by rw [Nt.wds_length]; omega
      have hkm2 : k + 1 < (Nt.wds (Nt.ups U s k) (n + 1)).length := by rw [Nt.wds_length]; omega
      have c2 : wr.cell? ⟨w.heap.size, k, none⟩ = some (.int .u32 ((Nt.wd (Nt.ups U s k) k : Nat) : Int)) := (hB.cell _).trans ((kV_get_lt _ _ _ hkm).trans (by rw [Nt.wds_get]))
      have c3 : wr.cell? ⟨w.heap.size, k + 1, none⟩ = some (.int .u32 ((Nt.wd (Nt.ups U s k) (k + 1) : Nat) : Int)) := (hB.cell _).trans ((kV_get_lt _ _ _ hkm2).trans (by rw [Nt.wds_get]))
      have f2 : wr.frozen? ⟨w.heap.size, k, none⟩ = false := hB.frozen _
      have f3 : wr.frozen? ⟨w.heap.size, k + 1, none⟩ = false := hB.frozen _
      have hset := Nt.ups_set U s k (n + 1) hs
      obtain ⟨x, hx⟩ : ∃ x, x = Nt.wd U k := ⟨_, rfl⟩
      obtain ⟨y, hy⟩ : ∃ y, y = Nt.wd (Nt.ups U s k) k := ⟨_, rfl⟩
      obtain ⟨z, hz⟩ : ∃ z, z = Nt.wd (Nt.ups U s k) (k + 1) := ⟨_, rfl⟩
      rw [← hx] at c1 hwd hset
      rw [← hy] at c2 hset
      rw [← hz] at c3
      have hyl : y < 4294967296 := by rw [hy]; exact Nt.wd_lt _ _
      have HSET := Lib.hid hset
      clear hx hy hz hset
      go_wp2
      have hx2 : x * 2 ^ s < 18446744073709551616 := Nat.lt_of_lt_of_le (Nat.mul_lt_mul'' hwd (Nat.pow_lt_pow_right (n := 32) (by omega) hs : 2 ^ s < 2 ^ 32)) (by decide)
      have e1 : IntKind.u64.wrap ((x : Int) * 2 ^ s) = ((x * 2 ^ s : Nat) : Int) := by
        have e0 : ((x : Int) * 2 ^ s) = ((x * 2 ^ s : Nat) : Int) := by simp
        rw [e0, u64w (by omega) (by omega)]
      rw [e1]
      generalize x * 2 ^ s = t at *
      have e2 : bits BinOp.or IntKind.u32 (y : Int) ((t : Int) % 4294967296) = ((y ||| t % 4294967296 : Nat) : Int) := by
        rw [show ((t : Int) % 4294967296) = ((t % 4294967296 : Nat) : Int) from by omega]
        exact u32_or_nat _ _ hyl (Nat.mod_lt _ (by omega))
      have e3 : (t : Int) / 4294967296 % 4294967296 = ((t / 4294967296 : Nat) : Int) := by omega
      rw [e2, e3]
      refine ⟨⟨k + 1, by omega, by go_num, ?_, (hW.setCell (p := ⟨w.heap.size, k, none⟩) (Nat.le_refl _) _).setCell (p := ⟨w.heap.size, k + 1, none⟩) (Nat.le_refl _) _⟩, by simp [intOf]; omega⟩
      rw [← HSET.out, ← kV_set, ← kV_set]
      exact (hB.put _ _).put _ _
    · obtain rfl : k = n := by omega
      have hfin : Hid (Nt.ups U s k = U * 2 ^ s) := Nt.ups_all s HU.out
      go_wp2
      go_ret
      exact ⟨⟨rfl, by rw [← hfin.out]; exact hB⟩, hW⟩
set_option maxRecDepth 100000 in
set_option maxHeartbeats 4000000 in
theorem limbsDown_any (g n cap L s : Nat) (w : World) (hn : n ≤ 100000) (hL : L < 4294967296 ^ n) (hs : s < 32) (hg : g < w.heap.size) (hc : Lm w g (Nt.wds L n)) :
    Calls Tryz.prog 164 #[.slice (some ⟨g, 0, none⟩) n cap, .int .i64 (s : Int)] w fun e w' => (∃ v, e = .returned v ∧ Lim w' v (L / 2 ^ s)) ∧ Below w.heap.size w w' := by
  have hmk := fun W => run_zeros (P := Tryz.prog) 112 84 .u32 4 Tryz.underlying112 Tryz.infoU32 n (by omega) (by omega) W
  have HC := Lib.hid hc
  have HL := Lib.hid hL
  have hs0 : (0 : Int) ≤ (s : Int) := by omega
  clear hc hL
  go_enter Tryz.func164, Tryz.ntmps164
  go_wp2
  go_loopw [6, 7] (fun c i wr => ∃ j : Nat, j ≤ n ∧ i = .int .i64 ((j : Int) - 1) ∧ c = .int .u64 ((Nt.wd L (j + 1) * 4294967296 + Nt.wd L j : Nat) : Int) ∧ Blk wr w.heap.size 84 (kV .u32 (Nt.qs (L / 2 ^ s) j n)) ∧ Below w.heap.size w wr) (fun _ i _ => (intOf i + 1).toNat)
  case atStart => exact ⟨n, by omega, by go_num, by rw [Nt.wd_zero_le HL.out (Nat.le_succ n), Nt.wd_zero HL.out]; rfl, by rw [Nt.qs_none]; exact Blk.new _ _ _, (Below.refl _ _).alloc (Nat.le_refl _) _⟩
  case round =>
    obtain ⟨j, hj, rfl, rfl, hB, hW⟩ := hrel
    rcases j with _ | i
    · have e0 : ((0 : Nat) : Int) - 1 = -1 := rfl
      rw [e0]
      have hq := limbsTrim_lim w.heap.size n n (Nt.qs (L / 2 ^ s) 0 n) wr (Nt.qs_length _ _ _) (Nat.le_refl _) (by omega) hB.lt (Lm.of_blk hB) (Nt.qs_lt _ _ _)
      have hqv : Nt.lw (Nt.qs (L / 2 ^ s) 0 n) = L / 2 ^ s := by
        rw [Nt.qs_all, Nt.lw_wds]
        exact Nat.mod_eq_of_lt (Nat.lt_of_le_of_lt (Nat.div_le_self _ _) HL.out)
      rw [hqv] at hq
      have HQ := Lib.hid hq
      clear hq hqv
      go_wp2_with (go_at_call 163; refine HQ.out.mono ?_; rintro e w1 ⟨⟨v1, rfl, hl1⟩, rfl⟩)
      go_ret
      exact ⟨⟨v1, rfl, hl1⟩, hW⟩
    · rw [show ((i + 1 : Nat) : Int) - 1 = (i : Int) from by omega]
      have hil : i < (Nt.wds L n).length := by rw [Nt.wds_length]; omega
      have c1 : wr.cell? ⟨g, i, none⟩ = some (.int .u32 ((Nt.wd L i : Nat) : Int)) := (hW.cell (p := ⟨g, i, none⟩) hg).trans (by have := HC.out i hil; rwa [Nt.wds_get] at this)
      have hil2 : i < (Nt.qs (L / 2 ^ s) (i + 1) n).length := by rw [Nt.qs_length]; omega
      have c2 : wr.cell? ⟨w.heap.size, i, none⟩ = some (.int .u32 (((Nt.qs (L / 2 ^ s) (i + 1) n)[i]'hil2 : Nat) : Int)) := (hB.cell _).trans (kV_get_lt _ _ _ hil2)
      have f2 : wr.frozen? ⟨w.heap.size, i, none⟩ = false := hB.frozen _
      have hdw := Nt.down_word L s i hs
      have h1 := Nt.wd_lt L i
      have h2 := Nt.wd_lt L (i + 1)
      have h3 := Nt.wd_lt L (i + 1 + 1)
      obtain ⟨x, hx⟩ : ∃ x, x = Nt.wd L i := ⟨_, rfl⟩
      obtain ⟨y, hy⟩ : ∃ y, y = Nt.wd L (i + 1) := ⟨_, rfl⟩
      obtain ⟨z, hz⟩ : ∃ z, z = Nt.wd L (i + 1 + 1) := ⟨_, rfl⟩
      have hgoal : Hid (Nt.wd L (i + 1) * 4294967296 + Nt.wd L i = y * 4294967296 + x) := by rw [Hid, hx, hy]
      rw [← hx] at c1 h1 hdw
      rw [← hy] at h2 hdw ⊢
      rw [← hz] at h3 ⊢
      have ho := or_low32 y x h2 h1
      have HO := Lib.hid ho
      have HD := Lib.hid hdw
      have hyz : IntKind.u64.wrap (((z : Int) * 4294967296 + (y : Int)) * 4294967296) = (y : Int) * 4294967296 := by rw [IntKind.wrap_u64]; omega
      have HYZ := Lib.hid hyz
      clear ho hx hy hz hdw hyz
      go_wp2
      rw [HYZ.out, HO.out]
      have e1 : ((y * 4294967296 + x : Nat) : Int) / 2 ^ s % 4294967296 = ((Nt.wd (L / 2 ^ s) i : Nat) : Int) := by
        rw [← HD.out]; simp
      rw [e1]
      refine ⟨⟨i, by omega, by go_num, by rw [hgoal.out], ?_, hW.setCell (p := ⟨w.heap.size, i, none⟩) (Nat.le_refl _) _⟩, by simp [intOf]⟩
      rw [← Nt.qs_set, ← kV_set]
      exact hB.put _ _
end Go.Proofs.YtjbpipbmcicjiaaGreatDoor
