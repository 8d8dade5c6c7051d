/-
  LIMBS IN THE PROGRAM: a division by two limbs or more, its pieces.
-/
import Derived.Test.YtjbpipbmcicjiaaGreatDoorDigit
import Derived.Test.YtjbpipbmcicjiaaGreatDoorTwo
import Derived.Test.YtjbpipbmcicjiaaGreatDoorDivMod
import Derived.Deep.CutRange
import Derived.Deep.DeepCutAuto
namespace Go.Proofs.YtjbpipbmcicjiaaGreatDoor
open Go.RowKit Go.Shelf

theorem lz_at (x s : Nat) (w : World) (hx : x < 4294967296) (hs : s + Nt.blen x = 32) :
    Calls Tryz.prog 158 #[.int .u32 (x : Int)] w fun e w' => e = .returned (.int .i64 (s : Int)) ∧ w = w' := by
  refine (Tryz.bits_LeadingZeros32 (x : Int) w (by omega) (by omega)).mono ?_
  rintro e w' ⟨rfl, rfl⟩
  have hb : Lib.bitLen x = Nt.blen x := bitLen_blen_all x (Nat.lt_trans hx (by decide))
  exact ⟨ret_int (by rw [Int.toNat_natCast, hb]; omega), rfl⟩
/-- the heap is as it was. -/
structure Still (w w' : World) : Prop where
  os : w'.os = w.os
  tape : w'.tape = w.tape
  output : w'.output = w.output
  heap : w'.heap = w.heap
theorem Still.of_drewN {w w' : World} (h : ∃ d, w' = w.drewN d) : Still w w' := by
  obtain ⟨d, rfl⟩ := h
  exact ⟨rfl, rfl, rfl, rfl⟩
theorem Still.below {w w' : World} (h : Still w w') (B : Nat) : Below B w w' := ⟨h.os, h.tape, h.output, by rw [h.heap]; exact Nat.le_refl _, fun k _ => by rw [h.heap]⟩
theorem Still.blk {w w' : World} (h : Still w w') {g : Nat} {t : TypeId} {cs : Array Value} (hb : Blk w g t cs) : Blk w' g t cs := by unfold Blk; rw [h.heap]; exact hb
theorem Still.size {w w' : World} (h : Still w w') : w'.heap.size = w.heap.size := by rw [h.heap]

theorem Nt.join_lt {l z a b : Nat} (hl : l < a) (hz : z < b) : l + z * a < a * b := by
  have h3 : (z + 1) * a ≤ b * a := Nat.mul_le_mul_right _ hz
  rw [Nat.add_mul, Nat.one_mul, Nat.mul_comm b] at h3
  omega
theorem takeTimes_no (G p n c1 g c2 L M V t : Nat) (w : World) (hn : n ≤ 100000) (hM : M ≤ 200000) (hpM : p + (n + 1) ≤ M) (hne : g ≠ G) (hV : V < 4294967296 ^ n) (hVp : 0 < V) (ht : t < 4294967296) (hL : L < 4294967296 ^ (p + (n + 1)))
    (hg : L / 4294967296 ^ p / V ≤ t) (h : ¬ L / 4294967296 ^ p < t * V)
    (hB : Blk w G 84 (kV .u32 (Nt.wds L M))) (hc : Lm w g (Nt.wds V n)) :
    Calls Tryz.prog 161 #[.slice (some ⟨G, p, none⟩) (n + 1) c1, .slice (some ⟨g, 0, none⟩) n c2, .int .u32 (t : Int)] w fun e w' =>
      e = .returned (.bool false) ∧ Blk w' G 84 (kV .u32 (Nt.wds (L % 4294967296 ^ p + L / 4294967296 ^ p % V * 4294967296 ^ p) M)) ∧ Only G w w' := by
  refine (takeTimes_any G p n c1 g c2 L M V t w hn hM hpM hne hV ht hL hB hc).mono ?_
  rintro e w' ⟨rfl, hb, ho⟩
  have hP : L / 4294967296 ^ p < 4294967296 ^ (n + 1) := by
    rw [Nat.div_lt_iff_lt_mul (Nat.pow_pos (by omega)), Nat.mul_comm, ← Nat.pow_add]; exact hL
  have hz := Nt.taken_right _ V t _ hVp hP hg h
  refine ⟨ret_bool (decide_eq_false h), ?_, ho⟩
  rw [Nt.zof, hz.2] at hb
  exact hb
theorem takeTimes_yes (G p n c1 g c2 L M V t : Nat) (w : World) (hn : n ≤ 100000) (hM : M ≤ 200000) (hpM : p + (n + 1) ≤ M) (hne : g ≠ G) (hV : V < 4294967296 ^ n) (hVp : 0 < V) (ht : t < 4294967296) (hL : L < 4294967296 ^ (p + (n + 1)))
    (hg : t ≤ L / 4294967296 ^ p / V + 1) (h : L / 4294967296 ^ p < t * V)
    (hB : Blk w G 84 (kV .u32 (Nt.wds L M))) (hc : Lm w g (Nt.wds V n)) :
    Calls Tryz.prog 161 #[.slice (some ⟨G, p, none⟩) (n + 1) c1, .slice (some ⟨g, 0, none⟩) n c2, .int .u32 (t : Int)] w fun e w' =>
      e = .returned (.bool true) ∧ (∃ R, Blk w' G 84 (kV .u32 (Nt.wds R M)) ∧ R < 4294967296 ^ (p + (n + 1)) ∧
        R % 4294967296 ^ p + (R / 4294967296 ^ p + V) % 4294967296 ^ (n + 1) * 4294967296 ^ p = L % 4294967296 ^ p + L / 4294967296 ^ p % V * 4294967296 ^ p) ∧ Only G w w' := by
  refine (takeTimes_any G p n c1 g c2 L M V t w hn hM hpM hne hV ht hL hB hc).mono ?_
  rintro e w' ⟨rfl, hb, ho⟩
  have hp : 0 < 4294967296 ^ p := Nat.pow_pos (by omega)
  have hP : L / 4294967296 ^ p < 4294967296 ^ (n + 1) := by
    rw [Nat.div_lt_iff_lt_mul hp, Nat.mul_comm, ← Nat.pow_add]; exact hL
  have hM' : t * V ≤ 4294967296 ^ (n + 1) := by
    rw [Nat.pow_succ, Nat.mul_comm]
    exact Nat.mul_le_mul (Nat.le_of_lt hV) (Nat.le_of_lt ht)
  have hz := Nt.taken_back _ V t _ hVp hP hM' hg h
  refine ⟨ret_bool (decide_eq_true h), ⟨_, hb, ?_, ?_⟩, ho⟩
  · have h1 := Nat.mod_lt (Nt.zof (L / 4294967296 ^ p) (t * V) (n + 1)) (Nat.pow_pos (n := n + 1) (show 0 < 4294967296 by omega))
    have h2 := Nat.mod_lt L hp
    rw [Nat.pow_add 4294967296 p (n + 1)]
    exact Nt.join_lt h2 h1
  · rw [Nt.zof, hz.2.2.1, Nat.add_mul_mod_self_right, Nat.mod_mod, Nat.add_mul_div_right _ _ hp, Nat.div_eq_of_lt (Nat.mod_lt L hp), Nat.zero_add, hz.2.2.2]
end Go.Proofs.YtjbpipbmcicjiaaGreatDoor
