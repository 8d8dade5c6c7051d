/-
  LIMBS: trim.
  PLAIN MATHS FOR A DIVISION BY ONE LIMB.
  LIMBS AS NUMBERS.
  A DIVISION BY ONE LIMB.
-/
import Derived.Test.YtjbpipbmcicjiaaGreatDoorRoot2
import Derived.Test.YtjbpipbmcicjiaaGreatDoorMath
import Derived.Test.YtjbpipbmcicjiaaGreatDoorTrim
namespace Go.Proofs.YtjbpipbmcicjiaaGreatDoor
open Go.RowKit Go.Shelf

/-- a block's first cells hold the limbs l. -/
def Lm (w : World) (g : Nat) (l : List Nat) : Prop := ∀ i (h : i < l.length), w.cell? ⟨g, i, none⟩ = some (.int .u32 ((l[i]'h : Nat) : Int))
theorem Lm.take {w : World} {g : Nat} {l : List Nat} (h : Lm w g l) (k : Nat) : Lm w g (l.take k) := fun i hi => by
  have hi' : i < l.length := by rw [List.length_take] at hi; omega
  rw [h i hi', List.getElem_take]
theorem Lm.of_blk {w : World} {g : Nat} {t : TypeId} {l : List Nat} (h : Blk w g t (kV .u32 l)) : Lm w g l := fun i hi => (h.cell i).trans (kV_get_lt _ _ _ hi)

set_option maxRecDepth 100000 in
set_option maxHeartbeats 2000000 in
theorem limbsTrim_any (g n cap : Nat) (l : List Nat) (w : World) (hl : l.length = n) (hcap : n ≤ cap) (hn : n ≤ 1000000) (hc : Lm w g l) (hx : ∀ x ∈ l, x < 4294967296) :
    Calls Tryz.prog 163 #[.slice (some ⟨g, 0, none⟩) n cap] w fun e w' => (∃ k, k ≤ n ∧ e = .returned (.slice (some ⟨g, 0, none⟩) k cap) ∧ Nt.lw (l.take k) = Nt.lw l ∧ ∀ h : k - 1 < l.length, k = 0 ∨ l[k - 1]'h ≠ 0) ∧ w = w' := by
  have HL := Lib.hid hl
  have HC := Lib.hid hc
  have HX := Lib.hid hx
  have hst : Hid (Nt.lw (l.take n) = Nt.lw l) := by rw [Hid, ← hl, List.take_length]
  clear hl hc hx
  go_enter Tryz.func163, Tryz.ntmps163
  go_wp2
  go_loop [0] (fun v => ∃ k : Nat, k ≤ n ∧ v = .slice (some ⟨g, 0, none⟩) k cap ∧ Nt.lw (l.take k) = Nt.lw l) (fun v => match v with | .slice _ k _ => k | _ => 0)
  case atStart => exact ⟨n, Nat.le_refl _, rfl, hst.out⟩
  case round =>
    obtain ⟨k, hk, rfl, hlw⟩ := hrel
    have HLW := Lib.hid hlw
    clear hlw
    rcases k with _ | k
    · go_wp2
      go_ret
      exact ⟨⟨0, by omega, rfl, HLW.out, fun _ => Or.inl rfl⟩, rfl⟩
    · have hkl : k < l.length := by have := HL.out; omega
      have c1 := HC.out k hkl
      have hxb := HX.out _ (List.getElem_mem hkl)
      have hstep := Lib.hid (Nt.lw_take_succ l k hkl)
      obtain ⟨x, hxx⟩ : ∃ x, x = l[k]'hkl := ⟨_, rfl⟩
      rw [← hxx] at c1 hxb hstep
      have HXX := Lib.hid hxx
      clear hxx
      by_cases h0 : x = 0
      · subst h0
        go_wp2
        go_round
        case rel => exact ⟨k, by omega, rfl, by have := hstep.out; have := HLW.out; omega⟩
        case measure => simp
      · have h0' : ((x : Int) == 0) = false := by simp; omega
        go_wp2
        go_ret
        exact ⟨⟨k + 1, by omega, rfl, HLW.out, fun _ => Or.inr (by show l[k] ≠ 0; rw [← HXX.out]; exact h0)⟩, rfl⟩
end Go.Proofs.YtjbpipbmcicjiaaGreatDoor
namespace Go.Proofs.YtjbpipbmcicjiaaGreatDoor
open Go.RowKit Go.Shelf

/-- the words of a number from the j-th on; 0 below. -/
def Nt.qs (N j n : Nat) : List Nat := (List.range n).map (fun i => if i < j then 0 else Nt.wd N i)
theorem Nt.qs_length (N j n : Nat) : (Nt.qs N j n).length = n := by simp [Nt.qs]
theorem Nt.qs_none (N n : Nat) : Nt.qs N n n = List.replicate n 0 := by
  apply List.ext_getElem (by simp [Nt.qs])
  intro i h1 h2
  rw [Nt.qs_length] at h1
  simp [Nt.qs, h1]
theorem Nt.qs_all (N n : Nat) : Nt.qs N 0 n = Nt.wds N n := by simp [Nt.qs, Nt.wds]
theorem Nt.qs_set (N i n : Nat) : (Nt.qs N (i + 1) n).set i (Nt.wd N i) = Nt.qs N i n := by
  apply List.ext_getElem (by simp [Nt.qs])
  intro k h1 h2
  rw [List.getElem_set]
  by_cases h : i = k
  · subst h; simp [Nt.qs]
  · rw [if_neg h]
    simp only [Nt.qs, List.getElem_map, List.getElem_range]
    by_cases hk : k < i
    · rw [if_pos (by omega), if_pos hk]
    · rw [if_neg (by omega), if_neg hk]
theorem Nt.qs_lt (N j n : Nat) : ∀ x ∈ Nt.qs N j n, x < 4294967296 := by
  intro x hx
  simp only [Nt.qs, List.mem_map] at hx
  obtain ⟨i, _, rfl⟩ := hx
  split
  · omega
  · exact Nt.wd_lt _ _
theorem Nt.step_base (B n d c : Nat) (hd : 0 < d) : (n * B + c) / d = n / d * B + (n % d * B + c) / d ∧ (n * B + c) % d = (n % d * B + c) % d := by
  have h : n * B + c = (n % d * B + c) + d * (n / d * B) := by
    have := Nat.mod_add_div n d
    conv => lhs; rw [← this]
    rw [Nat.add_mul, Nat.mul_assoc]; omega
  rw [h]
  exact ⟨by rw [Nat.add_mul_div_left _ _ hd]; omega, by rw [Nat.add_mul_mod_self_left]⟩
theorem Nt.wd_join (U i : Nat) : U / 4294967296 ^ i = U / 4294967296 ^ (i + 1) * 4294967296 + Nt.wd U i := by
  unfold Nt.wd
  rw [Nat.pow_succ, ← Nat.div_div_eq_div_mul]; omega
/-- one round of a division by a limb: its digit, and what is left. -/
theorem Nt.limb_round (U i d : Nat) (hd : 0 < d) :
    (U / 4294967296 ^ (i + 1) % d * 4294967296 + Nt.wd U i) / d = Nt.wd (U / d) i ∧ (U / 4294967296 ^ (i + 1) % d * 4294967296 + Nt.wd U i) % d = U / 4294967296 ^ i % d ∧ U / 4294967296 ^ (i + 1) % d * 4294967296 + Nt.wd U i < d * 4294967296 := by
  have hlt := Nat.mod_lt (U / 4294967296 ^ (i + 1)) hd
  have hw := Nt.wd_lt U i
  have hst := Nt.step_base 4294967296 (U / 4294967296 ^ (i + 1)) d (Nt.wd U i) hd
  have hj := Nt.wd_join U i
  rw [← hj] at hst
  have ht : U / 4294967296 ^ (i + 1) % d * 4294967296 + Nt.wd U i < d * 4294967296 := by omega
  refine ⟨?_, hst.2.symm, ht⟩
  have hq := Nat.div_lt_of_lt_mul ht
  have e : Nt.wd (U / d) i = U / 4294967296 ^ i / d % 4294967296 := by
    unfold Nt.wd
    rw [Nat.div_div_eq_div_mul, Nat.mul_comm, ← Nat.div_div_eq_div_mul]
  rw [e, hst.1]
  generalize (U / 4294967296 ^ (i + 1) % d * 4294967296 + Nt.wd U i) / d = t at *
  omega
theorem or_low32 (n d : Nat) (hn : n < 4294967296) (hd : d < 4294967296) :
    bits .or .u64 ((n : Int) * 4294967296) (d : Int) = ((n * 4294967296 + d : Nat) : Int) := by
  have e : ((n : Int) * 4294967296) = ((n * 4294967296 : Nat) : Int) := by omega
  rw [e, u64_or_nat _ _ (by omega) (by omega)]
  have h := Nat.two_pow_add_eq_or_of_lt (b := d) (i := 32) (by omega) n
  rw [show n * 4294967296 = 2 ^ 32 * n from by omega, h]
end Go.Proofs.YtjbpipbmcicjiaaGreatDoor
namespace Go.Proofs.YtjbpipbmcicjiaaGreatDoor
open Go.RowKit Go.Shelf

theorem Nt.wds_lw : ∀ l : List Nat, (∀ x ∈ l, x < 4294967296) → Nt.wds (Nt.lw l) l.length = l
  | [], _ => rfl
  | x :: r, h => by
    have ih := Nt.wds_lw r (fun y hy => h y (List.mem_cons_of_mem _ hy))
    have hx := h x List.mem_cons_self
    have e : Nt.lw (x :: r) = x + 4294967296 * Nt.lw r := rfl
    apply List.ext_getElem (by simp [Nt.wds])
    intro i h1 h2
    rw [Nt.wds_get, e]
    rcases i with _ | i
    · simp only [Nt.wd, Nat.pow_zero, Nat.div_one, List.getElem_cons_zero]; omega
    · have h3 : i < r.length := by simpa using h2
      have h4 : Nt.wd (Nt.lw r) i = r[i] := by
        have : (Nt.wds (Nt.lw r) r.length)[i]'(by rw [Nt.wds_length]; exact h3) = r[i] := by simp only [ih]
        rwa [Nt.wds_get] at this
      rw [List.getElem_cons_succ, ← h4]
      unfold Nt.wd
      rw [Nat.pow_succ, Nat.mul_comm (4294967296 ^ i), ← Nat.div_div_eq_div_mul, show (x + 4294967296 * Nt.lw r) / 4294967296 = Nt.lw r from by omega]

/-- a limbs' value is the number N: none at all, or a block's first cells, no 0 at the end. -/
def Lim (w : World) (v : Value) (N : Nat) : Prop := (v = .slice none 0 0 ∧ N = 0) ∨
  ∃ g k cap, v = .slice (some ⟨g, 0, none⟩) k cap ∧ k ≤ cap ∧ g < w.heap.size ∧ Lm w g (Nt.wds N k) ∧ N < 4294967296 ^ k ∧ (k = 0 ∨ 4294967296 ^ (k - 1) ≤ N)
theorem Lm.below {w w' : World} {B g : Nat} {l : List Nat} (h : Lm w g l) (hb : Below B w w') (hg : g < B) : Lm w' g l := fun i hi => (hb.cell (p := ⟨g, i, none⟩) hg).trans (h i hi)
theorem Lim.below {w w' : World} {B : Nat} {v : Value} {N : Nat} (h : Lim w v N) (hb : Below B w w') (hB : w.heap.size ≤ B) : Lim w' v N := by
  rcases h with h | ⟨g, k, cap, h1, h2, h3, h4, h5⟩
  · exact Or.inl h
  · exact Or.inr ⟨g, k, cap, h1, h2, by have := hb.size; omega, h4.below hb (by omega), h5⟩

theorem limbsTrim_lim (g n cap : Nat) (l : List Nat) (w : World) (hl : l.length = n) (hcap : n ≤ cap) (hn : n ≤ 1000000) (hg : g < w.heap.size) (hc : Lm w g l) (hx : ∀ x ∈ l, x < 4294967296) :
    Calls Tryz.prog 163 #[.slice (some ⟨g, 0, none⟩) n cap] w fun e w' => (∃ v, e = .returned v ∧ Lim w v (Nt.lw l)) ∧ w = w' := by
  refine (limbsTrim_any g n cap l w hl hcap hn hc hx).mono ?_
  rintro e w' ⟨⟨k, hk, rfl, hlw, hlast⟩, rfl⟩
  have hkl : (l.take k).length = k := by rw [List.length_take]; omega
  have hx' : ∀ x ∈ l.take k, x < 4294967296 := fun x hx1 => hx x (List.mem_of_mem_take hx1)
  have hw := Nt.wds_lw (l.take k) hx'
  have hlt := Nt.lw_lt (l.take k) hx'
  rw [hkl, hlw] at hw hlt
  refine ⟨⟨_, rfl, Or.inr ⟨g, k, cap, rfl, by omega, hg, by rw [hw]; exact hc.take k, hlt, ?_⟩⟩, rfl⟩
  rcases Nat.eq_zero_or_pos k with h0 | h0
  · exact Or.inl h0
  · right
    have hk1 : k - 1 < l.length := by omega
    rcases hlast hk1 with h | h
    · omega
    · have hs := Nt.lw_take_succ l (k - 1) hk1
      rw [show k - 1 + 1 = k from by omega, hlw] at hs
      have : 1 * 4294967296 ^ (k - 1) ≤ l[k - 1] * 4294967296 ^ (k - 1) := Nat.mul_le_mul (by omega) (Nat.le_refl _)
      omega
end Go.Proofs.YtjbpipbmcicjiaaGreatDoor
namespace Go.Proofs.YtjbpipbmcicjiaaGreatDoor
open Go.RowKit Go.Shelf
theorem Tryz.infoL : (Tryz.prog.info? 84).map (fun i => (i.zero, i.size, i.bytes)) = some (some (.int .u32 0), 1, 4) := Tryz.infoU32

set_option maxRecDepth 100000 in
set_option maxHeartbeats 4000000 in
theorem byLimb_any (g n cap U d : Nat) (w : World) (hn : n ≤ 100000) (hU : U < 4294967296 ^ n) (hd0 : 0 < d) (hd1 : d < 4294967296) (hg : g < w.heap.size) (hc : Lm w g (Nt.wds U n)) :
    Calls Tryz.prog 157 #[.slice (some ⟨g, 0, none⟩) n cap, .int .u32 (d : Int)] w fun e w' => (∃ q r, e = .returned (.tuple #[q, r]) ∧ Lim w' q (U / d) ∧ Lim w' r (U % d)) ∧ Below w.heap.size w w' := by
  have hmk := fun W => run_zeros (P := Tryz.prog) 112 84 .u32 4 Tryz.underlying112 Tryz.infoU32 n (by omega) (by omega) W
  have HC := Lib.hid hc
  have HU := Lib.hid hU
  have hd00 : ((d : Int) == 0) = false := by simp; omega
  clear hc hU
  go_enter Tryz.func157, Tryz.ntmps157
  go_wp2
  go_loopw [6, 7] (fun c i wr => ∃ j : Nat, j ≤ n ∧ i = .int .i64 ((j : Int) - 1) ∧ c = .int .u64 ((U / 4294967296 ^ j % d : Nat) : Int) ∧ Blk wr w.heap.size 84 (kV .u32 (Nt.qs (U / d) j n)) ∧ Below w.heap.size w wr) (fun _ i _ => (intOf i + 1).toNat)
  case atStart => exact ⟨n, by omega, by go_num, by rw [Nat.div_eq_of_lt HU.out, Nat.zero_mod]; rfl, by rw [Nt.qs_none]; exact Blk.new _ _ _, (Below.refl _ _).alloc (Nat.le_refl _) _⟩
  case round =>
    obtain ⟨j, hj, rfl, rfl, hB, hW⟩ := hrel
    rcases j with _ | i
    · have e0 : ((0 : Nat) : Int) - 1 = -1 := rfl
      rw [e0]
      rw [Nat.pow_zero, Nat.div_one]
      have hm : U % d < 4294967296 := Nat.lt_trans (Nat.mod_lt _ hd0) hd1
      have hmm : ((U % d : Nat) : Int) % 4294967296 = ((U % d : Nat) : Int) := by omega
      have hq := fun W (hB : Blk W w.heap.size 84 (kV .u32 (Nt.qs (U / d) 0 n))) => limbsTrim_lim w.heap.size n n (Nt.qs (U / d) 0 n) W (Nt.qs_length _ _ _) (Nat.le_refl _) (by omega) hB.lt (Lm.of_blk hB) (Nt.qs_lt _ _ _)
      have hqv : Nt.lw (Nt.qs (U / d) 0 n) = U / d := by
        rw [Nt.qs_all, Nt.lw_wds]
        exact Nat.mod_eq_of_lt (Nat.lt_of_le_of_lt (Nat.div_le_self _ _) HU.out)
      rw [hqv] at hq
      have hr := fun W G (hB : Blk W G 84 (kV .u32 [U % d])) => limbsTrim_lim G 1 1 [U % d] W rfl (Nat.le_refl _) (by omega) hB.lt (Lm.of_blk hB) (by intro x hx; simp at hx; omega)
      have hrv : Nt.lw [U % d] = U % d := by simp [Nt.lw]
      rw [hrv] at hr
      have HQ := Lib.hid hq
      have HR := Lib.hid hr
      obtain ⟨m, hm'⟩ : ∃ m, m = U % d := ⟨_, rfl⟩
      rw [← hm'] at HR hmm ⊢
      have HM := Lib.hid hm'
      clear hq hr hm hqv hrv hm'
      go_wp2_with (first
        | (go_at_call_of 163 (w.heap.size); refine (HQ.out _ (by assumption)).mono ?_; rintro e w1 ⟨⟨v1, rfl, hl1⟩, rfl⟩)
        | (go_at_call 163; refine (HR.out _ wr.heap.size (Blk.new wr _ _)).mono ?_; rintro e w2 ⟨⟨v2, rfl, hl2⟩, rfl⟩))
      go_ret2
      exact ⟨⟨v1, v2, rfl, hl1.below ((Below.refl _ _).alloc (Nat.le_refl _) _) (Nat.le_refl _), by rw [← HM.out]; exact hl2⟩, hW.alloc hW.size _⟩
    · rw [show ((i + 1 : Nat) : Int) - 1 = (i : Int) from by omega]
      have hr := Nt.limb_round U i d hd0
      have hlt := Nat.mod_lt (U / 4294967296 ^ (i + 1)) hd0
      have hil : i < (Nt.wds U n).length := by rw [Nt.wds_length]; omega
      have c1 : wr.cell? ⟨g, i, none⟩ = some (.int .u32 ((Nt.wd U i : Nat) : Int)) := (hW.cell (p := ⟨g, i, none⟩) hg).trans (by have := HC.out i hil; rwa [Nt.wds_get] at this)
      have hil2 : i < (Nt.qs (U / d) (i + 1) n).length := by rw [Nt.qs_length]; omega
      have c2 : wr.cell? ⟨w.heap.size, i, none⟩ = some (.int .u32 (((Nt.qs (U / d) (i + 1) n)[i]'hil2 : Nat) : Int)) := (hB.cell _).trans (kV_get_lt _ _ _ hil2)
      have f2 : wr.frozen? ⟨w.heap.size, i, none⟩ = false := hB.frozen _
      have hwd := Nt.wd_lt U i
      have hqw := Nt.wd_lt (U / d) i
      obtain ⟨x, hx⟩ : ∃ x, x = Nt.wd U i := ⟨_, rfl⟩
      obtain ⟨y, hy⟩ : ∃ y, y = U / 4294967296 ^ (i + 1) % d := ⟨_, rfl⟩
      rw [← hx] at hr c1 hwd
      rw [← hy] at hr hlt ⊢
      have ho := or_low32 y x (by omega) hwd
      obtain ⟨t, ht⟩ : ∃ t, t = y * 4294967296 + x := ⟨_, rfl⟩
      rw [← ht] at hr ho
      have htb : t < 18446744073709551616 := by rw [ht]; omega
      have HR := Lib.hid hr
      have HO := Lib.hid ho
      have hdq : (t : Int) / (d : Int) = ((t / d : Nat) : Int) := by simp
      have hqt : t / d < 4294967296 := by rw [hr.1]; exact hqw
      have hmt : t % d < d := Nat.mod_lt _ hd0
      clear hr ho hx hy ht hqw
      go_wp2
      rw [HO.out]
      have e1 : (t : Int).tmod (d : Int) = ((U / 4294967296 ^ i % d : Nat) : Int) := by
        rw [← HR.out.2.1, Int.tmod_eq_emod_of_nonneg (by omega)]; simp
      have e2 : IntKind.u64.wrap ((t : Int).tdiv (d : Int)) % 4294967296 = ((Nt.wd (U / d) i : Nat) : Int) := by
        rw [← HR.out.1, Int.tdiv_eq_ediv_of_nonneg (by omega), hdq]
        generalize t / d = z at *
        rw [u64w (by omega) (by omega)]; omega
      rw [e1, e2]
      refine ⟨⟨i, by omega, by go_num, rfl, ?_, hW.setCell (p := ⟨w.heap.size, i, none⟩) (Nat.le_refl _) _⟩, by simp [intOf]⟩
      rw [← Nt.qs_set, ← kV_set]
      exact hB.put _ _
end Go.Proofs.YtjbpipbmcicjiaaGreatDoor
