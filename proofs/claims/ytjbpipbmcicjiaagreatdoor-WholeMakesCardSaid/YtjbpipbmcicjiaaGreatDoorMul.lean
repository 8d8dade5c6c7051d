/-
  PRODUCTS IN THE PROGRAM.
  PRODUCTS IN THE DOCUMENT'S ANSWER.
-/
import Derived.Test.YtjbpipbmcicjiaaGreatDoorLaw
import Derived.Test.YtjbpipbmcicjiaaGreatDoorMath
import Derived.Test.YtjbpipbmcicjiaaGreatDoorRef1
import Derived.StillTactics
namespace Go.Proofs.YtjbpipbmcicjiaaGreatDoor
open Go.RowKit Go.Shelf

theorem wds_all (s : ByteArray) (m : Nat) (h : s.size ≤ 4 * m) : Nt.le 4294967296 (Nt.wds (Nt.V s) m) = Nt.V s := by
  rw [Nt.le_lw, Nt.lw_wds, Nt.pow32]
  exact Nat.mod_eq_of_lt (Nat.lt_of_lt_of_le (Nt.V_lt s) (Nat.pow_le_pow_right (by omega) h))

set_option maxRecDepth 100000 in
set_option maxHeartbeats 4000000 in
theorem natMul_any (a b : ByteArray) (w : World) (ha : a.size ≤ 100000) (hb : b.size ≤ 100000) :
    Calls Tryz.prog 92 #[.string a, .string b] w fun e w' => e = .returned (.string (Nt.E (Nt.V a * Nt.V b))) ∧ Below w.heap.size w w' := by
  have HTA := Lib.hid (fun w => natTrim_any a w)
  have HTB := Lib.hid (fun w => natTrim_any b w)
  have hts := Nt.E_size_V a
  have hus := Nt.E_size_V b
  have hVt : Nt.V (Nt.E (Nt.V a)) = Nt.V a := Nt.V_E _
  have hVu : Nt.V (Nt.E (Nt.V b)) = Nt.V b := Nt.V_E _
  generalize Nt.E (Nt.V a) = t at *
  generalize Nt.E (Nt.V b) = u at *
  obtain ⟨n, hn⟩ : ∃ n, n = (t.size + 3) / 4 := ⟨_, rfl⟩
  obtain ⟨m, hm⟩ : ∃ m, m = (u.size + 3) / 4 := ⟨_, rfl⟩
  have hwt := fun w => natWords_any t n w (by omega) hn
  have hwu := fun w => natWords_any u m w (by omega) hm
  simp only [hVt] at hwt
  simp only [hVu] at hwu
  have HWT := Lib.hid hwt
  have HWU := Lib.hid hwu
  clear hwt hwu
  have hn1 : n ≤ 30000 := by omega
  have hm1 : m ≤ 30000 := by omega
  have hxs := wds_all t n (by omega)
  have hys := wds_all u m (by omega)
  have hxl := Nt.wds_length (Nt.V a) n
  have hyl := Nt.wds_length (Nt.V b) m
  have hxb := Nt.wds_lt (Nt.V a) n
  have hyb := Nt.wds_lt (Nt.V b) m
  rw [hVt] at hxs
  rw [hVu] at hys
  generalize Nt.wds (Nt.V a) n = xs at *
  generalize Nt.wds (Nt.V b) m = ys at *
  have hend : Hid (∀ ls, Nt.MulOut 4294967296 xs ys xs.length ls → Nt.V ⟨((Nt.digs (Nt.lw ls) (4 * (n + m))).map UInt8.ofNat).toArray⟩ = Nt.V a * Nt.V b) := fun ls h => by
    have h1 := Nt.mul_end h
    rw [Nt.le_lw, hxs, hys] at h1
    rw [← h1]
    refine Nt.V_digs_lt ?_
    have h2 := Nt.lw_lt ls h.lt
    rw [h.len, hxl, hyl, Nt.pow32] at h2
    exact h2
  have HXL := Lib.hid hxl
  have HYL := Lib.hid hyl
  have HXB := Lib.hid hxb
  have HYB := Lib.hid hyb
  have hmk := fun W => run_zeros (P := Tryz.prog) 85 84 .u32 4 Tryz.underlying85 Tryz.infoU32 (n + m) (by omega) (by omega) W
  have e1 : ((n : Int) + (m : Int)) = ((n + m : Nat) : Int) := by omega
  rw [← e1] at hmk
  clear e1 hn hm hVt hVu hxs hys hxl hyl hxb hyb hts hus
  go_enter Tryz.func92, Tryz.ntmps92
  go_wp2_with (first
    | (go_at_call_of 57 a; refine (HTA.out _).mono ?_; rintro e w1 ⟨rfl, rfl⟩)
    | (go_at_call_of 57 b; refine (HTB.out _).mono ?_; rintro e w1 ⟨rfl, rfl⟩)
    | (go_at_call_of 129 t; refine (HWT.out _).mono ?_; rintro e w1 ⟨rfl, hk1, hb1⟩; have HK1 := Lib.hid hk1; clear hk1)
    | (go_at_call_of 129 u; refine (HWU.out _).mono ?_; rintro e w2 ⟨rfl, hk2, hb2⟩; have HK2 := Lib.hid hk2; clear hk2))
  have hX : w.heap.size < w1.heap.size := HK1.out.lt
  have hY : w1.heap.size < w2.heap.size := HK2.out.lt
  have hB2 : Below w.heap.size w w2 := hb1.trans (hb2.mono hb1.size)
  have kX : Blk w2 w.heap.size 84 (kV .u32 xs) := HK1.out.below hb2 hX
  have m0 : Blk (w2.alloc (.cells (kV .u32 (List.replicate (n + m) 0)) 84)) w2.heap.size 84 (kV .u32 (List.replicate (n + m) 0)) := Blk.new _ _ _
  have hB3 := hB2.alloc hB2.size (.cells (kV .u32 (List.replicate (n + m) 0)) 84)
  have kX3 := kX.alloc (.cells (kV .u32 (List.replicate (n + m) 0)) 84)
  have kY3 := HK2.out.alloc (.cells (kV .u32 (List.replicate (n + m) 0)) 84)
  have hst := Nt.mul_start 4294967296 (by omega) xs ys
  rw [HXL.out, HYL.out] at hst
  have hZ : w.heap.size ≤ w2.heap.size := by omega
  have M0 := Lib.hid m0
  have B3 := Lib.hid hB3
  have X3 := Lib.hid kX3
  have Y3 := Lib.hid kY3
  have ST := Lib.hid hst
  clear hb1 hb2 hB2 kX m0 hB3 kX3 kY3 hst
  go_loopw [27] (fun i wr => ∃ (k : Nat) (ls : List Nat), k ≤ n ∧ i = .int .i64 k ∧ Nt.MulOut 4294967296 xs ys k ls ∧ Blk wr w2.heap.size 84 (kV .u32 ls) ∧ Blk wr w.heap.size 84 (kV .u32 xs) ∧ Blk wr w1.heap.size 84 (kV .u32 ys) ∧ Below w.heap.size w wr) (fun i _ => n - (intOf i).toNat)
  case atStart => exact ⟨0, _, by omega, rfl, ST.out, M0.out, X3.out, Y3.out, B3.out⟩
  case round =>
    obtain ⟨k, ls, hk, rfl, hM, hZb, hXb, hYb, hW⟩ := hrel
    by_cases hlt : k < n
    · have hkx : k < xs.length := by have := HXL.out; omega
      have cX : wr.cell? ⟨w.heap.size, k, none⟩ = some (.int .u32 ((xs[k]'hkx : Nat) : Int)) := (hXb.cell _).trans (kV_get_lt _ _ _ hkx)
      have hd := HXB.out _ (List.getElem_mem hkx)
      obtain ⟨d, hdq⟩ : ∃ d, d = xs[k]'hkx := ⟨_, rfl⟩
      rw [← hdq] at cX hd
      have hin := Nt.mul_in (by omega) d hM
      have HDQ := Lib.hid hdq
      have HIN := Lib.hid hin
      have HZb := Lib.hid hZb
      have HXb := Lib.hid hXb
      have HYb := Lib.hid hYb
      have HW := Lib.hid hW
      clear hdq hin hM hZb hXb hYb hW
      go_wp2
      obtain ⟨wo, rfl⟩ : ∃ wo, wo = wr := ⟨_, rfl⟩
      go_loopw [10, 34] (fun c j wr => ∃ (q cc : Nat) (ls : List Nat), q ≤ m ∧ j = .int .i64 q ∧ c = .int .u64 (cc : Int) ∧ Nt.MulIn 4294967296 xs ys k d q cc ls ∧ Blk wr w2.heap.size 84 (kV .u32 ls) ∧ Blk wr w.heap.size 84 (kV .u32 xs) ∧ Blk wr w1.heap.size 84 (kV .u32 ys) ∧ Below w.heap.size w wr) (fun _ j _ => m - (intOf j).toNat)
      case atStart => exact ⟨0, 0, _, by omega, rfl, rfl, HIN.out, HZb.out, HXb.out, HYb.out, HW.out⟩
      case round =>
        obtain ⟨q, cc, ls', hq, rfl, rfl, hM, hZb, hXb, hYb, hW⟩ := hrel
        have hcc := hM.cb
        by_cases hqm : q < m
        · have hqy : q < ys.length := by have := HYL.out; omega
          have hkq : k + q < ls'.length := by have := hM.len; have := HXL.out; have := HYL.out; omega
          have he := HYB.out _ (List.getElem_mem hqy)
          have hl := hM.lt _ (List.getElem_mem hkq)
          have cY : wr.cell? ⟨w1.heap.size, q, none⟩ = some (.int .u32 ((ys[q]'hqy : Nat) : Int)) := (hYb.cell _).trans (kV_get_lt _ _ _ hqy)
          have cZ : wr.cell? ⟨w2.heap.size, k + q, none⟩ = some (.int .u32 ((ls'[k + q]'hkq : Nat) : Int)) := (hZb.cell _).trans (kV_get_lt _ _ _ hkq)
          have fZ : wr.frozen? ⟨w2.heap.size, k + q, none⟩ = false := hZb.frozen _
          have hsum := Nt.mul_sum hd he hl hcc
          have hstep := fun t ht => Nt.mul_step (t := t) hM hd hkx hqy he ht
          generalize ys[q]'hqy = e at he cY hsum hstep
          generalize ls'[k + q]'hkq = l at hl cZ hsum hstep
          obtain ⟨P, hP⟩ : ∃ P, P = d * e := ⟨_, rfl⟩
          rw [← hP] at hsum hstep
          have hPI : (d : Int) * (e : Int) = (P : Int) := by rw [hP]; simp
          have HS := Lib.hid (hstep _ rfl)
          have HZ2 := Lib.hid hZb
          have HX2 := Lib.hid hXb
          have HY2 := Lib.hid hYb
          have HW2 := Lib.hid hW
          clear hP hstep hM hZb hXb hYb hW
          simp only [Nat.reduceMul] at hsum
          have q1 : ((cc : Int) + ((P : Int) + (l : Int))) / 4294967296 = (((P + l + cc) / 4294967296 : Nat) : Int) := by omega
          have q2 : ((cc : Int) + ((P : Int) + (l : Int))) % 4294967296 = (((P + l + cc) % 4294967296 : Nat) : Int) := by omega
          have Q1 := Lib.hid q1
          have Q2 := Lib.hid q2
          clear q1 q2
          go_wp2
          rw [Q1.out, Q2.out]
          refine ⟨⟨q + 1, _, _, by omega, by go_num, rfl, HS.out, ?_, HX2.out.far (by simp; omega) _, HY2.out.far (by simp; omega) _, HW2.out.setCell (p := ⟨w2.heap.size, k + q, none⟩) hZ _⟩, by simp [intOf]; omega⟩
          rw [← kV_set]
          exact HZ2.out.put _ _
        · obtain rfl : q = m := by omega
          have hkq : k + q < ls'.length := by have := hM.len; have := HXL.out; have := HYL.out; omega
          have cZ : wr.cell? ⟨w2.heap.size, k + q, none⟩ = some (.int .u32 ((ls'[k + q]'hkq : Nat) : Int)) := (hZb.cell _).trans (kV_get_lt _ _ _ hkq)
          have fZ : wr.frozen? ⟨w2.heap.size, k + q, none⟩ = false := hZb.frozen _
          have hout : Nt.MulOut 4294967296 xs ys (k + 1) (ls'.set (k + q) cc) := by
            have hM' := hM
            rw [← HYL.out] at hM' ⊢
            exact Nt.mul_out hM' hkx HDQ.out
          have HS := Lib.hid hout
          have HZ2 := Lib.hid hZb
          have HX2 := Lib.hid hXb
          have HY2 := Lib.hid hYb
          have HW2 := Lib.hid hW
          clear hout hM hZb hXb hYb hW
          go_wp2
          refine ⟨⟨k + 1, _, by omega, by go_num, HS.out, ?_, HX2.out.far (by simp; omega) _, HY2.out.far (by simp; omega) _, HW2.out.setCell (p := ⟨w2.heap.size, k + q, none⟩) hZ _⟩, by simp [intOf]; omega⟩
          rw [← kV_set]
          exact HZ2.out.put _ _
    · obtain rfl : k = n := by omega
      have hM2 := hM
      rw [← HXL.out] at hM2
      have hV := Lib.hid (hend.out ls hM2)
      have hT := Lib.hid (natText_any w2.heap.size (k + m) (k + m) ls wr (by have := hM.len; have := HXL.out; have := HYL.out; omega) (by omega) hM.lt hZb)
      clear hM hM2 hZb hXb hYb
      have HW := Lib.hid hW
      clear hW
      go_wp2_with (first
        | (go_at_call 95; refine hT.out.mono ?_; rintro e w3 ⟨rfl, hb3⟩)
        | (go_at_call 57; refine (natTrim_any _ _).mono ?_; rintro e w4 ⟨rfl, rfl⟩))
      go_ret
      exact ⟨ret_str (by rw [hV.out]), HW.out.trans (hb3.mono HW.out.size)⟩
end Go.Proofs.YtjbpipbmcicjiaaGreatDoor
namespace Go.Proofs.YtjbpipbmcicjiaaGreatDoor
open Go.RowKit Go.Shelf

theorem low_le (n k : Nat) (h : n < 256 ^ k) : Nt.le 256 (Nt.low n k) = n := by
  rw [Nt.le_lb, Nt.lb_low]; exact Nat.mod_eq_of_lt h
theorem low_get (n k i : Nat) (h : i < (Nt.low n k).length) : (Nt.low n k)[i] = Nt.dig n i := by simp [Nt.low]

set_option maxRecDepth 100000 in
set_option maxHeartbeats 4000000 in
theorem refMul_any (a b : ByteArray) (w : World) (ha : a.size ≤ 100000) (hb : b.size ≤ 100000) :
    Calls Tryz.prog 104 #[.string a, .string b] w fun e w' => e = .returned (.string (Nt.E (Nt.V a * Nt.V b))) ∧ Below w.heap.size w w' := by
  have ham : a.size ≤ maxLen := by unfold maxLen; omega
  have hbm : b.size ≤ maxLen := by unfold maxLen; omega
  obtain ⟨n, hn⟩ : ∃ n, n = a.size := ⟨_, rfl⟩
  obtain ⟨m, hm⟩ : ∃ m, m = b.size := ⟨_, rfl⟩
  have hxs := low_le (Nt.V a) n (by rw [hn]; exact Nt.V_lt a)
  have hys := low_le (Nt.V b) m (by rw [hm]; exact Nt.V_lt b)
  have hxl := Nt.low_length (Nt.V a) n
  have hyl := Nt.low_length (Nt.V b) m
  have hxg := low_get (Nt.V a) n
  have hyg := low_get (Nt.V b) m
  have hxb := Nt.low_lt (Nt.V a) n
  have hyb := Nt.low_lt (Nt.V b) m
  generalize Nt.low (Nt.V a) n = xs at *
  generalize Nt.low (Nt.V b) m = ys at *
  have hend : Hid (∀ ls, Nt.MulOut 256 xs ys xs.length ls → Nt.lb ls = Nt.V a * Nt.V b) := fun ls h => by
    have h1 := Nt.mul_end h
    rwa [Nt.le_lb, hxs, hys] at h1
  have HXL := Lib.hid hxl
  have HYL := Lib.hid hyl
  have HXB := Lib.hid hxb
  have HYB := Lib.hid hyb
  have HXG := Lib.hid hxg
  have HYG := Lib.hid hyg
  have HAT := Lib.hid (fun i W => refAt_any a i W ham)
  have HBT := Lib.hid (fun i W => (refAt_any b i W hbm).mono fun _ _ hh => (show _ ∧ _ from ⟨hh.1, hh.2.symm⟩))
  have hn1 : n ≤ 100000 := by omega
  have hm1 : m ≤ 100000 := by omega
  have hna : a.size ≤ n := by omega
  have hna' : n ≤ a.size := by omega
  have hmb : b.size ≤ m := by omega
  have hmb' : m ≤ b.size := by omega
  have hmk := fun W => run_zeros (P := Tryz.prog) 118 3 .i64 8 Tryz.underlying118 Tryz.infoInt (n + m) (by omega) (by omega) W
  have e1 : ((a.size : Int) + (b.size : Int)) = ((n + m : Nat) : Int) := by omega
  rw [← e1] at hmk
  have hst := Nt.mul_start 256 (by omega) xs ys
  rw [hxl, hyl] at hst
  have ST := Lib.hid hst
  clear e1 hn hm hxs hys hxl hyl hxb hyb hxg hyg hst ha hb
  go_enter Tryz.func104, Tryz.ntmps104
  go_wp2
  go_loopw [6] (fun i wr => ∃ (k : Nat) (ls : List Nat), k ≤ n ∧ i = .int .i64 k ∧ Nt.MulOut 256 xs ys k ls ∧ Blk wr w.heap.size 3 (kV .i64 ls) ∧ Below w.heap.size w wr) (fun i _ => n - (intOf i).toNat)
  case atStart => exact ⟨0, _, by omega, rfl, ST.out, Blk.new _ _ _, (Below.refl _ _).alloc (Nat.le_refl _) _⟩
  case round =>
    obtain ⟨k, ls, hk, rfl, hM, hZb, hW⟩ := hrel
    by_cases hlt : k < n
    · have hkx : k < xs.length := by have := HXL.out; omega
      have hka : k < a.size := by omega
      have hd := HXB.out _ (List.getElem_mem hkx)
      obtain ⟨d, hdq⟩ : ∃ d, d = xs[k]'hkx := ⟨_, rfl⟩
      rw [← hdq] at hd
      have hat := HAT.out k
      have hdd : Nt.dig (Nt.V a) k = d := by rw [hdq]; exact (HXG.out k hkx).symm
      simp only [hdd] at hat
      have HA1 := Lib.hid hat
      have hin := Nt.mul_in (by omega) d hM
      have HDQ := Lib.hid hdq
      have HIN := Lib.hid hin
      have HZb := Lib.hid hZb
      have HW := Lib.hid hW
      clear hdq hin hM hZb hW hat hdd
      go_wp2_with (go_at_call 144; refine (HA1.out _).mono ?_; rintro e w1 ⟨rfl, rfl⟩)
      obtain ⟨wo, rfl⟩ : ∃ wo, wo = wr := ⟨_, rfl⟩
      go_loopw [7, 9] (fun c j wr => ∃ (q cc : Nat) (ls : List Nat), q ≤ m ∧ j = .int .i64 q ∧ c = .int .i64 (cc : Int) ∧ Nt.MulIn 256 xs ys k d q cc ls ∧ Blk wr w.heap.size 3 (kV .i64 ls) ∧ Below w.heap.size w wr) (fun _ j _ => m - (intOf j).toNat)
      case atStart => exact ⟨0, 0, _, by omega, rfl, rfl, HIN.out, HZb.out, HW.out⟩
      case round =>
        obtain ⟨q, cc, ls', hq, rfl, rfl, hM, hZb, hW⟩ := hrel
        have hcc := hM.cb
        by_cases hqm : q < m
        · have hqy : q < ys.length := by have := HYL.out; omega
          have hqb : q < b.size := by omega
          have hkq : k + q < ls'.length := by have := hM.len; have := HXL.out; have := HYL.out; omega
          have he := HYB.out _ (List.getElem_mem hqy)
          have hl := hM.lt _ (List.getElem_mem hkq)
          have cZ : wr.cell? ⟨w.heap.size, k + q, none⟩ = some (.int .i64 ((ls'[k + q]'hkq : Nat) : Int)) := (hZb.cell _).trans (kV_get_lt _ _ _ hkq)
          have fZ : wr.frozen? ⟨w.heap.size, k + q, none⟩ = false := hZb.frozen _
          have hsum := Nt.mul_sum hd he hl hcc
          have hstep := fun t ht => Nt.mul_step (t := t) hM hd hkx hqy he ht
          have hbt := HBT.out q
          have hee : Nt.dig (Nt.V b) q = ys[q]'hqy := (HYG.out q hqy).symm
          simp only [hee] at hbt
          clear hee
          have HB1 := Lib.hid hbt
          clear hbt
          generalize ys[q]'hqy = e at he hsum hstep HB1
          generalize ls'[k + q]'hkq = l at hl cZ hsum hstep
          obtain ⟨P, hP⟩ : ∃ P, P = d * e := ⟨_, rfl⟩
          rw [← hP] at hsum hstep
          have hPI : (d : Int) * (e : Int) = (P : Int) := by rw [hP]; simp
          have HS := Lib.hid (hstep _ rfl)
          have HZ2 := Lib.hid hZb
          have HW2 := Lib.hid hW
          clear hP hstep hM hZb hW
          simp only [Nat.reduceMul] at hsum
          have g1 : IntKind.i64.wrap ((k : Int) + (q : Int)) = (k : Int) + (q : Int) := IntWalk.i64_in _ (by omega)
          have g7 : (k : Int) + (q : Int) < (n : Int) + (m : Int) := by omega
          have g2 : IntKind.i64.wrap (P : Int) = (P : Int) := IntWalk.i64_in _ (by omega)
          have g3 : IntKind.i64.wrap ((l : Int) + (P : Int)) = (l : Int) + (P : Int) := IntWalk.i64_in _ (by omega)
          have g4 : IntKind.i64.wrap ((l : Int) + (P : Int) + (cc : Int)) = (l : Int) + (P : Int) + (cc : Int) := IntWalk.i64_in _ (by omega)
          have g5 : (0 : Int) ≤ (k : Int) + (q : Int) := by omega
          have g6 : ((k : Int) + (q : Int)).toNat = k + q := by omega
          have hmx : Tryz.prog.follows .mixedOrders = true := by kernel_rfl
          go_wp2
          refine wp_region_still_lit hmx (by kernel_rfl) ?_
          repeat still_step
          still_call (HB1.out _)
          repeat still_step
          refine wpStill_nil ?_
          change Exit.then _ _ _ _ (World.drew _)
          have hand := and_255i (P + l + cc) (by omega)
          rw [show ((P + l + cc : Nat) : Int) = (l : Int) + (P : Int) + (cc : Int) from by omega] at hand
          obtain ⟨z, hz⟩ : ∃ z, z = (P + l + cc) % 256 := ⟨_, rfl⟩
          rw [← hz] at hand
          have hz256 : z < 256 := by omega
          have Q2 := Lib.hid hz
          have Q1 := Lib.hid (show ((l : Int) + (P : Int) + (cc : Int)) / 256 = (((P + l + cc) / 256 : Nat) : Int) by omega)
          clear hz
          go_wp2
          rw [Q1.out]
          refine ⟨⟨q + 1, _, _, by omega, by go_num, rfl, HS.out, ?_, (HW2.out.setCell (p := ⟨w.heap.size, k + q, none⟩) (Nat.le_refl _) _).drew⟩, by simp [intOf]; omega⟩
          rw [← kV_set, ← Q2.out]
          exact (HZ2.out.put _ _).drew
        · obtain rfl : q = m := by omega
          have hkq : k + q < ls'.length := by have := hM.len; have := HXL.out; have := HYL.out; omega
          have cZ : wr.cell? ⟨w.heap.size, k + q, none⟩ = some (.int .i64 ((ls'[k + q]'hkq : Nat) : Int)) := (hZb.cell _).trans (kV_get_lt _ _ _ hkq)
          have fZ : wr.frozen? ⟨w.heap.size, k + q, none⟩ = false := hZb.frozen _
          have hout : Nt.MulOut 256 xs ys (k + 1) (ls'.set (k + q) cc) := by
            have hM' := hM
            rw [← HYL.out] at hM' ⊢
            exact Nt.mul_out hM' hkx HDQ.out
          have HS := Lib.hid hout
          have HZ2 := Lib.hid hZb
          have HW2 := Lib.hid hW
          have hbe : b.size = q := by omega
          have HBE := Lib.hid hbe
          have g1 : (k : Int) + (b.size : Int) = (k : Int) + (q : Int) := by omega
          have g5 : (0 : Int) ≤ (k : Int) + (q : Int) := by omega
          have g6 : ((k : Int) + (q : Int)).toNat = k + q := by omega
          have g7 : (k : Int) + (q : Int) < (n : Int) + (q : Int) := by omega
          clear hout hM hZb hW hbe
          go_wp2
          refine ⟨⟨k + 1, _, by omega, by go_num, HS.out, ?_, HW2.out.setCell (p := ⟨w.heap.size, k + q, none⟩) (Nat.le_refl _) _⟩, by simp [intOf]; omega⟩
          rw [← kV_set]
          exact HZ2.out.put _ _
    · obtain rfl : k = n := by omega
      have hM2 := hM
      rw [← HXL.out] at hM2
      have hV := Lib.hid (hend.out ls hM2)
      have hT := Lib.hid (refTurned_some w.heap.size (k + m) (k + m) ls wr (by have := hM.len; have := HXL.out; have := HYL.out; omega) (by omega) hM.lt hZb.lt (fun j hj => (hZb.cell j).trans (kV_get_lt _ _ _ hj)))
      clear hM hM2 hZb
      have HW := Lib.hid hW
      clear hW
      go_wp2_with (go_at_call 145; refine hT.out.mono ?_; rintro e w3 ⟨rfl, hb3⟩)
      go_ret
      exact ⟨ret_str (by rw [hV.out]), HW.out.trans (hb3.mono HW.out.size)⟩
end Go.Proofs.YtjbpipbmcicjiaaGreatDoor
