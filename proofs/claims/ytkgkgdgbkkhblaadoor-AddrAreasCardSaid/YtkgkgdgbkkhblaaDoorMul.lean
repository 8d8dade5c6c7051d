/-
  PRODUCTS IN THE PROGRAM.
  PRODUCTS IN THE DOCUMENT'S ANSWER.
  LAYER 1's STATEMENTS, WALKED: each returns true, and nothing that lay has turned.
  LAYER 1's THIRD STATEMENT, WALKED.
  THE DOCUMENT'S ANSWER FOR DIVISIONS: digit, DivMod, Mod, Div, Gcd.
  THE DOCUMENT'S ANSWER FOR DIVISIONS: DivMod, Mod, Div, Gcd.
  THE DOCUMENT'S ANSWER: Gcd.
  THE DOCUMENT'S ANSWER: Pow.
  POWERS IN THE PROGRAM: bits.Len of small ones, Pow.
  POWERS IN THE PROGRAM: Pow.
  THE DOCUMENT'S ANSWERS: Shl, Shr.
  THE DOCUMENT'S ANSWERS: Shl.
  THE DOCUMENT'S ANSWER: Root.
  THE PROGRAM: Shr.
-/
import Derived.Test.YtkgkgdgbkkhblaaDoorMath
import Derived.StillTactics
import Derived.OwnWalk
namespace Go.Proofs.YtkgkgdgbkkhblaaDoor
set_option linter.unusedSimpArgs false
set_option linter.unusedVariables false
open Go.RowKit Go.Shelf

end Go.Proofs.YtkgkgdgbkkhblaaDoor
namespace Go.Proofs.YtkgkgdgbkkhblaaDoor
open Go.RowKit Go.Shelf

theorem low_le (n k : Nat) (h : n < 256 ^ k) : Nt.le 256 (Nt.low n k) = n := by
  rw [Nt.le_lb, Nt.lb_low]; exact Nat.mod_eq_of_lt h
theorem low_get (n k i : Nat) (h : i < (Nt.low n k).length) : (Nt.low n k)[i] = Nt.dig n i := by simp [Nt.low]

set_option maxRecDepth 100000 in
set_option maxHeartbeats 4000000 in
theorem refMul_any (a b : ByteArray) (w : World) (ha : a.size ≤ 100000) (hb : b.size ≤ 100000) :
    Calls Tryd.prog 87 #[.string a, .string b] w fun e w' => e = .returned (.string (Nt.E (Nt.V a * Nt.V b))) ∧ Below w.heap.size w w' := by
  have ham : a.size ≤ maxLen := by unfold maxLen; omega
  have hbm : b.size ≤ maxLen := by unfold maxLen; omega
  obtain ⟨n, hn⟩ : ∃ n, n = a.size := ⟨_, rfl⟩
  obtain ⟨m, hm⟩ : ∃ m, m = b.size := ⟨_, rfl⟩
  have hxs := low_le (Nt.V a) n (by rw [hn]; exact Nt.V_lt a)
  have hys := low_le (Nt.V b) m (by rw [hm]; exact Nt.V_lt b)
  have hxl := Nt.low_length (Nt.V a) n
  have hyl := Nt.low_length (Nt.V b) m
  have hxg := low_get (Nt.V a) n
  have hyg := low_get (Nt.V b) m
  have hxb := Nt.low_lt (Nt.V a) n
  have hyb := Nt.low_lt (Nt.V b) m
  generalize Nt.low (Nt.V a) n = xs at *
  generalize Nt.low (Nt.V b) m = ys at *
  have hend : Hid (∀ ls, Nt.MulOut 256 xs ys xs.length ls → Nt.lb ls = Nt.V a * Nt.V b) := fun ls h => by
    have h1 := Nt.mul_end h
    rwa [Nt.le_lb, hxs, hys] at h1
  have HXL := Lib.hid hxl
  have HYL := Lib.hid hyl
  have HXB := Lib.hid hxb
  have HYB := Lib.hid hyb
  have HXG := Lib.hid hxg
  have HYG := Lib.hid hyg
  have HAT := Lib.hid (fun i W => refAt_any a i W ham)
  have HBT := Lib.hid (fun i W => (refAt_any b i W hbm).mono fun _ _ hh => (show _ ∧ _ from ⟨hh.1, hh.2.symm⟩))
  have hn1 : n ≤ 100000 := by omega
  have hm1 : m ≤ 100000 := by omega
  have hna : a.size ≤ n := by omega
  have hna' : n ≤ a.size := by omega
  have hmb : b.size ≤ m := by omega
  have hmb' : m ≤ b.size := by omega
  have hmk := fun W => run_zeros (P := Tryd.prog) 118 3 .i64 8 Tryd.underlying118 Tryd.infoInt (n + m) (by omega) (by omega) W
  have e1 : ((a.size : Int) + (b.size : Int)) = ((n + m : Nat) : Int) := by omega
  rw [← e1] at hmk
  have hst := Nt.mul_start 256 (by omega) xs ys
  rw [hxl, hyl] at hst
  have ST := Lib.hid hst
  clear e1 hn hm hxs hys hxl hyl hxb hyb hxg hyg hst ha hb
  go_enter Tryd.func87, Tryd.ntmps87
  go_wp2
  go_loopw [6] (fun i wr => ∃ (k : Nat) (ls : List Nat), k ≤ n ∧ i = .int .i64 k ∧ Nt.MulOut 256 xs ys k ls ∧ Blk wr w.heap.size 3 (kV .i64 ls) ∧ Below w.heap.size w wr) (fun i _ => n - (intOf i).toNat)
  case atStart => exact ⟨0, _, by omega, rfl, ST.out, Blk.new _ _ _, (Below.refl _ _).alloc (Nat.le_refl _) _⟩
  case round =>
    obtain ⟨k, ls, hk, rfl, hM, hZb, hW⟩ := hrel
    by_cases hlt : k < n
    · have hkx : k < xs.length := by have := HXL.out; omega
      have hka : k < a.size := by omega
      have hd := HXB.out _ (List.getElem_mem hkx)
      obtain ⟨d, hdq⟩ : ∃ d, d = xs[k]'hkx := ⟨_, rfl⟩
      rw [← hdq] at hd
      have hat := HAT.out k
      have hdd : Nt.dig (Nt.V a) k = d := by rw [hdq]; exact (HXG.out k hkx).symm
      simp only [hdd] at hat
      have HA1 := Lib.hid hat
      have hin := Nt.mul_in (by omega) d hM
      have HDQ := Lib.hid hdq
      have HIN := Lib.hid hin
      have HZb := Lib.hid hZb
      have HW := Lib.hid hW
      clear hdq hin hM hZb hW hat hdd
      go_wp2_with (go_at_call 92; refine (HA1.out _).mono ?_; rintro e w1 ⟨rfl, rfl⟩)
      obtain ⟨wo, rfl⟩ : ∃ wo, wo = wr := ⟨_, rfl⟩
      go_loopw [7, 9] (fun c j wr => ∃ (q cc : Nat) (ls : List Nat), q ≤ m ∧ j = .int .i64 q ∧ c = .int .i64 (cc : Int) ∧ Nt.MulIn 256 xs ys k d q cc ls ∧ Blk wr w.heap.size 3 (kV .i64 ls) ∧ Below w.heap.size w wr) (fun _ j _ => m - (intOf j).toNat)
      case atStart => exact ⟨0, 0, _, by omega, rfl, rfl, HIN.out, HZb.out, HW.out⟩
      case round =>
        obtain ⟨q, cc, ls', hq, rfl, rfl, hM, hZb, hW⟩ := hrel
        have hcc := hM.cb
        by_cases hqm : q < m
        · have hqy : q < ys.length := by have := HYL.out; omega
          have hqb : q < b.size := by omega
          have hkq : k + q < ls'.length := by have := hM.len; have := HXL.out; have := HYL.out; omega
          have he := HYB.out _ (List.getElem_mem hqy)
          have hl := hM.lt _ (List.getElem_mem hkq)
          have cZ : wr.cell? ⟨w.heap.size, k + q, none⟩ = some (.int .i64 ((ls'[k + q]'hkq : Nat) : Int)) := (hZb.cell _).trans (kV_get_lt _ _ _ hkq)
          have fZ : wr.frozen? ⟨w.heap.size, k + q, none⟩ = false := hZb.frozen _
          have hsum := Nt.mul_sum hd he hl hcc
          have hstep := fun t ht => Nt.mul_step (t := t) hM hd hkx hqy he ht
          have hbt := HBT.out q
          have hee : Nt.dig (Nt.V b) q = ys[q]'hqy := (HYG.out q hqy).symm
          simp only [hee] at hbt
          clear hee
          have HB1 := Lib.hid hbt
          clear hbt
          generalize ys[q]'hqy = e at he hsum hstep HB1
          generalize ls'[k + q]'hkq = l at hl cZ hsum hstep
          obtain ⟨P, hP⟩ : ∃ P, P = d * e := ⟨_, rfl⟩
          rw [← hP] at hsum hstep
          have hPI : (d : Int) * (e : Int) = (P : Int) := by rw [hP]; simp
          have HS := Lib.hid (hstep _ rfl)
          have HZ2 := Lib.hid hZb
          have HW2 := Lib.hid hW
          clear hP hstep hM hZb hW
          simp only [Nat.reduceMul] at hsum
          have g1 : IntKind.i64.wrap ((k : Int) + (q : Int)) = (k : Int) + (q : Int) := IntWalk.i64_in _ (by omega)
          have g7 : (k : Int) + (q : Int) < (n : Int) + (m : Int) := by omega
          have g2 : IntKind.i64.wrap (P : Int) = (P : Int) := IntWalk.i64_in _ (by omega)
          have g3 : IntKind.i64.wrap ((l : Int) + (P : Int)) = (l : Int) + (P : Int) := IntWalk.i64_in _ (by omega)
          have g4 : IntKind.i64.wrap ((l : Int) + (P : Int) + (cc : Int)) = (l : Int) + (P : Int) + (cc : Int) := IntWalk.i64_in _ (by omega)
          have g5 : (0 : Int) ≤ (k : Int) + (q : Int) := by omega
          have g6 : ((k : Int) + (q : Int)).toNat = k + q := by omega
          have hmx : Tryd.prog.follows .mixedOrders = true := by kernel_rfl
          go_wp2
          refine wp_region_still_lit hmx (by kernel_rfl) ?_
          repeat still_step
          still_call (HB1.out _)
          repeat still_step
          refine wpStill_nil ?_
          change Exit.then _ _ _ _ (World.drew _)
          have hand := and_255i (P + l + cc) (by omega)
          rw [show ((P + l + cc : Nat) : Int) = (l : Int) + (P : Int) + (cc : Int) from by omega] at hand
          obtain ⟨z, hz⟩ : ∃ z, z = (P + l + cc) % 256 := ⟨_, rfl⟩
          rw [← hz] at hand
          have hz256 : z < 256 := by omega
          have Q2 := Lib.hid hz
          have Q1 := Lib.hid (show ((l : Int) + (P : Int) + (cc : Int)) / 256 = (((P + l + cc) / 256 : Nat) : Int) by omega)
          clear hz
          go_wp2
          rw [Q1.out]
          refine ⟨⟨q + 1, _, _, by omega, by go_num, rfl, HS.out, ?_, (HW2.out.setCell (p := ⟨w.heap.size, k + q, none⟩) (Nat.le_refl _) _).drew⟩, by simp [intOf]; omega⟩
          rw [← kV_set, ← Q2.out]
          exact (HZ2.out.put _ _).drew
        · obtain rfl : q = m := by omega
          have hkq : k + q < ls'.length := by have := hM.len; have := HXL.out; have := HYL.out; omega
          have cZ : wr.cell? ⟨w.heap.size, k + q, none⟩ = some (.int .i64 ((ls'[k + q]'hkq : Nat) : Int)) := (hZb.cell _).trans (kV_get_lt _ _ _ hkq)
          have fZ : wr.frozen? ⟨w.heap.size, k + q, none⟩ = false := hZb.frozen _
          have hout : Nt.MulOut 256 xs ys (k + 1) (ls'.set (k + q) cc) := by
            have hM' := hM
            rw [← HYL.out] at hM' ⊢
            exact Nt.mul_out hM' hkx HDQ.out
          have HS := Lib.hid hout
          have HZ2 := Lib.hid hZb
          have HW2 := Lib.hid hW
          have hbe : b.size = q := by omega
          have HBE := Lib.hid hbe
          have g1 : (k : Int) + (b.size : Int) = (k : Int) + (q : Int) := by omega
          have g5 : (0 : Int) ≤ (k : Int) + (q : Int) := by omega
          have g6 : ((k : Int) + (q : Int)).toNat = k + q := by omega
          have g7 : (k : Int) + (q : Int) < (n : Int) + (q : Int) := by omega
          clear hout hM hZb hW hbe
          go_wp2
          refine ⟨⟨k + 1, _, by omega, by go_num, HS.out, ?_, HW2.out.setCell (p := ⟨w.heap.size, k + q, none⟩) (Nat.le_refl _) _⟩, by simp [intOf]; omega⟩
          rw [← kV_set]
          exact HZ2.out.put _ _
    · obtain rfl : k = n := by omega
      have hM2 := hM
      rw [← HXL.out] at hM2
      have hV := Lib.hid (hend.out ls hM2)
      have hT := Lib.hid (refTurned_some w.heap.size (k + m) (k + m) ls wr (by have := hM.len; have := HXL.out; have := HYL.out; omega) (by omega) hM.lt hZb.lt (fun j hj => (hZb.cell j).trans (kV_get_lt _ _ _ hj)))
      clear hM hM2 hZb
      have HW := Lib.hid hW
      clear hW
      go_wp2_with (go_at_call 93; refine hT.out.mono ?_; rintro e w3 ⟨rfl, hb3⟩)
      go_ret
      exact ⟨ret_str (by rw [hV.out]), HW.out.trans (hb3.mono HW.out.size)⟩
end Go.Proofs.YtkgkgdgbkkhblaaDoor
namespace Go.Proofs.YtkgkgdgbkkhblaaDoor
open Go.RowKit Go.Shelf

theorem chain {P : Program} {f : FuncId} {args : Array Value} {w0 w : World} {r : Ending} (hB : Below w0.heap.size w0 w) (h : Calls P f args w fun e w' => e = r ∧ Below w.heap.size w w') :
    Calls P f args w fun e w' => e = r ∧ Below w0.heap.size w0 w' :=
  h.mono fun _ _ ⟨he, hb⟩ => ⟨he, hB.trans (hb.mono hB.size)⟩

end Go.Proofs.YtkgkgdgbkkhblaaDoor
namespace Go.Proofs.YtkgkgdgbkkhblaaDoor
open Go.RowKit Go.Shelf

end Go.Proofs.YtkgkgdgbkkhblaaDoor
namespace Go.Proofs.YtkgkgdgbkkhblaaDoor
open Go.RowKit Go.Shelf

theorem Nt.V_byte (p : Nat) (hp : p < 256) : Nt.V ⟨#[UInt8.ofNat p]⟩ = p := by
  show Nt.val [UInt8.ofNat p] = p
  rw [Nt.val_cons]
  simp [Nt.val_nil, UInt8.toNat_ofNat']
  omega
theorem Nt.E_size_le {n m : Nat} (h : n ≤ m) : (Nt.E n).size ≤ (Nt.E m).size := Nt.enc_length_mono h
theorem Nt.E_size_lt {n m : Nat} (h : n < 256 ^ m) : (Nt.E n).size ≤ m := Nt.enc_length_le h
theorem Nt.E_byte_size (d p : Nat) (hp : p < 256) : (Nt.E (d * p)).size ≤ (Nt.E d).size + 1 := Nt.E_size_lt (by
  have h1 := Nt.V_lt (Nt.E d)
  rw [Nt.V_E] at h1
  generalize (Nt.E d).size = k at *
  rw [Nat.pow_succ]
  exact Nat.mul_lt_mul'' h1 hp)
theorem ret_int_str {a b : Int} {x y : ByteArray} (h : a = b) (h' : x = y) : Ending.returned (.tuple #[.int .i64 a, .string x]) = .returned (.tuple #[.int .i64 b, .string y]) := by rw [h, h']
set_option maxRecDepth 100000 in
set_option maxHeartbeats 2000000 in
theorem refDigit_any (n d : Nat) (w : World) (hd : 0 < d) (hn : n < 256 * d) (hs : (Nt.E n).size ≤ 90000) (hds : (Nt.E d).size ≤ 90000) :
    Calls Tryd.prog 73 #[.string (Nt.E n), .string (Nt.E d)] w fun e w' => e = .returned (.tuple #[.int .i64 ((n / d : Nat) : Int), .string (Nt.E (n % d))]) ∧ Below w.heap.size w w' := by
  have HS := Lib.hid hs
  have HD := Lib.hid hds
  have hm := fun (p : Nat) (hp : p < 256) W => refMul_any (Nt.E d) ⟨#[UInt8.ofNat p]⟩ W (by omega) (by show 1 ≤ 100000; omega)
  simp only [Nt.V_E] at hm
  have HMul := Lib.hid (fun (p : Nat) (hp : p < 256) W => (by have h := hm p hp W; rw [Nt.V_byte p hp] at h; exact h : Calls Tryd.prog 87 #[.string (Nt.E d), .string ⟨#[UInt8.ofNat p]⟩] W fun e w' => e = .returned (.string (Nt.E (d * p))) ∧ Below W.heap.size W w'))
  have hEP : ∀ p, p < 256 → (Nt.E (d * p)).size ≤ 90001 := fun p hp => Nat.le_trans (Nt.E_byte_size d p hp) (by omega)
  have HEP := Lib.hid hEP
  have HCmp := Lib.hid (fun (m p : Nat) (hm : (Nt.E m).size ≤ 90000) (hp : (Nt.E p).size ≤ 90001) W => (by have h := refCmp_any (Nt.E m) (Nt.E p) W (by omega) (by omega); simp only [Nt.V_E] at h; exact h : Calls Tryd.prog 86 #[.string (Nt.E m), .string (Nt.E p)] W fun e w' => e = .returned (.int .i64 (Nt.cmpZ m p)) ∧ W = w'))
  have HSub := Lib.hid (fun (m p : Nat) (hm : (Nt.E m).size ≤ 90000) (hp : (Nt.E p).size ≤ 90001) W => (by have h := refSub_any (Nt.E m) (Nt.E p) W (by omega) (by omega); simp only [Nt.V_E] at h; exact h : Calls Tryd.prog 88 #[.string (Nt.E m), .string (Nt.E p)] W fun e w' => e = .returned (.string (Nt.E (m - p))) ∧ Below W.heap.size W w'))
  clear hm hEP
  have hc0 := HCmp.out n d HS.out (by have := HD.out; omega)
  have hs2 := Lib.hid (fun m (h : m ≤ n) => Nat.le_trans (Nt.E_size_le h) HS.out)
  clear hs hds
  by_cases hlt : n < d
  · have hr : Hid (n / d = 0 ∧ n % d = n) := ⟨Nat.div_eq_of_lt hlt, Nat.mod_eq_of_lt hlt⟩
    have hz : Nt.cmpZ n d < 0 := by unfold Nt.cmpZ; rw [if_pos hlt]; omega
    generalize Nt.cmpZ n d = z at *
    have HC0 := Lib.hid hc0
    clear hc0 hlt hn
    go_enter Tryd.func73, Tryd.ntmps73
    go_wp2_with (go_at_call 86; refine (HC0.out _).mono ?_; rintro e w1 ⟨rfl, rfl⟩)
    go_ret2
    exact ⟨ret_int_str (by rw [hr.out.1]; rfl) (by rw [hr.out.2]), Below.refl _ _⟩
  · have hz : 0 ≤ Nt.cmpZ n d := by unfold Nt.cmpZ; rw [if_neg hlt]; split <;> omega
    generalize Nt.cmpZ n d = z at *
    have HC0 := Lib.hid hc0
    have HN := Lib.hid hn
    clear hc0 hlt hn
    go_enter Tryd.func73, Tryd.ntmps73
    go_wp2_with (go_at_call 86; refine (HC0.out _).mono ?_; rintro e w1 ⟨rfl, rfl⟩)
    go_loopw [0, 6, 7] (fun a q s wr => ∃ (j m q' : Nat), j ≤ 8 ∧ a = .string (Nt.E m) ∧ q = .int .i64 (q' : Int) ∧ s = .int .i64 ((2 ^ j / 2 : Nat) : Int) ∧ q' * d + m = n ∧ m < 2 ^ j * d ∧ q' + 2 ^ j ≤ 256 ∧ Below w.heap.size w wr) (fun _ _ s _ => (intOf s).toNat)
    case atStart => exact ⟨8, n, 0, by omega, rfl, rfl, rfl, by omega, HN.out, by omega, Below.refl _ _⟩
    case round =>
      obtain ⟨j, m, q, hj, rfl, rfl, rfl, hq, hm, hqp, hW⟩ := hrel
      have hmn : m ≤ n := by omega
      have hms := hs2.out m hmn
      rcases j with _ | j
      · have hf : Hid (n / d = q ∧ n % d = m) := by
          rw [Nat.pow_zero, Nat.one_mul] at hm
          have hq' : n = m + d * q := by rw [Nat.mul_comm]; omega
          exact ⟨by rw [hq', Nat.add_mul_div_left _ _ hd, Nat.div_eq_of_lt hm, Nat.zero_add], by rw [hq', Nat.add_mul_mod_self_left, Nat.mod_eq_of_lt hm]⟩
        have e0 : (2 ^ 0 / 2 : Nat) = 0 := rfl
        clear hq hm
        rw [e0]
        go_wp2
        go_ret2
        exact ⟨ret_int_str (by rw [← hf.out.1]; rfl) (by rw [hf.out.2]), hW⟩
      · obtain ⟨p, hp⟩ : ∃ p, p = 2 ^ j := ⟨_, rfl⟩
        have e1 : (2 ^ (j + 1) / 2 : Nat) = p := by rw [Nat.pow_succ]; omega
        have e2 : (2 ^ (j + 1) : Nat) = 2 * p := by rw [Nat.pow_succ]; omega
        rw [e1]
        rw [e2] at hm hqp
        have hp0 : 0 < p := by rw [hp]; exact Nat.two_pow_pos j
        have HP := Lib.hid hp
        have hps := HEP.out p (by omega)
        have hcm := HCmp.out m (d * p) hms hps
        have hsb := HSub.out m (d * p) hms hps
        have hml := HMul.out p (by omega)
        obtain ⟨P, hPd⟩ : ∃ P, P = d * p := ⟨_, rfl⟩
        rw [← hPd] at hcm hsb hml
        have hm2 : m < 2 * P := by rw [hPd]; rw [Nat.mul_comm d p, ← Nat.mul_assoc]; exact hm
        have hqd : (q + p) * d = q * d + P := by rw [Nat.add_mul, hPd, Nat.mul_comm p d]
        have hpd : p * d = P := by rw [hPd, Nat.mul_comm]
        have HQD := Lib.hid hqd
        have HPD := Lib.hid hpd
        have HQ := Lib.hid hq
        clear hp e1 e2 hPd hqd hpd hq hm
        have e3 : ((p : Int)).toNat = p := by omega
        obtain ⟨p2, hp2⟩ : ∃ p2, p2 = p / 2 := ⟨_, rfl⟩
        have hpt : IntKind.i64.wrap ((p : Int).tdiv 2) = (p2 : Int) := by
          rw [Int.tdiv_eq_ediv_of_nonneg (by omega)]
          exact (IntWalk.i64_in _ (by omega)).trans (by omega)
        have HP2 := Lib.hid hp2
        have hp2l : p2 < p := by omega
        clear hp2
        by_cases hge : P ≤ m
        · have hz2 : 0 ≤ Nt.cmpZ m P := by unfold Nt.cmpZ; rw [if_neg (by omega)]; split <;> omega
          generalize Nt.cmpZ m P = z2 at *
          have H1 := Lib.hid hcm
          have H2 := Lib.hid hsb
          have H3 := Lib.hid hml
          clear hcm hsb hml
          go_wp2_with (first
            | (go_at_call 29; refine (refByte_any _ _ (by omega) (by omega)).mono ?_; rintro e w1 ⟨rfl, hb1⟩; rw [e3])
            | (go_at_call 87; refine (H3.out _).mono ?_; rintro e w2 ⟨rfl, hb2⟩)
            | (go_at_call 86; refine (H1.out _).mono ?_; rintro e w3 ⟨rfl, rfl⟩)
            | (go_at_call 88; refine (H2.out _).mono ?_; rintro e w4 ⟨rfl, hb4⟩))
          refine ⟨⟨j, m - P, q + p, by omega, rfl, by go_num, by rw [← HP.out]; exact congrArg _ (by have := HP2.out; omega), ?_, ?_, by rw [← HP.out]; omega, ?_⟩, by simp [intOf]; omega⟩
          · have := HQ.out; have := HQD.out; omega
          · rw [← HP.out, HPD.out]; omega
          · have h1 := hW.trans (hb1.mono hW.size)
            have h2 := h1.trans (hb2.mono h1.size)
            exact h2.trans (hb4.mono h2.size)
        · have hz2 : Nt.cmpZ m P < 0 := by unfold Nt.cmpZ; rw [if_pos (by omega)]; omega
          generalize Nt.cmpZ m P = z2 at *
          have H1 := Lib.hid hcm
          have H3 := Lib.hid hml
          clear hcm hsb hml
          go_wp2_with (first
            | (go_at_call 29; refine (refByte_any _ _ (by omega) (by omega)).mono ?_; rintro e w1 ⟨rfl, hb1⟩; rw [e3])
            | (go_at_call 87; refine (H3.out _).mono ?_; rintro e w2 ⟨rfl, hb2⟩)
            | (go_at_call 86; refine (H1.out _).mono ?_; rintro e w3 ⟨rfl, rfl⟩))
          refine ⟨⟨j, m, q, by omega, rfl, rfl, by rw [← HP.out]; exact congrArg _ (by have := HP2.out; omega), HQ.out, ?_, by rw [← HP.out]; omega, ?_⟩, by simp [intOf]; omega⟩
          · rw [← HP.out, HPD.out]; omega
          · have h1 := hW.trans (hb1.mono hW.size)
            exact h1.trans (hb2.mono h1.size)
end Go.Proofs.YtkgkgdgbkkhblaaDoor
namespace Go.Proofs.YtkgkgdgbkkhblaaDoor
open Go.RowKit Go.Shelf

theorem Nt.V_append (x y : ByteArray) : Nt.V (x ++ y) = Nt.V x * 256 ^ y.size + Nt.V y := by
  have h : (x ++ y).data.toList = x.data.toList ++ y.data.toList := by simp
  show Nt.val (x ++ y).data.toList = _
  rw [h, Nt.val_append]
  rfl
theorem Nt.extract_one (t : ByteArray) (k : Nat) (h : k < t.size) : t.extract k (k + 1) = ⟨#[t[k]'h]⟩ := by
  apply ByteArray.ext
  rw [ByteArray.data_extract]
  apply Array.ext
  · simp; have : t.data.size = t.size := rfl; omega
  · intro i h1 h2
    simp at h2
    subst h2
    simp [ByteArray.getElem_eq_getElem_data]
theorem Nt.V_push (x : ByteArray) (c : UInt8) : Nt.V (x ++ ⟨#[c]⟩) = Nt.V x * 256 + c.toNat := by
  rw [Nt.V_append]
  show Nt.V x * 256 ^ 1 + Nt.val [c] = _
  rw [Nt.val_cons]; simp [Nt.val_nil]
theorem Nt.step_div (n d c : Nat) (hd : 0 < d) : (n * 256 + c) / d = n / d * 256 + (n % d * 256 + c) / d ∧ (n * 256 + c) % d = (n % d * 256 + c) % d := by
  have h : n * 256 + c = (n % d * 256 + c) + d * (n / d * 256) := by
    have := Nat.mod_add_div n d
    conv => lhs; rw [← this]
    rw [Nat.add_mul, Nat.mul_assoc]; omega
  rw [h]
  exact ⟨by rw [Nat.add_mul_div_left _ _ hd]; omega, by rw [Nat.add_mul_mod_self_left]⟩

/-- what a division answers. -/
def divOut (n d : Nat) : Value := if d = 0 then .tuple #[.string ⟨#[]⟩, .string ⟨#[]⟩, .int .i64 5] else .tuple #[.string (Nt.E (n / d)), .string (Nt.E (n % d)), .int .i64 0]

set_option maxRecDepth 100000 in
set_option maxHeartbeats 2000000 in
theorem refDivMod_any (a b : ByteArray) (w : World) (ha : a.size ≤ 80000) (hb : b.size ≤ 80000) :
    Calls Tryd.prog 61 #[.string a, .string b] w fun e w' => e = .returned (divOut (Nt.V a) (Nt.V b)) ∧ Below w.heap.size w w' := by
  obtain ⟨d, hd⟩ : ∃ d, d = Nt.V b := ⟨_, rfl⟩
  have HTb := Lib.hid (fun w => (hd ▸ refTrim_any b w : Calls Tryd.prog 60 #[.string b] w fun e w' => e = .returned (.string (Nt.E d)) ∧ w = w'))
  have hds : (Nt.E d).size ≤ 80000 := by rw [hd]; exact Nat.le_trans (Nt.E_size_V b) hb
  rw [← hd]
  clear hd
  by_cases h0 : 0 < d
  · obtain ⟨t, ht⟩ : ∃ t, t = Nt.E (Nt.V a) := ⟨_, rfl⟩
    have hV : Hid (Nt.V t = Nt.V a) := by rw [ht, Hid, Nt.V_E]
    have HTa := Lib.hid (fun w => (ht ▸ refTrim_any a w : Calls Tryd.prog 60 #[.string a] w fun e w' => e = .returned (.string t) ∧ w = w'))
    have hts : t.size ≤ 80000 := by rw [ht]; exact Nat.le_trans (Nt.E_size_V a) ha
    have hpos : 0 < (Nt.E d).size := Nat.pos_of_ne_zero (fun hh => by have := Nt.E_nil d (by omega); omega)
    have hE := isEmpty_false hpos
    have HDg := Lib.hid (fun n (hn : n < 256 * d) W => refDigit_any n d W h0 hn (Nat.le_trans (Nt.E_size_le (show n ≤ d * 256 by omega)) (by
      have h1 := Nt.V_lt (Nt.E d)
      rw [Nt.V_E] at h1
      have h2 : d * 256 < 256 ^ ((Nt.E d).size + 1) := by rw [Nat.pow_succ]; omega
      exact Nat.le_trans (Nt.E_size_lt h2) (by omega))) (by omega))
    have hES : ∀ m, m ≤ d → (Nt.E m).size ≤ 80000 := fun m hm => Nat.le_trans (Nt.E_size_le hm) hds
    obtain ⟨D, hD⟩ : ∃ D, D = Nt.E d := ⟨_, rfl⟩
    rw [← hD] at HTb HDg hE hpos hds
    clear ht ha hb hD
    go_enter Tryd.func61, Tryd.ntmps61
    go_wp2_with (first
      | (go_at_call_of 60 b; refine (HTb.out _).mono ?_; rintro e w1 ⟨rfl, rfl⟩)
      | (go_at_call_of 60 a; refine (HTa.out _).mono ?_; rintro e w1 ⟨rfl, rfl⟩))
    go_loopw [7, 8, 9] (fun q r i wr => ∃ (k : Nat) (s : ByteArray), k ≤ t.size ∧ i = .int .i64 k ∧ q = .string s ∧ s.size = k ∧ Nt.V s = Nt.top t k / d ∧ r = .string (Nt.E (Nt.top t k % d)) ∧ Below w.heap.size w wr) (fun _ _ i _ => t.size - (intOf i).toNat)
    case atStart => exact ⟨0, ⟨#[]⟩, Nat.zero_le _, rfl, rfl, rfl, by rw [Nt.top_zero, Nat.zero_div]; rfl, by rw [Nt.top_zero, Nat.zero_mod]; rfl, Below.refl _ _⟩
    case round =>
      obtain ⟨k, s, hk, rfl, rfl, hsk, hsv, rfl, hW⟩ := hrel
      by_cases hlt : k < t.size
      · have hs1 := Nt.top_step t k hlt
        have hc := UInt8.toNat_lt (t[k]'hlt)
        have hx : Nt.V (Nt.E (Nt.top t k % d) ++ t.extract k (k + 1)) = Nt.top t k % d * 256 + (t[k]'hlt).toNat := by
          rw [Nt.extract_one t k hlt, Nt.V_push, Nt.V_E]
        have hst := Nt.step_div (Nt.top t k) d (t[k]'hlt).toNat h0
        rw [← hs1] at hst
        have hmod := Nat.mod_lt (Nt.top t k) h0
        have hes := hES _ (Nat.le_of_lt hmod)
        obtain ⟨x, hxx⟩ : ∃ x, x = Nt.top t k % d * 256 + (t[k]'hlt).toNat := ⟨_, rfl⟩
        rw [← hxx] at hx hst
        have hxd : x < 256 * d := by rw [hxx]; omega
        have hdg := HDg.out x hxd
        have hqd : x / d < 256 := Nat.div_lt_of_lt_mul (by rw [Nat.mul_comm]; exact hxd)
        obtain ⟨qd, hqq⟩ : ∃ qd, qd = x / d := ⟨_, rfl⟩
        obtain ⟨rd, hrr⟩ : ∃ rd, rd = x % d := ⟨_, rfl⟩
        rw [← hqq, ← hrr] at hdg
        rw [← hqq, ← hrr] at hst
        rw [← hqq] at hqd
        have e3 : ((qd : Int)).toNat = qd := by omega
        obtain ⟨r0, hr0⟩ : ∃ r0, r0 = Nt.top t k % d := ⟨_, rfl⟩
        rw [← hr0] at hx hes ⊢
        have HX := Lib.hid hx
        have HDG := Lib.hid hdg
        have HSV := Lib.hid hsv
        have HST := Lib.hid hst
        clear hx hdg hst hsv hs1 hqq hrr hr0 hmod hxx hc
        go_wp2_with (first
          | (go_at_call 60; refine (refTrim_any _ _).mono ?_; rintro e w1 ⟨rfl, rfl⟩; rw [HX.out])
          | (go_at_call 73; refine (HDG.out _).mono ?_; rintro e w2 ⟨rfl, hb2⟩)
          | (go_at_call 29; refine (refByte_any _ _ (by omega) (by omega)).mono ?_; rintro e w3 ⟨rfl, hb3⟩; rw [e3]))
        refine ⟨⟨k + 1, _, by omega, by go_num, rfl, ?_, ?_, ?_, ?_⟩, by simp [intOf]; omega⟩
        · have : (s ++ ⟨#[UInt8.ofNat qd]⟩).size = s.size + 1 := by rw [ByteArray.size_append]; rfl
          omega
        · rw [Nt.V_push, HST.out.1, HSV.out]
          have : (UInt8.ofNat qd).toNat = qd := by rw [UInt8.toNat_ofNat']; exact Nat.mod_eq_of_lt hqd
          rw [this]
        · rw [HST.out.2]
        · have h1 := hW.trans (hb2.mono hW.size)
          exact h1.trans (hb3.mono h1.size)
      · obtain rfl : k = t.size := by omega
        have hf : Hid (divOut (Nt.V a) d = .tuple #[.string (Nt.E (Nt.V s)), .string (Nt.E (Nt.top t t.size % d)), .int .i64 0]) := by
          rw [Nt.top_all, hV.out] at hsv ⊢
          rw [hsv, Hid, divOut, if_neg (by omega)]
        clear hsv
        go_wp2_with (go_at_call 60; refine (refTrim_any _ _).mono ?_; rintro e w1 ⟨rfl, rfl⟩)
        go_ret3
        exact ⟨congrArg Ending.returned hf.out.symm, hW⟩
  · obtain rfl : d = 0 := by omega
    have hE : (Nt.E 0).toList.isEmpty = true := isEmpty_true (show ¬ 0 < (Nt.E 0).size from by decide)
    obtain ⟨D, hD⟩ : ∃ D, D = Nt.E 0 := ⟨_, rfl⟩
    rw [← hD] at HTb hE
    clear hD
    go_enter Tryd.func61, Tryd.ntmps61
    go_wp2_with (go_at_call 60; refine (HTb.out _).mono ?_; rintro e w1 ⟨rfl, rfl⟩)
    go_ret3
    exact ⟨by rw [divOut, if_pos rfl]; rfl, Below.refl _ _⟩

end Go.Proofs.YtkgkgdgbkkhblaaDoor
namespace Go.Proofs.YtkgkgdgbkkhblaaDoor
open Go.RowKit Go.Shelf

theorem isEmpty_E (n : Nat) : (Nt.E n).toList.isEmpty = decide (n = 0) := by
  by_cases h : n = 0
  · subst h; rw [isEmpty_true (show ¬ 0 < (Nt.E 0).size from by decide)]; rfl
  · rw [isEmpty_false (Nat.pos_of_ne_zero (fun hh => h (Nt.E_nil n (by omega))))]; simp [h]
end Go.Proofs.YtkgkgdgbkkhblaaDoor
namespace Go.Proofs.YtkgkgdgbkkhblaaDoor
open Go.RowKit Go.Shelf

end Go.Proofs.YtkgkgdgbkkhblaaDoor
namespace Go.Proofs.YtkgkgdgbkkhblaaDoor
open Go.RowKit Go.Shelf

end Go.Proofs.YtkgkgdgbkkhblaaDoor
namespace Go.Proofs.YtkgkgdgbkkhblaaDoor
open Go.RowKit Go.Shelf

end Go.Proofs.YtkgkgdgbkkhblaaDoor
namespace Go.Proofs.YtkgkgdgbkkhblaaDoor
open Go.RowKit Go.Shelf

end Go.Proofs.YtkgkgdgbkkhblaaDoor
namespace Go.Proofs.YtkgkgdgbkkhblaaDoor
open Go.RowKit Go.Shelf

end Go.Proofs.YtkgkgdgbkkhblaaDoor
namespace Go.Proofs.YtkgkgdgbkkhblaaDoor
open Go.RowKit Go.Shelf

/-- the root of a number. -/
def Nt.IsRoot (r v : Nat) : Prop := r * r ≤ v ∧ v < (r + 1) * (r + 1)
theorem Nt.IsRoot.le {r s v : Nat} (h : Nt.IsRoot r v) (h' : Nt.IsRoot s v) : r ≤ s := by
  rcases Nat.lt_or_ge s r with hlt | hge
  · have := Nat.mul_le_mul (show s + 1 ≤ r from hlt) (show s + 1 ≤ r from hlt)
    have := h.1; have := h'.2
    omega
  · exact hge
end Go.Proofs.YtkgkgdgbkkhblaaDoor
namespace Go.Proofs.YtkgkgdgbkkhblaaDoor
open Go.RowKit Go.Shelf

end Go.Proofs.YtkgkgdgbkkhblaaDoor
