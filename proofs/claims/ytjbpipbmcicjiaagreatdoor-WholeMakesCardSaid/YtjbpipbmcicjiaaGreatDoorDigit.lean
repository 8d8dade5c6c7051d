/-
  LIMBS IN THE PROGRAM: a digit that is guessed.
  LIMBS IN THE PROGRAM: a digit that is guessed, out of limbs.
-/
import Derived.Test.YtjbpipbmcicjiaaGreatDoorLimbs4
import Derived.Deep.QuietTactic
import Derived.BigQuiet
namespace Go.Proofs.YtjbpipbmcicjiaaGreatDoor
open Go.RowKit Go.Shelf

def DigRel (F A Q : Nat) (a b : Value) : Prop := ∃ gg l : Nat, a = .int .u64 (gg : Int) ∧ b = .int .u64 (l : Int) ∧ gg * F + l = A ∧ Q ≤ gg ∧ l < 8589934592
set_option maxRecDepth 100000 in
set_option maxHeartbeats 4000000 in
theorem digit_core (G p m m1 n c1 g c2 F S x0 x1 x2 A Q : Nat) (w : World) (hm1 : m1 + 1 = m) (hm2 : n + 2 = m) (hp : m ≤ 200000)
    (a0 : w.cell? ⟨G, p + n, none⟩ = some (.int .u32 (x0 : Int))) (a1 : w.cell? ⟨G, p + m1, none⟩ = some (.int .u32 (x1 : Int))) (a2 : w.cell? ⟨G, p + m, none⟩ = some (.int .u32 (x2 : Int)))
    (v0 : w.cell? ⟨g, n, none⟩ = some (.int .u32 (S : Int))) (v1 : w.cell? ⟨g, m1, none⟩ = some (.int .u32 (F : Int)))
    (lS : S < 4294967296) (lF : F < 4294967296) (l0 : x0 < 4294967296) (l1 : x1 < 4294967296) (l2 : x2 < 4294967296) (hF : 0 < F)
    (ho : bits .or .u64 ((x2 : Int) * 4294967296) (x1 : Int) = (A : Int)) (hA : A < 18446744073709551616) (hAl : Hid (A ≤ F * 4294967296 + 4294967295))
    (gl : Hid (∀ g, g < 4294967296 → g * (F * 4294967296 + S) ≤ A * 4294967296 + x0 → g ≤ Q + 1)) (gm : Hid (∀ g, A * 4294967296 + x0 < g * (F * 4294967296 + S) → Q < g)) (gf : Hid (Q ≤ A / F)) (hq : Hid (Q < 4294967296)) :
    Calls Tryz.prog 160 #[.slice (some ⟨G, p, none⟩) (m + 1) c1, .slice (some ⟨g, 0, none⟩) m c2] w fun e w' =>
      (∃ q : Nat, e = .returned (.int .u32 (q : Int)) ∧ Q ≤ q ∧ q ≤ Q + 1 ∧ q < 4294967296) ∧ ∃ d, w' = w.drewN d := by
  have w1 : (m : Int) - 1 = (m1 : Int) := by omega
  have w2 : (m : Int) - 2 = (n : Int) := by omega
  have k1 : m1 < m := by omega
  have k2 : n < m := by omega
  have q1 : IntKind.i64.wrap ((m : Int) - 1) = (m1 : Int) := (IntWalk.i64_in _ (by omega)).trans w1
  have q2 : IntKind.i64.wrap ((m : Int) - 2) = (n : Int) := (IntWalk.i64_in _ (by omega)).trans w2
  have q3 : IntKind.u64.wrap ((x2 : Int) * 4294967296) = (x2 : Int) * 4294967296 := u64w (by omega) (by omega)
  have hF0 : ((F : Int) == 0) = false := by simp; omega
  obtain ⟨gs, hgs⟩ : ∃ gs, gs = A / F := ⟨_, rfl⟩
  obtain ⟨lf, hlf⟩ : ∃ lf, lf = A % F := ⟨_, rfl⟩
  have d1 : IntKind.u64.wrap ((A : Int).tdiv (F : Int)) = (gs : Int) := by
    rw [Int.tdiv_eq_ediv_of_nonneg (by omega), hgs]
    have : (A : Int) / (F : Int) = ((A / F : Nat) : Int) := by simp
    rw [this]
    exact u64w (by omega) (by have := Nat.div_le_self A F; omega)
  have d3 : IntKind.u64.wrap ((A : Int) / (F : Int)) = (gs : Int) := by rw [← d1, Int.tdiv_eq_ediv_of_nonneg (by omega)]
  have d2 : (A : Int).tmod (F : Int) = (lf : Int) := by
    rw [Int.tmod_eq_emod_of_nonneg (by omega), hlf]; simp
  have HGS := Lib.hid hgs
  have hsum : Hid (gs * F + lf = A ∧ lf < F) := by
    rw [Hid, hgs, hlf]
    have h1 := Nat.mod_add_div A F
    rw [Nat.mul_comm] at h1
    exact ⟨by omega, Nat.mod_lt _ hF⟩
  have HM1 := Lib.hid hm1
  have HM2 := Lib.hid hm2
  clear hgs hlf hm1 hm2
  go_enter Tryz.func160, Tryz.ntmps160
  go_wp2
  go_step3
  go_wp2
  go_quiet (fail)
  go_wp2
  go_quiet (fail)
  go_wp2
  go_quiet (fail)
  go_wp2
  go_step3
  go_wp2
  have D := Lib.hid (And.intro d1 (And.intro d2 (And.intro d3 (And.intro q1 (And.intro q2 q3)))))
  clear d1 d2 d3 q1 q2 q3
  go_loop [9, 10] (DigRel F A Q) (fun a _ => (intOf a).toNat)
  case atStart => exact ⟨gs, lf, rfl, rfl, hsum.out.1, by rw [HGS.out]; exact gf.out, by have := hsum.out.2; omega⟩
  case round =>
    obtain ⟨gg, l, rfl, rfl, hA2, hQ, hl⟩ := hrel
    have hgA : gg ≤ A := by
      have h1 : gg * 1 ≤ gg * F := Nat.mul_le_mul_left gg hF
      omega
    have hmul : gg * (F * 4294967296 + S) + l * 4294967296 = A * 4294967296 + gg * S := by
      rw [← hA2, Nat.mul_add, ← Nat.mul_assoc, Nat.add_mul]; omega
    by_cases hl1 : 4294967296 ≤ l
    · have hlt : gg < 4294967296 := by
        have h2 : gg * F < 4294967296 * F := by rw [Nat.mul_comm 4294967296 F]; have := hAl.out; omega
        exact Nat.lt_of_mul_lt_mul_right h2
      have hpr : gg * S ≤ 4294967295 * 4294967295 := Nat.mul_le_mul (by omega) (by omega)
      have hok : gg ≤ Q + 1 := gl.out gg hlt (by omega)
      have e1 : (l : Int) / 4294967296 = 1 := by omega
      have hf : Hid (Q ≤ gg ∧ gg ≤ Q + 1 ∧ gg < 4294967296) := ⟨hQ, hok, hlt⟩
      have em : (gg : Int) % 4294967296 = (gg : Int) := by omega
      clear hA2 hmul hpr hok hQ
      go_wp2
      try rw [Exit.noGoto_ret]
      go_ret
      refine ⟨⟨gg, rfl, hf.out⟩, ?_⟩
      exact ⟨_, rfl⟩
    · have e1 : (l : Int) / 4294967296 = 0 := by omega
      by_cases hg : 4294967296 ≤ gg
      · have e2 : 0 < (gg : Int) / 4294967296 := by omega
        have hq := hq.out
        have hnx : Hid ((gg - 1) * F + (l + F) = A ∧ Q ≤ gg - 1) := by
          obtain ⟨k, rfl⟩ : ∃ k, gg = k + 1 := ⟨gg - 1, by omega⟩
          rw [Nat.add_mul, Nat.one_mul] at hA2
          exact ⟨by rw [Nat.add_sub_cancel]; omega, by omega⟩
        clear hA2 hmul hQ
        go_wp2
        refine ⟨⟨gg - 1, l + F, by go_num, by go_num, hnx.out.1, hnx.out.2, by omega⟩, by simp [intOf]; omega⟩
      · have e2 : (gg : Int) / 4294967296 = 0 := by omega
        obtain ⟨pr, hpr⟩ : ∃ pr, pr = gg * S := ⟨_, rfl⟩
        have hPI : (gg : Int) * (S : Int) = (pr : Int) := by rw [hpr]; simp
        have hprl : pr ≤ 4294967295 * 4294967295 := by rw [hpr]; exact Nat.mul_le_mul (by omega) (by omega)
        have ho2 := or_low32 l x0 (by omega) l0
        obtain ⟨T, hT⟩ : ∃ T, T = l * 4294967296 + x0 := ⟨_, rfl⟩
        rw [← hT] at ho2
        rw [← hpr] at hmul
        have q4 : IntKind.u64.wrap ((l : Int) * 4294967296) = (l : Int) * 4294967296 := u64w (by omega) (by omega)
        by_cases hc : T < pr
        · have hgt : Q < gg := gm.out gg (by omega)
          have hc' : ((T : Int) < (pr : Int)) := by omega
          have hnx : Hid ((gg - 1) * F + (l + F) = A ∧ Q ≤ gg - 1) := by
            obtain ⟨k, rfl⟩ : ∃ k, gg = k + 1 := ⟨gg - 1, by omega⟩
            rw [Nat.add_mul, Nat.one_mul] at hA2
            exact ⟨by rw [Nat.add_sub_cancel]; omega, by omega⟩
          have hgg1 : 1 ≤ gg := by omega
          clear hA2 hmul hQ hT hpr hgt
          go_wp2
          refine ⟨⟨gg - 1, l + F, by go_num, by go_num, hnx.out.1, hnx.out.2, by omega⟩, by simp [intOf]; omega⟩
        · have hok : gg ≤ Q + 1 := gl.out gg (by omega) (by omega)
          have hf : Hid (Q ≤ gg ∧ gg ≤ Q + 1 ∧ gg < 4294967296) := ⟨hQ, hok, by omega⟩
          have em : (gg : Int) % 4294967296 = (gg : Int) := by omega
          have hc' : ¬ ((T : Int) < (pr : Int)) := by omega
          clear hA2 hmul hQ hT hpr hok
          go_wp2
          try rw [Exit.noGoto_ret]
          go_ret
          refine ⟨⟨gg, rfl, hf.out⟩, ?_⟩
          exact ⟨_, rfl⟩
end Go.Proofs.YtjbpipbmcicjiaaGreatDoor
namespace Go.Proofs.YtjbpipbmcicjiaaGreatDoor
open Go.RowKit Go.Shelf

theorem Nt.top_word {V n : Nat} (hV : V < 4294967296 ^ (n + 1)) : V / 4294967296 ^ n = Nt.wd V n := by
  rw [Nt.wd_join V n, Nat.div_eq_of_lt hV, Nat.zero_mul, Nat.zero_add]
theorem Nt.top_pos {V n : Nat} (hV : V < 4294967296 ^ (n + 1)) (hV1 : 4294967296 ^ n ≤ V) : 0 < Nt.wd V n := by
  rw [← Nt.top_word hV]
  exact Nat.div_pos hV1 (Nat.pow_pos (by omega))
theorem Nt.top_le {P V n : Nat} (hP : P < V * 4294967296) (hV : V < 4294967296 ^ (n + 1)) (hPl : P < 4294967296 ^ (n + 2)) : Nt.wd P (n + 1) ≤ Nt.wd V n := by
  rw [← Nt.top_word hV, ← Nt.top_word (n := n + 1) hPl]
  have h3 : P / 4294967296 ≤ V := Nat.le_of_lt ((Nat.div_lt_iff_lt_mul (by omega)).2 hP)
  rw [show (4294967296 : Nat) ^ (n + 1) = 4294967296 * 4294967296 ^ n from by rw [Nat.pow_succ, Nat.mul_comm], ← Nat.div_div_eq_div_mul]
  exact Nat.div_le_div_right h3
theorem Nt.part_lt {P V n : Nat} (hP : P < V * 4294967296) (hV : V < 4294967296 ^ n) : P < 4294967296 ^ (n + 1) := by
  rw [Nat.pow_succ]
  exact Nat.lt_of_lt_of_le hP (Nat.mul_le_mul_right _ (Nat.le_of_lt hV))
theorem Nt.al_bound {a b c : Nat} (h : a ≤ c) (hb : b < 4294967296) : a * 4294967296 + b ≤ c * 4294967296 + 4294967295 := by omega
theorem Nt.al_max {a b : Nat} (h : a < 4294967296) (hb : b < 4294967296) : a * 4294967296 + b < 18446744073709551616 := by omega
set_option maxRecDepth 100000 in
theorem digit_any (G p n c1 g c2 P V : Nat) (w : World) (hn : n ≤ 100000) (hP : P < V * 4294967296) (hV : V < 4294967296 ^ (n + 2)) (hV1 : 4294967296 ^ (n + 1) ≤ V)
    (hB : ∀ k, k < n + 3 → w.cell? ⟨G, p + k, none⟩ = some (.int .u32 ((Nt.wd P k : Nat) : Int))) (hc : Lm w g (Nt.wds V (n + 2))) :
    Calls Tryz.prog 160 #[.slice (some ⟨G, p, none⟩) (n + 2 + 1) c1, .slice (some ⟨g, 0, none⟩) (n + 2) c2] w fun e w' =>
      (∃ q : Nat, e = .returned (.int .u32 (q : Int)) ∧ P / V ≤ q ∧ q ≤ P / V + 1 ∧ q < 4294967296) ∧ ∃ d, w' = w.drewN d := by
  have hVp : 0 < V := Nat.lt_of_lt_of_le (Nat.pow_pos (by omega)) hV1
  have hPl : P < 4294967296 ^ (n + 3) := Nt.part_lt hP hV
  have tV := Nt.top2 V n hV
  have tP := Nt.top3 P n hPl
  have v0 : w.cell? ⟨g, n, none⟩ = some (.int .u32 ((Nt.wd V n : Nat) : Int)) := by have := hc n (by rw [Nt.wds_length]; omega); rwa [Nt.wds_get] at this
  have v1 : w.cell? ⟨g, n + 1, none⟩ = some (.int .u32 ((Nt.wd V (n + 1) : Nat) : Int)) := by have := hc (n + 1) (by rw [Nt.wds_length]; omega); rwa [Nt.wds_get] at this
  have hF := Nt.top_pos (n := n + 1) hV hV1
  have hle := Nt.top_le (n := n + 1) hP hV hPl
  have hl1 := Nt.wd_lt P (n + 1)
  have hq : P / V < 4294967296 := by rw [Nat.div_lt_iff_lt_mul hVp, Nat.mul_comm]; exact hP
  have hx2 := Nt.wd_lt P (n + 2)
  exact digit_core G p (n + 2) (n + 1) n c1 g c2 (Nt.wd V (n + 1)) (Nt.wd V n) (Nt.wd P n) (Nt.wd P (n + 1)) (Nt.wd P (n + 2)) (Nt.wd P (n + 2) * 4294967296 + Nt.wd P (n + 1)) (P / V) w rfl rfl (by omega)
    (hB n (by omega)) (hB (n + 1) (by omega)) (hB (n + 2) (by omega)) v0 v1 (Nt.wd_lt _ _) (Nt.wd_lt _ _) (Nt.wd_lt _ _) hl1 hx2 hF
    (or_low32 _ _ hx2 hl1) (Nt.al_max hx2 hl1) (Nt.al_bound hle hl1)
    (fun g hg h => Nt.guess_le (g := g) (n := n) tV.1 tP.1 tV.2 hF hg h) (fun g h => Nt.guess_more (g := g) (n := n) tV.1 tP.2 hF h) (Nt.guess_first (n := n) tV.1 tP.2 hF (Nt.wd_lt _ _)) hq
end Go.Proofs.YtjbpipbmcicjiaaGreatDoor
