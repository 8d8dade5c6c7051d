/-
  A RANGE OVER A TEXT'S DIGITS FROM BEHIND, FOR ITS CALLERS: what is owed is what holds between two rounds, and one round.
  A TEXT's DIGITS, FOUR BY FOUR.
-/
import Derived.Test.YtjbpipbmcicjiaaGreatDoorTrim
import Derived.Test.YtjbpipbmcicjiaaGreatDoorMath
import Derived.IntWalk
namespace Go.Proofs.YtjbpipbmcicjiaaGreatDoor
open Go.RowKit Go.Shelf

theorem wp_behind {g : Operand} {ps : Array Tmp} {assign body : Code} {Q : Exit → Act → World → Prop} {a : Act} {w : World} (s : ByteArray) (Bs : Nat)
    (hg : a.eval g = .func (.func 130) #[] #[.pointer (some ⟨Bs, 0, none⟩)]) (hs : s.size ≤ maxLen) (hBs : Bs < w.heap.size) (hc : w.cell? ⟨Bs, 0, none⟩ = some (.string s)) (hps : ps.size = 2)
    (I : List (Fin s.size) → World → Prop) (hI : OwnFrom w.heap.size I) (h0 : I [] w)
    (h : ∃ a₁ : Fin s.size → Act, (∀ (l : Nat) (x : Fin s.size) (W : World) (K : Act → World → Prop), K (a₁ x) W →
        assign.wpIn (Fence.wide.inRound l) 1 Tryz.prog (Exit.then K (fun _ _ _ => False)) { tmps := (ps.zip (dgs s x)).foldl (fun t (p, v) => t.setIfInBounds p v) a.tmps, defers := [] } W) ∧
      (∀ (l : Nat) (pre : List (Fin s.size)) (x : Fin s.size) (W : World), I pre W → body.wpIn (Fence.wide.inRound l) 1 Tryz.prog (ownPostK (KeepsBox Bs) I (fun _ _ _ => False) (pre ++ [x]) W) (a₁ x) W))
    (hdone : ∀ (D : Nat) (W : World), w.heap.size ≤ D → I (List.finRange s.size) W → W.heap[D]? = some (.deferred (some [])) → Q .normal { a with defers := { target := .collected D, args := #[] } :: a.defers } W) :
    (Code.rangeFunc g ps assign body).wpIn Fence.wide 3 Tryz.prog Q a w := by
  obtain ⟨a₁, h1, h2⟩ := h
  refine wpIn_rangeFunc_ownF rfl (by omega) (gf := 130) (lb := #[.pointer (some ⟨Bs, 0, none⟩)]) hg trivial (enters_of Tryz.func130 (by kernel_rfl) rfl)
    (behind_stops Fence.wide _ trivial rfl (by omega) Bs s hs w hBs hc) KeepsBox.trans keepsBox_b (Below.refl _ _) (fun _ => by rw [hps]; rfl)
    I (fun _ _ _ => False) hI (fun _ _ _ _ _ hs _ _ => hs) h0 a₁ h1 (fun l pre x W hi _ => h2 l pre x W hi) ?_ ?_
  · rintro D xs W hD rfl hi hK
    exact hdone D W hD hi hK
  · rintro D c pre W _ _ hf _
    exact hf.elim
end Go.Proofs.YtjbpipbmcicjiaaGreatDoor
namespace Go.Proofs.YtjbpipbmcicjiaaGreatDoor
open Go.RowKit Go.Shelf
attribute [local go_sem] Oper.semAt_some

theorem u32_or_any (a b : Nat) (ha : a < 4294967296) (hb : b < 4294967296) : bits .or .u32 (a : Int) (b : Int) = ((a ||| b : Nat) : Int) :=
  (bits_nat .u32 32 (by decide) (fun m h0 h1 => by rw [IntKind.wrap_u32]; omega) a b (by omega) (by omega)).2
/-- one round: a digit laid into its word. -/
def wordStep (s : ByteArray) (ls : List Nat) (i : Fin s.size) : List Nat :=
  ls.set (i.1 / 4) (ls.getD (i.1 / 4) 0 ||| (s[s.size - 1 - i.1]'(by omega)).toNat * 2 ^ (i.1 % 4 * 8))
theorem sh_small {d r : Nat} (hd : d < 256) (hr : r < 4) : d * 2 ^ (r * 8) < 4294967296 := by
  have h1 : 2 ^ (r * 8) ≤ 2 ^ 24 := Nat.pow_le_pow_right (by omega) (by omega)
  have h2 : d * 2 ^ (r * 8) ≤ 255 * 2 ^ (r * 8) := Nat.mul_le_mul_right _ (by omega)
  have h3 : (2 : Nat) ^ 24 = 16777216 := by decide
  omega
theorem wordFold_ok (s : ByteArray) (m : Nat) (pre : List (Fin s.size)) : (∀ x ∈ pre.foldl (wordStep s) (List.replicate m 0), x < 4294967296) ∧ (pre.foldl (wordStep s) (List.replicate m 0)).length = m := by
  have h : ∀ (p : List (Fin s.size)) (l : List Nat), (∀ x ∈ l, x < 4294967296) → l.length = m → (∀ x ∈ p.foldl (wordStep s) l, x < 4294967296) ∧ (p.foldl (wordStep s) l).length = m := by
    intro p
    induction p with
    | nil => intro s h1 h2; exact ⟨h1, h2⟩
    | cons i p ih =>
      intro l h1 h2
      refine ih _ ?_ (by simp [wordStep, h2])
      intro x hx
      unfold wordStep at hx
      rcases List.mem_or_eq_of_mem_set hx with hx | rfl
      · exact h1 x hx
      · have h3 : l.getD (i.1 / 4) 0 < 2 ^ 32 := by
          rw [List.getD_eq_getElem?_getD]
          cases hg : l[i.1 / 4]? with
          | none => simp
          | some v => exact h1 v (List.mem_of_getElem? hg)
        exact Nat.or_lt_two_pow h3 (sh_small (UInt8.toNat_lt _) (Nat.mod_lt _ (by omega)))
  exact h pre _ (by intro x hx; simp at hx; omega) (by simp)
theorem wordFold_all (s : ByteArray) (m : Nat) (hm : s.size ≤ 4 * m) : (List.finRange s.size).foldl (wordStep s) (List.replicate m 0) = Nt.wds (Nt.V s) m := by
  have h := foldl_fin s.size (wordStep s) (fun k => Nt.wds (Nt.V s % 256 ^ k) m) (fun i => by
    have hi := i.2
    have hj : i.1 / 4 < m := by omega
    unfold wordStep
    rw [Nt.V_dig s i.1 hi]
    have e : (Nt.wds (Nt.V s % 256 ^ i.1) m).getD (i.1 / 4) 0 = Nt.wd (Nt.V s % 256 ^ i.1) (i.1 / 4) := by
      rw [List.getD_eq_getElem?_getD, List.getElem?_eq_getElem (by rw [Nt.wds_length]; exact hj), Nt.wds_get]; rfl
    rw [e]
    exact (Nt.wds_step (Nt.V s) i.1 m hj).symm)
  simp only [Nat.pow_zero, Nat.mod_one] at h
  rw [Nt.wds_zero, Nt.mod_full (Nt.V_lt s)] at h
  exact h
structure WordMem (m B : Nat) (ls : List Nat) (W : World) : Prop where
  dat : Blk W B 84 (kV .u32 ls)
  sl : Blk W (B + 1) 85 #[.slice (some ⟨B, 0, none⟩) m m]
theorem WordMem.own {α : Type} (m B : Nat) (f : List α → List Nat) : Own (fun pre W => WordMem m B (f pre) W) :=
  fun _ _ _ _ hs hg hr => ⟨hs.dat.turned hg hr, hs.sl.turned hg hr⟩

set_option maxRecDepth 100000 in
set_option maxHeartbeats 4000000 in
theorem natWords_any (s : ByteArray) (m : Nat) (w : World) (hs : s.size ≤ 1000000) (hm : m = (s.size + 3) / 4) :
    Calls Tryz.prog 129 #[.string s] w fun e w' => e = .returned (.slice (some ⟨w.heap.size, 0, none⟩) m m) ∧ Blk w' w.heap.size 84 (kV .u32 (Nt.wds (Nt.V s) m)) ∧ Below w.heap.size w w' := by
  have hmk := fun W => run_zeros (P := Tryz.prog) 85 84 .u32 4 Tryz.underlying85 Tryz.infoU32 m (by omega) (by omega) W
  have e1 : (((s.size : Int) + 3) / 4) = (m : Int) := by omega
  rw [← e1] at hmk
  have hsm : s.size ≤ maxLen := by unfold maxLen; omega
  have h4 : s.size ≤ 4 * m := by omega
  have h5 : 4 * m ≤ s.size + 3 := by omega
  clear e1 hm
  refine (callsIn_wide (n := 3)).1 ?_
  refine callsIn_of_wp_marks Tryz.func129 rfl trivial ?_ rfl
  simp only [Tryz.ntmps129, List.size_toArray, List.length_cons, List.length_nil, Nat.reduceAdd, Nat.reduceSub, Array.replicate_succ, Array.replicate_zero, List.push_toArray, List.append_toArray, List.nil_append, List.cons_append]
  gi_wp2_with (refine ⟨trivial, ?_⟩; gi_at_call 94; refine (fromBehind_in Fence.wide _ trivial rfl _ _).mono ?_; rintro e w' ⟨rfl, rfl⟩)
  obtain ⟨wC, hwC⟩ : ∃ wC, wC = w.alloc (.cells (kV .u32 (List.replicate m 0)) 84) := ⟨_, rfl⟩
  obtain ⟨wD, hwD⟩ : ∃ wD, wD = wC.alloc (.cells #[.slice (some ⟨w.heap.size, 0, none⟩) m m] 85) := ⟨_, rfl⟩
  have sC : wC.heap.size = w.heap.size + 1 := by rw [hwC, World.size_alloc]
  have sD : wD.heap.size = w.heap.size + 1 + 1 := by rw [hwD, World.size_alloc, sC]
  have kC := Blk.new w 84 (kV .u32 (List.replicate m 0))
  rw [← hwC] at kC
  have kD := Blk.new wC 85 #[.slice (some ⟨w.heap.size, 0, none⟩) m m]
  rw [← hwD, sC] at kD
  have kF := Blk.new wD 9 #[.string s]
  rw [sD] at kF
  have bC : Below w.heap.size w wC := by rw [hwC]; exact (Below.refl _ w).alloc (Nat.le_refl _) _
  have bD : Below w.heap.size w wD := by rw [hwD]; exact bC.alloc bC.size _
  have m0 : WordMem m w.heap.size (List.replicate m 0) (wD.alloc (.cells #[.string s] 9)) :=
    ⟨by rw [hwD]; exact (kC.alloc _).alloc _, kD.alloc _⟩
  rw [← hwC, ← hwD]
  refine wp_behind s (w.heap.size + 1 + 1) rfl hsm (by simp; omega) (kF.cell 0) rfl
    (fun pre W => WordMem m w.heap.size (pre.foldl (wordStep s) (List.replicate m 0)) W ∧ Below w.heap.size w W)
    (OwnFrom.and (Own.from (WordMem.own _ _ _) _) (ownFrom_below (Nat.le_refl _) (by simp; omega)))
    ⟨m0, bD.alloc bD.size _⟩ ?h ?done
  case h =>
    clear m0 kF kD kC bC bD sC sD hwC hwD
    apply Exists.intro
    constructor
    · intro l i W K hK
      unfold dgs
      dsimp only
      gi_wp2
      exact hK
    · rintro l pre i W ⟨hM, hB⟩
      obtain ⟨k, hk⟩ := i
      obtain ⟨d, hd⟩ : ∃ d, d = (s[s.size - 1 - k]'(by omega)).toNat := ⟨_, rfl⟩
      have hd256 : d < 256 := by rw [hd]; exact UInt8.toNat_lt _
      have hs1 : (pre ++ [(⟨k, hk⟩ : Fin s.size)]).foldl (wordStep s) (List.replicate m 0) =
          (pre.foldl (wordStep s) (List.replicate m 0)).set (k / 4) ((pre.foldl (wordStep s) (List.replicate m 0)).getD (k / 4) 0 ||| d * 2 ^ (k % 4 * 8)) := by
        rw [List.foldl_append, hd]; rfl
      obtain ⟨hl0, hl1⟩ := wordFold_ok s m pre
      generalize pre.foldl (wordStep s) (List.replicate m 0) = ls at hM hl0 hl1 hs1
      dsimp only at hs1 hl1 ⊢
      rw [← hd]
      have hlen : k / 4 < ls.length := by omega
      have hgd : ls.getD (k / 4) 0 = ls[k / 4]'hlen := by rw [List.getD_eq_getElem?_getD, List.getElem?_eq_getElem hlen]; rfl
      rw [hgd] at hs1
      have hxb := hl0 _ (List.getElem_mem hlen)
      have b3 := (hM.sl.cell 0)
      have b5 := (hM.dat.cell (k / 4)).trans (kV_get_lt _ _ _ hlen)
      have f5 := hM.dat.frozen (k / 4)
      generalize ls[k / 4]'hlen = x at hs1 hxb b5
      have HS := Lib.hid hs1
      clear hd hs1 hgd hl0
      simp only [List.getElem?_toArray, List.getElem?_cons_zero] at b3
      have hss := sh_small hd256 (Nat.mod_lt k (show 0 < 4 by omega))
      obtain ⟨q, hq⟩ : ∃ q, q = k / 4 := ⟨_, rfl⟩
      obtain ⟨r, hr⟩ : ∃ r, r = k % 4 := ⟨_, rfl⟩
      obtain ⟨t, ht⟩ : ∃ t, t = r * 8 := ⟨_, rfl⟩
      rw [← hr, ← ht] at hss
      have g1 : (k : Int) / 4 = (q : Int) := by omega
      have g2 : (k : Int) % 4 = (r : Int) := by omega
      have g2' : (k : Int).tmod 4 = (r : Int) := by rw [Int.tmod_eq_emod_of_nonneg (by omega)]; omega
      have g1' : (k : Int).tdiv 4 = (q : Int) := by rw [Int.tdiv_eq_ediv_of_nonneg (by omega)]; omega
      have g3 : IntKind.i64.wrap (q : Int) = (q : Int) := IntWalk.i64_in _ (by omega)
      have g4 : IntKind.i64.wrap (r : Int) = (r : Int) := IntWalk.i64_in _ (by omega)
      have g5 : IntKind.i64.wrap ((r : Int) * 8) = (t : Int) := by rw [IntWalk.i64_in _ (by omega)]; omega
      have g6 : IntKind.u32.wrap (d : Int) = (d : Int) := by rw [IntKind.wrap_u32]; omega
      have g7 : q < m := by omega
      have g8 : t ≤ 24 := by omega
      have HT := Lib.hid (show k % 4 * 8 = t by omega)
      rw [← hq] at b5 f5
      have HQ := Lib.hid hq
      clear hq hr ht
      have hmx : Tryz.prog.follows .mixedOrders = true := by kernel_rfl
      gi_wp2
      refine wpIn_round_tail 13 hmx (by kernel_rfl) (by kernel_rfl) (fun ⟨_, _, hf⟩ => hf) ?_
      simp only [List.take_succ_cons, List.take_zero, List.drop_succ_cons, List.drop_zero]
      repeat still_step
      refine wpStill_nil ?_
      go_wp2
      gi_wp2
      have hv : bits .or .u32 (x : Int) ((d : Int) * 2 ^ t % 4294967296) = ((x ||| d * 2 ^ t : Nat) : Int) := by
        rw [show ((d : Int) * 2 ^ t % 4294967296) = ((d * 2 ^ t : Nat) : Int) from by
          have e2 : ((d : Int) * 2 ^ t) = ((d * 2 ^ t : Nat) : Int) := by simp
          rw [e2]; omega]
        exact u32_or_any x _ hxb hss
      refine ⟨(KeepsOthers.setCell _ _ _).trans (KeepsOthers.drew _), ((KeepsBox.refl _ W).setCell (by simp <;> omega) _).drew, ?_, (hB.setCell (by simp <;> omega) _).drew⟩
      rw [HS.out, HT.out, ← HQ.out, hv]
      refine ⟨?_, (hM.sl.far (by simp <;> omega) _).drew⟩
      have := (hM.dat.put q (.int .u32 ((x ||| d * 2 ^ t : Nat) : Int))).drew
      rwa [kV_set] at this
  case done =>
    rintro D W hD ⟨hM, hB⟩ hK
    rw [wordFold_all s m h4] at hM
    have hD' : w.heap.size + 2 ≤ D := by simp at hD; omega
    clear m0 kF kD kC bC bD sC sD hwC hwD hD
    have b3 := (hM.sl.cell 0)
    simp only [List.getElem?_toArray, List.getElem?_cons_zero] at b3
    gi_wp2
    refine ⟨by simp, .inl ⟨_, _, rfl, run_takeDeferred hK, ?_⟩⟩
    exact ⟨_, results_tmp (t := 2) rfl _ _ _, rfl, hM.dat.grown (grownBy_putObj' W D _) (fun e => by cases e; omega), hB.trans (belowK_b (w := w) (Nat.le_refl _) _ D _ _ (by omega) hK rfl rfl)⟩
end Go.Proofs.YtjbpipbmcicjiaaGreatDoor
