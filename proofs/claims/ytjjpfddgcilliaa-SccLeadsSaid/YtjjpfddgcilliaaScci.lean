/-
  CIRCLES: lists of lists: those taken out that are none (slices.DeleteFunc at the function of scc.Circles).
  CIRCLES: the parts that are circles (scc.Circles).
  CIRCLES: scc.Of of no graph.
-/
import Derived.Test.YtjjpfddgcilliaaSccg
set_option linter.unusedSimpArgs false
set_option linter.unusedVariables false
namespace Go.Proofs.Ytjjpfddgcilliaa
open Go.RowKit Go.Shelf Go.Sort Go.Lib Go.Maps
set_option maxRecDepth 100000

theorem take_set {α : Type} (xs : List α) (i : Nat) (u : α) (h : i < xs.length) : (xs.set i u).take (i + 1) = xs.take i ++ [u] := by
  rw [List.set_eq_take_append_cons_drop, if_pos h]
  have h1 : (xs.take i).length = i := by rw [List.length_take]; omega
  rw [show xs.take i ++ u :: xs.drop (i + 1) = (xs.take i ++ [u]) ++ xs.drop (i + 1) by simp]
  rw [List.take_append_of_le_length (by simp [h1]), List.take_of_length_le (by simp [h1])]
theorem ownsRow_clear {base : Nat} {e : TypeId} {g L cap : Nat} : ∀ (vs : List Value) (o : Nat) (xs : List Value) (W : World), W.ownsRow base e 1 (.slice (some ⟨g, 0, none⟩) L cap) L xs →
    ∃ ys, (W.setCells g o vs).ownsRow base e 1 (.slice (some ⟨g, 0, none⟩) L cap) L ys ∧ ys.take o = xs.take o ∧ W.grownBy (W.setCells g o vs) (some g)
  | [], o, xs, W, h => ⟨xs, h, rfl, World.grownBy.refl _ _⟩
  | v :: r, o, xs, W, h => by
    obtain ⟨h1, h2⟩ := h.stored o v
    obtain ⟨ys, h3, h4, h5⟩ := ownsRow_clear r (o + 1) _ _ h1
    refine ⟨ys, h3, ?_, h2.trans h5⟩
    have h6 := congrArg (List.take o) h4
    rw [List.take_take, List.take_take, Nat.min_eq_left (Nat.le_succ o)] at h6
    rw [h6]
    exact List.take_set_of_le (Nat.le_refl _)
theorem ownsRow_take {W : World} {base : Nat} {e : TypeId} {g L cap i : Nat} {xs : List Value} (h : W.ownsRow base e 1 (.slice (some ⟨g, 0, none⟩) L cap) L xs) (hi : i ≤ L) : W.ownsRow base e 1 (.slice (some ⟨g, 0, none⟩) i cap) i (xs.take i) := by
  have hx := h.1
  rcases h.2 with ⟨h1, _⟩ | ⟨g', cap', cur, hv, hb, hgg, h1, h2, h3, h4⟩
  · cases h1
  · cases hv
    refine ⟨by rw [List.length_take, hx]; omega, Or.inr ⟨g, cap, cur, rfl, hb, hgg, by omega, h2, h3, ?_⟩⟩
    rw [← h4, List.take_take]
    congr 1
    omega
/-- those up to place j that stay, and the others as they were. -/
structure DlI (D : List Ce → Bool) (Z : List (Value × List Ce)) (i j : Nat) (xs : List Value) : Prop where
  tk : xs.take i = ((Z.take j).filter fun q => !D q.2).map Prod.fst
  ln : i = ((Z.take j).filter fun q => !D q.2).length
  lt : i < j
  hi : ∀ m, j ≤ m → xs[m]? = (Z.map Prod.fst)[m]?
  le : xs.length = Z.length
section
variable {D : List Ce → Bool} {Z : List (Value × List Ce)} {i j : Nat} {xs : List Value}
theorem filter_take_succ {α : Type} (P : α → Bool) (l : List α) (j : Nat) (h : j < l.length) : (l.take (j + 1)).filter P = (l.take j).filter P ++ (if P l[j] = true then [l[j]] else []) := by
  rw [take_snoc l j h, List.filter_append]
  by_cases hp : P l[j] = true
  · rw [if_pos hp]; simp [List.filter, hp]
  · rw [if_neg hp]; simp [List.filter, hp]
theorem DlI.start (hj : j < Z.length) (h1 : D (Z[j].2) = true) (h0 : ∀ k (hk : k < Z.length), k < j → D (Z[k].2) = false) : DlI D Z j (j + 1) (Z.map Prod.fst) := by
  have hf : (Z.take j).filter (fun q => !D q.2) = Z.take j := List.filter_eq_self.2 fun q hq => by
    obtain ⟨k, hk, rfl⟩ := List.getElem_of_mem hq
    rw [List.length_take] at hk
    rw [List.getElem_take, h0 k (by omega) (by omega)]; rfl
  have hf2 : (Z.take (j + 1)).filter (fun q => !D q.2) = Z.take j := by
    rw [filter_take_succ _ _ _ hj, hf, h1]; simp
  refine ⟨by rw [hf2, List.map_take], by rw [hf2, List.length_take]; omega, by omega, fun m _ => rfl, by simp⟩
theorem DlI.drop (h : DlI D Z i j xs) (hj : j < Z.length) (h1 : D (Z[j].2) = true) : DlI D Z i (j + 1) xs := by
  have hf : (Z.take (j + 1)).filter (fun q => !D q.2) = (Z.take j).filter (fun q => !D q.2) := by
    rw [filter_take_succ _ _ _ hj, h1]; simp
  exact ⟨by rw [hf]; exact h.tk, by rw [hf]; exact h.ln, by have := h.lt; omega, fun m hm => h.hi m (by omega), h.le⟩
theorem DlI.keep (h : DlI D Z i j xs) (hj : j < Z.length) (h1 : D (Z[j].2) = false) : DlI D Z (i + 1) (j + 1) (xs.set i (Z[j].1)) := by
  have hf : (Z.take (j + 1)).filter (fun q => !D q.2) = (Z.take j).filter (fun q => !D q.2) ++ [Z[j]] := by
    rw [filter_take_succ _ _ _ hj, h1]; simp
  have hlt := h.lt
  have hle := h.le
  refine ⟨by rw [hf, take_set _ _ _ (by omega), h.tk]; simp, by rw [hf, List.length_append, ← h.ln]; rfl, by omega, fun m hm => ?_, by simp [hle]⟩
  rw [List.getElem?_set_ne (by omega)]
  exact h.hi m (by omega)
end
def DlPost (n : Nat) (v : Value) (D : List Ce → Bool) (Z : List (Value × List Ce)) (w : World) (e : Ending) (w' : World) : Prop :=
  (∃ v' Z', e = .returned v' ∧ PsAt w' n v' Z' ∧ Z' = Z.filter fun q => !D q.2) ∧ Trn (fun k => v.ownBlock = some k) w w'
set_option maxHeartbeats 8000000 in
theorem deleteF_any (n : Nat) (v : Value) (Z : List (Value × List Ce)) (b : Nat) (D : List Ce → Bool) (w : World) (hZ : PsAt w n v Z) (hD : DelP w v b D Z) (hl : Z.length ≤ 100000) :
    Calls Try.prog 60 #[v, .func (.func 61) #[] #[.pointer (some ⟨b, 0, none⟩)]] w (DlPost n v D Z w) := by
  obtain ⟨Po, hPo⟩ : ∃ Po, Po = DlPost n v D Z w := ⟨_, rfl⟩
  rw [← hPo]
  have HPO := Lib.hid hPo
  have HIX := Lib.hid (indexF_any n v Z b D w hZ hD hl)
  obtain ⟨al, cl, rfl⟩ := own_slice hZ.r
  have HZ := Lib.hid hZ
  have HD := Lib.hid hD
  clear hPo hZ hD
  obtain ⟨L, hL⟩ : ∃ L, L = Z.length := ⟨_, rfl⟩
  have HLL := Lib.hid hL
  rw [← hL] at hl HZ HD HIX HPO ⊢
  clear hL
  by_cases hA : ∀ q ∈ Z, D q.2 = false
  · have HI : Hid (Calls Try.prog 81 #[.slice al L cl, .func (.func 61) #[] #[.pointer (some ⟨b, 0, none⟩)]] w fun e w' => e = .returned (.int .i64 (-1)) ∧ Below w.heap.size w w') := Lib.hid (HIX.out.mono fun e w' ⟨⟨r, he, hr⟩, hb⟩ => by
      rcases hr with ⟨rfl, _⟩ | ⟨k, hk, _, h1, _⟩
      · exact ⟨he, hb⟩
      · rw [hA _ (List.getElem_mem hk)] at h1; cases h1)
    have HA := Lib.hid hA
    clear hA HIX
    go_enter Try.func60, Try.ntmps60
    go_wp2_with (go_at_call 81; refine HI.out.mono ?_; rintro e w1 ⟨rfl, hb1⟩)
    refine (show Po (.returned (.slice al L cl)) w1 from ?_)
    rw [HPO.out]
    refine ⟨⟨_, Z, rfl, HZ.out.below hb1, (List.filter_eq_self.2 fun q hq => ?_).symm⟩, Trn.of_below hb1⟩
    rw [HA.out q hq]; rfl
  · have HI : Hid (Calls Try.prog 81 #[.slice al L cl, .func (.func 61) #[] #[.pointer (some ⟨b, 0, none⟩)]] w fun e w' => ∃ k : Nat, ∃ hk : k < Z.length, e = .returned (.int .i64 k) ∧ D (Z[k].2) = true ∧ (∀ j (hj : j < Z.length), j < k → D (Z[j].2) = false) ∧ Below w.heap.size w w') := Lib.hid (HIX.out.mono fun e w' ⟨⟨r, he, hr⟩, hb⟩ => by
      rcases hr with ⟨_, h⟩ | ⟨k, hk, rfl, h1, h0⟩
      · exact absurd h hA
      · exact ⟨k, hk, he, h1, h0, hb⟩)
    clear hA HIX
    go_enter Try.func60, Try.ntmps60
    go_wp2_with (go_at_call 81; refine HI.out.mono ?_; rintro e w1 ⟨k0, hk0, rfl, h1, h0, hb1⟩; have hne : ¬ ((k0 : Int) = -1) := (by omega); have hkL : k0 < L := (by rw [HLL.out]; exact hk0); have H0 := Lib.hid (DlI.start hk0 h1 h0); have HB1 := Lib.hid hb1; clear h1 h0 hb1 hk0)
    obtain ⟨g, c, hv, hng, hgw⟩ := HZ.out.r.form (by have := HLL.out; omega)
    obtain ⟨rfl, rfl⟩ : al = some ⟨g, 0, none⟩ ∧ cl = c := by cases hv; exact ⟨rfl, rfl⟩
    have HLC : Hid (L ≤ cl) := Lib.hid (by
      rcases HZ.out.r.2 with ⟨h, _⟩ | ⟨g', cap', cur, hv, _, _, h, _⟩
      · cases h
      · cases hv; have := HLL.out; omega)
    clear hv hne
    go_loopw [5, 6, 7] (fun i j _ wr => ∃ (ni nj : Nat) (xs : List Value), i = .int .i64 ni ∧ j = .int .i64 nj ∧ nj ≤ L ∧ DlI D Z ni nj xs ∧ wr.ownsRow n 30 1 (.slice (some ⟨g, 0, none⟩) L cl) L xs ∧ Trn (fun k => k = g) w wr) (fun _ j _ _ => L - (intOf j).toNat)
    case atStart => exact ⟨k0, k0 + 1, _, rfl, by go_num, by omega, H0.out, row_below (HLL.out ▸ HZ.out.r) HB1.out, Trn.of_below HB1.out⟩
    case round =>
      obtain ⟨ni, nj, xs, rfl, rfl, hj, hI, hrow, htr⟩ := hrel
      have HI2 := Lib.hid hI
      have HROW := Lib.hid hrow
      have HTR := Lib.hid htr
      have hlt := hI.lt
      have hLC := HLC.out
      clear hI hrow htr
      by_cases hjl : nj < L
      · have hjz : nj < Z.length := by rw [← HLL.out]; exact hjl
        have c0 : wr.cell? ⟨g, nj, none⟩ = some (Z[nj].1) := by
          rw [HROW.out.cellAt nj (by omega), HI2.out.hi nj (Nat.le_refl _)]
          simp [hjz]
        have HC := Lib.hid (HD.out Z[nj] (List.getElem_mem hjz) wr (HTR.out.mono fun k _ h => by rw [h]; rfl))
        obtain ⟨hq1, hq2, hq3, hq4⟩ := HZ.out.e Z[nj] (List.getElem_mem hjz)
        obtain ⟨aq, cq, hqv, hqz⟩ := hq1.shape
        obtain ⟨R, hRR⟩ : ∃ R, R = D (Z[nj].2) := ⟨_, rfl⟩
        rw [← hRR] at HC
        have HRR := Lib.hid hRR
        have HQV := Lib.hid hqv
        replace c0 := c0.trans (congrArg some hqv)
        rw [hqv] at HC
        have HJZ := Lib.hid hjz
        clear hq1 hq2 hq3 hq4 hqv hRR hqz
        generalize (Z[nj].2).length = m at *
        have zg : g < wr.heap.size := (HROW.out.lt g rfl).2
        cases R
        · go_wp2_with (go_at_call 61; refine HC.out.mono ?_; rintro e w2 ⟨rfl, hb2⟩; have HB2 := Lib.hid hb2; have HR2 := Lib.hid (row_below HROW.out hb2); have t0 : w2.cell? ⟨g, ni, none⟩ = some (xs[ni]'(by have h1 := HI2.out.le; have h2 := HI2.out.lt; have h3 := HJZ.out; omega)) := (by rw [HR2.out.cellAt ni (by omega)]; exact List.getElem?_eq_getElem _); have f0 := HR2.out.frozenAt ni; clear hb2 c0)
          go_roundw
          case rel =>
            obtain ⟨k1, k2⟩ := HR2.out.stored ni (.slice aq m cq)
            refine ⟨_, _, _, _, _, _, _, _, _, _, _, _, _, _, _, _, _, _, _, _, _, _, _, ?_, rfl⟩
            exact ⟨ni + 1, nj + 1, _, by go_num, by go_num, by omega, HQV.out ▸ HI2.out.keep HJZ.out HRR.out.symm, k1, (HTR.out.after HB2.out).wrote k2 (Or.inl rfl)⟩
          case measure => simp [intOf]; omega
        · go_wp2_with (go_at_call 61; refine HC.out.mono ?_; rintro e w2 ⟨rfl, hb2⟩)
          go_roundw
          case rel =>
            refine ⟨_, _, _, _, _, _, _, _, _, _, _, _, _, _, _, _, _, _, _, _, _, _, _, ?_, rfl⟩
            exact ⟨ni, nj + 1, xs, rfl, by go_num, by omega, HI2.out.drop HJZ.out HRR.out.symm, row_below HROW.out hb2, HTR.out.after hb2⟩
          case measure => simp [intOf]; omega
      · obtain rfl : nj = L := by omega
        obtain ⟨vs, hvl, hcl⟩ := run_clearP wr g ni (nj - ni) (cl - ni) (by omega) (fun j hj => by
          rw [HROW.out.cellAt (ni + j) (by omega)]
          have h1 := HI2.out.le
          have h2 := HLL.out
          rw [List.getElem?_eq_getElem (by omega)]; rfl) (fun j hj => HROW.out.frozenAt (ni + j))
        obtain ⟨ys, k1, k2, k3⟩ := ownsRow_clear vs ni xs wr HROW.out
        have K1 := Lib.hid k1
        have K2 := Lib.hid k2
        have K3 := Lib.hid k3
        clear k1 k2 k3 hvl hjl
        go_wp2_with fail
        refine (show Po (.returned (.slice (some ⟨g, 0, none⟩) ni cl)) (wr.setCells g ni vs) from ?_)
        rw [HPO.out]
        have hz : Z.take nj = Z := List.take_of_length_le (by have := HLL.out; omega)
        have hln : ni = (Z.filter fun q => !D q.2).length := by have := HI2.out.ln; rwa [hz] at this
        have htk : ys.take ni = (Z.filter fun q => !D q.2).map Prod.fst := by rw [K2.out, HI2.out.tk, hz]
        have hrow := ownsRow_take K1.out (i := ni) (by omega)
        rw [htk] at hrow
        have htr2 : Trn (fun k => k = g) w (wr.setCells g ni vs) := HTR.out.wrote K3.out (Or.inl rfl)
        refine ⟨⟨_, _, rfl, ⟨by rw [← hln]; exact hrow, fun q hq => ?_⟩, rfl⟩, htr2.mono fun k _ h => by rw [h]; rfl⟩
        obtain ⟨a, b, c, d⟩ := HZ.out.e q (List.mem_filter.1 hq).1
        exact ⟨a.kept htr2.size fun k cs t f hk hc => htr2.block k (Array.getElem?_eq_some_iff.1 hc).1 fun e => (d k hk).2 (by rw [e]; rfl), b, c, fun j hj => ⟨(d j hj).1, fun e => (d j hj).2 e⟩⟩
end Go.Proofs.Ytjjpfddgcilliaa
namespace Go.Proofs.Ytjjpfddgcilliaa
open Go.RowKit Go.Shelf Go.Sort Go.Lib Go.Maps
set_option maxRecDepth 100000

set_option maxHeartbeats 4000000 in
theorem circ1_any (p n : Nat) (S : Nat → Prop) (G : Ce → Option (List Ce)) (v : Value) (l : List Ce) (hok : ∀ x ∈ l, okC x) (b : Nat) (w : World) (hv : CsAt w v l) (h : GrAt w S p n G) (hn : n ≤ 100000) (hb : w.cell? ⟨b, 0, none⟩ = some (.pointer (some ⟨p, 0, none⟩))) :
    Calls Try.prog 61 #[v, .pointer (some ⟨b, 0, none⟩)] w fun e w' => e = .returned (.bool (!circB (lOf G) l)) ∧ Below w.heap.size w w' := by
  have HC := Lib.hid (circular_any p n S G v l hok w hv h hn)
  obtain ⟨a, c, rfl, hz⟩ := hv.shape
  clear hz hv h hok
  generalize circB (lOf G) l = R at *
  generalize l.length = L at *
  go_enter Try.func61, Try.ntmps61
  go_wp2_with (go_at_call 29; refine HC.out.mono ?_; rintro e w1 ⟨rfl, hb1⟩)
  all_goals first | go_ret | go_ret2
  exact ⟨rfl, hb1⟩
def CirPost (E : Ce → Ce → Prop) (N : Ce → List Ce) (K : List Ce) (w : World) (e : Ending) (w' : World) : Prop :=
  (∃ v Z, e = .returned v ∧ PsAt w' w.heap.size v Z ∧ Z.map Prod.snd = (partsL E K).filter (circB N)) ∧ Below w.heap.size w w'
set_option maxHeartbeats 4000000 in
theorem circles_any (p n : Nat) (S : Nat → Prop) (G : Ce → Option (List Ce)) (K : List Ce) (hK : KeysG G K) (w : World) (h : GrAt w S p n G) (hS : ∀ k, S k → k < w.heap.size) (hn : n ≤ 100000) (hKl : K.length ≤ 100000) :
    Calls Try.prog 24 #[.pointer (some ⟨p, 0, none⟩)] w (CirPost (ldG G) (lOf G) K w) := by
  obtain ⟨Po, hPo⟩ : ∃ Po, Po = CirPost (ldG G) (lOf G) K w := ⟨_, rfl⟩
  rw [← hPo]
  have HPO := Lib.hid hPo
  obtain ⟨w0, hw0⟩ : ∃ x, x = w.alloc (.cells #[.pointer (some ⟨p, 0, none⟩)] 24) := ⟨_, rfl⟩
  have z0 : w0.heap.size = w.heap.size + 1 := by rw [hw0, World.size_alloc]
  have hb0 : Below w.heap.size w w0 := by rw [hw0]; exact (Below.refl _ w).alloc (Nat.le_refl _) _
  have kB : Boxed w0 w.heap.size 24 (.pointer (some ⟨p, 0, none⟩)) := by rw [hw0]; exact Boxed.new w _ _
  have hg0 := h.kept (Kept.of_below hb0)
  have HOF := Lib.hid (of_any p n S G K hK w0 hg0 (fun k hk => by have := hS k hk; omega) hn hKl)
  have HDE : Hid (∀ v Z w1, PsAt w1 w0.heap.size v Z → Z.map Prod.snd = partsL (ldG G) K → Below w0.heap.size w0 w1 → Calls Try.prog 60 #[v, .func (.func 61) #[] #[.pointer (some ⟨w.heap.size, 0, none⟩)]] w1 (DlPost w0.heap.size v (fun l => !circB (lOf G) l) Z w1)) := Lib.hid fun v Z w1 hZ hm hb1 => by
    have hlz : Z.length ≤ 100000 := by
      have h1 := congrArg List.length hm
      rw [List.length_map] at h1
      have := partsL_len (E := ldG G) (K := K)
      omega
    refine deleteF_any _ v Z w.heap.size _ w1 hZ (fun q hq W htr => ?_) hlz
    obtain ⟨e1, e2, e3, e4⟩ := hZ.e q hq
    have hvl : ∀ j, v.ownBlock = some j → w0.heap.size ≤ j := fun j hj => (hZ.r.lt j hj).1
    obtain ⟨x, hx, hqx, _⟩ := partsL_mem (E := ldG G) (K := K) (p := q.2) (by rw [← hm]; exact List.mem_map.2 ⟨q, hq, rfl⟩)
    refine circ1_any p n S G q.1 q.2 (fun y hy => ?_) w.heap.size W (e1.kept htr.size fun k cs t f hk hc => htr.block k (Array.getElem?_eq_some_iff.1 hc).1 fun e => (e4 k hk).2 e) ((hg0.kept (Kept.of_below hb1)).kept ⟨htr.size, fun k hk1 hk2 => htr.block k hk1 fun e => by have := hvl k e; have := hS k hk2; omega⟩) hn ?_
    · rw [hqx] at hy
      exact (h.okK hK y (mem_scL.1 hy).1).1
    · exact (World.cell?_of_block (a := ⟨w.heap.size, 0, none⟩) (htr.block w.heap.size (by have := hb1.size; omega) fun e => by have := hvl _ e; omega)).trans ((World.cell?_of_block (a := ⟨w.heap.size, 0, none⟩) (hb1.block w.heap.size (by omega))).trans kB.cell)
  have HW0 := Lib.hid hw0
  have HB0 := Lib.hid hb0
  have HZ0 := Lib.hid z0
  have HGZ : Hid (∀ Z : List (Value × List Ce), (Z.filter fun q => !(!circB (lOf G) q.2)).map Prod.snd = (Z.map Prod.snd).filter (circB (lOf G))) := Lib.hid fun Z => by
    rw [List.filter_map]
    congr 1
    apply List.filter_congr
    intro q _
    simp
  clear hPo h hK hS hn hKl hw0 hb0 hg0 z0
  go_enter Try.func24, Try.ntmps24
  have kb := kB.cell
  clear kB
  rw [HW0.out] at kb
  go_wp2_with (first | (go_at_call 21; rw [← HW0.out]; refine HOF.out.mono ?_; rintro e w1 ⟨⟨v, Z, rfl, hZ, hm⟩, hb1⟩; obtain ⟨a1, c1, rfl⟩ := own_slice hZ.r; have HZ := Lib.hid hZ; have HM := Lib.hid hm; have HB1 := Lib.hid hb1; clear hZ hm hb1 kb) | (go_at_call 60; refine (HDE.out _ Z w1 HZ.out HM.out HB1.out).mono ?_; rintro e w2 ⟨⟨v2, Z2, rfl, hZ2, rfl⟩, htr⟩))
  refine (show Po (.returned v2) w2 from ?_)
  rw [HPO.out]
  have z0 := HZ0.out
  refine ⟨⟨v2, _, rfl, hZ2.mono (by omega), ?_⟩, (HB0.out.trans (HB1.out.mono (by omega))).trans (htr.below (by have := HB1.out.size; omega) fun k hk => ?_)⟩
  · rw [HGZ.out, HM.out]
  · have := (HZ.out.r.lt k hk).1
    omega
end Go.Proofs.Ytjjpfddgcilliaa
namespace Go.Proofs.Ytjjpfddgcilliaa
open Go.RowKit Go.Shelf Go.Sort Go.Lib Go.Maps
set_option maxRecDepth 100000
attribute [local go_sem] Oper.semAt_some

set_option maxHeartbeats 4000000 in
theorem finished_nil (w : World) : Calls Try.prog 52 #[.pointer none] w fun e w' => e = .returned (.slice none 0 0) ∧ Below w.heap.size w w' := by
  obtain ⟨Po, hPo⟩ : ∃ Po : Ending → World → Prop, Po = fun e w' => e = .returned (.slice none 0 0) ∧ Below w.heap.size w w' := ⟨_, rfl⟩
  rw [← hPo]
  have HPO := Lib.hid hPo
  clear hPo
  have hmm := @run_makeMap Try.prog
  go_enter Try.func52, Try.ntmps52
  go_wp2_with (go_at_call 31; refine (cells_nil _).mono ?_; rintro e wa ⟨rfl, hba⟩)
  have HB := Lib.hid (((Below.refl _ w).alloc (Nat.le_refl _) (.map #[] 0)).trans (hba.mono (by simp)))
  clear hba hmm
  go_loopw [4, 11] (fun vl i wr => vl = .slice none 0 0 ∧ i = .int .i64 0 ∧ Below w.heap.size w wr) (fun _ i _ => 0)
  case atStart => exact ⟨rfl, rfl, HB.out⟩
  case round =>
    obtain ⟨rfl, rfl, hR⟩ := hrel
    have HR := Lib.hid hR
    clear hR
    go_wp2_with fail
    refine (show Po (.returned (.slice none 0 0)) wr from ?_)
    rw [HPO.out]
    exact ⟨rfl, HR.out⟩
def NilI (w : World) (_ : List (Fin ([] : List Ce).length)) (W : World) : Prop := Boxed W (w.heap.size + 1) 46 (.slice none 0 0) ∧ Below w.heap.size w W
set_option maxHeartbeats 4000000 in
theorem of_nil (w : World) : Calls Try.prog 21 #[.pointer none] w fun e w' => e = .returned (.slice none 0 0) ∧ Below w.heap.size w w' := by
  obtain ⟨Po, hPo⟩ : ∃ Po : Ending → World → Prop, Po = fun e w' => e = .returned (.slice none 0 0) ∧ Below w.heap.size w w' := ⟨_, rfl⟩
  rw [← hPo]
  have HPO := Lib.hid hPo
  clear hPo
  have hmm := @run_makeMap Try.prog
  obtain ⟨wc, hwc⟩ : ∃ x, x = (((w.alloc (.cells #[.pointer none] 24)).alloc (.cells #[.slice none 0 0] 46)).alloc (.map #[] 0)).alloc (.cells #[.map (some (w.heap.size + 1 + 1))] 77) := ⟨_, rfl⟩
  have zc : wc.heap.size = w.heap.size + 1 + 1 + 1 + 1 := by rw [hwc]; simp
  have HBC : Hid (Below w.heap.size w wc) := Lib.hid (by rw [hwc]; exact ((((Below.refl _ w).alloc (Nat.le_refl _) _).alloc (by simp) _).alloc (by simp; omega) _).alloc (by simp; omega) _)
  have kQ : Boxed wc (w.heap.size + 1) 46 (.slice none 0 0) := by
    have h := Boxed.new (w.alloc (.cells #[.pointer none] 24)) 46 (.slice none 0 0)
    rw [World.size_alloc] at h
    rw [hwc]; exact (h.alloc _).alloc _
  have HWC := Lib.hid hwc
  clear hwc
  refine (callsIn_wide (n := 3)).1 ?_
  refine callsIn_of_wp_marks Try.func21 rfl trivial ?_ rfl
  simp only [Try.ntmps21, List.size_toArray, List.length_cons, List.length_nil, Nat.reduceAdd, Nat.reduceSub, Array.replicate_succ, Array.replicate_zero, List.push_toArray, List.append_toArray, List.nil_append, List.cons_append]
  gi_wp2_with (refine ⟨trivial, ?_⟩; first | (gi_at_call 52; rw [← HWC.out]; refine (callsIn_wide.2 (finished_nil wc)).mono ?_; rintro e wd ⟨rfl, hbd⟩; have HBD := Lib.hid hbd; clear hbd) | (gi_at_call 51; refine (backwardC_in _ _ _ _ _).mono ?_; rintro e w' ⟨rfl, rfl⟩))
  obtain ⟨we, hwe⟩ : ∃ x, x = wd.alloc (.cells #[.slice none 0 0] 30) := ⟨_, rfl⟩
  have ze : we.heap.size = wd.heap.size + 1 := by rw [hwe, World.size_alloc]
  have zcd := HBD.out.size
  have hbe : Below wd.heap.size wd we := by rw [hwe]; exact (Below.refl _ wd).alloc (Nat.le_refl _) _
  have hbce : Below wc.heap.size wc we := HBD.out.trans (hbe.mono zcd)
  have hbwe : Below w.heap.size w we := HBC.out.trans (hbce.mono HBC.out.size)
  have kC := Boxed.new wd 30 (.slice none 0 0)
  rw [← hwe] at kC
  have kQe : Boxed we (w.heap.size + 1) 46 (.slice none 0 0) := (hbce.block _ kQ.lt).trans kQ
  have hseq := backwardC_stops 2 (by omega) wd.heap.size we.heap.size (fun _ => False) [] none 0 (by simp) we (by omega) (by omega) (fun h => h) kC.cell (Or.inl ⟨rfl, rfl⟩) (fun j hj => by cases hj)
  rw [← hwe]
  clear hbe hbce kC hwe kQ HWC hmm
  refine wpIn_rangeFunc_ownH rfl (by omega) (gf := 75) (lb := #[.pointer (some ⟨wd.heap.size, 0, none⟩)]) rfl trivial (enters_of Try.func75 (by kernel_rfl) rfl)
    hseq KpT.trans (kpT_b (Nat.le_refl _)) (Below.refl _ _) (fun _ => rfl)
    (NilI w) (fun _ _ _ => False) (fun _ X Y row ⟨h1, h2⟩ hg hr => ⟨h1.kept hg fun e => by have := (hr _ e.symm).1; omega, h2.grown hg h2.size fun k hk => by have := (hr k hk).1; omega⟩) (fun _ _ _ _ _ h _ _ => h)
    ⟨kQe, hbwe⟩ (fun _ _ _ => True) (fun _ _ _ _ _ _ _ _ _ => trivial) ?assign ?body ?done ?stop
  case assign =>
    intro l pre x
    exact absurd x.2 (by simp)
  case body =>
    intro l pre x
    exact absurd x.2 (by simp)
  case stop =>
    rintro D c pre W _ _ h _
    exact h.elim
  case done =>
    clear hseq
    rintro Df ys W hD rfl ⟨h1, h2⟩ hDf
    have kq : W.cell? ⟨w.heap.size + 1, 0, none⟩ = some (.slice none 0 0) := h1.cell
    have HQ := Lib.hid h1
    have HBW := Lib.hid h2
    have HDF := Lib.hid hDf
    have HSO : Hid (Calls Try.prog 55 #[.slice none 0 0, .func (.func 56) #[] #[]] W fun e w' => e = .returned (.tuple #[]) ∧ w' = W) := Lib.hid (by
      have h := AnyF.slices_SortFunc_none (ρ := Try.sortP_ren) { Try.sortP with } none 0 (.func (.func 56) #[] #[]) W
      exact h)
    clear h1 h2 hDf
    gi_wp2_with (refine ⟨trivial, ?_⟩; gi_at_call 55; refine (callsIn_wide.2 HSO.out).mono ?_; rintro e w5 ⟨rfl, rfl⟩)
    refine ⟨by simp, .inl ⟨_, _, rfl, run_takeDeferred HDF.out, ?_⟩⟩
    refine ⟨_, results_tmp (t := 2) rfl _ _ _, ?_⟩
    rw [HPO.out]
    exact ⟨rfl, HBW.out.grown (grownBy_putObj' w5 Df (.deferred none)) HBW.out.size (fun k e => by cases e; omega)⟩
end Go.Proofs.Ytjjpfddgcilliaa
