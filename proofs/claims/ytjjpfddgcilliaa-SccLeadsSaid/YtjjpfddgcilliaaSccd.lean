/-
  CIRCLES: all parts of a graph (scc.Of): what its loop holds.
  CIRCLES: all parts of a graph (scc.Of): its loop's memory.
-/
import Derived.Test.YtjjpfddgcilliaaSccb
set_option linter.unusedSimpArgs false
set_option linter.unusedVariables false
namespace Go.Proofs.Ytjjpfddgcilliaa
open Go.RowKit Go.Shelf Go.Sort Go.Lib Go.Maps
set_option maxRecDepth 100000

theorem fin_pre {N : Nat} {pre : List (Fin N)} {x : Fin N} (h : pre ++ [x] = (List.finRange N).take (pre ++ [x]).length) : pre = (List.finRange N).take pre.length ∧ x.1 = pre.length := by
  have hl : (pre ++ [x]).length = pre.length + 1 := by simp
  rw [hl] at h
  have h1 := congrArg (List.take pre.length) h
  rw [List.take_left, List.take_take, Nat.min_eq_left (Nat.le_succ _)] at h1
  refine ⟨h1, ?_⟩
  have h2 := congrArg (fun l => l[pre.length]?) h
  simp only [List.getElem?_append_right (Nat.le_refl _), Nat.sub_self, List.getElem?_cons_zero] at h2
  rw [List.getElem?_take_of_lt (Nat.lt_succ_self _)] at h2
  have h3 : pre.length < (List.finRange N).length := by
    by_cases e : pre.length < (List.finRange N).length
    · exact e
    · rw [List.getElem?_eq_none (by omega)] at h2; cases h2
  rw [List.getElem?_eq_getElem h3] at h2
  have h4 := Option.some.inj h2
  rw [h4]; simp
/-- the loop's logic: what is told are the circles of the last k; they are the parts. -/
structure LgO (E : Ce → Ce → Prop) (K F : List Ce) (k : Nat) (s : Ce → Bool) (Z : List (Value × List Ce)) : Prop where
  told : ∀ z, s z = true ↔ ToldB E F (F.length - k) z
  part : ∀ p ∈ Z, ∃ x ∈ K, p.2 = scL E K x
  dist : Z.Pairwise fun p q => hdC p.2 ≠ hdC q.2
  all : ∀ z, z ∈ K → s z = true → ∃ p ∈ Z, z ∈ p.2
  seen : ∀ p ∈ Z, ∀ z ∈ p.2, s z = true
section
variable {E : Ce → Ce → Prop} {K F l : List Ce} {k : Nat} {s s1 : Ce → Bool} {Z Z' : List (Value × List Ce)} {v2 : Value}
theorem LgO.made : LgO E K F 0 (fun _ => false) [] where
  told := fun z => ⟨fun h => (by cases h), fun h => absurd h (told_end z)⟩
  part := fun p h => by cases h
  dist := List.Pairwise.nil
  all := fun z _ h => by cases h
  seen := fun p h => by cases h
theorem LgO.old (h : LgO E K F k s Z) (hk : k < F.length) (hs : s (F[F.length - 1 - k]'(by omega)) = true) : LgO E K F (k + 1) s Z where
  told := fun z => by
    have e1 : F.length - (k + 1) = F.length - 1 - k := by omega
    have e2 : F.length - k = F.length - 1 - k + 1 := by omega
    have ht := h.told
    rw [e2] at ht
    rw [e1, ht z]
    exact (told_old (by omega) ((ht _).1 hs) z).symm
  part := h.part
  dist := h.dist
  all := h.all
  seen := h.seen
theorem LgO.more (hKs : Srt K) (hf : FinP E F) (hnd : F.Nodup) (hFK : ∀ z, z ∈ F ↔ z ∈ K) (hsrc : ∀ x y, E x y → x ∈ K) (hdst : ∀ x y, E x y → y ∈ K) (h : LgO E K F k s Z) (hk : k < F.length) (hs : s (F[F.length - 1 - k]'(by omega)) = false)
    (hl : ∀ z, z ∈ l ↔ Rt (Ev (fun a b => E b a) s) (F[F.length - 1 - k]'(by omega)) z) (hs1 : ∀ z, s1 z = true ↔ s z = true ∨ z ∈ l) : LgO E K F (k + 1) s1 (Z ++ [(v2, onc l)]) := by
  obtain ⟨i, hi⟩ : ∃ i, i = F.length - 1 - k := ⟨_, rfl⟩
  have hi2 : i < F.length := by omega
  have hx : F[F.length - 1 - k]'(by omega) = F[i] := by congr 1; exact hi.symm
  rw [hx] at hs
  simp only [hx] at hl
  have e1 : F.length - (k + 1) = i := by omega
  have e2 : F.length - k = i + 1 := by omega
  have ht := h.told
  rw [e2] at ht
  have hFi : F[i] ∈ K := (hFK _).1 (List.getElem_mem hi2)
  have hsim : ∀ z, z ∈ l ↔ Sim E F[i] z := fun z => (hl z).trans (kos_part hf hnd (fun x y _ h => (hFK y).2 (hdst x y h)) (fun x y h => (hFK x).2 (hsrc x y h)) hi2 ht hs z)
  have hp : onc l = scL E K F[i] := scL_is hKs fun z => (hsim z).trans ⟨fun h => ⟨h.1.closed (P := fun z => z ∈ K) (fun x y _ h => hdst x y h) hFi, h⟩, fun h => h.2⟩
  have hnew : ∀ z, z ∈ l → s z = false := fun z hz => ((hl z).1 hz).closed (P := fun z => s z = false) (fun x y _ h => h.2) hs
  refine ⟨fun z => ?_, fun p hp' => ?_, ?_, fun z hzK hz => ?_, fun p hp' z hz => ?_⟩
  · rw [e1, told_next hi2 z, hs1 z, ht z, hsim z]
  · rcases List.mem_append.1 hp' with h1 | h1
    · exact h.part p h1
    · rw [List.mem_singleton.1 h1]; exact ⟨_, hFi, hp⟩
  · rw [List.pairwise_append]
    refine ⟨h.dist, by simp, fun a ha b hb e => ?_⟩
    rw [List.mem_singleton.1 hb] at e
    obtain ⟨x, hxK, hxp⟩ := h.part a ha
    have h1 : hdC a.2 ∈ a.2 := hdC_mem (by rw [hxp]; exact scL_ne hxK)
    have h2 : hdC (onc l) ∈ onc l := hdC_mem (by rw [hp]; exact scL_ne hFi)
    have h3 := h.seen a ha _ h1
    have h4 := hnew _ (mem_onc.1 h2)
    rw [e] at h3
    dsimp only at h3
    rw [h4] at h3; cases h3
  · rcases (hs1 z).1 hz with h1 | h1
    · obtain ⟨p, h2, h3⟩ := h.all z hzK h1
      exact ⟨p, List.mem_append_left _ h2, h3⟩
    · exact ⟨_, List.mem_append_right _ (List.mem_singleton.2 rfl), mem_onc.2 h1⟩
  · rcases List.mem_append.1 hp' with h1 | h1
    · exact (hs1 z).2 (Or.inl (h.seen p h1 z hz))
    · rw [List.mem_singleton.1 h1] at hz
      exact (hs1 z).2 (Or.inr (mem_onc.1 hz))
theorem LgO.done (hKs : Srt K) (hFK : ∀ z, z ∈ F ↔ z ∈ K) (h : LgO E K F F.length s Z) (hp : Z'.Perm Z) (hs : Z'.Pairwise fun p q => cLt (hdC q.2) (hdC p.2) = false) : Z'.map Prod.snd = partsL E K := by
  have hd : Z'.Pairwise fun p q => hdC p.2 ≠ hdC q.2 := (hp.symm.pairwise h.dist fun e => Ne.symm e)
  refine parts_is hKs (fun p hp' => ?_) (fun z hz => ?_) ?_
  · obtain ⟨q, hq, rfl⟩ := List.mem_map.1 hp'
    exact h.part q (hp.mem_iff.1 hq)
  · have h1 : s z = true := by
      rw [h.told z, Nat.sub_self]
      obtain ⟨j, hj, e⟩ := List.getElem_of_mem ((hFK z).2 hz)
      exact ⟨j, hj, Nat.zero_le _, by rw [e]; exact Sim.refl E z⟩
    obtain ⟨p, h2, h3⟩ := h.all z hz h1
    exact ⟨p.2, List.mem_map.2 ⟨p, hp.mem_iff.2 h2, rfl⟩, h3⟩
  · rw [List.pairwise_map]
    refine List.Pairwise.imp ?_ (hs.and hd)
    rintro p q ⟨h1, h2⟩
    cases hh : cLt (hdC p.2) (hdC q.2) with
    | true => rfl
    | false => exact absurd (cLt_total hh h1) h2
end
end Go.Proofs.Ytjjpfddgcilliaa
namespace Go.Proofs.Ytjjpfddgcilliaa
open Go.RowKit Go.Shelf Go.Sort Go.Lib Go.Maps
set_option maxRecDepth 100000

/-- the boxes, the set of what is told, the parts. -/
structure OfM (n0 p B : Nat) (K : List Ce) (vp : Value) (Z : List (Value × List Ce)) (D : List Ce) (s : Ce → Bool) (W : World) : Prop where
  g : Boxed W n0 24 (.pointer (some ⟨p, 0, none⟩))
  q : Boxed W (n0 + 1) 46 vp
  t : Boxed W (n0 + 3) 77 (.map (some (n0 + 2)))
  m : MapAt W (n0 + 2) D.length (setF s)
  ps : PsAt W B vp Z
  nd : D.Nodup
  dk : ∀ z ∈ D, z ∈ K
  ds : ∀ z, s z = true ↔ z ∈ D
  lo : n0 + 4 ≤ B
theorem ownsRow_cells {W : World} {base : Nat} {e : TypeId} {size n : Nat} {v : Value} {xs : List Value} (h : W.ownsRow base e size v n xs) {j : Nat} (hj : v.ownBlock = some j) {o : Obj} (ho : W.heap[j]? = some o) : o.isCells = true := by
  rcases h.2 with ⟨hv, _⟩ | ⟨g, cap, cur, hv, _, hgg, _⟩
  · rw [hv] at hj; cases hj
  · rw [hv] at hj; cases hj
    rw [hgg] at ho; cases ho; rfl
theorem boxed_put {W : World} {B : Nat} {t : TypeId} {v : Value} (h : Boxed W B t v) (u : Value) : Boxed (W.setCell ⟨B, 0, none⟩ u) B t u := by
  unfold Boxed at *
  obtain ⟨hlt, _⟩ := Array.getElem?_eq_some_iff.1 h
  simp [World.setCell, Array.getElem?_modify, h]
section
variable {n0 p B : Nat} {K D l : List Ce} {vp vp' v2 : Value} {Z : List (Value × List Ce)} {s s1 : Ce → Bool} {W W1 W2 W3 W4 : World}
theorem OfM.own (h : OfM n0 p B K vp Z D s W) {row : Option Nat} (hg : W.grownBy W1 row) (hr : ∀ r, row = some r → B ≤ r ∧ ∃ o, W.heap[r]? = some o ∧ o.isCells = false) : OfM n0 p B K vp Z D s W1 where
  g := h.g.kept hg fun e => by have := (hr n0 e.symm).1; have := h.lo; omega
  q := h.q.kept hg fun e => by have := (hr _ e.symm).1; have := h.lo; omega
  t := h.t.kept hg fun e => by have := (hr _ e.symm).1; have := h.lo; omega
  m := h.m.kept hg fun e => by have := (hr _ e.symm).1; have := h.lo; omega
  ps := {
    r := row_far h.ps.r hg fun j hj e => by
      obtain ⟨_, o, h1, h2⟩ := hr j e
      rw [ownsRow_cells h.ps.r hj h1] at h2; cases h2
    e := fun p hp => by
      obtain ⟨a, b, c, d⟩ := h.ps.e p hp
      refine ⟨a.kept hg.size fun k cs t f _ hc => hg.block k (Array.getElem?_eq_some_iff.1 hc).1 fun e => ?_, b, c, d⟩
      obtain ⟨_, o, h1, h2⟩ := hr k e.symm
      rw [hc] at h1; cases h1; cases h2 }
  nd := h.nd
  dk := h.dk
  ds := h.ds
  lo := h.lo
theorem OfM.below (h : OfM n0 p B K vp Z D s W) (hb : Below W.heap.size W W1) : OfM n0 p B K vp Z D s W1 :=
  h.own (row := none) ⟨hb.os, hb.tape, hb.output, hb.size, fun k hk _ => hb.block k hk⟩ fun r e => by cases e
/-- one part more. -/
theorem OfM.more (h : OfM n0 p B K vp Z D s W) (hB : B ≤ W.heap.size) (hb0 : Below W.heap.size W W1) (hn : l.Nodup) (hlk : ∀ z ∈ l, z ∈ K) (hls : ∀ z ∈ l, s z = false) (hm1 : MapAt W2 (n0 + 2) (D.length + l.length) (setF s1)) (hs1 : ∀ z, s1 z = true ↔ s z = true ∨ z ∈ l) (htr : Trn (fun k => k = n0 + 2) W1 W2)
    (hb2 : Below W2.heap.size W2 W3) (hv2 : CsNew W3 W2.heap.size v2 (onc l)) (hne : onc l ≠ []) (ho : v2.oneCell' = true) (hg : W3.grownBy W4 vp.ownBlock) (h1 : W4.ownsRow B 30 1 vp' (Z.length + 1) (Z.map Prod.fst ++ [v2])) (hb1 : vp'.ownBlock = vp.ownBlock ∨ vp'.ownBlock = some W3.heap.size) :
    OfM n0 p B K vp' (Z ++ [(v2, onc l)]) (D ++ l) s1 (W4.setCell ⟨n0 + 1, 0, none⟩ vp') ∧ KeepsFrom B W (W4.setCell ⟨n0 + 1, 0, none⟩ vp') ∧ KpT B (fun k => k = n0 + 1 ∨ k = n0 + 2) W (W4.setCell ⟨n0 + 1, 0, none⟩ vp') ∧ (∀ n, n ≤ n0 → Below n W (W4.setCell ⟨n0 + 1, 0, none⟩ vp')) := by
  have hlo := h.lo
  have z1 := hb0.size
  have z2 := htr.size
  have z3 := hb2.size
  have z4 := hg.size
  have g5 := grownBy_setCell' W4 (n0 + 1) vp'
  have z5 := g5.size
  have hvl : ∀ j, vp.ownBlock = some j → B ≤ j ∧ j < W.heap.size := fun j hj => h.ps.r.lt j hj
  have hblk : ∀ k, k < W.heap.size → k ≠ n0 + 1 → k ≠ n0 + 2 → vp.ownBlock ≠ some k → (W4.setCell ⟨n0 + 1, 0, none⟩ vp').heap[k]? = W.heap[k]? := fun k hk e1 e2 e3 =>
    (g5.block k (by omega) fun e => e1 (Option.some.inj e)).trans ((hg.block k (by omega) fun e => e3 e.symm).trans ((hb2.block k (by omega)).trans ((htr.block k (by omega) e2).trans (hb0.block k hk))))
  have hno : ∀ k, k < B → vp.ownBlock ≠ some k := fun k hk e => by have := (hvl k e).1; omega
  have hq4 : Boxed W4 (n0 + 1) 46 vp := by
    have hlt := h.q.lt
    exact (hg.block _ (by omega) fun e => hno (n0 + 1) (by omega) e.symm).trans ((hb2.block _ (by omega)).trans ((htr.block _ (by omega) (by omega)).trans ((hb0.block _ hlt).trans h.q)))
  have hnew : ∀ j, j < W3.heap.size → vp.ownBlock ≠ some j → vp'.ownBlock ≠ some j := fun j hj hn e => by
    rcases hb1 with h2 | h2
    · exact hn (h2.symm.trans e)
    · have := Option.some.inj (h2.symm.trans e); omega
  have hvB : ∀ j, vp'.ownBlock = some j → B ≤ j := fun j hj => by
    rcases hb1 with h2 | h2
    · exact (hvl j (h2 ▸ hj)).1
    · have := Option.some.inj (h2.symm.trans hj); omega
  refine ⟨⟨?_, ?_, ?_, ?_, ⟨?_, fun q hq => ?_⟩, ?_, fun z hz => ?_, fun z => ?_, hlo⟩, ⟨by omega, fun k o hk hk2 hc => ?_⟩, fun k hk hT => ?_, fun n hn0 => ?_⟩
  · exact (hblk n0 h.g.lt (by omega) (by omega) (hno _ (by omega))).trans h.g
  · exact boxed_put hq4 vp'
  · exact (hblk (n0 + 3) h.t.lt (by omega) (by omega) (hno _ (by omega))).trans h.t
  · have hm3 := ((hm1.below hb2).kept hg fun e => hno (n0 + 2) (by omega) e.symm).kept g5 fun e => by have := Option.some.inj e; omega
    rw [List.length_append]; exact hm3
  · have h2 := row_far h1 g5 fun j hj e => by have := hvB j hj; have := Option.some.inj e; omega
    simpa using h2
  · rcases List.mem_append.1 hq with hq | hq
    · obtain ⟨a, b, c, d⟩ := h.ps.e q hq
      refine ⟨a.kept (by omega) fun k cs t f hk hc => ?_, b, c, fun j hj => ⟨(d j hj).1, hnew j (by have := a.lt hj; omega) (d j hj).2⟩⟩
      have hk2 := d k hk
      exact hblk k (Array.getElem?_eq_some_iff.1 hc).1 (by omega) (by omega) hk2.2
    · rw [List.mem_singleton.1 hq]
      have hold : ∀ j, W2.heap.size ≤ j → vp.ownBlock ≠ some j := fun j hj e => by have := (hvl j e).2; omega
      refine ⟨(hv2.1.rowed hg fun j hj => hold j (hv2.2 j hj)).rowed g5 fun j hj e => by have := hv2.2 j hj; have := Option.some.inj e; omega, hne, ho, fun j hj => ⟨by have := hv2.2 j hj; omega, hnew j (hv2.1.lt hj) (hold j (hv2.2 j hj))⟩⟩
  · rw [List.nodup_append]
    exact ⟨h.nd, hn, fun a ha b hb e => by
      have h2 := (h.ds a).2 ha
      rw [e, hls b hb] at h2; cases h2⟩
  · rcases List.mem_append.1 hz with h2 | h2
    · exact h.dk z h2
    · exact hlk z h2
  · rw [hs1 z, h.ds z, List.mem_append]
  · rw [hblk k (Array.getElem?_eq_some_iff.1 hk2).1 (by omega) (by omega) fun e => ?_]
    · exact hk2
    · rw [ownsRow_cells h.ps.r e hk2] at hc; cases hc
  · exact hblk k (by omega) (fun e => hT (Or.inl e)) (fun e => hT (Or.inr e)) (hno k hk)
  · have hs : W4.setCell ⟨n0 + 1, 0, none⟩ vp' = W4.setCell ⟨n0 + 1, 0, none⟩ vp' := rfl
    refine ⟨g5.os.trans (hg.os.trans (hb2.os.trans (htr.os.trans hb0.os))), g5.tape.trans (hg.tape.trans (hb2.tape.trans (htr.tape.trans hb0.tape))), g5.output.trans (hg.output.trans (hb2.output.trans (htr.output.trans hb0.output))), by omega, fun k hk => hblk k (by have := h.g.lt; omega) (by omega) (by omega) (hno k (by omega))⟩
end
end Go.Proofs.Ytjjpfddgcilliaa
