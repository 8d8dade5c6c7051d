/-
  CIRCLES: the part of a cell (scc.Part).
-/
import Derived.Test.YtjjpfddgcilliaaScc5
set_option linter.unusedSimpArgs false
set_option linter.unusedVariables false
namespace Go.Proofs.Ytjjpfddgcilliaa
open Go.RowKit Go.Shelf Go.Sort Go.Lib Go.Maps
set_option maxRecDepth 100000

/-- a cell needs another one, that has a formula. -/
def ldG (G : Ce → Option (List Ce)) (x y : Ce) : Prop := y ∈ lOf G x ∧ (G y).isSome = true
/-- all cells with formulas, in order. -/
def KeysG (G : Ce → Option (List Ce)) (K : List Ce) : Prop := Srt K ∧ ∀ z, z ∈ K ↔ (G z).isSome = true
section
variable {G : Ce → Option (List Ce)} {K : List Ce} {x y : Ce}
theorem lOf_some (h : y ∈ lOf G x) : (G x).isSome = true := by
  unfold lOf at h
  cases hg : G x with
  | none => rw [hg] at h; simp at h
  | some l => rfl
theorem ldG_src (hK : KeysG G K) (h : ldG G x y) : x ∈ K := (hK.2 x).2 (lOf_some h.1)
theorem ldG_dst (hK : KeysG G K) (h : ldG G x y) : y ∈ K := (hK.2 y).2 h.2
theorem rt_dst (hK : KeysG G K) (hx : x ∈ K) (h : Rt (ldG G) x y) : y ∈ K := h.closed (P := fun z => z ∈ K) (fun _ _ _ h => ldG_dst hK h) hx
theorem ev_none {E : Ce → Ce → Prop} {a b : Ce} : Rt (Ev E fun _ => false) a b ↔ Rt E a b := ⟨fun h => h.mono fun _ _ h => h.1, fun h => h.mono fun _ _ h => ⟨h, rfl⟩⟩
/-- who needs a cell that has a formula. -/
def usL (G : Ce → Option (List Ce)) (K : List Ce) (x : Ce) : List Ce := oncOf K (edge G x)
theorem mem_usL (hK : KeysG G K) : y ∈ usL G K x ↔ x ∈ lOf G y := by
  unfold usL oncOf
  rw [mem_onc, List.mem_filter, edge_lOf]
  exact ⟨fun h => h.2, fun h => ⟨(hK.2 y).2 (lOf_some h), h⟩⟩
theorem back_E (hK : KeysG G K) (hx : x ∈ K) (y : Ce) : ldG G y x ↔ y ∈ usL G K x ∧ (G y).isSome = true := by
  rw [mem_usL hK]
  exact ⟨fun h => ⟨h.1, lOf_some h.1⟩, fun h => ⟨h.1, (hK.2 x).1 hx⟩⟩
end
theorem made_set (W : World) : MapAt (W.alloc (.map #[] 0)) W.heap.size 0 (setF fun _ => false) := (MapAt.made W).congr fun _ => rfl
/-- who needs a cell, told by the program. -/
theorem forK_any (p n : Nat) (S : Nat → Prop) (G : Ce → Option (List Ce)) (K : List Ce) (hK : KeysG G K) (x : Ce) (hx : okC x) (w : World) (h : GrAt w S p n G) (hn : n * 24 ≤ 140737488355328) : Calls Try.prog 17 #[.pointer (some ⟨p, 0, none⟩), mkC x] w fun e w' => (∃ v, e = .returned v ∧ CsNew w' w.heap.size v (usL G K x)) ∧ Below w.heap.size w w' :=
  (for_any p n S G x hx w h hn).mono fun e w' ht => by
    obtain ⟨⟨v, he, hv⟩, hb⟩ := ht.is (l := usL G K x) (srt_onc _) (fun z => by
      rw [mem_usL hK, ← edge_lOf])
    exact ⟨⟨v, he, hv⟩, hb⟩
theorem GrAt.okK {w : World} {S : Nat → Prop} {p n : Nat} {G : Ce → Option (List Ce)} (h : GrAt w S p n G) {K : List Ce} (hK : KeysG G K) : ∀ x ∈ K, okC x ∧ (∀ y ∈ lOf G x, okC y) ∧ (∀ y ∈ usL G K x, okC y) ∧ (lOf G x).length ≤ n := by
  obtain ⟨bn, bu, fn, fu, h0, hp, hN, hU⟩ := h
  have hk : ∀ x ∈ K, okC x := fun x hx => by
    have := (hK.2 x).1 hx
    cases hg : G x with
    | none => rw [hg] at this; cases this
    | some l => exact (hN.ok x l hg).1
  intro x hx
  have := (hK.2 x).1 hx
  cases hg : G x with
  | none => rw [hg] at this; cases this
  | some l =>
    obtain ⟨h1, _, h3, h4⟩ := hN.ok x l hg
    have hl : lOf G x = l := by unfold lOf; rw [hg]; rfl
    exact ⟨h1, by rw [hl]; exact h4, fun y hy => hk y ((hK.2 y).2 (lOf_some ((mem_usL hK).1 hy))), by rw [hl]; exact h3⟩
theorem usL_len (G : Ce → Option (List Ce)) (K : List Ce) (x : Ce) : (usL G K x).length ≤ K.length := oncOf_len K _
/-- both ways of being reached, from a new set. -/
theorem reachN_any (p n : Nat) (S : Nat → Prop) (G : Ce → Option (List Ce)) (K : List Ce) (hK : KeysG G K) (x : Ce) (hx : x ∈ K) (b m : Nat) (s0 : Ce → Bool) (w : World) (h : GrAt w S p n G) (hS : ¬ S b) (hn : n ≤ 100000) (hKl : K.length ≤ 100000) (hmn : m ≤ 100000) (hm : MapAt w b m (setF s0)) (h0 : s0 x = false) :
    Calls Try.prog 54 #[.pointer (some ⟨p, 0, none⟩), mkC x, .func (.func 18) #[.pointer (some ⟨p, 0, none⟩)] #[], .map (some b)] w fun e w' => ∃ v l s, e = .returned v ∧ CsNew w' w.heap.size v l ∧ l.Nodup ∧ (∀ z, z ∈ l ↔ Rt (Ev (ldG G) s0) x z) ∧ MapAt w' b (m + l.length) (setF s) ∧ (∀ z, s z = true ↔ s0 z = true ∨ z ∈ l) ∧ Trn (fun k => k = b) w w' := by
  have hok := h.okK hK
  have hk : ∀ W, Trn (fun k => k = b) w W → GrAt W S p n G := fun W ht => h.kept (Kept.of_trn ht fun k hk e => hS (e ▸ hk))
  exact reached_any p _ b m (ldG G) (fun y => (G y).isSome) (lOf G) x s0 K w (enters_of Try.func18 (by kernel_rfl) rfl)
    (fun W hW y hy => needs_any p n S G y (hok y hy).1 W (hk W hW) (by omega))
    (fun W hW y hy => has_any p n S G y hy W (hk W hW))
    (fun y hy z => Iff.rfl) (fun y hy => (hK.2 y).2 hy) (fun y hy => ⟨(hok y hy).1, (hok y hy).2.1⟩) hKl hmn (fun y hy => Nat.le_trans (hok y hy).2.2.2 hn) hm h0 hx
theorem reachF_any (p n : Nat) (S : Nat → Prop) (G : Ce → Option (List Ce)) (K : List Ce) (hK : KeysG G K) (x : Ce) (hx : x ∈ K) (b m : Nat) (s0 : Ce → Bool) (w : World) (h : GrAt w S p n G) (hS : ¬ S b) (hn : n ≤ 100000) (hKl : K.length ≤ 100000) (hmn : m ≤ 100000) (hm : MapAt w b m (setF s0)) (h0 : s0 x = false) :
    Calls Try.prog 54 #[.pointer (some ⟨p, 0, none⟩), mkC x, .func (.func 17) #[.pointer (some ⟨p, 0, none⟩)] #[], .map (some b)] w fun e w' => ∃ v l s, e = .returned v ∧ CsNew w' w.heap.size v l ∧ l.Nodup ∧ (∀ z, z ∈ l ↔ Rt (Ev (fun x y => ldG G y x) s0) x z) ∧ MapAt w' b (m + l.length) (setF s) ∧ (∀ z, s z = true ↔ s0 z = true ∨ z ∈ l) ∧ Trn (fun k => k = b) w w' := by
  have hok := h.okK hK
  have hk : ∀ W, Trn (fun k => k = b) w W → GrAt W S p n G := fun W ht => h.kept (Kept.of_trn ht fun k hk e => hS (e ▸ hk))
  exact reached_any p _ b m (fun x y => ldG G y x) (fun y => (G y).isSome) (usL G K) x s0 K w (enters_of Try.func17 (by kernel_rfl) rfl)
    (fun W hW y hy => forK_any p n S G K hK y (hok y hy).1 W (hk W hW) (by omega))
    (fun W hW y hy => has_any p n S G y hy W (hk W hW))
    (fun y hy z => back_E hK hy z) (fun y hy => (hK.2 y).2 hy) (fun y hy => ⟨(hok y hy).1, (hok y hy).2.2.1⟩) hKl hmn (fun y hy => Nat.le_trans (usL_len G K y) hKl) hm h0 hx
set_option maxHeartbeats 8000000 in
theorem part_any (p n : Nat) (S : Nat → Prop) (G : Ce → Option (List Ce)) (K : List Ce) (hK : KeysG G K) (x : Ce) (hx : okC x) (w : World) (h : GrAt w S p n G) (hS : ∀ k, S k → k < w.heap.size) (hn : n ≤ 100000) (hKl : K.length ≤ 100000) :
    Calls Try.prog 27 #[.pointer (some ⟨p, 0, none⟩), mkC x] w fun e w' => (∃ v, e = .returned v ∧ CsNew w' w.heap.size v (if (G x).isSome = true then scL (ldG G) K x else [])) ∧ Below w.heap.size w w' := by
  obtain ⟨Po, hPo⟩ : ∃ Po : Ending → World → Prop, Po = fun e w' => (∃ v, e = .returned v ∧ CsNew w' w.heap.size v (if (G x).isSome = true then scL (ldG G) K x else [])) ∧ Below w.heap.size w w' := ⟨_, rfl⟩
  rw [← hPo]
  have HPO := Lib.hid hPo
  have HG := Lib.hid h
  have HX := Lib.hid hx
  have HK := Lib.hid hK
  have HS := Lib.hid hS
  have HN := Lib.hid hn
  have HKL := Lib.hid hKl
  clear hPo h hx hK hS hn hKl
  obtain ⟨r, hr⟩ : ∃ r, r = (G x).isSome := ⟨_, rfl⟩
  have HR := Lib.hid hr
  have HHAS : Hid (∀ W, Below w.heap.size w W → Calls Try.prog 40 #[.pointer (some ⟨p, 0, none⟩), mkC x] W fun e w' => e = .returned (.bool r) ∧ Below W.heap.size W w') := Lib.hid fun W hW => by rw [hr]; exact has_any p n S G x HX.out W (HG.out.kept (Kept.of_below hW))
  clear hr
  cases r
  · have HE : Hid (Po = fun e w' => (∃ v, e = .returned v ∧ CsNew w' w.heap.size v []) ∧ Below w.heap.size w w') := Lib.hid (by rw [HPO.out, ← HR.out]; rfl)
    clear HPO
    obtain ⟨x1, x2, x3⟩ := x
    unfold mkC at *
    dsimp only at HHAS ⊢
    go_enter Try.func27, Try.ntmps27
    go_wp2_with (go_at_call 40; refine (HHAS.out _ ((Below.refl _ w).alloc (Nat.le_refl _) _)).mono ?_; rintro e wa ⟨rfl, hba⟩)
    refine (show Po (.returned (.slice none 0 0)) wa from ?_)
    rw [HE.out]
    exact ⟨⟨_, rfl, Or.inl ⟨rfl, rfl⟩, fun b hb => (by cases hb)⟩, ((Below.refl _ w).alloc (Nat.le_refl _) _).trans (hba.mono (by simp))⟩
  · have HXK : Hid (x ∈ K) := Lib.hid ((HK.out.2 x).2 HR.out.symm)
    have HE : Hid (Po = fun e w' => (∃ v, e = .returned v ∧ CsNew w' w.heap.size v (scL (ldG G) K x)) ∧ Below w.heap.size w w') := Lib.hid (by rw [HPO.out, ← HR.out]; rfl)
    clear HPO
    have HRN : Hid (∀ b W, Below w.heap.size w W → ¬ S b → MapAt W b 0 (setF fun _ => false) → Calls Try.prog 54 #[.pointer (some ⟨p, 0, none⟩), mkC x, .func (.func 18) #[.pointer (some ⟨p, 0, none⟩)] #[], .map (some b)] W fun e w' => ∃ v l s, e = .returned v ∧ CsNew w' W.heap.size v l ∧ l.Nodup ∧ (∀ z, z ∈ l ↔ Rt (Ev (ldG G) fun _ => false) x z) ∧ MapAt w' b (0 + l.length) (setF s) ∧ (∀ z, s z = true ↔ (fun _ => false) z = true ∨ z ∈ l) ∧ Trn (fun k => k = b) W w') := Lib.hid fun b W hW hb hm => reachN_any p n S G K HK.out x HXK.out b 0 _ W (HG.out.kept (Kept.of_below hW)) hb HN.out HKL.out (by omega) hm rfl
    have HRF : Hid (∀ b W, GrAt W S p n G → ¬ S b → MapAt W b 0 (setF fun _ => false) → Calls Try.prog 54 #[.pointer (some ⟨p, 0, none⟩), mkC x, .func (.func 17) #[.pointer (some ⟨p, 0, none⟩)] #[], .map (some b)] W fun e w' => ∃ v l s, e = .returned v ∧ CsNew w' W.heap.size v l ∧ l.Nodup ∧ (∀ z, z ∈ l ↔ Rt (Ev (fun x y => ldG G y x) fun _ => false) x z) ∧ MapAt w' b (0 + l.length) (setF s) ∧ (∀ z, s z = true ↔ (fun _ => false) z = true ∨ z ∈ l) ∧ Trn (fun k => k = b) W w') := Lib.hid fun b W hW hb hm => reachF_any p n S G K HK.out x HXK.out b 0 _ W hW hb HN.out HKL.out (by omega) hm rfl
    obtain ⟨x1, x2, x3⟩ := x
    unfold mkC at *
    dsimp only at HHAS HRN HRF ⊢
    have hbx := box_at (w := w) (a := x1) (b := x2) (c := x3) rfl
    have hmm := @run_makeMap Try.prog
    go_enter Try.func27, Try.ntmps27
    go_wp2_with (go_at_call 40; refine (HHAS.out _ ((Below.refl _ w).alloc (Nat.le_refl _) _)).mono ?_; rintro e wa ⟨rfl, hba⟩; have k0 := belK hba hbx.1 (by simp); have k1 := belK hba hbx.2.1 (by simp); have k2 := belK hba hbx.2.2 (by simp); have hza : w.heap.size < wa.heap.size := (by have := hba.size; simp at this; omega); have HBA : Hid (Below w.heap.size w wa) := Lib.hid (((Below.refl _ w).alloc (Nat.le_refl _) _).trans (hba.mono (by simp))); clear hba; go_wp2_with (go_at_call 54; refine (HRN.out wa.heap.size _ (HBA.out.alloc HBA.out.size _) (fun h => by have := HS.out _ h; have := HBA.out.size; omega) (made_set wa)).mono ?_; rintro e wc ⟨v1, l1, s1, rfl, hv1, hd1, ht1, hm1, hs1, htr1⟩; have hne : ¬ w.heap.size = wa.heap.size := (by omega); have hlt1 : w.heap.size < (wa.alloc (.map #[] 0)).heap.size := (by simp; omega); have e0 := htr1.cell (alK k0) hlt1 hne; have e1 := htr1.cell (alK k1) hlt1 hne; have e2 := htr1.cell (alK k2) hlt1 hne; have HD1 := Lib.hid hd1; have HM1 := Lib.hid hm1; have HT1 := Lib.hid ht1; have HS1 := Lib.hid hs1; have HTR1 := Lib.hid htr1; have hzc := Nat.lt_of_lt_of_le hlt1 htr1.size; clear hv1 hd1 hm1 ht1 hs1 htr1 k0 k1 k2 hne hlt1; go_wp2_with (go_at_call 54; refine (HRF.out wc.heap.size _ ((HG.out.kept (Kept.of_below (HBA.out.alloc HBA.out.size _))).kept (Kept.of_trn HTR1.out (fun k hk e => by have := HS.out _ hk; have := HBA.out.size; omega)) |>.kept (Kept.of_below ((Below.refl _ wc).alloc (Nat.le_refl _) _))) (fun h => by have := HS.out _ h; have := HBA.out.size; have := HTR1.out.size; simp at this; omega) (made_set wc)).mono ?_; rintro e wd ⟨v2, l2, s2, rfl, hv2, hd2, ht2, hm2, hs2, htr2⟩; obtain ⟨a2, c2, rfl, _⟩ := hv2.1.shape; have HV2 := Lib.hid hv2; have HD2 := Lib.hid hd2; have HT2 := Lib.hid ht2; have HTR2 := Lib.hid htr2; clear hv2 hd2 hm2 ht2 hs2 htr2 e0 e1 e2)))
    have HBD : Hid (Below w.heap.size w wd) := Lib.hid (by
      have h1 : Below w.heap.size w wc := (HBA.out.alloc HBA.out.size (.map #[] 0)).trans (HTR1.out.below (by have := HBA.out.size; simp; omega) fun k hk => by have := HBA.out.size; omega)
      have h2 := h1.alloc h1.size (.map #[] 0)
      exact h2.trans (HTR2.out.below h2.size fun k hk => by have := h1.size; omega))
    have HMD : Hid (MapAt wd wa.heap.size (0 + l1.length) (setF s1)) := Lib.hid ((HM1.out.below ((Below.refl _ wc).alloc (Nat.le_refl _) _)).blk (HTR2.out.block _ (by have := HM1.out.lt; simp; omega) (by have := HM1.out.lt; omega)))
    obtain ⟨L, hL⟩ : ∃ L, L = l2.length := ⟨_, rfl⟩
    rw [← hL] at HV2 ⊢
    have HLL := Lib.hid hL
    have HL2 : Hid (l2.length ≤ K.length) := Lib.hid (nodup_len HD2.out fun z hz => by
      have h1 := (ev_none.1 ((HT2.out z).1 hz)).rev
      exact ((HK.out.2 z).2 (by
        rcases h1.split with h | ⟨u, hu, _⟩
        · rw [h]; exact HR.out.symm
        · exact lOf_some hu.1)))
    have HPS : Hid (onc (l2.filter s1) = scL (ldG G) K (x1, x2, x3)) := Lib.hid (scL_is HK.out.1 fun z => by
      rw [List.mem_filter, HT2.out z, HS1.out z, HT1.out z, ev_none, ev_none]
      constructor
      · rintro ⟨h1, h2⟩
        have h3 : Rt (ldG G) (x1, x2, x3) z := h2.elim (fun h => by cases h) id
        exact ⟨rt_dst HK.out HXK.out h3, h3, h1.rev⟩
      · rintro ⟨_, h1, h2⟩
        exact ⟨h2.rev, Or.inr h1⟩)
    have HOKL : Hid (∀ z ∈ l2, okC z) := Lib.hid fun z hz => by
      have h1 := (ev_none.1 ((HT2.out z).1 hz)).rev
      have hzK : z ∈ K := (HK.out.2 z).2 (by
        rcases h1.split with h | ⟨u, hu, _⟩
        · rw [h]; exact HR.out.symm
        · exact lOf_some hu.1)
      exact (HG.out.okK HK.out z hzK).1
    clear hL HRN HRF HD1 HM1 HT1 HS1 HTR1 HD2 HT2 HTR2 HHAS hzc hza hbx hmm
    have hL5 : L ≤ 100000 := by have := HL2.out; have := HKL.out; rw [HLL.out]; omega
    go_loopw [6, 27] (fun vq i wr => ∃ k : Nat, k ≤ L ∧ i = .int .i64 k ∧ wr.ownsRow wd.heap.size 32 3 vq ((l2.take k).filter s1).length (flC ((l2.take k).filter s1)) ∧ Below wd.heap.size wd wr) (fun _ i _ => L - (intOf i).toNat)
    case atStart => exact ⟨0, by omega, rfl, World.ownsRow_nil _ _ _ _, Below.refl _ _⟩
    case round =>
      obtain ⟨k, hk, rfl, hrow, hR⟩ := hrel
      have HROW := Lib.hid hrow
      have HR2 := Lib.hid hR
      have hfl : ((l2.take k).filter s1).length ≤ 100000 := by
        have h1 := List.length_filter_le s1 (l2.take k)
        rw [List.length_take] at h1
        have := HL2.out
        have := HKL.out
        omega
      have HFL := Lib.hid hfl
      clear hrow hR hfl
      by_cases hlt : k < L
      · have hkl : k < l2.length := by rw [← HLL.out]; exact hlt
        have hcs := HV2.out.1.below HR2.out
        rw [HLL.out] at hcs
        obtain ⟨g, o, rfl, hg, c0, c1, c2⟩ := hcs.at k hkl
        have hoy := HOKL.out l2[k] (List.getElem_mem hkl)
        have hft : (l2.take (k + 1)).filter s1 = (l2.take k).filter s1 ++ (if s1 l2[k] = true then [l2[k]] else []) := by
          rw [take_snoc l2 k hkl, List.filter_append]
          by_cases h : s1 l2[k] = true
          · rw [if_pos h]; simp [List.filter, h]
          · rw [if_neg h]; simp [List.filter, h]
        generalize l2[k] = y at *
        obtain ⟨q, hq⟩ : ∃ q, q = s1 y := ⟨_, rfl⟩
        have HHY : Hid (∀ W, Below wd.heap.size wd W → Calls Try.prog 53 #[.map (some wa.heap.size), mkC y] W fun e w' => e = .returned (.bool q) ∧ Below W.heap.size W w') := Lib.hid fun W hW => by rw [hq]; exact cellsHas_any _ _ s1 y hoy W (HMD.out.below hW)
        rw [← hq] at hft
        have HFT := Lib.hid hft
        clear hq hft hcs hkl hoy
        obtain ⟨y1, y2, y3⟩ := y
        unfold mkC at HHY
        dsimp only at c0 c1 c2 HHY
        have hbx := box_at (w := wr) (a := y1) (b := y2) (c := y3) rfl
        have HBR : Hid (Below wd.heap.size wd (wr.alloc (.cells #[.int .i64 y1, .int .i64 y2, .int .i64 y3] 32))) := Lib.hid (HR2.out.alloc HR2.out.size _)
        cases q
        · go_wp2_with (go_at_call 53; refine (HHY.out _ HBR.out).mono ?_; rintro e ya ⟨rfl, hba⟩)
          exact ⟨⟨k + 1, by omega, by go_num, by rw [HFT.out]; simpa using row_below (row_below HROW.out ((Below.refl _ wr).alloc (Nat.le_refl _) _)) hba, HBR.out.trans (hba.mono HBR.out.size)⟩, by simp [intOf]; omega⟩
        · go_wp2_with (go_at_call 53; refine (HHY.out _ HBR.out).mono ?_; rintro e ya ⟨rfl, hba⟩; have HBY := Lib.hid hba; have d0 := belK hba hbx.1 (by simp); have d1 := belK hba hbx.2.1 (by simp); have d2 := belK hba hbx.2.2 (by simp); clear hba; go_wp2_with (at_builtin; refine wpList_append_lst rfl _ _ rfl wd.heap.size u6 _ ((l2.take k).filter s1) [(y1, y2, y3)] rfl ((row_below (row_below HROW.out ((Below.refl _ wr).alloc (Nat.le_refl _) _)) HBY.out).alloc _) rfl (Or.inl (one_new ya y1 y2 y3 _)) (by have := HFL.out; simp; omega) (by have := HBR.out.size; have := HBY.out.size; simp at *; omega) ?_; intro vq V1 h1 g1; have H1 := Lib.hid h1; have G1 := Lib.hid g1; clear h1 g1))
          have hB := (HBR.out.trans (HBY.out.mono HBR.out.size))
          have hB2 := (hB.alloc hB.size (.cells #[.int .i64 y1, .int .i64 y2, .int .i64 y3] 32)).grown G1.out (by have := hB.size; simp; omega) (fun q hq => (HROW.out.lt q hq).1)
          exact ⟨⟨k + 1, by omega, by go_num, by rw [HFT.out]; exact H1.out, hB2⟩, by simp [intOf]; omega⟩
      · obtain rfl : k = L := by omega
        clear hlt
        have hall : (l2.take k).filter s1 = l2.filter s1 := by rw [HLL.out, List.take_length]
        have HOC := Lib.hid (onceC_any u6 ((l2.take k).filter s1) wr (CsAt.of_owns HROW.out).1 (by have := HFL.out; omega))
        go_wp2_with (go_at_call 43; refine HOC.out.mono ?_; rintro e ya ⟨⟨v, rfl, hv⟩, hb⟩)
        refine (show Po (.returned v) ya from ?_)
        rw [HE.out]
        rw [hall, HPS.out] at hv
        have hB := HBD.out.trans (HR2.out.mono HBD.out.size)
        exact ⟨⟨v, rfl, hv.base hB.size⟩, hB.trans (hb.mono hB.size)⟩
end Go.Proofs.Ytjjpfddgcilliaa
