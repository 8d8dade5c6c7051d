/-
  CIRCLES: cells in the order in which they are finished (scc.finish).
  CIRCLES: all cells in the order in which they are finished (scc.finished).
-/
import Derived.Test.YtjjpfddgcilliaaScc8
set_option linter.unusedSimpArgs false
set_option linter.unusedVariables false
namespace Go.Proofs.Ytjjpfddgcilliaa
open Go.RowKit Go.Shelf Go.Sort Go.Lib Go.Maps
set_option maxRecDepth 100000

theorem own_capS {W : World} {base n size : Nat} {e : TypeId} {a : Option Addr} {cap : Nat} {xs : List Value} (h : W.ownsRow base e size (.slice a n cap) n xs) : n ≤ cap := by
  rcases h.2 with ⟨h', h0⟩ | ⟨g', cap', cur, hv, _, _, h1, _⟩
  · omega
  · simp at hv; omega
theorem own_noneS {W : World} {base n size : Nat} {e : TypeId} {a : Option Addr} {cap : Nat} {xs : List Value} (h : W.ownsRow base e size (.slice a (n + 1) cap) (n + 1) xs) : ∃ g, a = some ⟨g, 0, none⟩ := by
  rcases h.2 with ⟨h', _⟩ | ⟨g', cap', cur, hv, _⟩
  · cases h'
  · exact ⟨g', by simp at hv; exact hv.1⟩
theorem own_last4 {W : World} {base : Nat} {e : TypeId} {g n cap : Nat} {Z : List (Ce × Value)} {z : Ce × Value} (h : W.ownsRow base e 4 (.slice (some ⟨g, 0, none⟩) (n + 1) cap) (n + 1) (flR (Z ++ [z]))) (hn : n = Z.length) : W.ownsRow base e 4 (.slice (some ⟨g, 0, none⟩) n cap) n (flR Z) := by
  rcases h.2 with ⟨h', _⟩ | ⟨g', cap', cur, hv, hb, hg, h1, h2, h3, h4⟩
  · cases h'
  · obtain ⟨rfl, rfl⟩ : g = g' ∧ cap = cap' := by simpa using hv
    have hl : (flR Z).length = n * 4 := by rw [flR_length, hn]
    refine ⟨hl, Or.inr ⟨g, cap, cur, rfl, hb, hg, by omega, h2, h3, ?_⟩⟩
    have h5 : (cur.toList.take ((n + 1) * 4)).take (n * 4) = (flR Z ++ flR [z]).take (n * 4) := by rw [h4, flR_append]
    rw [List.take_take, Nat.min_eq_left (by omega), List.take_append_of_le_length (by omega)] at h5
    rw [h5]
    exact List.take_of_length_le (by omega)
theorem own_at4 {W : World} {base g n cap : Nat} {e : TypeId} {Z : List (Ce × Value)} (h : W.ownsRow base e 4 (.slice (some ⟨g, 0, none⟩) n cap) n (flR Z)) (k : Nat) (hk : k < Z.length) : g < W.heap.size ∧ (W.cell? ⟨g, k * 4, none⟩ = some (.int .i64 Z[k].1.1) ∧ W.cell? ⟨g, k * 4 + 1, none⟩ = some (.int .i64 Z[k].1.2.1) ∧ W.cell? ⟨g, k * 4 + 2, none⟩ = some (.int .i64 Z[k].1.2.2) ∧ W.cell? ⟨g, k * 4 + 3, none⟩ = some (Z[k].2)) ∧ ∀ j, W.frozen? ⟨g, j, none⟩ = false := by
  obtain ⟨a0, a1, a2, a3⟩ := flR_get Z k hk
  have b0 := h.cells (g := g) rfl _ _ a0
  have b1 := h.cells (g := g) rfl _ _ a1
  have b2 := h.cells (g := g) rfl _ _ a2
  have b3 := h.cells (g := g) rfl _ _ a3
  rw [Addr.add_lit, Nat.zero_add] at b0 b1 b2 b3
  exact ⟨World.block_lt_of_cell? _ _ b0, ⟨b0, b1, b2, b3⟩, fun j => h.frozenAt j⟩
theorem flR_set3 (Z : List (Ce × Value)) (t : Ce) (v u : Value) : (flR (Z ++ [(t, v)])).set (Z.length * 4 + 3) u = flR (Z ++ [(t, u)]) := by
  rw [flR_append, flR_append, List.set_append_right _ _ (by rw [flR_length]; omega), flR_length, Nat.add_sub_cancel_left]
  rfl
/-- what holds at each jump. -/
def FnJ (w : World) (p b : Nat) (E : Ce → Ce → Prop) (N : Ce → List Ce) (K l0 : List Ce) (x0 : Ce) (vl0 : Value) (γ : List Yw × List Ce × (Ce → Bool)) (a' : Act) (W : World) : Prop :=
  ∃ vp vl, FnM w b vl0 vp vl γ.1 γ.2.1 γ.2.2 W ∧ Fsh E N K γ.2.1 (γ.1.map rOf) γ.2.2 ∧ (∀ z, z ∈ l0 ∨ z = x0 → γ.2.2 z = true) ∧ (vl.ownBlock = vl0.ownBlock ∨ ∀ j, vl.ownBlock = some j → w.heap.size ≤ j) ∧ ∃ u1 u4 u5 u6 u7 u8 u10 u11 u12 u13 u14 u15 u16 u17 u18 u19 u20 u21 u22 u23 u24 u25 u26 u27 u28 u29 u30 u31 u32 u33 u34 u35 u36 u37 u38 u39 u40 u41 u42 u43 u44 u45 u46 u47 u48 u49 u50 u51 u52 u53 u54 u55 u56 u57 u58 u59 u60 u61 u62 u63 u64 u65 u66 u67 u68 u69 u70 u71 u72 u73 u74 u75 u76 u77 u78 u79 u80 u81 : Value, a' = { tmps := #[.pointer (some ⟨p, 0, none⟩), u1, .map (some b), vl, u4, u5, u6, u7, u8, vp, u10, u11, u12, u13, u14, u15, u16, u17, u18, u19, u20, u21, u22, u23, u24, u25, u26, u27, u28, u29, u30, u31, u32, u33, u34, u35, u36, u37, u38, u39, u40, u41, u42, u43, u44, u45, u46, u47, u48, u49, u50, u51, u52, u53, u54, u55, u56, u57, u58, u59, u60, u61, u62, u63, u64, u65, u66, u67, u68, u69, u70, u71, u72, u73, u74, u75, u76, u77, u78, u79, u80, u81], defers := [] }
/-- how much is left to do. -/
def fnMu (kl n : Nat) (γ : List Yw × List Ce × (Ce → Bool)) : Nat := (kl - (γ.2.1.length + γ.1.length)) * (n + 2) + (γ.1.map fun y => y.2.2.length + 1).sum
theorem fnMu_pop (kl n : Nat) (Y : List Yw) (x : Ce) (v : Value) (l : List Ce) (s : Ce → Bool) : fnMu kl n (Y, l ++ [x], s) < fnMu kl n (Y ++ [(x, v, [])], l, s) := by
  unfold fnMu
  simp only [List.length_append, List.length_singleton, List.map_append, List.sum_append, List.map_cons, List.map_nil, List.sum_cons, List.sum_nil, List.length_nil]
  rw [show l.length + 1 + Y.length = l.length + (Y.length + 1) by omega]
  omega
theorem fnMu_skip (kl n : Nat) (Y : List Yw) (x y : Ce) (u v : Value) (r l : List Ce) (s s' : Ce → Bool) : fnMu kl n (Y ++ [(x, u, r)], l, s) < fnMu kl n (Y ++ [(x, v, y :: r)], l, s') := by
  unfold fnMu
  simp only [List.length_append, List.length_singleton, List.map_append, List.sum_append, List.map_cons, List.map_nil, List.sum_cons, List.sum_nil, List.length_cons]
  omega
theorem fnMu_push (kl n : Nat) (Y : List Yw) (x y : Ce) (u v q : Value) (r m l : List Ce) (s s' : Ce → Bool) (hm : m.length ≤ n) (hk : l.length + (Y.length + 2) ≤ kl) : fnMu kl n (Y ++ [(x, u, r)] ++ [(y, q, m)], l, s) < fnMu kl n (Y ++ [(x, v, y :: r)], l, s') := by
  unfold fnMu
  simp only [List.length_append, List.length_singleton, List.map_append, List.sum_append, List.map_cons, List.map_nil, List.sum_cons, List.sum_nil, List.length_cons, List.length_nil, Nat.zero_add]
  obtain ⟨d, hd⟩ : ∃ d, kl - (l.length + (Y.length + 1)) = d + 1 := ⟨kl - (l.length + (Y.length + 1)) - 1, by omega⟩
  rw [show kl - (l.length + (Y.length + 1 + 1)) = d by omega, hd, Nat.add_mul]
  omega
set_option maxHeartbeats 16000000 in
theorem finish_any (p n : Nat) (S : Nat → Prop) (G : Ce → Option (List Ce)) (K : List Ce) (hK : KeysG G K) (x0 : Ce) (hx0 : x0 ∈ K) (b : Nat) (s0 : Ce → Bool) (vl0 : Value) (l0 : List Ce) (w : World) (h : GrAt w S p n G) (hS : ¬ S b) (hSl : ∀ j, vl0.ownBlock = some j → ¬ S j ∧ j ≠ b) (hn : n ≤ 100000) (hKl : K.length ≤ 100000)
    (hm : MapAt w b l0.length (setF s0)) (hl : w.ownsRow 0 32 3 vl0 l0.length (flC l0)) (hf : Fsh (ldG G) (lOf G) K l0 [] s0) (h0 : s0 x0 = false) :
    Calls Try.prog 76 #[.pointer (some ⟨p, 0, none⟩), mkC x0, .map (some b), vl0] w fun e w' => ∃ v l s, e = .returned v ∧ w'.ownsRow 0 32 3 v l.length (flC l) ∧ (v.ownBlock = vl0.ownBlock ∨ ∀ j, v.ownBlock = some j → w.heap.size ≤ j) ∧ (∀ j, v.ownBlock = some j → j ≠ b) ∧ MapAt w' b l.length (setF s) ∧ Fsh (ldG G) (lOf G) K l [] s ∧ (∀ z, z ∈ l0 ∨ z = x0 → z ∈ l) ∧ Trn (fun k => k = b ∨ vl0.ownBlock = some k) w w' := by
  obtain ⟨Po, hPo⟩ : ∃ Po : Ending → World → Prop, Po = fun e w' => ∃ v l s, e = .returned v ∧ w'.ownsRow 0 32 3 v l.length (flC l) ∧ (v.ownBlock = vl0.ownBlock ∨ ∀ j, v.ownBlock = some j → w.heap.size ≤ j) ∧ (∀ j, v.ownBlock = some j → j ≠ b) ∧ MapAt w' b l.length (setF s) ∧ Fsh (ldG G) (lOf G) K l [] s ∧ (∀ z, z ∈ l0 ∨ z = x0 → z ∈ l) ∧ Trn (fun k => k = b ∨ vl0.ownBlock = some k) w w' := ⟨_, rfl⟩
  rw [← hPo]
  have HPO := Lib.hid hPo
  have HG := Lib.hid h
  have HK := Lib.hid hK
  have HOKK := Lib.hid (h.okK hK)
  have HS := Lib.hid hS
  have HSL := Lib.hid hSl
  have HN := Lib.hid hn
  have HKL := Lib.hid hKl
  have HM := Lib.hid hm
  have HLO := Lib.hid hl
  have HF0 := Lib.hid hf
  have HX0 := Lib.hid hx0
  have HST := Lib.hid (hf.start h0 hx0 (N := lOf G) (fun y hy => hy.1))
  have HBW := Lib.hid hm.lt
  have HTR : Hid (∀ W, Trn (fun k => k = b ∨ vl0.ownBlock = some k) w W → GrAt W S p n G) := Lib.hid fun W ht => h.kept (Kept.of_trn ht fun k hk e => e.elim (fun e => hS (e ▸ hk)) (fun e => (hSl k e).1 hk))
  have HVB : Hid (∀ j, vl0.ownBlock = some j → j < w.heap.size) := Lib.hid fun j hj => (hl.lt j hj).2
  have HNE : Hid (∀ W, Trn (fun k => k = b ∨ vl0.ownBlock = some k) w W → ∀ x ∈ K, Calls Try.prog 18 #[.pointer (some ⟨p, 0, none⟩), mkC x] W fun e w' => (∃ v, e = .returned v ∧ CsNew w' W.heap.size v (lOf G x) ∧ CapOk v) ∧ Below W.heap.size W w') := Lib.hid fun W hW x hx => needsO_any p n S G x (HOKK.out x hx).1 W (HTR.out W hW) (by have := HN.out; omega)
  have HHA : Hid (∀ W, Trn (fun k => k = b ∨ vl0.ownBlock = some k) w W → ∀ x, okC x → Calls Try.prog 40 #[.pointer (some ⟨p, 0, none⟩), mkC x] W fun e w' => e = .returned (.bool (G x).isSome) ∧ Below W.heap.size W w') := Lib.hid fun W hW x hx => has_any p n S G x hx W (HTR.out W hW)
  clear hPo h hK hS hSl hn hKl hm hl hf h0 hx0
  obtain ⟨x1, x2, x3⟩ := x0
  obtain ⟨al0, cl0, rfl⟩ := own_slice HLO.out
  have HNX := Lib.hid (HNE.out)
  unfold mkC at HNX ⊢
  go_enter Try.func76, Try.ntmps76
  go_wp2_with fail
  refine wp_scope_ghost2 0 (FnJ w p b (ldG G) (lOf G) K l0 (x1, x2, x3) (.slice al0 l0.length cl0)) (fnMu K.length n) rfl (fun γ a' W hJ => ?pass) (fun HP => ?first)
  case first =>
    have hb1 : Below w.heap.size w (w.alloc (.cells #[.int .i64 x1, .int .i64 x2, .int .i64 x3] 32)) := (Below.refl _ w).alloc (Nat.le_refl _) _
    have hbx := box_at (w := w) (a := x1) (b := x2) (c := x3) rfl
    have hnb : some w.heap.size ≠ some b := fun e => by have := HBW.out; cases e; omega
    go_wp2_with (refine wpList_store rfl _ _ _ _ rfl Try.underlying77 rfl (HM.out.below hb1) (by have := HF0.out.len; have := HKL.out; unfold maxLen; simp at *; omega) (y := (x1, x2, x3)) rfl (HOKK.out _ HX0.out).1 (u := unitV) rfl ?_; intro W1 hm1 hg1; have k0 := hg1.cell hbx.1 hnb; have k1 := hg1.cell hbx.2.1 hnb; have k2 := hg1.cell hbx.2.2 hnb; have HM1 := Lib.hid hm1; have HG1 := Lib.hid hg1; clear hm1 hg1)
    have hz1 : w.heap.size < W1.heap.size := by have := HG1.out.size; simp at this; omega
    have HT1 : Hid (Trn (fun k => k = b ∨ (Value.slice al0 l0.length cl0).ownBlock = some k) w W1) := Lib.hid ((Trn.of_below (S := fun k => k = b ∨ (Value.slice al0 l0.length cl0).ownBlock = some k) hb1).wrote HG1.out (Or.inl (Or.inl rfl)))
    refine wrp (S := fun w' => Below W1.heap.size W1 w' ∧ w'.cell? ⟨w.heap.size, 0, none⟩ = some (.int .i64 x1) ∧ w'.cell? ⟨w.heap.size, 1, none⟩ = some (.int .i64 x2) ∧ w'.cell? ⟨w.heap.size, 2, none⟩ = some (.int .i64 x3)) (by kernel_rfl) (fun w' hx => ⟨hx, belK hx k0 hz1, belK hx k1 hz1, belK hx k2 hz1⟩) (fun HKP hHeld => ?_)
    clear k0 k1 k2 hbx hb1
    refine tk 0 ?_
    refine tk 1 ?_
    refine tk 2 ?_
    refine rd1 3 (by kernel_rfl) rfl fun K hK => ?_
    go_simp
    (go_at_call 18; refine (HNX.out _ (HT1.out.drew) (x1, x2, x3) HX0.out).mono ?_; rintro e W2 ⟨⟨v, rfl, hv, hcv⟩, hb2⟩; obtain ⟨av, cv, rfl, _⟩ := hv.1.shape; have HV := Lib.hid hv; have HCV := Lib.hid hcv; clear hv hcv)
    try (go_wp2_with fail)
    have hB2 : Below W1.heap.size W1 W2 := (Below.refl _ W1).drew.trans hb2
    refine hK.out _ _ (HKP.out W2 hB2) (fun hHeld => ?_)
    clear hK K
    try simp only [pz]
    refine tk 4 ?_
    refine rd1 5 (by kernel_rfl) rfl fun K hK => ?_
    go_simp
    refine hK.out _ _ (HKP.out _ (hB2.alloc hB2.size _)) (fun hHeld => ?_)
    clear hK K
    try simp only [pz]
    refine tk 6 ?_
    refine wpAnyH_done (by kernel_rfl) ?_ _
    clear HKP hHeld
    go_wp2_with fail
    go_step3
    simp only [Exit.then]
    rename_i KK hKK
    refine hKK _ _ ?_
    clear hKK KK
    have hz2 := hB2.size
    have hB3 : Below W1.heap.size W1 (W2.alloc (.cells #[.int .i64 x1, .int .i64 x2, .int .i64 x3, .slice av (lOf G (x1, x2, x3)).length cv] 126)) := hB2.alloc hB2.size _
    have hblk : ∀ j, blkOf (.slice av (lOf G (x1, x2, x3)).length cv) = some j → W1.heap.size ≤ j ∧ j < W2.heap.size := fun j hj => ⟨HV.out.2 j hj, HV.out.1.lt hj⟩
    refine HP ([((x1, x2, x3), .slice av (lOf G (x1, x2, x3)).length cv, lOf G (x1, x2, x3))], l0, setB s0 (x1, x2, x3)) _ _ ⟨.slice (some ⟨W2.heap.size, 0, none⟩) 1 1, .slice al0 l0.length cl0, ⟨?_, ?_, ?_, ?_, ?_, ?_, ?_⟩, ?_, ?_, Or.inl rfl, _, _, _, _, _, _, _, _, _, _, _, _, _, _, _, _, _, _, _, _, _, _, _, _, _, _, _, _, _, _, _, _, _, _, _, _, _, _, _, _, _, _, _, _, _, _, _, _, _, _, _, _, _, _, _, _, _, _, _, _, _, _, _, _, _, _, _, _, _, _, _, _, _, _, _, _, _, _, rfl⟩
    · exact (HM1.out.below hB3).congr fun z => setF_put s0 (x1, x2, x3) z
    · exact World.ownsRow_lit W2 #[.int .i64 x1, .int .i64 x2, .int .i64 x3, .slice av (lOf G (x1, x2, x3)).length cv] 1 (Nat.zero_le _) (by unfold maxLen; omega) rfl
    · exact row_below (row_far (HLO.out.alloc _) HG1.out fun j hj e => (HSL.out j hj).2 (Option.some.inj e).symm) hB3
    · intro y hy
      rw [List.mem_singleton] at hy
      subst hy
      refine ⟨(LvAt.of_cs HV.out.1 HCV.out).below ((Below.refl _ W2).alloc (Nat.le_refl _) _), rfl, fun j hj => ?_⟩
      obtain ⟨h1, h2⟩ := hblk j hj
      have := HBW.out
      exact ⟨fun e => by have := HVB.out j e; omega, fun e => by have e2 : W2.heap.size = j := Option.some.inj e; omega, by omega, by simp; omega⟩
    · intro j hj
      have e2 : W2.heap.size = j := Option.some.inj hj
      exact ⟨by omega, fun e => by have := HVB.out j e; omega⟩
    · exact fun j hj => ⟨Or.inl hj, (HSL.out j hj).2⟩
    · exact HT1.out.after hB3
    · exact HST.out
    · intro z hz
      rw [HST.out.seen z]
      rcases hz with hz | hz
      · exact Or.inl hz
      · exact Or.inr (by simp [hz])
  case pass =>
    clear HST HM HLO HF0 HNX
    obtain ⟨Y, l, s⟩ := γ
    obtain ⟨vp, vl, hfm, hfs, hsn, hvl, u1, u4, u5, u6, u7, u8, u10, u11, u12, u13, u14, u15, u16, u17, u18, u19, u20, u21, u22, u23, u24, u25, u26, u27, u28, u29, u30, u31, u32, u33, u34, u35, u36, u37, u38, u39, u40, u41, u42, u43, u44, u45, u46, u47, u48, u49, u50, u51, u52, u53, u54, u55, u56, u57, u58, u59, u60, u61, u62, u63, u64, u65, u66, u67, u68, u69, u70, u71, u72, u73, u74, u75, u76, u77, u78, u79, u80, u81, rfl⟩ := hJ
    dsimp only at hfm hfs hsn
    have HFM := Lib.hid hfm
    have HFS := Lib.hid hfs
    have HSN := Lib.hid hsn
    have HVL := Lib.hid hvl
    clear hfm hfs hsn hvl
    obtain ⟨al, cl, rfl⟩ := own_slice HFM.out.l
    rcases nil_or_snoc Y with rfl | ⟨Y, y0, rfl⟩
    · obtain ⟨ap, cp, rfl⟩ := own_slice HFM.out.p
      go_wp2_with fail
      refine (show Po (.returned (.slice al l.length cl)) W from ?_)
      rw [HPO.out]
      refine ⟨_, l, s, rfl, HFM.out.l, HVL.out, fun j hj => (HFM.out.lb j hj).2, HFM.out.m, HFS.out, fun z hz => ?_, HFM.out.tr⟩
      have := (HFS.out.seen z).1 (HSN.out z hz)
      simpa using this
    · have hl1 : (Y ++ [y0]).length = Y.length + 1 := by simp
      obtain ⟨ap, cp, hvp⟩ := own_slice HFM.out.p
      rw [hl1] at hvp
      subst hvp
      have hown := HFM.out.p
      rw [hl1] at hown
      obtain ⟨g, rfl⟩ := own_noneS hown
      have hcp := own_capS hown
      have hk : Y.length < ((Y ++ [y0]).map zOf).length := by simp
      have hcell := own_at4 hown Y.length hk
      rw [show ((Y ++ [y0]).map zOf)[Y.length] = zOf y0 by simp] at hcell
      obtain ⟨hgw, hcs, hfz⟩ := hcell
      have hyl := HFM.out.y y0 (by simp)
      have hll := HFS.out.len
      rw [List.length_map, hl1] at hll
      obtain ⟨m, hm⟩ : ∃ m, m = Y.length := ⟨_, rfl⟩
      have HOWN := Lib.hid hown
      rw [← hm] at hcs hcp ⊢
      have HMY := Lib.hid hm
      have hm1 : m ≤ 100000 := by have := HKL.out; omega
      have HLL := Lib.hid hll
      clear hown hk hll hm
      obtain ⟨⟨t1, t2, t3⟩, v, r⟩ := y0
      obtain ⟨⟨av, cv, hv, hcv, hvk⟩, _, hvb⟩ := hyl
      dsimp only at hv hcv hvk hvb
      subst hv
      unfold zOf at hcs
      dsimp only at hcs
      obtain ⟨c0, c1, c2, c3⟩ := hcs
      have HFZ := Lib.hid hfz
      have HVB2 := Lib.hid hvb
      clear hfz hvb
      have HRO : Hid ((Y ++ [((t1, t2, t3), Value.slice av r.length cv, r)]).map rOf = Y.map rOf ++ [((t1, t2, t3), r)]) := Lib.hid (by simp [rOf])
      have HZO : ∀ (v : Value) (r : List Ce), (Y ++ [((t1, t2, t3), v, r)]).map zOf = Y.map zOf ++ [((t1, t2, t3), v)] := fun v r => by simp [zOf]
      have HZO := Lib.hid HZO
      cases r with
      | nil =>
        have hle : (l ++ [(t1, t2, t3)]).length = l.length + 1 := by simp
        go_wp2_with (at_builtin; refine wpList_append_lat rfl _ _ rfl (.slice al l.length cl) _ l [(t1, t2, t3)] rfl (HFM.out.l.alloc _) rfl (Or.inl (one_new W t1 t2 t3 _)) (by have := HKL.out; have := HLL.out; simp at *; omega) ?_; intro vl2 V1 h1 g1 b1; obtain ⟨al2, cl2, rfl⟩ := own_slice h1; have H1 := Lib.hid h1; have G1 := Lib.hid g1; have B1 := Lib.hid b1; clear h1 g1 b1)
        go_step3
        have hpn : W.ownsRow 0 126 4 (.slice (some ⟨g, 0, none⟩) m cp) Y.length (flR (Y.map zOf)) := by
          have h := own_last4 (Z := Y.map zOf) (z := ((t1, t2, t3), .slice av 0 cv)) (n := Y.length) (by have h := HOWN.out; rw [HZO.out] at h; exact h) (by simp)
          rw [HMY.out]; exact h
        have hft := HFM.out.told (x := (t1, t2, t3)) hpn rfl ((Below.refl _ W).alloc (Nat.le_refl _) _) G1.out H1.out B1.out HBW.out
        rw [hle] at hft
        have hfp := HFS.out
        rw [HRO.out] at hfp
        have hvl2 : (Value.slice al2 (l.length + 1) cl2).ownBlock = (Value.slice al0 l0.length cl0).ownBlock ∨ ∀ j, (Value.slice al2 (l.length + 1) cl2).ownBlock = some j → w.heap.size ≤ j := by
          have e0 : (Value.slice al2 (l.length + 1) cl2).ownBlock = (Value.slice al2 (l ++ [(t1, t2, t3)]).length cl2).ownBlock := by cases al2 <;> rfl
          rw [e0]
          rcases B1.out with h | h
          · rcases HVL.out with h2 | h2
            · exact Or.inl (h.trans h2)
            · exact Or.inr fun j hj => h2 j (h.symm.trans hj)
          · refine Or.inr fun j hj => ?_
            have e2 := Option.some.inj (h.symm.trans hj)
            simp at e2
            have := HFM.out.tr.size
            omega
        refine ⟨rfl, (Y, l ++ [(t1, t2, t3)], s), ?_, fnMu_pop _ _ _ _ _ _ _⟩
        exact ⟨.slice (some ⟨g, 0, none⟩) m cp, .slice al2 (l.length + 1) cl2, hft, hfp.pop, HSN.out, hvl2, _, _, _, _, _, _, _, _, _, _, _, _, _, _, _, _, _, _, _, _, _, _, _, _, _, _, _, _, _, _, _, _, _, _, _, _, _, _, _, _, _, _, _, _, _, _, _, _, _, _, _, _, _, _, _, _, _, _, _, _, _, _, _, _, _, _, _, _, _, _, _, _, _, _, _, _, _, _, rfl⟩
      | cons y r =>
        obtain ⟨g3, o3, rfl, hg3, d0, d1, d2⟩ := hvk 0 (by simp)
        simp only [Nat.zero_mul, Nat.add_zero, List.getElem_cons_zero] at d0 d1 d2
        have hcv' : r.length + 1 ≤ cv := by simpa using hcv
        obtain ⟨A4, hA4⟩ : ∃ A4, A4 = (if cv = 1 then some (⟨g3, o3, none⟩ : Addr) else some ⟨g3, o3 + 3, none⟩) := ⟨_, rfl⟩
        obtain ⟨C4, hC4⟩ : ∃ C4, C4 = cv - 1 := ⟨_, rfl⟩
        have htl : tlV g3 o3 r.length cv = .slice A4 r.length C4 := by unfold tlV; rw [hA4, hC4]
        have hSL : ∀ W, Sem.run Try.prog (Instr.slice 30 (.slice (some ⟨g3, o3, none⟩) (r.length + 1) cv) (some (.int .i64 1)) none none) W = .ok (.slice A4 r.length C4) W := fun W => by rw [← htl]; exact tlV_run g3 o3 r.length cv hcv' W
        have HLV : Hid (LvAt W (.slice A4 r.length C4) r) := Lib.hid (by rw [← htl]; exact tlV_at (x := y) ⟨_, _, by rw [List.length_cons], hcv, hvk⟩ rfl)
        have HBT : Hid (blkOf (.slice A4 r.length C4) = some g3) := Lib.hid (by rw [← htl]; exact tlV_blk g3 o3 r.length cv)
        have hfz := HFZ.out (m * 4 + 3)
        have hgD : g ≠ W.heap.size := by omega
        have hyn : y ∈ lOf G (t1, t2, t3) := by
          have h := HFS.out.sub ((t1, t2, t3), y :: r) (by rw [HRO.out]; simp) y (by simp)
          exact h
        have htK : (t1, t2, t3) ∈ K := HFS.out.keys _ (Or.inr (by rw [HRO.out]; simp))
        have HOY : Hid (okC y) := Lib.hid ((HOKK.out _ htK).2.1 y hyn)
        have HEY : Hid (∀ h : (G y).isSome = true, ldG G (t1, t2, t3) y) := Lib.hid fun h => ⟨hyn, h⟩
        have HKY : Hid ((G y).isSome = true → y ∈ K) := Lib.hid (HK.out.2 y).2
        have HNK : Hid ((G y).isSome = false → ¬ ldG G (t1, t2, t3) y) := Lib.hid fun h he => by rw [he.2] at h; cases h
        have HNL : Hid (y ∈ K → (lOf G y).length ≤ n) := Lib.hid fun h => (HOKK.out y h).2.2.2
        have HNY : Hid (y ∈ K → ∀ W, Trn (fun k => k = b ∨ (Value.slice al0 l0.length cl0).ownBlock = some k) w W → Calls Try.prog 18 #[.pointer (some ⟨p, 0, none⟩), mkC y] W fun e w' => (∃ v, e = .returned v ∧ CsNew w' W.heap.size v (lOf G y) ∧ CapOk v) ∧ Below W.heap.size W w') := Lib.hid fun h W hW => HNE.out W hW y h
        obtain ⟨hb, hhb⟩ : ∃ hb, hb = (G y).isSome := ⟨_, rfl⟩
        obtain ⟨sb, hsb⟩ : ∃ sb, sb = s y := ⟨_, rfl⟩
        have HHY : Hid (∀ W, Trn (fun k => k = b ∨ (Value.slice al0 l0.length cl0).ownBlock = some k) w W → Calls Try.prog 40 #[.pointer (some ⟨p, 0, none⟩), mkC y] W fun e w' => e = .returned (.bool hb) ∧ Below W.heap.size W w') := Lib.hid fun W hW => by rw [hhb]; exact HHA.out W hW y HOY.out
        have HSY : Hid (∀ W, MapAt W b (l.length + (Y.length + 1)) (setF s) → Calls Try.prog 53 #[.map (some b), mkC y] W fun e w' => e = .returned (.bool sb) ∧ Below W.heap.size W w') := Lib.hid fun W hW => by rw [hsb]; exact cellsHas_any b _ s y HOY.out W hW
        rw [← hhb] at HEY HKY HNK
        have HSB := Lib.hid hsb
        clear hhb hsb hyn htK
        obtain ⟨y1, y2, y3⟩ := y
        unfold mkC at HHY HSY HNY
        dsimp only at d0 d1 d2 HHY HSY HNY
        obtain ⟨Ws, hWs⟩ : ∃ Ws, Ws = W.setCell ⟨g, m * 4 + 3, none⟩ (.slice A4 r.length C4) := ⟨_, rfl⟩
        have hsz : Ws.heap.size = W.heap.size := by rw [hWs]; simp
        obtain ⟨V3, hV3⟩ : ∃ V3, V3 = Ws.alloc (.cells #[.int .i64 y1, .int .i64 y2, .int .i64 y3] 32) := ⟨_, rfl⟩
        have hbx := box_at hV3
        rw [hsz] at hbx
        obtain ⟨e0, e1, e2⟩ := hbx
        have hz3 : V3.heap.size = W.heap.size + 1 := by rw [hV3]; simp [hsz]
        have hly : ∀ v r, (Y ++ [((t1, t2, t3), (v : Value), (r : List Ce))]).length = Y.length + 1 := fun v r => by simp
        have HF3 : Hid (FnM w b (.slice al0 l0.length cl0) (.slice (some ⟨g, 0, none⟩) (m + 1) cp) (.slice al l.length cl) (Y ++ [((t1, t2, t3), Value.slice A4 r.length C4, r)]) l s V3) := Lib.hid (by
          have hrow := HOWN.out.stored (m * 4 + 3) (.slice A4 r.length C4)
          rw [HZO.out, HMY.out, show Y.length = (Y.map zOf).length by simp, flR_set3, ← HZO.out (.slice A4 r.length C4) r, List.length_map, ← HMY.out] at hrow
          rw [← hWs] at hrow
          have hnx := FnM.next (x := (t1, t2, t3)) (y := (y1, y2, y3)) (u := .slice (some ⟨g3, o3, none⟩) (r.length + 1) cv) (vl' := (.slice A4 r.length C4)) (r := r) (V := Ws) (vp := .slice (some ⟨g, 0, none⟩) (m + 1) cp) (by rw [HMY.out]; exact HFM.out) hrow.2 (by rw [hly, ← HMY.out]; exact hrow.1) HLV.out rfl HBT.out HBW.out
          rw [hV3]
          exact hnx.below ((Below.refl _ Ws).alloc (Nat.le_refl _) _))
        have HMP : Hid (MapAt V3 b (l.length + (Y.length + 1)) (setF s)) := Lib.hid (by have h := HF3.out.m; rwa [hly] at h)
        rw [hWs] at hV3
        clear hWs hsz
        have hzV : W.heap.size < V3.heap.size := by omega
        have HV3 := Lib.hid hV3
        clear hV3 htl hA4 hC4 hvk hcv
        cases hb
        · go_wp2_with (go_at_call 40; rw [← HV3.out]; refine (HHY.out V3 HF3.out.tr).mono ?_; rintro e ya ⟨rfl, hba⟩)
          go_step3
          have hfs2 : Fsh (ldG G) (lOf G) K l ((Y ++ [((t1, t2, t3), Value.slice A4 r.length C4, r)]).map rOf) s := by
            have h := HFS.out
            rw [HRO.out] at h
            rw [show (Y ++ [((t1, t2, t3), Value.slice A4 r.length C4, r)]).map rOf = Y.map rOf ++ [((t1, t2, t3), r)] by simp [rOf]]
            exact h.skip (Or.inl (HNK.out (by first | rfl | trivial)))
          refine ⟨rfl, (Y ++ [((t1, t2, t3), Value.slice A4 r.length C4, r)], l, s), ?_, fnMu_skip _ _ _ _ _ _ _ _ _ _ _⟩
          exact ⟨.slice (some ⟨g, 0, none⟩) (m + 1) cp, .slice al l.length cl, HF3.out.below hba, hfs2, HSN.out, HVL.out, _, _, _, _, _, _, _, _, _, _, _, _, _, _, _, _, _, _, _, _, _, _, _, _, _, _, _, _, _, _, _, _, _, _, _, _, _, _, _, _, _, _, _, _, _, _, _, _, _, _, _, _, _, _, _, _, _, _, _, _, _, _, _, _, _, _, _, _, _, _, _, _, _, _, _, _, _, _, rfl⟩
        · have HKY2 : Hid ((y1, y2, y3) ∈ K) := Lib.hid (HKY.out (by first | rfl | trivial))
          cases sb
          · have hnb : some W.heap.size ≠ some b := fun e => by have := HBW.out; have := HFM.out.tr.size; cases e; omega
            go_wp2_with (first | (go_at_call 40; rw [← HV3.out]; refine (HHY.out V3 HF3.out.tr).mono ?_; rintro e ya ⟨rfl, hba⟩; have HBA := Lib.hid hba; have f0 := belK hba e0 hzV; have f1 := belK hba e1 hzV; have f2 := belK hba e2 hzV; have hza := Nat.lt_of_lt_of_le hzV hba.size; clear hba e0 e1 e2) | (go_at_call 53; refine (HSY.out _ (HMP.out.below HBA.out)).mono ?_; rintro e yb ⟨rfl, hbb⟩; have HBB := Lib.hid hbb; have k0 := belK hbb f0 hza; have k1 := belK hbb f1 hza; have k2 := belK hbb f2 hza; have hzb := Nat.lt_of_lt_of_le hza hbb.size; clear hbb f0 f1 f2; go_wp2_with (refine wpList_store rfl _ _ _ _ rfl Try.underlying77 rfl ((HMP.out.below HBA.out).below HBB.out) (by have := HKL.out; have := HLL.out; unfold maxLen; omega) (y := (y1, y2, y3)) rfl HOY.out (u := unitV) rfl ?_; intro yc hmc hgc; have j0 := hgc.cell k0 hnb; have j1 := hgc.cell k1 hnb; have j2 := hgc.cell k2 hnb; have HMC := Lib.hid hmc; have HGC := Lib.hid hgc; have hzc := Nat.lt_of_lt_of_le hzb hgc.size; clear hmc hgc k0 k1 k2)))
            have HBB2 : Hid (Below V3.heap.size V3 yb) := Lib.hid (HBA.out.trans (HBB.out.mono HBA.out.size))
            have HFB := Lib.hid (HF3.out.below HBB2.out)
            have HTC : Hid (Trn (fun k => k = b ∨ (Value.slice al0 l0.length cl0).ownBlock = some k) w yc) := Lib.hid (HFB.out.tr.wrote HGC.out (Or.inl (Or.inl rfl)))
            have HTD : Hid (¬ W.heap.size = g) := Lib.hid (fun e => hgD e.symm)
            have HLY : Hid ((Y ++ [((t1, t2, t3), Value.slice A4 r.length C4, r)]).length = m + 1) := Lib.hid (by rw [hly, HMY.out])
            clear hgD
            obtain ⟨T', hT'⟩ : ∃ T' : Nat → Prop, T' = fun j => j = g := ⟨_, rfl⟩
            have HT' : Hid (¬ T' W.heap.size ∧ T' g) := Lib.hid (by rw [hT']; exact ⟨HTD.out, rfl⟩)
            clear hT'
            refine wrt (T := T') (S := fun w' => Trn T' yc w' ∧ w'.cell? ⟨W.heap.size, 0, none⟩ = some (.int .i64 y1) ∧ w'.cell? ⟨W.heap.size, 1, none⟩ = some (.int .i64 y2) ∧ w'.cell? ⟨W.heap.size, 2, none⟩ = some (.int .i64 y3)) (by kernel_rfl) (fun w' hx => ⟨hx, hx.cell j0 hzc HT'.out.1, hx.cell j1 hzc HT'.out.1, hx.cell j2 hzc HT'.out.1⟩) (fun HKP hHeld => ?_)
            clear j0 j1 j2
            refine tk 0 ?_
            refine tk 1 ?_
            refine tk 2 ?_
            refine tk 3 ?_
            refine rd1 4 (by kernel_rfl) rfl fun K hK => ?_
            go_simp
            (go_at_call 18; refine (HNY.out HKY2.out _ HTC.out.drew).mono ?_; rintro e yd ⟨⟨v, rfl, hv, hcv⟩, hbd⟩; obtain ⟨ad, cd, rfl, _⟩ := hv.1.shape; have HV := Lib.hid hv; have HCV := Lib.hid hcv; clear hv hcv)
            try (go_wp2_with fail)
            have hBd : Below yc.heap.size yc yd := (Below.refl _ yc).drew.trans hbd
            refine hK.out _ _ (HKP.out yd (Trn.of_below hBd)) (fun hHeld => ?_)
            clear hK K
            try simp only [pz]
            refine tk 5 ?_
            refine rd1 6 (by kernel_rfl) rfl fun K hK => ?_
            go_simp
            refine hK.out _ _ (HKP.out _ (hHeld.1.al _)) (fun hHeld => ?_)
            clear hK K
            try simp only [pz]
            refine rd1 7 (by kernel_rfl) rfl fun K hK => ?_
            have hrw : (yd.alloc (.cells #[.int .i64 y1, .int .i64 y2, .int .i64 y3, .slice ad (lOf G (y1, y2, y3)).length cd] 126)).ownsRow 0 126 4 (.slice (some ⟨g, 0, none⟩) (m + 1) cp) ((Y ++ [((t1, t2, t3), Value.slice A4 r.length C4, r)]).map zOf).length (flR ((Y ++ [((t1, t2, t3), Value.slice A4 r.length C4, r)]).map zOf)) := by
              rw [List.length_map]
              exact (row_below (row_far HFB.out.p HGC.out (fun j hj e => by have := (HFB.out.pb j hj).1; have := HBW.out; cases e; omega)) hBd).alloc _
            refine step_append_open rfl _ _ rfl (.slice (some ⟨g, 0, none⟩) (m + 1) cp) ((Y ++ [((t1, t2, t3), Value.slice A4 r.length C4, r)]).map zOf) ((y1, y2, y3), .slice ad (lOf G (y1, y2, y3)).length cd) rfl hrw rfl (fun j u hj => by rw [Addr.add_lit, Nat.zero_add]; exact bx0 (l := [.int .i64 y1, .int .i64 y2, .int .i64 y3, .slice ad (lOf G (y1, y2, y3)).length cd]) rfl rfl j u hj) rfl (by rw [List.length_map, HLY.out]; omega) (fun vq V4 h4 g4 b4 => ?_)
            obtain ⟨aq, cq, rfl⟩ := own_slice h4
            have H4 := Lib.hid h4
            have G4 := Lib.hid g4
            have B4 := Lib.hid b4
            refine hK.out _ _ (HKP.out _ (hHeld.1.row g4 (fun j hj => Or.inl (by have e : g = j := Option.some.inj hj; rw [← e]; exact HT'.out.2)))) (fun hHeld => ?_)
            clear hK K h4 g4 b4 hrw
            try simp only [pz]
            refine tk 8 ?_
            refine wpAnyH_done (by kernel_rfl) ?_ _
            clear hHeld HKP
            go_wp2_with fail
            go_step3
            have hmm : ((Y ++ [((t1, t2, t3), Value.slice A4 r.length C4, r)]).map zOf ++ [((y1, y2, y3), Value.slice ad (lOf G (y1, y2, y3)).length cd)]) = ((Y ++ [((t1, t2, t3), Value.slice A4 r.length C4, r)]) ++ [((y1, y2, y3), Value.slice ad (lOf G (y1, y2, y3)).length cd, lOf G (y1, y2, y3))]).map zOf := by simp [zOf]
            have h4 := H4.out
            rw [hmm, List.length_map] at h4
            have b4 := B4.out
            rw [hmm, List.length_map] at b4 ⊢
            have hblk : ∀ j, blkOf (.slice ad (lOf G (y1, y2, y3)).length cd) = some j → yc.heap.size ≤ j ∧ j < (yd.alloc (.cells #[.int .i64 y1, .int .i64 y2, .int .i64 y3, .slice ad (lOf G (y1, y2, y3)).length cd] 126)).heap.size := fun j hj => ⟨HV.out.2 j hj, by have := HV.out.1.lt hj; simp; omega⟩
            have hfp := HFB.out.pushed (x := (y1, y2, y3)) (r := lOf G (y1, y2, y3)) (u := .slice ad (lOf G (y1, y2, y3)).length cd) (Below.refl _ yb) HGC.out (by rw [hly]; exact HMC.out.congr fun z => setF_put s (y1, y2, y3) z) (hBd.alloc hBd.size (.cells #[.int .i64 y1, .int .i64 y2, .int .i64 y3, .slice ad (lOf G (y1, y2, y3)).length cd] 126)) G4.out h4 b4 ((LvAt.of_cs HV.out.1 HCV.out).below ((Below.refl _ yd).alloc (Nat.le_refl _) _)) rfl hblk HBW.out
            have hl3 : ((Y ++ [((t1, t2, t3), Value.slice A4 r.length C4, r)]) ++ [((y1, y2, y3), Value.slice ad (lOf G (y1, y2, y3)).length cd, lOf G (y1, y2, y3))]).length = Y.length + 2 := by simp
            rw [hl3] at hfp
            have hfs2 : Fsh (ldG G) (lOf G) K l (((Y ++ [((t1, t2, t3), Value.slice A4 r.length C4, r)]) ++ [((y1, y2, y3), Value.slice ad (lOf G (y1, y2, y3)).length cd, lOf G (y1, y2, y3))]).map rOf) (setB s (y1, y2, y3)) := by
              have h := HFS.out
              rw [HRO.out] at h
              rw [show ((Y ++ [((t1, t2, t3), Value.slice A4 r.length C4, r)]) ++ [((y1, y2, y3), Value.slice ad (lOf G (y1, y2, y3)).length cd, lOf G (y1, y2, y3))]).map rOf = Y.map rOf ++ [((t1, t2, t3), r)] ++ [((y1, y2, y3), lOf G (y1, y2, y3))] by simp [rOf]]
              exact h.push (HEY.out (by first | rfl | trivial)) HSB.out.symm HKY2.out fun z hz => hz.1
            have hlen := hfs2.len
            rw [List.length_map] at hlen
            refine ⟨rfl, ((Y ++ [((t1, t2, t3), Value.slice A4 r.length C4, r)]) ++ [((y1, y2, y3), Value.slice ad (lOf G (y1, y2, y3)).length cd, lOf G (y1, y2, y3))], l, setB s (y1, y2, y3)), ?_, fnMu_push _ _ _ _ _ _ _ _ _ _ _ _ _ (HNL.out HKY2.out) (by simp at hlen; omega)⟩
            refine ⟨.slice aq (Y.length + 2) cq, .slice al l.length cl, hfp, hfs2, fun z hz => ?_, HVL.out, _, _, _, _, _, _, _, _, _, _, _, _, _, _, _, _, _, _, _, _, _, _, _, _, _, _, _, _, _, _, _, _, _, _, _, _, _, _, _, _, _, _, _, _, _, _, _, _, _, _, _, _, _, _, _, _, _, _, _, _, _, _, _, _, _, _, _, _, _, _, _, _, _, _, _, _, _, _, rfl⟩
            have := HSN.out z hz
            show setB s (y1, y2, y3) z = true
            unfold setB
            split
            · rfl
            · exact this
          · go_wp2_with (first | (go_at_call 40; rw [← HV3.out]; refine (HHY.out V3 HF3.out.tr).mono ?_; rintro e ya ⟨rfl, hba⟩; have HBA := Lib.hid hba; have f0 := belK hba e0 hzV; have f1 := belK hba e1 hzV; have f2 := belK hba e2 hzV; have hza := Nat.lt_of_lt_of_le hzV hba.size; clear hba e0 e1 e2) | (go_at_call 53; refine (HSY.out _ (HMP.out.below HBA.out)).mono ?_; rintro e yb ⟨rfl, hbb⟩; have HBB := Lib.hid hbb; have k0 := belK hbb f0 hza; have k1 := belK hbb f1 hza; have k2 := belK hbb f2 hza; have hzb := Nat.lt_of_lt_of_le hza hbb.size; clear hbb f0 f1 f2))
            go_step3
            have hfs2 : Fsh (ldG G) (lOf G) K l ((Y ++ [((t1, t2, t3), Value.slice A4 r.length C4, r)]).map rOf) s := by
              have h := HFS.out
              rw [HRO.out] at h
              rw [show (Y ++ [((t1, t2, t3), Value.slice A4 r.length C4, r)]).map rOf = Y.map rOf ++ [((t1, t2, t3), r)] by simp [rOf]]
              exact h.skip (Or.inr HSB.out.symm)
            refine ⟨rfl, (Y ++ [((t1, t2, t3), Value.slice A4 r.length C4, r)], l, s), ?_, fnMu_skip _ _ _ _ _ _ _ _ _ _ _⟩
            exact ⟨.slice (some ⟨g, 0, none⟩) (m + 1) cp, .slice al l.length cl, (HF3.out.below HBA.out).below HBB.out, hfs2, HSN.out, HVL.out, _, _, _, _, _, _, _, _, _, _, _, _, _, _, _, _, _, _, _, _, _, _, _, _, _, _, _, _, _, _, _, _, _, _, _, _, _, _, _, _, _, _, _, _, _, _, _, _, _, _, _, _, _, _, _, _, _, _, _, _, _, _, _, _, _, _, _, _, _, _, _, _, _, _, _, _, _, _, rfl⟩
end Go.Proofs.Ytjjpfddgcilliaa
namespace Go.Proofs.Ytjjpfddgcilliaa
open Go.RowKit Go.Shelf Go.Sort Go.Lib Go.Maps
set_option maxRecDepth 100000

/-- what the loop holds. -/
def FdR (w : World) (b : Nat) (E : Ce → Ce → Prop) (N : Ce → List Ce) (K : List Ce) (v9 vl : Value) (k : Nat) (W : World) : Prop :=
  ∃ l s, W.ownsRow 0 32 3 vl l.length (flC l) ∧ MapAt W b l.length (setF s) ∧ Fsh E N K l [] s ∧ (∀ j (hj : j < K.length), j < k → K[j] ∈ l) ∧ CsAt W v9 K ∧ (∀ j, vl.ownBlock = some j → w.heap.size ≤ j ∧ j ≠ b ∧ blkOf v9 ≠ some j) ∧ Below w.heap.size w W
set_option maxHeartbeats 8000000 in
theorem finished_any (p n : Nat) (S : Nat → Prop) (G : Ce → Option (List Ce)) (K : List Ce) (hK : KeysG G K) (w : World) (h : GrAt w S p n G) (hS : ∀ k, S k → k < w.heap.size) (hn : n ≤ 100000) (hKl : K.length ≤ 100000) :
    Calls Try.prog 52 #[.pointer (some ⟨p, 0, none⟩)] w fun e w' => (∃ v F, e = .returned v ∧ CsNew w' w.heap.size v F ∧ F.Nodup ∧ FinP (ldG G) F ∧ ∀ z, z ∈ F ↔ z ∈ K) ∧ Below w.heap.size w w' := by
  obtain ⟨Po, hPo⟩ : ∃ Po : Ending → World → Prop, Po = fun e w' => (∃ v F, e = .returned v ∧ CsNew w' w.heap.size v F ∧ F.Nodup ∧ FinP (ldG G) F ∧ ∀ z, z ∈ F ↔ z ∈ K) ∧ Below w.heap.size w w' := ⟨_, rfl⟩
  rw [← hPo]
  have HPO := Lib.hid hPo
  have HG := Lib.hid h
  have HK := Lib.hid hK
  have HOKK := Lib.hid (h.okK hK)
  have HS := Lib.hid hS
  have HN := Lib.hid hn
  have HKL := Lib.hid hKl
  have HCE : Hid (∀ W, Below w.heap.size w W → Calls Try.prog 31 #[.pointer (some ⟨p, 0, none⟩)] W fun e w' => (∃ v, e = .returned v ∧ CsNew w' W.heap.size v K) ∧ Below W.heap.size W w') := Lib.hid fun W hW => (cells_any p n S G W (h.kept (Kept.of_below hW)) (by omega)).mono fun e w' ht => ht.is hK.1 fun z => hK.2 z
  clear hPo h hK hS hn hKl
  have hmm := @run_makeMap Try.prog
  go_enter Try.func52, Try.ntmps52
  go_wp2_with (go_at_call 31; refine (HCE.out _ ((Below.refl _ w).alloc (Nat.le_refl _) _)).mono ?_; rintro e wa ⟨⟨v, rfl, hv⟩, hba⟩; obtain ⟨a9, c9, rfl, _⟩ := hv.1.shape; have HV := Lib.hid hv; have HBA := Lib.hid hba; clear hv hba)
  obtain ⟨b, hb⟩ : ∃ b, b = w.heap.size := ⟨_, rfl⟩
  have HB1 : Hid (Below w.heap.size w wa) := Lib.hid (((Below.refl _ w).alloc (Nat.le_refl _) _).trans (HBA.out.mono (by simp)))
  have hbl : b < wa.heap.size := by have := HBA.out.size; rw [hb]; simp at this; omega
  have hm0 : MapAt wa b 0 (setF fun _ => false) := by rw [hb]; exact (made_set w).below HBA.out
  obtain ⟨L, hL⟩ : ∃ L, L = K.length := ⟨_, rfl⟩
  have h0 : FdR w b (ldG G) (lOf G) K (.slice a9 K.length c9) (.slice none 0 0) 0 wa := ⟨[], _, World.ownsRow_nil _ _ _ _, hm0, Fsh.made _ _ _, fun j hj h => by omega, HV.out.1, fun j hj => (by cases hj), HB1.out⟩
  rw [← hb]
  rw [← hL] at h0 ⊢
  have hL5 : L ≤ 100000 := by have := HKL.out; omega
  have HH0 := Lib.hid h0
  have HLL := Lib.hid hL
  have HBE := Lib.hid hb
  clear h0 hL hb hm0 hbl hmm
  go_loopw [4, 11] (fun vl i wr => ∃ k : Nat, k ≤ L ∧ i = .int .i64 k ∧ FdR w b (ldG G) (lOf G) K (.slice a9 L c9) vl k wr) (fun _ i _ => L - (intOf i).toNat)
  case atStart => exact ⟨0, by omega, rfl, HH0.out⟩
  case round =>
    obtain ⟨k, hk, rfl, ⟨l, s, hrow, hm, hf, hall, hcs, hvb, hR⟩⟩ := hrel
    have HROW := Lib.hid hrow
    have HM := Lib.hid hm
    have HF := Lib.hid hf
    have HA := Lib.hid hall
    have HCS := Lib.hid hcs
    have HVB := Lib.hid hvb
    have HR := Lib.hid hR
    clear hrow hm hf hall hcs hvb hR
    by_cases hlt : k < L
    · have hkl : k < K.length := by rw [← HLL.out]; exact hlt
      have hc := HCS.out
      rw [HLL.out] at hc
      obtain ⟨g, o, rfl, hg, c0, c1, c2⟩ := hc.at k hkl
      have hyK : K[k] ∈ K := List.getElem_mem hkl
      have HAK : Hid (∀ l' : List Ce, (∀ z, z ∈ l → z ∈ l') → K[k] ∈ l' → ∀ j (hj : j < K.length), j < k + 1 → K[j] ∈ l') := Lib.hid fun l' h1 h2 j hj hjk => by
        by_cases e : j = k
        · subst e; exact h2
        · exact h1 _ (HA.out j hj (by omega))
      generalize K[k] = y at *
      obtain ⟨sb, hsb⟩ : ∃ sb, sb = s y := ⟨_, rfl⟩
      have HOY : Hid (okC y) := Lib.hid (HOKK.out y hyK).1
      have HYK := Lib.hid hyK
      have HSY : Hid (∀ W, MapAt W b l.length (setF s) → Calls Try.prog 53 #[.map (some b), mkC y] W fun e w' => e = .returned (.bool sb) ∧ Below W.heap.size W w') := Lib.hid fun W hW => by rw [hsb]; exact cellsHas_any b _ s y HOY.out W hW
      have HSB := Lib.hid hsb
      obtain ⟨al, cl, rfl⟩ := own_slice HROW.out
      have HFI : Hid (s y = false → ∀ W, Below wr.heap.size wr W → Calls Try.prog 76 #[.pointer (some ⟨p, 0, none⟩), mkC y, .map (some b), .slice al l.length cl] W fun e w' => ∃ v l' s', e = .returned v ∧ w'.ownsRow 0 32 3 v l'.length (flC l') ∧ (v.ownBlock = (Value.slice al l.length cl).ownBlock ∨ ∀ j, v.ownBlock = some j → W.heap.size ≤ j) ∧ (∀ j, v.ownBlock = some j → j ≠ b) ∧ MapAt w' b l'.length (setF s') ∧ Fsh (ldG G) (lOf G) K l' [] s' ∧ (∀ z, z ∈ l ∨ z = y → z ∈ l') ∧ Trn (fun k => k = b ∨ (Value.slice al l.length cl).ownBlock = some k) W w') := Lib.hid fun h0 W hW =>
        finish_any p n S G K HK.out y HYK.out b s _ l W (HG.out.kept (Kept.of_below (HR.out.trans (hW.mono HR.out.size)))) (fun h => by have := HS.out b h; have := HBE.out; omega) (fun j hj => ⟨fun h => by have := HS.out j h; have := (HVB.out j hj).1; omega, (HVB.out j hj).2.1⟩) HN.out HKL.out (HM.out.below hW) (row_below HROW.out hW) HF.out h0
      clear hsb hyK hc hkl
      obtain ⟨y1, y2, y3⟩ := y
      unfold mkC at HSY HFI
      dsimp only at c0 c1 c2 HSY HFI
      have hbx := box_at (w := wr) (a := y1) (b := y2) (c := y3) rfl
      cases sb
      · go_wp2_with (first | (go_at_call 53; refine (HSY.out _ (HM.out.below ((Below.refl _ wr).alloc (Nat.le_refl _) _))).mono ?_; rintro e yb ⟨rfl, hbb⟩; have d0 := belK hbb hbx.1 (by simp); have d1 := belK hbb hbx.2.1 (by simp); have d2 := belK hbb hbx.2.2 (by simp); have HBB := Lib.hid (((Below.refl _ wr).alloc (Nat.le_refl _) _).trans (hbb.mono (by simp))); clear hbb) | (go_at_call 76; refine (HFI.out HSB.out.symm _ HBB.out).mono ?_; rintro e yc ⟨vq, l', s', rfl, h1, h2, h3, h4, h5, h6, h7⟩))
        have hsz : wr.heap.size ≤ yb.heap.size := HBB.out.size
        have hbw : Below w.heap.size w yb := HR.out.trans (HBB.out.mono HR.out.size)
        have hvw : ∀ j, b = j ∨ (Value.slice al l.length cl).ownBlock = some j → w.heap.size ≤ j := fun j hj => hj.elim (fun e => by have := HBE.out; omega) (fun e => (HVB.out j e).1)
        refine ⟨⟨k + 1, by omega, by go_num, ⟨l', s', h1, h4, h5, HAK.out l' (fun z hz => h6 z (Or.inl hz)) (h6 _ (Or.inr rfl)), ?_, fun j hj => ?_, hbw.trans (h7.below hbw.size fun j hj => hvw j (hj.imp (fun e => e.symm) id))⟩⟩, by simp [intOf]; omega⟩
        · refine (HCS.out.below HBB.out).kept h7.size fun j cs t f hj hc => h7.block j (Array.getElem?_eq_some_iff.1 hc).1 fun e => ?_
          rcases e with e | e
          · have h9 : (w.alloc (.map #[] 0)).heap.size ≤ j := HV.out.2 j hj
            rw [World.size_alloc] at h9
            have := HBE.out
            omega
          · exact (HVB.out j e).2.2 hj
        · rcases h2 with h | h
          · rw [h] at hj
            exact HVB.out j hj
          · have hj1 := h j hj
            have hg1 := HCS.out
            refine ⟨by have := hbw.size; omega, h3 j hj, fun e => ?_⟩
            have := HCS.out.lt e
            omega
      · go_wp2_with (go_at_call 53; refine (HSY.out _ (HM.out.below ((Below.refl _ wr).alloc (Nat.le_refl _) _))).mono ?_; rintro e yb ⟨rfl, hbb⟩)
        have hB : Below wr.heap.size wr yb := ((Below.refl _ wr).alloc (Nat.le_refl _) _).trans (hbb.mono (by simp))
        have hin : (y1, y2, y3) ∈ l := by
          have := (HF.out.seen (y1, y2, y3)).1 HSB.out.symm
          simpa using this
        exact ⟨⟨k + 1, by omega, by go_num, ⟨l, s, row_below HROW.out hB, HM.out.below hB, HF.out, HAK.out l (fun z hz => hz) hin, HCS.out.below hB, HVB.out, HR.out.trans (hB.mono HR.out.size)⟩⟩, by simp [intOf]; omega⟩
    · obtain rfl : k = L := by omega
      clear hlt
      go_wp2_with fail
      refine (show Po (.returned u4) wr from ?_)
      rw [HPO.out]
      have hnd : l.Nodup := by simpa using HF.out.nd
      refine ⟨⟨_, l, rfl, ⟨(CsAt.of_owns HROW.out).1, fun j hj => ?_⟩, hnd, HF.out.fin, fun z => ⟨fun hz => HF.out.keys z (Or.inl hz), fun hz => ?_⟩⟩, HR.out⟩
      · obtain ⟨al, cl, rfl⟩ := own_slice HROW.out
        exact (HVB.out j hj).1
      · obtain ⟨j, hj, rfl⟩ := List.getElem_of_mem hz
        exact HA.out j hj (by rw [HLL.out]; exact hj)
end Go.Proofs.Ytjjpfddgcilliaa
