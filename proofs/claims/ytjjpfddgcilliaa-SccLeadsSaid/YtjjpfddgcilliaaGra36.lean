/-
  GRAPHS, the document's side: Set.
-/
import Derived.Test.YtjjpfddgcilliaaGra35
set_option linter.unusedSimpArgs false
set_option linter.unusedVariables false
namespace Go.Proofs.Ytjjpfddgcilliaa
open Go.RowKit Go.Shelf Go.Sort Go.Lib Go.Maps
set_option maxRecDepth 100000

theorem Trn.rowed {S : Nat → Prop} {a b c : World} {row : Option Nat} (h : Trn S a b) (k : b.grownBy c row) (hx : ∀ x, row = some x → S x) : Trn S a c :=
  ⟨k.os.trans h.os, k.tape.trans h.tape, k.output.trans h.output, Nat.le_trans h.size k.size, fun i hi hn => (k.block i (Nat.lt_of_lt_of_le hi h.size) (fun e => hn (hx i e.symm))).trans (h.block i hi hn)⟩
theorem grownC (W : World) (p o : Nat) (v : Value) : W.grownBy (W.setCell ⟨p, o, none⟩ v) (some p) := ⟨rfl, rfl, rfl, by simp, fun k _ hk => heap_setCell_other W ⟨p, o, none⟩ k v (fun e => hk (by simp [e]))⟩
set_option maxRecDepth 100000 in
set_option maxHeartbeats 8000000 in
theorem rset_any (p : Nat) (T : Nat → Prop) (R : List Rw) (x : Ce) (v : Value) (l : List Ce) (W0 w : World) (h : RgAt w T p R) (hT : ∀ k, T k → W0.heap.size ≤ k) (hb0 : Below W0.heap.size W0 w) (hL : LstAt W0 v l) (hd : (R.map fun r => r.1).Nodup) (hn : R.length ≤ 100000) (hl : l.length ≤ 100000) : Calls Try.prog 12 #[.pointer (some ⟨p, 0, none⟩), mkC x, v] w fun e w' => e = .returned (.tuple #[]) ∧ RgAt w' (fun k => T k ∨ w.heap.size ≤ k) p (setR R x (onc l)) ∧ Trn T w w' := by
  obtain ⟨Po, hPo⟩ : ∃ Po : Ending → World → Prop, Po = fun e w' => e = .returned (.tuple #[]) ∧ RgAt w' (fun k => T k ∨ w.heap.size ≤ k) p (setR R x (onc l)) ∧ Trn T w w' := ⟨_, rfl⟩
  rw [← hPo]
  have HPO := Lib.hid hPo
  clear hPo
  obtain ⟨A, hA⟩ : ∃ A, A = w.heap.size := ⟨_, rfl⟩
  obtain ⟨s, hs⟩ : ∃ s, s = w.alloc (.cells #[.int .i64 x.1, .int .i64 x.2.1, .int .i64 x.2.2] 32) := ⟨_, rfl⟩
  have hb : Below w.heap.size w s := by rw [hs]; exact (Below.refl _ w).alloc (Nat.le_refl _) _
  have hbx := box_at hs
  have zA : A < s.heap.size := by rw [hs, hA]; simp
  rw [← hA] at hbx
  have HG : Hid (RgAt s T p R) := Lib.hid (h.kept (Kept.of_below hb))
  have HSO : Hid (∀ W, Below s.heap.size s W → Calls Try.prog 14 #[v] W (OncePost W l)) := Lib.hid fun W hW => by
    refine refSorted_any v l W ?_ hl
    rcases hL with hL | hL
    · exact Or.inl (hL.below (hb0.trans ((hb.trans (hW.mono hb.size)).mono hb0.size)))
    · exact Or.inr hL
  have HBX := Lib.hid hbx
  have HZA := Lib.hid zA
  have HB := Lib.hid hb
  have HS := Lib.hid hs
  have HA := Lib.hid hA
  have HT := Lib.hid hT
  have HD := Lib.hid hd
  clear hs hA hb h hT hb0 hL hd
  obtain ⟨x1, x2, x3⟩ := x
  unfold mkC
  dsimp only at hbx
  go_enter Try.func12, Try.ntmps12
  go_wp2_with fail
  rw [← HS.out, ← HA.out]
  refine wrp (S := fun w' => Below s.heap.size s w' ∧ w'.cell? ⟨A, 0, none⟩ = some (.int .i64 x1) ∧ w'.cell? ⟨A, 1, none⟩ = some (.int .i64 x2) ∧ w'.cell? ⟨A, 2, none⟩ = some (.int .i64 x3)) (by kernel_rfl) (fun w' hx => ⟨hx, belK hx hbx.1 zA, belK hx hbx.2.1 zA, belK hx hbx.2.2 zA⟩) (fun HKP hHeld => ?_)
  clear hbx zA
  refine tk 0 ?_
  refine tk 1 ?_
  refine rd2 2 4 (by kernel_rfl) rfl rfl (fun K hK => ?wa) (fun K hK => ?wb)
  case' wa =>
    go_simp
    (go_at_call 14; refine (HSO.out _ hHeld.1).mono ?_; rintro e y1 ⟨⟨u, rfl, hu⟩, hby⟩; obtain ⟨ua, ucap, rfl⟩ := LstAt.shape (Or.inl hu.1); have HU := Lib.hid hu; clear hu)
    try (go_wp2_with fail)
    refine hK.out _ _ (HKP.out y1 (hHeld.1.trans (hby.mono hHeld.1.size))) (fun hHeld => ?_)
    clear hK K
    try simp only [pz]
    refine tk 3 ?_
    have hHeld0 := hHeld
    refine rd1 4 (by kernel_rfl) rfl fun K hK => ?_
    go_simp
    refine hK.out _ _ (HKP.out _ (hHeld.1.alloc hHeld.1.size _)) (fun hHeld => ?_)
    clear hK K
    try simp only [pz]
    refine rd1 5 (by kernel_rfl) rfl fun K hK => ?_
    go_simp
    refine hK.out _ _ (HKP.out _ (hHeld0.1.alloc hHeld0.1.size _)) (fun hHeld => ?_)
    clear hK K
    try simp only [pz]
    refine wpAnyH_done (by kernel_rfl) ?_ _
    have HYB := Lib.hid hHeld.1
    have HYC := Lib.hid (World.alloc_heap_new y1 (.cells #[.int .i64 x1, .int .i64 x2, .int .i64 x3, .slice ua (onc l).length ucap] 69))
    have HYU : Hid (CsAt (y1.alloc (.cells #[.int .i64 x1, .int .i64 x2, .int .i64 x3, .slice ua (onc l).length ucap] 69)) (.slice ua (onc l).length ucap) (onc l) ∧ ∀ b, blkOf (.slice ua (onc l).length ucap) = some b → s.heap.size ≤ b ∧ b ≠ y1.heap.size) := Lib.hid ⟨HU.out.1.below ((Below.refl _ y1).alloc (Nat.le_refl _) _), fun b hb => ⟨HU.out.2 b hb, by have := HU.out.1.lt hb; omega⟩⟩
    have HBS := Lib.hid (show s.heap.size ≤ y1.heap.size from hHeld0.1.size)
    clear HKP hHeld hHeld0 HU hby HSO
    generalize y1.alloc (.cells #[.int .i64 x1, .int .i64 x2, .int .i64 x3, .slice ua (onc l).length ucap] 69) = yy at *
    generalize y1.heap.size = B at *
  case' wb =>
    have hHeld0 := hHeld
    go_simp
    refine hK.out _ _ (HKP.out _ (hHeld0.1.alloc hHeld0.1.size _)) (fun hHeld => ?_)
    clear hK K
    try simp only [pz]
    refine rd1 2 (by kernel_rfl) rfl fun K hK => ?_
    go_simp
    (go_at_call 14; refine (HSO.out _ hHeld.1).mono ?_; rintro e y1 ⟨⟨u, rfl, hu⟩, hby⟩; obtain ⟨ua, ucap, rfl⟩ := LstAt.shape (Or.inl hu.1); have HU := Lib.hid hu; clear hu)
    try (go_wp2_with fail)
    have hB1 := hHeld.1.trans (hby.mono hHeld.1.size)
    have hhb : y1.heap[s.heap.size]? = some (.cells #[.int .i64 0, .int .i64 0, .int .i64 0, .slice none 0 0] 69 (0, 0)) := (hby.block s.heap.size (by simp)).trans (World.alloc_heap_new s.drew _)
    have HU2 : Hid (∀ b, blkOf (.slice ua (onc l).length ucap) = some b → s.heap.size + 1 ≤ b) := Lib.hid fun b hb => by have := HU.out.2 b hb; simpa using this
    refine hK.out _ _ (HKP.out y1 (hHeld.1.trans (hby.mono hHeld.1.size))) (fun hHeld => ?_)
    clear hK K
    try simp only [pz]
    refine tk 3 ?_
    refine rd1 5 (by kernel_rfl) rfl fun K hK => ?_
    rw [if_pos (by rfl)]
    refine wp_store_row 69 _ _ rfl s.heap.size _ rfl rfl 69 _ hhb (by kernel_rfl) rfl (by simp [Value.oneCell']) ?_
    have hgr : y1.grownBy (y1.setRow s.heap.size #[.int .i64 x1, .int .i64 x2, .int .i64 x3, .slice ua (onc l).length ucap]) (some s.heap.size) := ⟨rfl, rfl, rfl, by simp [World.setRow], fun k _ hk => by simp [World.setRow, Array.getElem?_modify, show ¬ s.heap.size = k from fun e => hk (by rw [e])]⟩
    have hyb : Below s.heap.size s (y1.setRow s.heap.size #[.int .i64 x1, .int .i64 x2, .int .i64 x3, .slice ua (onc l).length ucap]) := hB1.grown hgr hB1.size (fun q hq => by cases hq; exact Nat.le_refl _)
    refine hK.out _ _ (HKP.out _ hyb) (fun hHeld => ?_)
    clear hK K
    try simp only [pz]
    refine wpAnyH_done (by kernel_rfl) ?_ _
    have HYB := Lib.hid hyb
    have HYC : Hid ((y1.setRow s.heap.size #[.int .i64 x1, .int .i64 x2, .int .i64 x3, .slice ua (onc l).length ucap]).heap[s.heap.size]? = some (.cells #[.int .i64 x1, .int .i64 x2, .int .i64 x3, .slice ua (onc l).length ucap] 69 (0, 0))) := Lib.hid (by simp [World.setRow, Array.getElem?_modify, hhb])
    have HYU : Hid (CsAt (y1.setRow s.heap.size #[.int .i64 x1, .int .i64 x2, .int .i64 x3, .slice ua (onc l).length ucap]) (.slice ua (onc l).length ucap) (onc l) ∧ ∀ b, blkOf (.slice ua (onc l).length ucap) = some b → s.heap.size ≤ b ∧ b ≠ s.heap.size) := Lib.hid ⟨HU.out.1.kept hgr.size (fun b _ _ _ h1 h2 => hgr.block b (Array.getElem?_eq_some_iff.1 h2).1 (fun e => by have := HU2.out b h1; cases e; omega)), fun b hb => by have := HU2.out b hb; omega⟩
    have HBS := Lib.hid (Nat.le_refl s.heap.size)
    clear HKP hHeld hHeld0 HU HU2 hby HSO hgr hyb hhb hB1
    generalize y1.setRow s.heap.size #[.int .i64 x1, .int .i64 x2, .int .i64 x3, .slice ua (onc l).length ucap] = yy at *
    obtain ⟨B, hB⟩ : ∃ B, B = s.heap.size := ⟨_, rfl⟩
    have HYU2 : Hid (CsAt yy (.slice ua (onc l).length ucap) (onc l) ∧ ∀ b, blkOf (.slice ua (onc l).length ucap) = some b → s.heap.size ≤ b ∧ b ≠ B) := Lib.hid (by rw [hB]; exact HYU.out)
    have HBS2 : Hid (s.heap.size ≤ B) := Lib.hid (by rw [hB]; exact Nat.le_refl _)
    rw [← hB] at HYC ⊢
    clear HYU HBS hB
    have HYU := HYU2
    have HBS := HBS2
    clear HYU2 HBS2
  all_goals
    have HGY : Hid (RgAt yy T p R) := Lib.hid (HG.out.kept (Kept.of_below HYB.out))
    have HPL := Lib.hid (place_any p R (x1, x2, x3) yy HGY.out.view hn)
    have HBY : Hid (B < yy.heap.size) := Lib.hid (Array.getElem?_eq_some_iff.1 HYC.out).1
    have kx0 := belK HYB.out HBX.out.1 HZA.out
    have kx1 := belK HYB.out HBX.out.2.1 HZA.out
    have kx2 := belK HYB.out HBX.out.2.2 HZA.out
    unfold mkC at HPL
    dsimp only at HPL
    obtain ⟨v0, Y, hp, hTp, hrow, hvb, hRY, hy⟩ := HG.out
    have hpy := (HYB.out.block p (Array.getElem?_eq_some_iff.1 hp).1).trans hp
    have kp0 : yy.cell? ⟨p, 0, none⟩ = some v0 := by simp [World.cell?, hpy]
    have zps : p < s.heap.size := (Array.getElem?_eq_some_iff.1 hp).1
    have zpy : p < yy.heap.size := (Array.getElem?_eq_some_iff.1 hpy).1
    have hbc : yy.cell? ⟨B, 0, none⟩ = some (.int .i64 x1) ∧ yy.cell? ⟨B, 1, none⟩ = some (.int .i64 x2) ∧ yy.cell? ⟨B, 2, none⟩ = some (.int .i64 x3) ∧ yy.cell? ⟨B, 3, none⟩ = some (.slice ua (onc l).length ucap) := by simp [World.cell?, HYC.out]
    have hRL : R.length = Y.length := by rw [hRY, List.length_map]
    have HNB : Hid (B ≠ p ∧ v0.ownBlock ≠ some B) := Lib.hid ⟨by have := HBS.out; omega, fun e => by have := (hrow.lt B e).2; have := HBS.out; omega⟩
    have HHP := Lib.hid hp
    have HHY := Lib.hid hpy
    have HTP := Lib.hid hTp
    have HROW := Lib.hid hrow
    have HVB := Lib.hid hvb
    have HRY := Lib.hid hRY
    have HRL := Lib.hid hRL
    have HY := Lib.hid hy
    have HBC := Lib.hid hbc
    have HKP0 := Lib.hid kp0
    have HZP := Lib.hid zpy
    have HZS := Lib.hid zps
    clear hp hpy hTp hrow hvb hRY hy hRL hbc kp0 zpy zps
    rcases PlR.pick R (x1, x2, x3) with ⟨hz, hr⟩ | ⟨k, hk, hz, hr, hx⟩
    · have HP1 : Hid (Calls Try.prog 42 #[.pointer (some ⟨p, 0, none⟩), .agg #[.int .i64 x1, .int .i64 x2, .int .i64 x3]] yy fun e w' => e = .returned (.int .i64 (-1)) ∧ Below yy.heap.size yy w') := Lib.hid (HPL.out.mono (by rintro e w' ⟨⟨z, rfl, h⟩, hb⟩; rw [hz z h]; exact ⟨rfl, hb⟩))
      have HNEW := Lib.hid (setR_new R (x1, x2, x3) (onc l) hr)
      clear hz hr HPL
      go_wp2_with (go_at_call 42; refine HP1.out.mono ?_; rintro e y2 ⟨rfl, hby⟩; clear kx0 kx1 kx2)
      have HBY2 := Lib.hid hby
      have v0p := belK hby HKP0.out HZP.out
      have b0 := belK hby HBC.out.1 HBY.out
      have b1 := belK hby HBC.out.2.1 HBY.out
      have b2 := belK hby HBC.out.2.2.1 HBY.out
      have b3 := belK hby HBC.out.2.2.2 HBY.out
      have zp2 := Nat.lt_of_lt_of_le HZP.out hby.size
      have zB2 := Nat.lt_of_lt_of_le HBY.out hby.size
      have hp2 := (hby.block p HZP.out).trans HHY.out
      have HP2 := Lib.hid hp2
      clear hby hp2
      obtain ⟨T', hT'⟩ : ∃ T' : Nat → Prop, T' = fun j => j = p ∨ v0.ownBlock = some j := ⟨_, rfl⟩
      have HT' : Hid (¬ T' B ∧ T' p ∧ ∀ j, v0.ownBlock = some j → T' j) := Lib.hid (by rw [hT']; exact ⟨fun h => h.elim HNB.out.1 HNB.out.2, Or.inl rfl, fun j h => Or.inr h⟩)
      have HTE := Lib.hid hT'
      clear hT'
      refine wrt (T := T') (S := fun w' => Trn T' y2 w' ∧ w'.cell? ⟨B, 0, none⟩ = some (.int .i64 x1) ∧ w'.cell? ⟨B, 1, none⟩ = some (.int .i64 x2) ∧ w'.cell? ⟨B, 2, none⟩ = some (.int .i64 x3) ∧ w'.cell? ⟨B, 3, none⟩ = some (.slice ua (onc l).length ucap)) (by kernel_rfl) (fun w' hx => ⟨hx, hx.cell b0 zB2 HT'.out.1, hx.cell b1 zB2 HT'.out.1, hx.cell b2 zB2 HT'.out.1, hx.cell b3 zB2 HT'.out.1⟩) (fun HKP hHeld => ?_)
      clear b0 b1 b2 b3
      refine tk 0 ?_
      refine tk 1 ?_
      refine tk 2 ?_
      refine tk 3 ?_
      refine tk 5 ?_
      refine rd2 4 6 (by kernel_rfl) rfl rfl (fun K hK => ?_) (fun K hK => ?_)
      focus
        go_simp
        refine hK.out _ _ hHeld (fun hHeld => ?_)
        clear hK K
        try simp only [pz]
        refine rd1 6 (by kernel_rfl) rfl fun K hK => ?_
        go_simp
        refine hK.out _ _ (HKP.out _ (hHeld.1.al _)) (fun hHeld => ?_)
        clear hK K
        try simp only [pz]
      rotate_left
      focus
        go_simp
        refine hK.out _ _ (HKP.out _ (hHeld.1.al _)) (fun hHeld => ?_)
        clear hK K
        try simp only [pz]
        have v0q := alK (o := .cells #[.int .i64 x1, .int .i64 x2, .int .i64 x3, .slice ua (onc l).length ucap] 69) v0p
        refine rd1 4 (by kernel_rfl) rfl fun K hK => ?_
        go_simp
        refine hK.out _ _ hHeld (fun hHeld => ?_)
        clear hK K v0q
        try simp only [pz]
      all_goals
        refine rd1 7 (by kernel_rfl) rfl fun K hK => ?_
        refine step_append_row1 rfl _ _ rfl v0 (Y.map zOf) ((x1, x2, x3), .slice ua (onc l).length ucap) rfl ?_ rfl ?_ rfl ?_ ?_
        · have h := (row_below HROW.out (HYB.out.trans (HBY2.out.mono HYB.out.size))).alloc (.cells #[.int .i64 x1, .int .i64 x2, .int .i64 x3, .slice ua (onc l).length ucap] 69)
          rw [List.length_map]; exact h
        · intro j u hj
          rw [Addr.add_lit, Nat.zero_add]
          exact bx0 (l := [.int .i64 x1, .int .i64 x2, .int .i64 x3, .slice ua (onc l).length ucap]) rfl rfl j u hj
        · have := HRL.out; rw [List.length_map]; omega
        · intro v2 V2 h2 g2 hbk
          obtain ⟨a2, c2, rfl⟩ := own_slice h2
          obtain ⟨n2, hn2⟩ : ∃ n2, n2 = (Y.map zOf ++ [((x1, x2, x3), Value.slice ua (onc l).length ucap)]).length := ⟨_, rfl⟩
          rw [← hn2] at h2 hbk ⊢
          have HN2 := Lib.hid hn2
          clear hn2
          have H2 := Lib.hid h2
          have G2 := Lib.hid g2
          have HBK := Lib.hid hbk
          have hpn : some p ≠ v0.ownBlock := fun e => (HVB.out p e.symm).2 rfl
          have hp2 : V2.heap[p]? = some (.cells #[v0] 29 (0, 0)) := (g2.block p (Nat.lt_of_lt_of_le zp2 (by simp)) hpn).trans ((((Below.refl _ y2).alloc (Nat.le_refl _) _).block p zp2).trans HP2.out)
          have v2p : V2.cell? ⟨p, 0, none⟩ = some v0 := by simp [World.cell?, hp2]
          have fz : V2.frozen? ⟨p, 0, none⟩ = false := by simp [World.frozen?, hp2]
          have zp3 : p < V2.heap.size := (Array.getElem?_eq_some_iff.1 hp2).1
          have ht2 := hHeld.1.rowed g2 fun x hx => HT'.out.2.2 x hx
          have HP3 := Lib.hid hp2
          clear hp2 hpn h2 g2 hbk
          refine hK.out _ _ (HKP.out _ ht2) (fun hHeld => ?_)
          clear hK K v0p
          try simp only [pz]
          refine tk 8 ?_
          refine tk 9 ?_
          refine rd1 10 (by kernel_rfl) rfl fun K hK => ?_
          go_simp
          refine hK.out _ _ (HKP.out _ (hHeld.1.wrote (grownC V2 p 0 _) (Or.inl HT'.out.2.1))) (fun hHeld => ?_)
          clear hK K
          try simp only [pz]
          refine wpAnyH_done (by kernel_rfl) ?_ _
          clear hHeld HKP
          go_wp2_with fail
          go_end0
          rw [HPO.out]
          have hBs : Below s.heap.size s (y2.alloc (.cells #[.int .i64 x1, .int .i64 x2, .int .i64 x3, .slice ua (onc l).length ucap] 69)) := (HYB.out.trans (HBY2.out.mono HYB.out.size)).alloc (Nat.le_trans HYB.out.size HBY2.out.size) _
          have h0 : CsAt (y2.alloc (.cells #[.int .i64 x1, .int .i64 x2, .int .i64 x3, .slice ua (onc l).length ucap] 69)) (.slice ua (onc l).length ucap) (onc l) := (HYU.out.1.below HBY2.out).below ((Below.refl _ y2).alloc (Nat.le_refl _) _)
          have e2 : Y.map zOf ++ [((x1, x2, x3), Value.slice ua (onc l).length ucap)] = (Y ++ [((x1, x2, x3), Value.slice ua (onc l).length ucap, onc l)]).map zOf := by simp [zOf]
          have h2 := H2.out
          rw [HN2.out, e2, List.length_map] at h2
          have g2 := G2.out
          have hbk := HBK.out
          rw [HN2.out, e2, List.length_map] at hbk ⊢
          obtain ⟨f1, f2⟩ := rg_append (w := s) (V := y2.alloc (.cells #[.int .i64 x1, .int .i64 x2, .int .i64 x3, .slice ua (onc l).length ucap] 69)) HHP.out HTP.out HVB.out (fun b hb => (HROW.out.lt b hb).2) HY.out hBs (grown_undrew g2) hbk h2 h0 (fun b hb => (HYU.out.2 b hb).1)
          refine ⟨rfl, ?_, (Trn.of_below HB.out).trans (f2.mono fun k _ h => Or.inl h)⟩
          rw [HNEW.out, HRY.out, show Y.map rOf ++ [((x1, x2, x3), onc l)] = (Y ++ [((x1, x2, x3), Value.slice ua (onc l).length ucap, onc l)]).map rOf by simp [rOf]]
          exact f1.mono fun k _ h => h.imp id fun h => Nat.le_trans HB.out.size h
    · have HP1 : Hid (Calls Try.prog 42 #[.pointer (some ⟨p, 0, none⟩), .agg #[.int .i64 x1, .int .i64 x2, .int .i64 x3]] yy fun e w' => e = .returned (.int .i64 (k : Int)) ∧ Below yy.heap.size yy w') := Lib.hid (HPL.out.mono (by rintro e w' ⟨⟨z, rfl, h⟩, hb⟩; rw [hz z h]; exact ⟨rfl, hb⟩))
      have HSET := Lib.hid (setR_at R (x1, x2, x3) (onc l) k hk hx HD.out)
      have hkY : k < Y.length := by rw [← HRL.out]; exact hk
      rcases HROW.out.2 with ⟨_, h0⟩ | ⟨g, cap, cur, rfl, _, hgg, hc1, hc2, _, _⟩
      · omega
      have hgs : g < s.heap.size := (Array.getElem?_eq_some_iff.1 hgg).1
      have hn' : Y.length ≤ 100000 := by rw [← HRL.out]; exact hn
      have HGG := Lib.hid hgs
      have hTg := HVB.out g rfl
      have hBg : B ≠ g := fun e => HNB.out.2 (by rw [e]; rfl)
      clear hz hr HPL hk hx hgg
      go_wp2_with (go_at_call 42; refine HP1.out.mono ?_; rintro e y2 ⟨rfl, hby⟩; clear kx0 kx1 kx2)
      have HBY2 := Lib.hid hby
      have v0p := belK hby HKP0.out HZP.out
      have b0 := belK hby HBC.out.1 HBY.out
      have b1 := belK hby HBC.out.2.1 HBY.out
      have b2 := belK hby HBC.out.2.2.1 HBY.out
      have b3 := belK hby HBC.out.2.2.2 HBY.out
      have zp2 := Nat.lt_of_lt_of_le HZP.out hby.size
      have zB2 := Nat.lt_of_lt_of_le HBY.out hby.size
      clear hby
      obtain ⟨T', hT'⟩ : ∃ T' : Nat → Prop, T' = fun j => j = g := ⟨_, rfl⟩
      have HT' : Hid (¬ T' B ∧ ¬ T' p ∧ T' g) := Lib.hid (by rw [hT']; exact ⟨hBg, fun e => hTg.2 e.symm, rfl⟩)
      clear hT'
      have HTg := Lib.hid hTg
      clear hTg hBg hgs
      refine wrt (T := T') (S := fun w' => Trn T' y2 w' ∧ w'.cell? ⟨p, 0, none⟩ = some (.slice (some ⟨g, 0, none⟩) Y.length cap) ∧ w'.cell? ⟨B, 0, none⟩ = some (.int .i64 x1) ∧ w'.cell? ⟨B, 1, none⟩ = some (.int .i64 x2) ∧ w'.cell? ⟨B, 2, none⟩ = some (.int .i64 x3) ∧ w'.cell? ⟨B, 3, none⟩ = some (.slice ua (onc l).length ucap)) (by kernel_rfl) (fun w' hx => ⟨hx, hx.cell v0p zp2 HT'.out.2.1, hx.cell b0 zB2 HT'.out.1, hx.cell b1 zB2 HT'.out.1, hx.cell b2 zB2 HT'.out.1, hx.cell b3 zB2 HT'.out.1⟩) (fun HKP hHeld => ?_)
      clear b0 b1 b2 b3 v0p
      refine tk 0 ?_
      refine tk 1 ?_
      refine tk 2 ?_
      refine tk 3 ?_
      refine tk 4 ?_
      refine tk 5 ?_
      refine tk 6 ?_
      refine rd1 7 (by kernel_rfl) rfl fun K hK => ?_
      refine step_store_row rfl _ _ rfl rfl (Z := Y.map zOf) ((x1, x2, x3), .slice ua (onc l).length ucap) rfl (row_below HROW.out (HYB.out.trans ((HBY2.out.mono HYB.out.size).drew))) (by rw [List.length_map]; exact hkY) rfl rfl (fun V4 r4 g4 => ?_)
      have R4 := Lib.hid r4
      have G4 := Lib.hid g4
      refine hK.out _ _ (HKP.out _ (hHeld.1.wrote g4 (Or.inl HT'.out.2.2))) (fun hHeld => ?_)
      clear hK K r4 g4
      try simp only [pz]
      refine wpAnyH_done (by kernel_rfl) ?_ _
      clear hHeld HKP
      go_wp2_with fail
      go_end0
      rw [HPO.out]
      have hBs : Below s.heap.size s y2 := HYB.out.trans (HBY2.out.mono HYB.out.size)
      obtain ⟨f1, f2⟩ := rg_store (w := s) (V := y2) (l := onc l) HHP.out HTP.out HTg.out HGG.out rfl (fun y hy => by obtain ⟨h1, h2⟩ := HY.out y hy; exact ⟨h1, fun b hb => ⟨(h2 b hb).1, (h2 b hb).2.1, fun e => (h2 b hb).2.2 (by rw [e]; rfl)⟩⟩) hBs (grown_undrew G4.out) R4.out (HYU.out.1.below HBY2.out) (fun b hb => (HYU.out.2 b hb).1)
      refine ⟨rfl, ?_, (Trn.of_below HB.out).trans (f2.mono fun k _ h => Or.inl h)⟩
      rw [HSET.out, HRY.out, show (Y.map rOf).set k ((x1, x2, x3), onc l) = (Y.set k ((x1, x2, x3), Value.slice ua (onc l).length ucap, onc l)).map rOf by rw [List.map_set]; rfl]
      exact f1.mono fun k _ h => h.imp id fun h => Nat.le_trans HB.out.size h
end Go.Proofs.Ytjjpfddgcilliaa
