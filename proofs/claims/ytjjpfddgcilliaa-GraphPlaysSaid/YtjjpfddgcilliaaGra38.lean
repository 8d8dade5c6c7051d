/-
  LAYER 28's STATEMENT ON GRAPHS THAT ARE PLAYED WITH, walked.
-/
import Derived.Test.YtjjpfddgcilliaaGra37
set_option linter.unusedSimpArgs false
set_option linter.unusedVariables false
namespace Go.Proofs.Ytjjpfddgcilliaa
open Go.RowKit Go.Shelf Go.Sort Go.Lib Go.Maps
set_option maxRecDepth 100000

theorem row_trn {S : Nat → Prop} {W W' : World} {base : Nat} {e : TypeId} {size : Nat} {v : Value} {n : Nat} {xs : List Value} (h : W.ownsRow base e size v n xs) (ht : Trn S W W') (hb : ∀ b, v.ownBlock = some b → ¬ S b) : W'.ownsRow base e size v n xs := by
  refine ⟨h.1, ?_⟩
  rcases h.2 with h0 | ⟨g, cap, cur, rfl, hb0, hgg, h1, h2, h3, h4⟩
  · exact Or.inl h0
  · exact Or.inr ⟨g, cap, cur, rfl, hb0, (ht.block g (Array.getElem?_eq_some_iff.1 hgg).1 (hb g rfl)).trans hgg, h1, h2, h3, h4⟩
/-- two graphs, and the cells that were named. -/
def PlyR (n0 p q n : Nat) (va : Value) (W : World) : Prop := ∃ (R : List Rw) (al : List Ce) (Sg Sr : Nat → Prop), TwoG n0 p q n R Sg Sr W ∧ W.ownsRow 0 32 3 va al.length (flC al) ∧ al.length ≤ n ∧ (∀ x ∈ al, okC x) ∧ ∀ b, va.ownBlock = some b → n0 ≤ b ∧ ¬ Sg b ∧ ¬ Sr b
theorem one_new2 (W : World) (o : Obj) (a b c : Int) (t : TypeId) : CsAt ((W.alloc o).alloc (.cells #[.int .i64 a, .int .i64 b, .int .i64 c] t)) (.slice (some ⟨W.heap.size + 1, 0, none⟩) 1 1) [(a, b, c)] := by
  have := one_new (W.alloc o) a b c t
  rwa [World.size_alloc] at this
theorem edge_lOf (G : Ce → Option (List Ce)) (x z : Ce) : edge G x z = true ↔ x ∈ lOf G z := by
  unfold edge lOf
  cases h : G z with
  | none => simp
  | some l => simp
set_option maxHeartbeats 16000000 in
theorem graphPlays_any (v : Value) (N : List Ac) (w : World) (h : ActsAt w v N) (hbig : N.length ≤ 9223372036854775807) : Calls Try.prog 3 #[v] w fun e w' => e = .returned (.bool true) ∧ Below w.heap.size w w' := by
  obtain ⟨a, cap, rfl, hact⟩ := h
  have HACT := Lib.hid hact
  clear hact
  obtain ⟨L, hL⟩ : ∃ L, L = N.length := ⟨_, rfl⟩
  rw [← hL] at hbig ⊢
  have HLL := Lib.hid hL
  clear hL
  by_cases h40 : L ≤ 40
  case neg =>
    go_enter Try.func3, Try.ntmps3
    go_wp2_with (go_at_call 8; refine (known28_any _).mono ?_; rintro e yk ⟨rfl, hbk⟩)
    all_goals first | go_ret | go_ret2
    exact ⟨rfl, hbk⟩
  have HNEW : Hid (∀ W, Calls Try.prog 9 #[] W fun e w' => ∃ p, e = .returned (.pointer (some ⟨p, 0, none⟩)) ∧ GrAt w' (fun k => W.heap.size ≤ k) p 0 (fun _ => none) ∧ Below W.heap.size W w') := Lib.hid new_any
  go_enter Try.func3, Try.ntmps3
  go_wp2_with (go_at_call 9; refine (HNEW.out _).mono ?_; rintro e w1 ⟨p, rfl, hg1, hb1⟩; have HG1 := Lib.hid hg1; have HB1 := Lib.hid hb1; clear hg1 hb1)
  obtain ⟨q, hq⟩ : ∃ q, q = w1.heap.size := ⟨_, rfl⟩
  obtain ⟨w2, hw2⟩ : ∃ w2, w2 = w1.alloc (.cells #[.slice none 0 0] 29) := ⟨_, rfl⟩
  have HPL : Hid (PlyR w.heap.size p q (41 * 0) (.slice none 0 0) w2) := Lib.hid ⟨[], [], _, _, by rw [hw2, hq]; exact TwoG.made HG1.out HB1.out, World.ownsRow_nil _ _ _ _, Nat.le_refl _, fun x hx => (by cases hx), fun b hb => (by cases hb)⟩
  have HB2 : Hid (Below w.heap.size w w2) := Lib.hid (by rw [hw2]; exact HB1.out.alloc HB1.out.size _)
  rw [← hw2, ← hq]
  clear hw2 hq HG1 HB1 HNEW
  go_loopw [5, 6] (fun va i wr => ∃ k : Nat, k ≤ L ∧ i = .int .i64 k ∧ PlyR w.heap.size p q (41 * k) va wr ∧ Below w.heap.size w wr) (fun _ i _ => L - (intOf i).toNat)
  case atStart => exact ⟨0, by omega, rfl, HPL.out, HB2.out⟩
  case round =>
    obtain ⟨k, hk, rfl, hply, hR⟩ := hrel
    have HR := Lib.hid hR
    obtain ⟨R, al, Sg, Sr, htwo, hrow, hal, hok, hva⟩ := hply
    have HTWO := Lib.hid htwo
    have HROW := Lib.hid hrow
    have HAL := Lib.hid hal
    have HOK := Lib.hid hok
    have HVA := Lib.hid hva
    clear hR htwo hrow hal hok hva HPL
    by_cases hlt : k < L
    · have hkl : k < N.length := by rw [← HLL.out]; exact hlt
      obtain ⟨g, o, u, rfl, hg, c0, c1, c2, c3, c4, hlu, hox, hoy⟩ := HACT.out k hkl
      generalize N[k] = z at *
      obtain ⟨kd, ⟨x1, x2, x3⟩, y⟩ := z
      dsimp only at c0 c1 c2 c3 c4 hlu hox hoy
      obtain ⟨a2, cap2, rfl⟩ := hlu.shape
      have d0 := belK HR.out c0 hg
      have d1 := belK HR.out c1 hg
      have d2 := belK HR.out c2 hg
      have d3 := belK HR.out c3 hg
      have d4 := belK HR.out c4 hg
      have hgr := Nat.lt_of_lt_of_le hg HR.out.size
      clear c0 c1 c2 c3 c4 hg hkl
      obtain ⟨m, hm⟩ : ∃ m, m = y.length := ⟨_, rfl⟩
      rw [← hm] at d4 hlu
      have HM := Lib.hid hm
      have HLU := Lib.hid hlu
      have HOX := Lib.hid hox
      have HOY := Lib.hid hoy
      clear hm hlu hox hoy
      by_cases hm40 : m ≤ 40
      case neg =>
        go_wp2_with (go_at_call 8; refine (known28_any _).mono ?_; rintro e yk ⟨rfl, hbk⟩)
        all_goals first | go_ret | go_ret2
        exact ⟨rfl, HR.out.trans (((Below.refl _ wr).alloc (Nat.le_refl _) _ |>.trans (hbk.mono (by simp))).mono HR.out.size)⟩
      have hal2 : al.length ≤ 1640 := by have := HAL.out; omega
      have HDN : Hid (∀ b, u5.ownBlock = some b → b < wr.heap.size) := Lib.hid fun b hb => (HROW.out.lt b hb).2
      have HDC : Hid (∀ j u, [Value.int .i64 kd, .int .i64 x1, .int .i64 x2, .int .i64 x3, .slice a2 m cap2][j]? = some u → ((wr.alloc (.cells #[.int .i64 kd, .int .i64 x1, .int .i64 x2, .int .i64 x3, .slice a2 m cap2] 34)).alloc (.cells #[.int .i64 x1, .int .i64 x2, .int .i64 x3] 32)).cell? ⟨wr.heap.size, j, none⟩ = some u) := Lib.hid (bx1 (l := [.int .i64 kd, .int .i64 x1, .int .i64 x2, .int .i64 x3, .slice a2 m cap2]) rfl rfl)
      obtain ⟨r, hr⟩ : ∃ r, (kd == 1) = r := ⟨_, rfl⟩
      cases r
      · go_wp2_with (at_builtin; refine wpList_append_lat rfl _ _ rfl u5 _ al [(x1, x2, x3)] rfl ((HROW.out.alloc _).alloc _) rfl (Or.inl (one_new2 _ _ x1 x2 x3 _)) (by simp; omega) ?_; intro v1 V1 h1 g1 b1; have H1 := Lib.hid h1; have G1 := Lib.hid g1; have B1 := Lib.hid b1; have e0 := g1.cell (HDC.out 0 _ rfl) (fun e => by have := HDN.out _ e.symm; simp at this); have e1 := g1.cell (HDC.out 1 _ rfl) (fun e => by have := HDN.out _ e.symm; simp at this); have e2 := g1.cell (HDC.out 2 _ rfl) (fun e => by have := HDN.out _ e.symm; simp at this); have e3 := g1.cell (HDC.out 3 _ rfl) (fun e => by have := HDN.out _ e.symm; simp at this); have e4 := g1.cell (HDC.out 4 _ rfl) (fun e => by have := HDN.out _ e.symm; simp at this); have hz1 : wr.heap.size + 2 ≤ V1.heap.size := (by have := g1.size; simp at this; omega); have HB1 : Hid (Below w.heap.size w V1) := Lib.hid (((HR.out.alloc HR.out.size _).alloc (by simp; have := HR.out.size; omega) _).grown g1 (by simp; have := HR.out.size; omega) (fun q hq => (HVA.out q hq).1)); clear h1 g1 b1; go_wp2_with (at_builtin; refine wpList_append_lat rfl _ _ rfl v1 _ (al ++ [(x1, x2, x3)]) y rfl H1.out rfl (HLU.out.imp (fun h => h.below HB1.out) id) (by have := HM.out; simp; omega) ?_; intro v2 V2 h2 g2 b2; have H2 := Lib.hid h2; have G2 := Lib.hid g2; have B2 := Lib.hid b2; have hdv : some wr.heap.size ≠ v1.ownBlock := (fun e => by rcases B1.out with h | h; (rw [h] at e; have := HDN.out _ e.symm; omega); (rw [h] at e; simp at e; omega)); have f0 := g2.cell e0 hdv; have f1 := g2.cell e1 hdv; have f2 := g2.cell e2 hdv; have f3 := g2.cell e3 hdv; have f4 := g2.cell e4 hdv; have hz2 := Nat.le_trans hz1 g2.size; clear h2 g2 b2 hdv e0 e1 e2 e3 e4))
        have HV1 : Hid (∀ b, v1.ownBlock = some b → w.heap.size ≤ b ∧ ¬ Sg b ∧ ¬ Sr b) := Lib.hid fun b hb => by
          rcases B1.out with h | h
          · rw [h] at hb; exact HVA.out b hb
          · rw [h] at hb
            have hb' : wr.heap.size + 2 = b := by simpa using hb
            have := HR.out.size
            exact ⟨by omega, fun hs => by have := (HTWO.out.sg b hs).2; omega, fun hs => by have := (HTWO.out.sr b hs).2; omega⟩
        have HV2 : Hid (∀ b, v2.ownBlock = some b → w.heap.size ≤ b ∧ ¬ Sg b ∧ ¬ Sr b) := Lib.hid fun b hb => by
          rcases B2.out with h | h
          · rw [h] at hb; exact HV1.out b hb
          · rw [h] at hb
            have hb' : V1.heap.size = b := by simpa using hb
            have := HR.out.size
            exact ⟨by omega, fun hs => by have := (HTWO.out.sg b hs).2; omega, fun hs => by have := (HTWO.out.sr b hs).2; omega⟩
        have HB2 : Hid (Below w.heap.size w V2) := Lib.hid (HB1.out.grown G2.out HB1.out.size (fun q hq => (HV1.out q hq).1))
        have HTW2 : Hid (TwoG w.heap.size p q (41 * k) R Sg Sr V2) := Lib.hid (HTWO.out.kept (by omega) fun j hj hs => by
          have n1 : some j ≠ u5.ownBlock := fun e => by have := HVA.out j e.symm; rcases hs with h | h; exact this.2.1 h; exact this.2.2 h
          have n2 : some j ≠ v1.ownBlock := fun e => by have := HV1.out j e.symm; rcases hs with h | h; exact this.2.1 h; exact this.2.2 h
          refine (G2.out.block j (by omega) n2).trans ((G1.out.block j (by simp; omega) n1).trans ?_)
          exact ((((Below.refl _ wr).alloc (Nat.le_refl _) _).alloc (by simp) _).block j hj))
        have HROW2 : Hid (V2.ownsRow 0 32 3 v2 (al ++ [(x1, x2, x3)] ++ y).length (flC (al ++ [(x1, x2, x3)] ++ y))) := H2
        have HAL2 : Hid ((al ++ [(x1, x2, x3)] ++ y).length ≤ 41 * (k + 1)) := Lib.hid (by have := HAL.out; have := HM.out; simp; omega)
        have HOK2 : Hid (∀ x ∈ al ++ [(x1, x2, x3)] ++ y, okC x) := Lib.hid fun x hx => by
          rcases List.mem_append.1 hx with hx | hx
          · rcases List.mem_append.1 hx with hx | hx
            · exact HOK.out x hx
            · rw [List.mem_singleton.1 hx]; exact HOX.out
          · exact HOY.out x hx
        have HSD : Hid (∀ j, Sg j ∨ Sr j → j < wr.heap.size) := Lib.hid fun j hj => hj.elim (fun h => (HTWO.out.sg j h).2) (fun h => (HTWO.out.sr j h).2)
        have hzD : wr.heap.size < V2.heap.size := by omega
        generalize al ++ [(x1, x2, x3)] ++ y = al2 at *
        clear HTWO HROW HAL HOK HVA HV1 H1 H2 G1 G2 B1 B2 HDC HDN HB1 hal2 hz1 hz2
        have HRS : Hid (Calls Try.prog 12 #[.pointer (some ⟨q, 0, none⟩), mkC (x1, x2, x3), .slice a2 m cap2] V2 fun e w' => e = .returned (.tuple #[]) ∧ RgAt w' (fun k => Sr k ∨ V2.heap.size ≤ k) q (setR R (x1, x2, x3) (onc y)) ∧ Trn Sr V2 w') := Lib.hid (rset_any q Sr R (x1, x2, x3) _ y w V2 HTW2.out.r (fun j hj => (HTW2.out.sr j hj).1) HB2.out HLU.out HTW2.out.nd (by have := HTW2.out.rl; omega) (by have := HM.out; omega))
        unfold mkC at HRS
        dsimp only at HRS
        have hm40' : y.length ≤ 40 := by have := HM.out; omega
        have hn1 : (41 * k + 1 + y.length) * 24 ≤ 140737488355328 := by omega
        go_wp2_with (first | (go_at_call 12; refine HRS.out.mono ?_; rintro e y1 ⟨rfl, hr1, ht1⟩; have HR1 := Lib.hid hr1; have HT1 := Lib.hid ht1; have g1 := ht1.cell f1 hzD (fun h => by have := HSD.out _ (Or.inr h); omega); have g2 := ht1.cell f2 hzD (fun h => by have := HSD.out _ (Or.inr h); omega); have g3 := ht1.cell f3 hzD (fun h => by have := HSD.out _ (Or.inr h); omega); have g4 := ht1.cell f4 hzD (fun h => by have := HSD.out _ (Or.inr h); omega); clear hr1 ht1 f0 f1 f2 f3 f4) | (go_at_call 13; refine (set_lst p (41 * k) Sg (rowOf R) (x1, x2, x3) HOX.out _ y w y1 (HTW2.out.g.kept (Kept.of_trn HT1.out HTW2.out.sd)) (fun j hj => Nat.lt_of_lt_of_le (HTW2.out.sg j hj).2 HT1.out.size) HLU.out (HB2.out.trans (HT1.out.below HB2.out.size (fun j hj => (HTW2.out.sr j hj).1) |>.mono (Nat.le_refl _))) (fun j hj => (HTW2.out.sg j hj).1) HOY.out hn1).mono ?_; rintro e y2 ⟨rfl, hg2, ht2⟩; have HG2 := Lib.hid hg2; have HT2 := Lib.hid ht2; clear hg2 ht2 g1 g2 g3 g4))
        have hb2 : ∀ b, v2.ownBlock = some b → b < V2.heap.size := fun b hb => (HROW2.out.lt b hb).2
        have hbl : Below w.heap.size w y2 := (HB2.out.trans (HT1.out.below HB2.out.size fun j hj => (HTW2.out.sr j hj).1)).trans (HT2.out.below (Nat.le_trans HB2.out.size HT1.out.size) fun j hj => (HTW2.out.sg j hj).1)
        refine ⟨⟨k + 1, by omega, by go_num, ⟨setR R (x1, x2, x3) (onc y), al2, _, _, (TwoG.set HTW2.out HR1.out HT1.out HG2.out HT2.out hm40').mono (by omega), row_trn (row_trn HROW2.out HT1.out fun b hb => (HV2.out b hb).2.2) HT2.out fun b hb => (HV2.out b hb).2.1, HAL2.out, HOK2.out, fun b hb => ⟨(HV2.out b hb).1, fun hs => ?_, fun hs => ?_⟩⟩, hbl⟩, by simp [intOf]; omega⟩
        · rcases hs.1 with h | h
          · exact (HV2.out b hb).2.1 h
          · have := hb2 b hb; have := HT1.out.size; omega
        · rcases hs.1 with h | h
          · exact (HV2.out b hb).2.2 h
          · have := hb2 b hb; omega
      · go_wp2_with (at_builtin; refine wpList_append_lat rfl _ _ rfl u5 _ al [(x1, x2, x3)] rfl ((HROW.out.alloc _).alloc _) rfl (Or.inl (one_new2 _ _ x1 x2 x3 _)) (by simp; omega) ?_; intro v1 V1 h1 g1 b1; have H1 := Lib.hid h1; have G1 := Lib.hid g1; have B1 := Lib.hid b1; have e0 := g1.cell (HDC.out 0 _ rfl) (fun e => by have := HDN.out _ e.symm; simp at this); have e1 := g1.cell (HDC.out 1 _ rfl) (fun e => by have := HDN.out _ e.symm; simp at this); have e2 := g1.cell (HDC.out 2 _ rfl) (fun e => by have := HDN.out _ e.symm; simp at this); have e3 := g1.cell (HDC.out 3 _ rfl) (fun e => by have := HDN.out _ e.symm; simp at this); have e4 := g1.cell (HDC.out 4 _ rfl) (fun e => by have := HDN.out _ e.symm; simp at this); have hz1 : wr.heap.size + 2 ≤ V1.heap.size := (by have := g1.size; simp at this; omega); have HB1 : Hid (Below w.heap.size w V1) := Lib.hid (((HR.out.alloc HR.out.size _).alloc (by simp; have := HR.out.size; omega) _).grown g1 (by simp; have := HR.out.size; omega) (fun q hq => (HVA.out q hq).1)); clear h1 g1 b1; go_wp2_with (at_builtin; refine wpList_append_lat rfl _ _ rfl v1 _ (al ++ [(x1, x2, x3)]) y rfl H1.out rfl (HLU.out.imp (fun h => h.below HB1.out) id) (by have := HM.out; simp; omega) ?_; intro v2 V2 h2 g2 b2; have H2 := Lib.hid h2; have G2 := Lib.hid g2; have B2 := Lib.hid b2; have hdv : some wr.heap.size ≠ v1.ownBlock := (fun e => by rcases B1.out with h | h; (rw [h] at e; have := HDN.out _ e.symm; omega); (rw [h] at e; simp at e; omega)); have f0 := g2.cell e0 hdv; have f1 := g2.cell e1 hdv; have f2 := g2.cell e2 hdv; have f3 := g2.cell e3 hdv; have f4 := g2.cell e4 hdv; have hz2 := Nat.le_trans hz1 g2.size; clear h2 g2 b2 hdv e0 e1 e2 e3 e4))
        have HV1 : Hid (∀ b, v1.ownBlock = some b → w.heap.size ≤ b ∧ ¬ Sg b ∧ ¬ Sr b) := Lib.hid fun b hb => by
          rcases B1.out with h | h
          · rw [h] at hb; exact HVA.out b hb
          · rw [h] at hb
            have hb' : wr.heap.size + 2 = b := by simpa using hb
            have := HR.out.size
            exact ⟨by omega, fun hs => by have := (HTWO.out.sg b hs).2; omega, fun hs => by have := (HTWO.out.sr b hs).2; omega⟩
        have HV2 : Hid (∀ b, v2.ownBlock = some b → w.heap.size ≤ b ∧ ¬ Sg b ∧ ¬ Sr b) := Lib.hid fun b hb => by
          rcases B2.out with h | h
          · rw [h] at hb; exact HV1.out b hb
          · rw [h] at hb
            have hb' : V1.heap.size = b := by simpa using hb
            have := HR.out.size
            exact ⟨by omega, fun hs => by have := (HTWO.out.sg b hs).2; omega, fun hs => by have := (HTWO.out.sr b hs).2; omega⟩
        have HB2 : Hid (Below w.heap.size w V2) := Lib.hid (HB1.out.grown G2.out HB1.out.size (fun q hq => (HV1.out q hq).1))
        have HTW2 : Hid (TwoG w.heap.size p q (41 * k) R Sg Sr V2) := Lib.hid (HTWO.out.kept (by omega) fun j hj hs => by
          have n1 : some j ≠ u5.ownBlock := fun e => by have := HVA.out j e.symm; rcases hs with h | h; exact this.2.1 h; exact this.2.2 h
          have n2 : some j ≠ v1.ownBlock := fun e => by have := HV1.out j e.symm; rcases hs with h | h; exact this.2.1 h; exact this.2.2 h
          refine (G2.out.block j (by omega) n2).trans ((G1.out.block j (by simp; omega) n1).trans ?_)
          exact ((((Below.refl _ wr).alloc (Nat.le_refl _) _).alloc (by simp) _).block j hj))
        have HROW2 : Hid (V2.ownsRow 0 32 3 v2 (al ++ [(x1, x2, x3)] ++ y).length (flC (al ++ [(x1, x2, x3)] ++ y))) := H2
        have HAL2 : Hid ((al ++ [(x1, x2, x3)] ++ y).length ≤ 41 * (k + 1)) := Lib.hid (by have := HAL.out; have := HM.out; simp; omega)
        have HOK2 : Hid (∀ x ∈ al ++ [(x1, x2, x3)] ++ y, okC x) := Lib.hid fun x hx => by
          rcases List.mem_append.1 hx with hx | hx
          · rcases List.mem_append.1 hx with hx | hx
            · exact HOK.out x hx
            · rw [List.mem_singleton.1 hx]; exact HOX.out
          · exact HOY.out x hx
        have HSD : Hid (∀ j, Sg j ∨ Sr j → j < wr.heap.size) := Lib.hid fun j hj => hj.elim (fun h => (HTWO.out.sg j h).2) (fun h => (HTWO.out.sr j h).2)
        have hzD : wr.heap.size < V2.heap.size := by omega
        generalize al ++ [(x1, x2, x3)] ++ y = al2 at *
        clear HTWO HROW HAL HOK HVA HV1 H1 H2 G1 G2 B1 B2 HDC HDN HB1 hal2 hz1 hz2
        obtain ⟨T, hT⟩ : ∃ T : Nat → Prop, T = fun j => Sg j ∨ Sr j := ⟨_, rfl⟩
        have HT : Hid (∀ j, T j ↔ Sg j ∨ Sr j) := Lib.hid fun j => by rw [hT]
        have HTn : Hid (¬ T wr.heap.size) := Lib.hid (by rw [hT]; intro h; have := HSD.out _ h; omega)
        clear hT
        refine wrt (T := T) (S := fun w' => Trn T V2 w' ∧ w'.cell? ⟨wr.heap.size, 1, none⟩ = some (.int .i64 x1) ∧ w'.cell? ⟨wr.heap.size, 2, none⟩ = some (.int .i64 x2) ∧ w'.cell? ⟨wr.heap.size, 3, none⟩ = some (.int .i64 x3)) (by kernel_rfl) (fun w' hx => ⟨hx, hx.cell f1 hzD HTn.out, hx.cell f2 hzD HTn.out, hx.cell f3 hzD HTn.out⟩) (fun HKP hHeld => ?_)
        clear f0 f1 f2 f3 f4
        refine tk 0 ?_
        refine tk 1 ?_
        refine tk 2 ?_
        refine tk 4 ?_
        refine tk 5 ?_
        refine tk 6 ?_
        have hn1 : 41 * k * 24 ≤ 140737488355328 := by omega
        have HDG := Lib.hid (drop_any p (41 * k) Sg (rowOf R) (x1, x2, x3) HOX.out V2.drew (HTW2.out.g.kept (Kept.of_below (Below.refl _ _).drew)) hn1)
        have HDR : Hid (∀ y1, Trn Sg V2 y1 → Calls Try.prog 11 #[.pointer (some ⟨q, 0, none⟩), mkC (x1, x2, x3)] y1 fun e w' => e = .returned (.int .i64 (dropE (rowOf R) (x1, x2, x3))) ∧ RgAt w' (fun k => Sr k ∨ y1.heap.size ≤ k) q (drpR R (x1, x2, x3)) ∧ Trn (fun k => k = q) y1 w') := Lib.hid fun y1 h1 => rdrop_any q Sr R (x1, x2, x3) y1 (HTW2.out.r.kept (Kept.of_trn h1 fun j h2 h3 => HTW2.out.sd j h3 h2)) HTW2.out.nd (by have := HTW2.out.rl; omega)
        have HSQ : Hid (Sr q) := Lib.hid (by obtain ⟨_, _, _, hq, _⟩ := HTW2.out.r; exact hq)
        generalize dropE (rowOf R) (x1, x2, x3) = dE at *
        have hdd : (dE != dE) = false := by simp
        unfold mkC at HDG HDR
        dsimp only at HDG HDR
        refine rd1 3 (by kernel_rfl) rfl fun K hK => ?_
        go_simp
        (go_at_call 10; refine HDG.out.mono ?_; rintro e y1 ⟨rfl, hg1, ht1⟩; have HG1 := Lib.hid hg1; have HT1 := Lib.hid (show Trn Sg V2 y1 from ⟨ht1.os, ht1.tape, ht1.output, ht1.size, ht1.block⟩); clear hg1 ht1)
        try (go_wp2_with fail)
        refine hK.out _ _ (HKP.out y1 (HT1.out.mono fun j _ h => (HT.out j).2 (Or.inl h))) (fun hHeld => ?_)
        clear hK K
        try simp only [pz]
        refine rd1 7 (by kernel_rfl) rfl fun K hK => ?_
        go_simp
        (go_at_call 11; refine (HDR.out _ HT1.out).mono ?_; rintro e y2 ⟨rfl, hg2, ht2⟩; have HG2 := Lib.hid hg2; have HT2 := Lib.hid ht2; clear hg2 ht2)
        try (go_wp2_with fail)
        refine hK.out _ _ (HKP.out y2 (hHeld.1.join (HT2.out.mono fun j _ h => (HT.out j).2 (Or.inr (by rw [h]; exact HSQ.out))))) (fun hHeld => ?_)
        clear hK K
        try simp only [pz]
        refine tk 8 ?_
        refine wpAnyH_done (by kernel_rfl) ?_ _
        clear HKP hHeld HDG HDR
        go_wp2_with fail
        have hb2 : ∀ b, v2.ownBlock = some b → b < V2.heap.size := fun b hb => (HROW2.out.lt b hb).2
        have hq0 : w.heap.size ≤ q := (HTW2.out.sr q HSQ.out).1
        have hbl : Below w.heap.size w y2 := (HB2.out.trans (HT1.out.below HB2.out.size fun j hj => (HTW2.out.sg j hj).1)).trans (HT2.out.below (Nat.le_trans HB2.out.size HT1.out.size) fun j hj => by rw [hj]; exact hq0)
        refine ⟨⟨k + 1, by omega, by go_num, ⟨drpR R (x1, x2, x3), al2, _, _, (TwoG.drop HTW2.out HG1.out HT1.out HG2.out HT2.out).mono (by omega), row_trn (row_trn HROW2.out HT1.out fun b hb => (HV2.out b hb).2.1) HT2.out (fun b hb h => (HV2.out b hb).2.2 (by rw [h]; exact HSQ.out)), HAL2.out, HOK2.out, fun b hb => ⟨(HV2.out b hb).1, (HV2.out b hb).2.1, fun hs => ?_⟩⟩, hbl⟩, by simp [intOf]; omega⟩
        rcases hs.1 with h | h
        · exact (HV2.out b hb).2.2 h
        · have := hb2 b hb; have := HT1.out.size; omega
    · obtain rfl : k = L := by omega
      clear hlt
      have hal2 : al.length ≤ 1640 := by have := HAL.out; omega
      have HSO := Lib.hid (refSorted_any u5 al wr (Or.inl (CsAt.of_owns HROW.out).1) (by omega))
      have hrl : R.length ≤ 1640 := by have := HTWO.out.rl; omega
      have HRL := Lib.hid hrl
      have HOL := Lib.hid (show (onc al).length ≤ 1640 by have := onc_length al; omega)
      have HOK2 : Hid (∀ x ∈ onc al, okC x) := Lib.hid fun x hx => HOK.out x (mem_onc.1 hx)
      clear hal2 hrl HACT HLL
      obtain ⟨l4, hl4⟩ : ∃ l4, l4 = onc al := ⟨_, rfl⟩
      rw [← hl4] at HOL HOK2
      have HE4 := Lib.hid hl4
      clear hl4
      go_wp2_with (go_at_call 14; refine HSO.out.mono ?_; rintro e y1 ⟨⟨v4, rfl, hv⟩, hb⟩; rw [← HE4.out] at hv; obtain ⟨a5, cap5, rfl, _⟩ := hv.1.shape; have HV := Lib.hid hv.1; have HB1 := Lib.hid hb; clear hv hb; have HT1 := Lib.hid (HTWO.out.below HB1.out); go_wp2_with (go_at_call 15; refine (like_any p q _ Sg R _ l4 y1 HT1.out.g HT1.out.r.view HT1.out.nd (by omega) (by have := HRL.out; omega) (fun r hr => by have := HT1.out.rs r hr; omega) HV.out HOK2.out (by have := HOL.out; omega)).mono ?_; rintro e y2 ⟨rfl, hb2⟩; have HB2' := Lib.hid hb2; clear hb2))
      have HTY := Lib.hid (HT1.out.below HB2'.out)
      have HCS := Lib.hid (HV.out.below HB2'.out)
      have HBY : Hid (Below w.heap.size w y2) := Lib.hid ((HR.out.trans (HB1.out.mono HR.out.size)).trans (HB2'.out.mono (Nat.le_trans HR.out.size HB1.out.size)))
      obtain ⟨l, hl⟩ : ∃ l, l = l4.length := ⟨_, rfl⟩
      rw [← hl] at HCS ⊢
      have HL4 := Lib.hid hl
      have hl16 : l ≤ 1640 := by have := HOL.out; rw [hl]; exact this
      clear hl HTWO HT1 HROW HAL HOK HVA HSO HV HB1 HB2' HR HB2
      have HF : Hid (∀ W x, okC x → Below y2.heap.size y2 W → Calls Try.prog 17 #[.pointer (some ⟨p, 0, none⟩), mkC x] W fun e w' => (∃ v, e = .returned v ∧ CsAt w' v (onc ((R.filter fun r => decide (x ∈ r.2)).map fun r => r.1))) ∧ Below W.heap.size W w') := Lib.hid fun W x hx hW => (for_any p _ Sg _ x hx W (HTY.out.g.kept (Kept.of_below hW)) (by omega)).mono (fun e w' h => by obtain ⟨⟨v, he, hv⟩, hb⟩ := h.is (srt_onc _) (edge_row HTY.out.nd x); exact ⟨⟨v, he, hv.1⟩, hb⟩)
      have HN : Hid (∀ W x, okC x → Below y2.heap.size y2 W → Calls Try.prog 18 #[.pointer (some ⟨p, 0, none⟩), mkC x] W fun e w' => (∃ v, e = .returned v ∧ CsAt w' v (lOf (rowOf R) x)) ∧ Below W.heap.size W w') := Lib.hid fun W x hx hW => (needs_any p _ Sg _ x hx W (HTY.out.g.kept (Kept.of_below hW)) (by omega)).mono (by rintro e w' ⟨⟨v, rfl, hv⟩, hb⟩; exact ⟨⟨v, rfl, hv.1⟩, hb⟩)
      have HFL : Hid (∀ x : Ce, (onc ((R.filter fun r => decide (x ∈ r.2)).map fun r => r.1)).length ≤ 5864062014805) := Lib.hid fun x => by
        have h1 := onc_length ((R.filter fun r => decide (x ∈ r.2)).map fun r => r.1)
        rw [List.length_map] at h1
        have h2 := List.length_filter_le (fun r : Rw => decide (x ∈ r.2)) R
        have := HRL.out
        omega
      have HNL : Hid (∀ x, (lOf (rowOf R) x).length ≤ 5864062014805) := Lib.hid fun x => by
        unfold lOf
        cases hg : rowOf R x with
        | none => simp
        | some m => have : m.length ≤ 40 := HTY.out.rs _ (rowOf_in hg); simp only [Option.getD_some]; omega
      have HEQ : Hid (∀ x z : Ce, decide (z ∈ onc ((R.filter fun r => decide (x ∈ r.2)).map fun r => r.1)) = decide (x ∈ lOf (rowOf R) z)) := Lib.hid fun x z => decide_eq_decide.2 ((edge_row HTY.out.nd x z).trans (edge_lOf (rowOf R) x z))
      clear HTY HRL HOL
      go_loopw [8] (fun i wr => ∃ j : Nat, j ≤ l ∧ i = .int .i64 j ∧ Below y2.heap.size y2 wr) (fun i _ => l - (intOf i).toNat)
      case atStart => exact ⟨0, by omega, rfl, Below.refl _ _⟩
      case round =>
        obtain ⟨i, hi, rfl, hR⟩ := hrel
        have HR := Lib.hid hR
        clear hR
        by_cases hlt : i < l
        · go_wp2_with fail
          go_loopw [9] (fun j wr => ∃ n : Nat, n ≤ l ∧ j = .int .i64 n ∧ Below y2.heap.size y2 wr) (fun i _ => l - (intOf i).toNat)
          case atStart => exact ⟨0, by omega, rfl, HR.out⟩
          case round =>
            obtain ⟨n, hn, rfl, hR2⟩ := hrel
            have HR2 := Lib.hid hR2
            clear hR2
            by_cases hlt2 : n < l
            · have hx1 : i < l4.length := by rw [← HL4.out]; exact hlt
              have hx2 : n < l4.length := by rw [← HL4.out]; exact hlt2
              have hc := HCS.out.below HR2.out
              rw [HL4.out] at hc
              obtain ⟨g, o, rfl, hg, c0, c1, c2⟩ := hc.at i hx1
              obtain ⟨g', o', he, _, d0, d1, d2⟩ := hc.at n hx2
              obtain ⟨rfl, rfl⟩ : g' = g ∧ o' = o := by cases he; exact ⟨rfl, rfl⟩
              have hox := HOK2.out l4[i] (List.getElem_mem hx1)
              have hoz := HOK2.out l4[n] (List.getElem_mem hx2)
              clear hc he
              generalize l4[i] = x at *
              generalize l4[n] = z at *
              have HEX := Lib.hid (HEQ.out x z)
              have HFX : Hid (∀ W, Below y2.heap.size y2 W → Calls Try.prog 17 #[.pointer (some ⟨p, 0, none⟩), mkC x] W fun e w' => (∃ v, e = .returned v ∧ CsAt w' v (onc ((R.filter fun r => decide (x ∈ r.2)).map fun r => r.1))) ∧ Below W.heap.size W w') := Lib.hid fun W hW => HF.out W x hox hW
              have HNX : Hid (∀ W, Below y2.heap.size y2 W → Calls Try.prog 18 #[.pointer (some ⟨p, 0, none⟩), mkC z] W fun e w' => (∃ v, e = .returned v ∧ CsAt w' v (lOf (rowOf R) z)) ∧ Below W.heap.size W w') := Lib.hid fun W hW => HN.out W z hoz hW
              have HH1 : Hid (∀ W v, CsAt W v (onc ((R.filter fun r => decide (x ∈ r.2)).map fun r => r.1)) → Calls Try.prog 16 #[v, mkC z] W fun e w' => e = .returned (.bool (decide (x ∈ lOf (rowOf R) z))) ∧ Below W.heap.size W w') := Lib.hid fun W v h => by
                have := refHas_any v _ z W h (HFL.out x)
                rwa [HEX.out] at this
              have HH2 : Hid (∀ W v, CsAt W v (lOf (rowOf R) z) → Calls Try.prog 16 #[v, mkC x] W fun e w' => e = .returned (.bool (decide (x ∈ lOf (rowOf R) z))) ∧ Below W.heap.size W w') := Lib.hid fun W v h => refHas_any v _ x W h (HNL.out z)
              clear hox hoz hx1 hx2 HEX
              generalize decide (x ∈ lOf (rowOf R) z) = r at *
              have hrr : (r != r) = false := by simp
              obtain ⟨x1, x2, x3⟩ := x
              obtain ⟨z1, z2, z3⟩ := z
              unfold mkC at HFX HNX HH1 HH2
              dsimp only at c0 c1 c2 d0 d1 d2 HFX HNX HH1 HH2
              go_wp2_with fail
              refine wrp (S := fun w' => Below wr.heap.size wr w' ∧ (w'.cell? ⟨g', o' + i * 3, none⟩ = some (.int .i64 x1) ∧ w'.cell? ⟨g', o' + i * 3 + 1, none⟩ = some (.int .i64 x2) ∧ w'.cell? ⟨g', o' + i * 3 + 2, none⟩ = some (.int .i64 x3)) ∧ (w'.cell? ⟨g', o' + n * 3, none⟩ = some (.int .i64 z1) ∧ w'.cell? ⟨g', o' + n * 3 + 1, none⟩ = some (.int .i64 z2) ∧ w'.cell? ⟨g', o' + n * 3 + 2, none⟩ = some (.int .i64 z3))) (by kernel_rfl) (fun w' hx => ⟨hx, ⟨belK hx c0 hg, belK hx c1 hg, belK hx c2 hg⟩, belK hx d0 hg, belK hx d1 hg, belK hx d2 hg⟩) (fun HKP hHeld => ?_)
              clear c0 c1 c2 d0 d1 d2
              refine tk 0 ?_
              refine tk 1 ?_
              refine tk 2 ?_
              refine tk 3 ?_
              refine tk 4 ?_
              refine tk 6 ?_
              refine tk 7 ?_
              refine tk 8 ?_
              refine tk 9 ?_
              refine tk 11 ?_
              refine tk 12 ?_
              refine tk 13 ?_
              refine tk 14 ?_
              refine tk 15 ?_
              refine tk 17 ?_
              refine tk 18 ?_
              refine tk 19 ?_
              refine tk 20 ?_
              refine rd1 5 (by kernel_rfl) rfl fun K hK => ?_
              go_simp
              (go_at_call 17; refine (HFX.out _ (HR2.out.trans (hHeld.1.mono HR2.out.size))).mono ?_; rintro e ya ⟨⟨va, rfl, hva⟩, hba⟩)
              try (go_wp2_with fail)
              refine hK.out _ _ (HKP.out ya (hHeld.1.trans (hba.mono hHeld.1.size))) (fun hHeld => ?_)
              clear hK K
              try simp only [pz]
              refine rd1 10 (by kernel_rfl) rfl fun K hK => ?_
              go_simp
              (go_at_call 16; refine (HH1.out _ _ hva).mono ?_; rintro e yb ⟨rfl, hbb⟩)
              try (go_wp2_with fail)
              refine hK.out _ _ (HKP.out yb (hHeld.1.trans (hbb.mono hHeld.1.size))) (fun hHeld => ?_)
              clear hK K
              try simp only [pz]
              refine rd1 16 (by kernel_rfl) rfl fun K hK => ?_
              go_simp
              (go_at_call 18; refine (HNX.out _ (HR2.out.trans (hHeld.1.mono HR2.out.size))).mono ?_; rintro e yc ⟨⟨vc, rfl, hvc⟩, hbc⟩)
              try (go_wp2_with fail)
              refine hK.out _ _ (HKP.out yc (hHeld.1.trans (hbc.mono hHeld.1.size))) (fun hHeld => ?_)
              clear hK K
              try simp only [pz]
              refine rd1 21 (by kernel_rfl) rfl fun K hK => ?_
              go_simp
              (go_at_call 16; refine (HH2.out _ _ hvc).mono ?_; rintro e yd ⟨rfl, hbd⟩)
              try (go_wp2_with fail)
              refine hK.out _ _ (HKP.out yd (hHeld.1.trans (hbd.mono hHeld.1.size))) (fun hHeld => ?_)
              clear hK K
              try simp only [pz]
              refine tk 22 ?_
              refine wpAnyH_done (by kernel_rfl) ?_ _
              clear HKP
              go_wp2_with fail
              exact ⟨⟨n + 1, by omega, by go_num, HR2.out.trans (hHeld.1.mono HR2.out.size)⟩, by simp [intOf]; omega⟩
            · obtain rfl : n = l := by omega
              clear hlt2
              go_wp2_with fail
              exact ⟨⟨i + 1, by omega, by go_num, HR2.out⟩, by simp [intOf]; omega⟩
        · obtain rfl : i = l := by omega
          clear hlt
          go_wp2_with (go_at_call 8; refine (known28_any _).mono ?_; rintro e yk ⟨rfl, hbk⟩)
          all_goals first | go_ret | go_ret2
          exact ⟨rfl, HBY.out.trans ((HR.out.trans (hbk.mono HR.out.size)).mono HBY.out.size)⟩
end Go.Proofs.Ytjjpfddgcilliaa
