/-
  LAYER 28: A CELL GETS A FORMULA (Set), walked.
-/
import Derived.Test.YtjjpfddgcilliaaGra16
set_option linter.unusedSimpArgs false
set_option linter.unusedVariables false
namespace Go.Proofs.Ytjjpfddgcilliaa
open Go.RowKit Go.Shelf Go.Sort Go.Lib Go.Maps
set_option maxRecDepth 100000

theorem ButB.drewl {b : Nat} {W V : World} (h : ButB b W V) : ButB b W.drew V := by
  have hs : W.heap.size ≤ V.heap.size := ButB.size h
  exact ⟨h.os, h.tape, h.output, hs, h.block⟩
theorem mapL_some (b : Nat) (w : World) : (binOp .eql 62 (.map (some b)) (.map none)).run Try.prog w = .ok (.bool false) w := by kernel_rfl
theorem mapS_some (b : Nat) (w : World) : (binOp .eql 70 (.map (some b)) (.map none)).run Try.prog w = .ok (.bool false) w := by kernel_rfl
theorem mapS_none (w : World) : (binOp .eql 70 (.map none) (.map none)).run Try.prog w = .ok (.bool true) w := by kernel_rfl
set_option maxRecDepth 100000 in
set_option maxHeartbeats 8000000 in
theorem set_gen (p n : Nat) (S : Nat → Prop) (G : Ce → Option (List Ce)) (x : Ce) (hx : okC x) (v : Value) (l : List Ce) (w : World) (h : GrAt w S p n G) (hS : ∀ k, S k → k < w.heap.size) (hO : ∀ w', Trn S w w' → Calls Try.prog 43 #[v] w' (OncePost w' l)) (hl : ∀ y ∈ l, okC y) (hn : (n + 1 + l.length) * 24 ≤ 140737488355328) :
    Calls Try.prog 13 #[.pointer (some ⟨p, 0, none⟩), mkC x, v] w fun e w' => e = .returned (.int .i64 0) ∧ GrAt w' (fun k => S k ∨ w.heap.size ≤ k) p (n + 1 + l.length) (putG G x (onc l)) ∧ Trn S w w' := by
  obtain ⟨A, hA⟩ : ∃ A, A = w.heap.size := ⟨_, rfl⟩
  obtain ⟨s, hs⟩ : ∃ s, s = w.alloc (.cells #[.int .i64 x.1, .int .i64 x.2.1, .int .i64 x.2.2] 32) := ⟨_, rfl⟩
  have hb : Below w.heap.size w s := by rw [hs]; exact (Below.refl _ w).alloc (Nat.le_refl _) _
  have hgs : GrAt s S p n G := h.kept (Kept.of_below hb)
  have hab : s.heap[A]? = some (.cells #[.int .i64 x.1, .int .i64 x.2.1, .int .i64 x.2.2] 32 (0, 0)) := by rw [hs, hA]; exact World.alloc_heap_new w _
  have H1 := Lib.hid (forget_any p n S G x hx s hgs (by omega))
  have HK : Hid (∀ w1, Trn S s w1 → (∀ w2, Below w1.heap.size w1 w2 → Calls Try.prog 43 #[v] w2 (OncePost w2 l)) ∧ Trn S w w1 ∧ w1.heap[A]? = some (.cells #[.int .i64 x.1, .int .i64 x.2.1, .int .i64 x.2.2] 32 (0, 0))) := Lib.hid fun w1 ht => by
    have ht0 : Trn S w w1 := (Trn.of_below hb).trans (ht.mono fun _ _ h => Or.inl h)
    refine ⟨fun w2 h2 => hO w2 (ht0.after h2), (Trn.of_below hb).trans (ht.mono fun _ _ h => Or.inl h), (ht.block A (Array.getElem?_eq_some_iff.1 hab).1 (fun h => by have := hS A h; omega)).trans hab⟩
  obtain ⟨bn0, bu0, _, _, h0, _, _, _⟩ := h
  have p0 := (two_cells h0).1
  have zp : p < w.heap.size := (Array.getElem?_eq_some_iff.1 h0).1
  have HS := Lib.hid hs
  have HA := Lib.hid hA
  have HX := Lib.hid hx
  have HL := Lib.hid hl
  have HN := Lib.hid hn
  obtain ⟨T, hT⟩ : ∃ T : Nat → Prop, T = fun k => S k ∨ w.heap.size ≤ k := ⟨_, rfl⟩
  have HT : Hid (∀ j, T j ↔ S j ∨ w.heap.size ≤ j) := Lib.hid fun j => by rw [hT]
  have HT2 := Lib.hid hT
  rw [← hT]
  clear hT hS hO hl hn hA hs hb hgs hab hx h0
  obtain ⟨x1, x2, x3⟩ := x
  unfold mkC at H1 ⊢
  dsimp only at H1 HK HS ⊢
  have hEL := mapL_some
  go_enter Try.func13, Try.ntmps13
  go_wp2_with (go_at_call 41; rw [← HS.out, ← HA.out]; refine H1.out.mono ?_; rintro e w1 ⟨rfl, hg1, ht1⟩; have HG1 := Lib.hid hg1; have HT1 := Lib.hid ht1; clear hg1 ht1 p0)
  obtain ⟨hc1, ht1, hab1⟩ := HK.out _ HT1.out
  obtain ⟨bn, bu, fn, fu, hpb, hSp, hN1, hU1⟩ := HG1.out
  have hpc := two_cells hpb
  have hac := three_cells' hab1
  have zp1 : p < w1.heap.size := (Array.getElem?_eq_some_iff.1 hpb).1
  have zA : A < w1.heap.size := (Array.getElem?_eq_some_iff.1 hab1).1
  have np : p ≠ bn := cells_ne hpb hN1.m.isMap
  have nA : A ≠ bn := cells_ne hab1 hN1.m.isMap
  have HC1 := Lib.hid hc1
  have HTr := Lib.hid ht1
  have HAB := Lib.hid hab1
  have HPB := Lib.hid hpb
  have HSP := Lib.hid hSp
  have HN1 := Lib.hid hN1
  have HU1 := Lib.hid hU1
  clear hc1 ht1 hab1 hpb hSp hN1 hU1 zp
  refine wrb (b := bn) (S := fun w' => ButB bn w1 w' ∧ w'.cell? ⟨p, 0, none⟩ = some (.map (some bn)) ∧ w'.cell? ⟨A, 0, none⟩ = some (.int .i64 x1) ∧ w'.cell? ⟨A, 1, none⟩ = some (.int .i64 x2) ∧ w'.cell? ⟨A, 2, none⟩ = some (.int .i64 x3)) (by kernel_rfl) (fun w' hx => ⟨hx, hx.cell hpc.1 zp1 np, hx.cell hac.1 zA nA, hx.cell hac.2.1 zA nA, hx.cell hac.2.2 zA nA⟩) (fun HKP hHeld => ?_)
  refine tk 0 ?_
  refine tk 1 ?_
  refine tk 2 ?_
  refine tk 3 ?_
  refine tk 4 ?_
  refine tk 5 ?_
  refine rd1 6 (by kernel_rfl) rfl fun K hK => ?_
  go_simp
  (go_at_call 43; refine (HC1.out _ (Below.refl _ _).drew).mono ?_; rintro e wx ⟨⟨u, rfl, hu⟩, hbx⟩)
  have hbx' : Below w1.heap.size w1 wx := (Below.refl _ w1).drew.trans hbx
  refine hK.out _ _ (HKP.out wx (ButB.of_below hbx')) (fun hHeld => ?_)
  clear hK K
  try simp only [pz]
  refine rd1 7 (by kernel_rfl) rfl fun K hK => ?_
  refine step_store rfl _ _ _ _ rfl Try.underlying62 rfl (HN1.out.m.below hbx') (by have := HN.out; unfold maxLen; omega) rfl HX.out rfl (fun w2 hm2 hg2 => ?_)
  refine hK.out _ _ (HKP.out w2 ((ButB.of_below hbx').wrote hg2)) (fun hHeld => ?_)
  clear hK K
  try simp only [pz]
  refine wpAnyH_done (by kernel_rfl) ?_ _
  obtain ⟨lo, hlo⟩ : ∃ lo, lo = onc l := ⟨_, rfl⟩
  have hT1 : ∀ k, k < w1.heap.size → S k → T k := fun k _ hk => (HT.out k).2 (Or.inl hk)
  have HW0 : Hid (StR w S T p (n + 1 + l.length) (n + 1) bn bu A (fun z => if z = (x1, x2, x3) then some u else fn z) G (x1, x2, x3) u lo 0 w2) := Lib.hid {
    nd := by
      have h := (((HN1.out.mono hT1 (Nat.le_refl _)).kept (Kept.of_below hbx')).put hg2 (hm2.mono (show n + 1 ≤ n + 1 + l.length by omega)) (by omega) hu.1 (fun b hb => (HT.out b).2 (Or.inr (Nat.le_trans HTr.out.size (hu.2 b hb)))) HX.out (srt_onc l) (by have := onc_length l; omega) (fun y hy => HL.out y (mem_onc.1 hy)))
      rw [put_del, ← hlo] at h
      exact h
    us := ⟨fu, (((HU1.out.mono hT1 (show n ≤ n + 1 + 0 by omega)).kept (Kept.of_below hbx')).far hg2).congr (F_0 G (x1, x2, x3) lo)⟩
    pb := cells_far ((hbx'.block p zp1).trans HPB.out) (HN1.out.m.below hbx').isMap hg2
    ab := cells_far ((hbx'.block A zA).trans HAB.out) (HN1.out.m.below hbx').isMap hg2
    cs := by rw [hlo]; exact hu.1.far (HN1.out.m.below hbx').isMap hg2
    tr := (HTr.out.after hbx').wrote hg2 (Or.inl HN1.out.s) }
  obtain ⟨a, cap, hua, _⟩ : ∃ a cap, u = .slice a lo.length cap ∧ True := by
    obtain ⟨a, cap, he, _⟩ := hu.1.shape
    exact ⟨a, cap, by rw [hlo]; exact he, trivial⟩
  subst hua
  have HLO := Lib.hid hlo
  have HM2 := Lib.hid hm2
  clear HKP hHeld hpc hac hu hbx hbx' hg2 hm2 hlo
  go_wp2_with fail
  have hpc := two_cells HW0.out.pb
  have hac := three_cells' HW0.out.ab
  have zp2 : p < w2.heap.size := (Array.getElem?_eq_some_iff.1 HW0.out.pb).1
  have zA2 : A < w2.heap.size := (Array.getElem?_eq_some_iff.1 HW0.out.ab).1
  refine wrp (S := fun w' => Below w2.heap.size w2 w' ∧ w'.cell? ⟨p, 0, none⟩ = some (.map (some bn)) ∧ w'.cell? ⟨A, 0, none⟩ = some (.int .i64 x1) ∧ w'.cell? ⟨A, 1, none⟩ = some (.int .i64 x2) ∧ w'.cell? ⟨A, 2, none⟩ = some (.int .i64 x3)) (by kernel_rfl) (fun w' hx => ⟨hx, belK hx hpc.1 zp2, belK hx hac.1 zA2, belK hx hac.2.1 zA2, belK hx hac.2.2 zA2⟩) (fun HKP hHeld => ?_)
  refine tk 0 ?_
  refine tk 1 ?_
  refine tk 2 ?_
  refine tk 3 ?_
  refine tk 4 ?_
  refine tk 5 ?_ (hy := look1_y (v := .slice a lo.length cap) rfl rfl Try.underlying62 Try.zeroValue30 rfl rfl HX.out (fun w' hw => HM2.out.below hw.1) (by rw [if_pos rfl]; rfl))
  refine tk 6 ?_
  refine tk 7 ?_
  refine wpAnyH_done (by kernel_rfl) ?_ _
  clear hHeld HKP zA2 zp2 hpc hac
  go_wp2_with fail
  have HW1 := Lib.hid (HW0.out.below (Below.refl _ _).drew)
  have HLB := Lib.hid (show lo.length ≤ 5864062014805 by have := HN.out; have := onc_length l; rw [HLO.out]; omega)
  obtain ⟨L, hL⟩ : ∃ L, L = lo.length := ⟨_, rfl⟩
  rw [← hL] at HW1 ⊢
  have HLL := Lib.hid hL
  have hLb : L ≤ 5864062014805 := by rw [hL]; exact HLB.out
  clear hL HW0
  go_loopw [38] (fun i wr => ∃ k : Nat, k ≤ L ∧ i = .int .i64 k ∧ StR w S T p (n + 1 + l.length) (n + 1) bn bu A (fun z => if z = (x1, x2, x3) then some (.slice a L cap) else fn z) G (x1, x2, x3) (.slice a L cap) lo k wr) (fun i _ => L - (intOf i).toNat)
  case atStart => exact ⟨0, by omega, rfl, HW1.out⟩
  case round =>
    obtain ⟨k, hk, rfl, hR⟩ := hrel
    have HR := Lib.hid hR
    clear hR
    by_cases hlt : k < L
    · have hkl : k < lo.length := by rw [← HLL.out]; exact hlt
      obtain ⟨g, o, rfl, hg, c0, c1, c2⟩ := HR.out.cs.at k hkl
      obtain ⟨fu, hU⟩ := HR.out.us
      have hoy : okC lo[k] := HL.out _ (mem_onc.1 (by rw [← HLO.out]; exact List.getElem_mem hkl))
      have hnx := F_next G (x1, x2, x3) lo k hkl
      have HU := Lib.hid hU
      have HOY := Lib.hid hoy
      have HNX := Lib.hid hnx
      have HNK : Hid (n + 1 + k < maxLen) := Lib.hid (by have := HN.out; have := onc_length l; have := HLO.out; unfold maxLen; rw [this] at hkl; omega)
      clear hU hoy hnx hg
      generalize lo[k] = y at *
      obtain ⟨y1, y2, y3⟩ := y
      go_wp2_with fail
      obtain ⟨B, hB⟩ : ∃ B, B = wr.heap.size := ⟨_, rfl⟩
      obtain ⟨s1, hs1⟩ : ∃ s1, s1 = wr.alloc (.cells #[.int .i64 y1, .int .i64 y2, .int .i64 y3] 32) := ⟨_, rfl⟩
      have hb1 : Below wr.heap.size wr s1 := by rw [hs1]; exact (Below.refl _ wr).alloc (Nat.le_refl _) _
      have hR1 := HR.out.below hb1
      have hU1 := HU.out.kept (Kept.of_below hb1)
      have hbb : s1.heap[B]? = some (.cells #[.int .i64 y1, .int .i64 y2, .int .i64 y3] 32 (0, 0)) := by rw [hs1, hB]; exact World.alloc_heap_new wr _
      rw [← hs1, ← hB]
      have HR1 := Lib.hid hR1
      have HU1 := Lib.hid hU1
      have HBB := Lib.hid hbb
      have hpc := two_cells hR1.pb
      have hac := three_cells' hR1.ab
      have hbc := three_cells' hbb
      have zp : p < s1.heap.size := (Array.getElem?_eq_some_iff.1 hR1.pb).1
      have zA : A < s1.heap.size := (Array.getElem?_eq_some_iff.1 hR1.ab).1
      have zB : B < s1.heap.size := (Array.getElem?_eq_some_iff.1 hbb).1
      clear hB hs1 hb1 hR1 hU1 hbb c0 c1 c2
      cases hf : fu (y1, y2, y3) with
      | none =>
        have HF := Lib.hid hf
        have hEN := mapS_none
        clear hf
        refine wrp (S := fun w' => Below s1.heap.size s1 w' ∧ w'.cell? ⟨p, 1, none⟩ = some (.map (some bu)) ∧ w'.cell? ⟨B, 0, none⟩ = some (.int .i64 y1) ∧ w'.cell? ⟨B, 1, none⟩ = some (.int .i64 y2) ∧ w'.cell? ⟨B, 2, none⟩ = some (.int .i64 y3)) (by kernel_rfl) (fun w' hx => ⟨hx, belK hx hpc.2 zp, belK hx hbc.1 zB, belK hx hbc.2.1 zB, belK hx hbc.2.2 zB⟩) (fun HKP hHeld => ?_)
        refine tk 0 ?_
        refine tk 1 ?_
        refine tk 2 ?_
        refine tk 3 ?_
        refine tk 4 ?_
        refine tk 5 ?_ (hy := look1_y (v := .map none) rfl rfl Try.underlying63 Try.zeroValue70 rfl rfl HOY.out (fun w' hw => HU1.out.m.below hw.1) (by rw [HF.out]; rfl))
        refine tk 6 ?_
        refine wpAnyH_done (by kernel_rfl) ?_ _
        clear HKP hHeld hEN
        go_wp2_with fail
        have np : p ≠ bu := cells_ne HR1.out.pb HU1.out.m.isMap
        have nB : B ≠ bu := cells_ne HBB.out HU1.out.m.isMap
        have hmm := @run_makeMap Try.prog
        refine wrb (b := bu) (S := fun w' => ButB bu s1 w' ∧ w'.cell? ⟨p, 1, none⟩ = some (.map (some bu)) ∧ w'.cell? ⟨B, 0, none⟩ = some (.int .i64 y1) ∧ w'.cell? ⟨B, 1, none⟩ = some (.int .i64 y2) ∧ w'.cell? ⟨B, 2, none⟩ = some (.int .i64 y3)) (by kernel_rfl) (fun w' hx => have hx : ButB bu s1 w' := ⟨hx.os, hx.tape, hx.output, hx.size, hx.block⟩; ⟨hx, hx.cell hpc.2 zp np, hx.cell hbc.1 zB nB, hx.cell hbc.2.1 zB nB, hx.cell hbc.2.2 zB nB⟩) (fun HKP hHeld => ?_)
        refine tk 0 ?_
        refine tk 1 ?_
        refine tk 2 ?_
        refine tk 3 ?_
        refine tk 4 ?_
        refine rd1 5 (by kernel_rfl) rfl fun K hK => ?_
        go_simp
        obtain ⟨nb, hnb⟩ : ∃ nb, nb = s1.heap.size := ⟨_, rfl⟩
        obtain ⟨s2, hs2⟩ : ∃ s2, s2 = (s1.alloc (.map #[] 0)).drew.drew := ⟨_, rfl⟩
        have hb2 : Below s1.heap.size s1 s2 := by rw [hs2]; exact (((Below.refl _ s1).alloc (Nat.le_refl _) _).drew).drew
        have hmn : MapAt s2 nb 0 (fun _ => none) := by rw [hs2, hnb]; exact ((MapAt.made s1).below (Below.refl _ _).drew).below (Below.refl _ _).drew
        rw [← hs2, ← hnb]
        have HNB := Lib.hid hnb
        have HMN := Lib.hid hmn
        have HB2 := Lib.hid hb2
        clear hnb hs2 hmn hb2 hmm
        refine hK.out _ _ (HKP.out s2 (ButB.of_below HB2.out).drewl) (fun hHeld => ?_)
        clear hK K
        try simp only [pz]
        refine rd1 6 (by kernel_rfl) rfl fun K hK => ?_
        refine step_store rfl _ _ _ _ rfl Try.underlying63 rfl (HU1.out.m.below HB2.out) HNK.out rfl HOY.out rfl (fun w3 hm3 hg3 => ?_)
        refine hK.out _ _ (HKP.out w3 ((ButB.of_below HB2.out).wrote hg3).drewl) (fun hHeld => ?_)
        clear hK K
        try simp only [pz]
        refine wpAnyH_done (by kernel_rfl) ?_ _
        have hR2 := HR1.out.below HB2.out
        have hmu2 := (HU1.out.m.below HB2.out).isMap
        have hnbu : bu ≠ nb := by have := HU1.out.m.lt; rw [HNB.out]; omega
        have hmn3 := HMN.out.kept hg3 (fun e => hnbu (by cases e; rfl))
        have hpb3 := cells_far hR2.pb hmu2 hg3
        have hab3 := cells_far hR2.ab hmu2 hg3
        have hbb3 := cells_far ((HB2.out.block B zB).trans HBB.out) hmu2 hg3
        have hpc3 := two_cells hpb3
        have hac3 := three_cells' hab3
        have hbc3 := three_cells' hbb3
        have zp3 : p < w3.heap.size := (Array.getElem?_eq_some_iff.1 hpb3).1
        have zA3 : A < w3.heap.size := (Array.getElem?_eq_some_iff.1 hab3).1
        have zB3 : B < w3.heap.size := (Array.getElem?_eq_some_iff.1 hbb3).1
        have np3 : p ≠ nb := cells_ne hpb3 hmn3.isMap
        have nA3 : A ≠ nb := cells_ne hab3 hmn3.isMap
        have nB3 : B ≠ nb := cells_ne hbb3 hmn3.isMap
        have HMN3 := Lib.hid hmn3
        have HM3 := Lib.hid hm3
        have HG3 := Lib.hid hg3
        have HNBU := Lib.hid hnbu
        clear HKP hHeld hpc hac hbc hR2 hmu2 hnbu hmn3 hpb3 hab3 hbb3 hm3 hg3 zp zA zB np nB
        go_wp2_with fail
        refine wrb (b := nb) (S := fun w' => ButB nb w3 w' ∧ w'.cell? ⟨p, 1, none⟩ = some (.map (some bu)) ∧ (w'.cell? ⟨B, 0, none⟩ = some (.int .i64 y1) ∧ w'.cell? ⟨B, 1, none⟩ = some (.int .i64 y2) ∧ w'.cell? ⟨B, 2, none⟩ = some (.int .i64 y3)) ∧ w'.cell? ⟨A, 0, none⟩ = some (.int .i64 x1) ∧ w'.cell? ⟨A, 1, none⟩ = some (.int .i64 x2) ∧ w'.cell? ⟨A, 2, none⟩ = some (.int .i64 x3)) (by kernel_rfl) (fun w' hx => ⟨hx, hx.cell hpc3.2 zp3 np3, ⟨hx.cell hbc3.1 zB3 nB3, hx.cell hbc3.2.1 zB3 nB3, hx.cell hbc3.2.2 zB3 nB3⟩, hx.cell hac3.1 zA3 nA3, hx.cell hac3.2.1 zA3 nA3, hx.cell hac3.2.2 zA3 nA3⟩) (fun HKP hHeld => ?_)
        refine tk 0 ?_
        refine tk 1 ?_
        refine tk 2 ?_
        refine tk 3 ?_
        refine tk 4 ?_
        refine tk 5 ?_ (hy := look1_y (v := .map (some nb)) rfl rfl Try.underlying63 Try.zeroValue70 rfl rfl HOY.out (fun w' hw => hw.1.map HM3.out HNBU.out) (by rw [if_pos rfl]; rfl))
        refine tk 6 ?_
        refine tk 7 ?_
        refine rd1 8 (by kernel_rfl) rfl fun K hK => ?_
        refine step_store rfl _ _ _ _ rfl Try.underlying70 rfl ((HMN3.out.mono (Nat.zero_le _)).below (Below.refl _ _).drew) HNK.out rfl HX.out rfl (fun w4 hm4 hg4 => ?_)
        have hg4' := grown_undrew hg4
        refine hK.out _ _ (HKP.out w4 ((ButB.of_below (Below.refl _ _).drew).wrote hg4)) (fun hHeld => ?_)
        clear hK K
        try simp only [pz]
        refine wpAnyH_done (by kernel_rfl) ?_ _
        have HM4 := Lib.hid hm4
        have HG4 := Lib.hid hg4'
        clear HKP hHeld hm4 hg4 hg4'
        go_wp2_with fail
        go_roundw
        case rel => exact ⟨k + 1, by omega, by go_num, HR1.out.addNew HT.out HU1.out HF.out HB2.out (Nat.le_of_eq HNB.out.symm) HG3.out HM3.out HMN3.out.isMap HG4.out HM4.out HNX.out⟩
        case measure => simp [intOf]; omega
      | some q =>
        obtain ⟨b, rfl, hSb, hbn, hbu, hmb⟩ := HU1.out.yes _ _ hf
        have HF := Lib.hid hf
        have HSB := Lib.hid hSb
        have HBN := Lib.hid hbn
        have HBU := Lib.hid hbu
        have HMB := Lib.hid hmb
        have hEN := mapS_some
        clear hf hSb hbn hbu hmb
        refine wrp (S := fun w' => Below s1.heap.size s1 w' ∧ w'.cell? ⟨p, 1, none⟩ = some (.map (some bu)) ∧ w'.cell? ⟨B, 0, none⟩ = some (.int .i64 y1) ∧ w'.cell? ⟨B, 1, none⟩ = some (.int .i64 y2) ∧ w'.cell? ⟨B, 2, none⟩ = some (.int .i64 y3)) (by kernel_rfl) (fun w' hx => ⟨hx, belK hx hpc.2 zp, belK hx hbc.1 zB, belK hx hbc.2.1 zB, belK hx hbc.2.2 zB⟩) (fun HKP hHeld => ?_)
        refine tk 0 ?_
        refine tk 1 ?_
        refine tk 2 ?_
        refine tk 3 ?_
        refine tk 4 ?_
        refine tk 5 ?_ (hy := look1_y (v := .map (some b)) rfl rfl Try.underlying63 Try.zeroValue70 rfl rfl HOY.out (fun w' hw => HU1.out.m.below hw.1) (by rw [HF.out]; rfl))
        refine tk 6 ?_
        refine wpAnyH_done (by kernel_rfl) ?_ _
        clear HKP hHeld hEN
        go_wp2_with fail
        have np : p ≠ b := cells_ne HR1.out.pb HMB.out.isMap
        have nA : A ≠ b := cells_ne HR1.out.ab HMB.out.isMap
        have nB : B ≠ b := cells_ne HBB.out HMB.out.isMap
        refine wrb (b := b) (S := fun w' => ButB b s1 w' ∧ w'.cell? ⟨p, 1, none⟩ = some (.map (some bu)) ∧ (w'.cell? ⟨B, 0, none⟩ = some (.int .i64 y1) ∧ w'.cell? ⟨B, 1, none⟩ = some (.int .i64 y2) ∧ w'.cell? ⟨B, 2, none⟩ = some (.int .i64 y3)) ∧ w'.cell? ⟨A, 0, none⟩ = some (.int .i64 x1) ∧ w'.cell? ⟨A, 1, none⟩ = some (.int .i64 x2) ∧ w'.cell? ⟨A, 2, none⟩ = some (.int .i64 x3)) (by kernel_rfl) (fun w' hx => have hx : ButB b s1 w' := ⟨hx.os, hx.tape, hx.output, hx.size, hx.block⟩; ⟨hx, hx.cell hpc.2 zp np, ⟨hx.cell hbc.1 zB nB, hx.cell hbc.2.1 zB nB, hx.cell hbc.2.2 zB nB⟩, hx.cell hac.1 zA nA, hx.cell hac.2.1 zA nA, hx.cell hac.2.2 zA nA⟩) (fun HKP hHeld => ?_)
        refine tk 0 ?_
        refine tk 1 ?_
        refine tk 2 ?_
        refine tk 3 ?_
        refine tk 4 ?_
        refine tk 5 ?_ (hy := look1_y (v := .map (some b)) rfl rfl Try.underlying63 Try.zeroValue70 rfl rfl HOY.out (fun w' hw => hw.1.map HU1.out.m (Ne.symm HBU.out)) (by rw [HF.out]; rfl))
        refine tk 6 ?_
        refine tk 7 ?_
        refine rd1 8 (by kernel_rfl) rfl fun K hK => ?_
        refine step_store rfl _ _ _ _ rfl Try.underlying70 rfl (HMB.out.below (Below.refl _ _).drew.drew) HNK.out rfl HX.out rfl (fun w4 hm4 hg4 => ?_)
        have hg4' := grown_undrew (grown_undrew hg4)
        refine hK.out _ _ (HKP.out w4 ((ButB.of_below (Below.refl _ _).drew).wrote hg4)) (fun hHeld => ?_)
        clear hK K
        try simp only [pz]
        refine wpAnyH_done (by kernel_rfl) ?_ _
        have HM4 := Lib.hid hm4
        have HG4 := Lib.hid hg4'
        clear HKP hHeld hm4 hg4 hg4'
        go_wp2_with fail
        go_roundw
        case rel => exact ⟨k + 1, by omega, by go_num, HR1.out.add (fun j => (HT.out j).1) HU1.out HF.out HSB.out HBN.out HMB.out.isMap HG4.out HM4.out HNX.out⟩
        case measure => simp [intOf]; omega
    · obtain rfl : k = L := by omega
      go_wp2
      go_ret
      obtain ⟨fu, hU⟩ := HR.out.us
      have hk2 : k ≤ l.length := by have := onc_length l; rw [HLL.out, HLO.out]; exact this
      rw [HLL.out] at hU
      have h1 := HR.out.nd
      rw [HLO.out] at h1
      have h2 := (hU.congr (F_end G (x1, x2, x3) lo)).mono (fun _ _ h => h) (show n + 1 + lo.length ≤ n + 1 + l.length by rw [← HLL.out]; omega)
      rw [HLO.out] at h2
      exact ⟨rfl, ⟨bn, bu, _, fu, HR.out.pb, (HT.out p).2 (Or.inl HSP.out), h1, h2⟩, HR.out.tr⟩
theorem set_any (p n : Nat) (S : Nat → Prop) (G : Ce → Option (List Ce)) (x : Ce) (hx : okC x) (v : Value) (l : List Ce) (w : World) (h : GrAt w S p n G) (hS : ∀ k, S k → k < w.heap.size) (hc : CsAt w v l) (hv : ∀ b, blkOf v = some b → ¬ S b) (hl : ∀ y ∈ l, okC y) (hn : (n + 1 + l.length) * 24 ≤ 140737488355328) :
    Calls Try.prog 13 #[.pointer (some ⟨p, 0, none⟩), mkC x, v] w fun e w' => e = .returned (.int .i64 0) ∧ GrAt w' (fun k => S k ∨ w.heap.size ≤ k) p (n + 1 + l.length) (putG G x (onc l)) ∧ Trn S w w' :=
  set_gen p n S G x hx v l w h hS (fun w' ht => onceC_any v l w' (hc.kept ht.size (fun b _ _ _ h1 h2 => ht.block b (Array.getElem?_eq_some_iff.1 h2).1 (hv b h1))) (by omega)) hl hn
end Go.Proofs.Ytjjpfddgcilliaa
