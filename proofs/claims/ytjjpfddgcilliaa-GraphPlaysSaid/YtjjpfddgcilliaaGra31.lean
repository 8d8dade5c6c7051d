/-
  GRAPHS: a graph is the document's, about some cells: `like` says so.
-/
import Derived.Test.YtjjpfddgcilliaaGra30
set_option linter.unusedSimpArgs false
set_option linter.unusedVariables false
namespace Go.Proofs.Ytjjpfddgcilliaa
open Go.RowKit Go.Shelf Go.Sort Go.Lib Go.Maps
set_option maxRecDepth 100000

theorem rowOf_mem : ∀ {R : List Rw}, (R.map fun r => r.1).Nodup → ∀ r ∈ R, rowOf R r.1 = some r.2
  | [], _, _, h => by cases h
  | r0 :: R, hd, r, h => by
    rw [List.map_cons, List.nodup_cons] at hd
    rcases List.mem_cons.1 h with rfl | h
    · unfold rowOf; rw [List.find?_cons, decide_eq_true rfl]; rfl
    · have hne : r0.1 ≠ r.1 := fun e => hd.1 (e ▸ List.mem_map.2 ⟨r, h, rfl⟩)
      have ih := rowOf_mem hd.2 r h
      unfold rowOf at ih ⊢
      rw [List.find?_cons, decide_eq_false hne]
      exact ih
theorem rowOf_in {R : List Rw} {z : Ce} {l : List Ce} (h : rowOf R z = some l) : (z, l) ∈ R := by
  unfold rowOf at h
  cases hf : R.find? (fun r => decide (r.1 = z)) with
  | none => rw [hf] at h; cases h
  | some r =>
    rw [hf] at h
    cases h
    have h1 := List.find?_some hf
    have h2 := List.mem_of_find?_eq_some hf
    have h3 : r.1 = z := of_decide_eq_true h1
    rw [← h3]; exact h2
theorem edge_row {R : List Rw} (hd : (R.map fun r => r.1).Nodup) (x z : Ce) : z ∈ onc ((R.filter fun r => decide (x ∈ r.2)).map fun r => r.1) ↔ edge (rowOf R) x z = true := by
  rw [mem_onc, List.mem_map]
  unfold edge
  constructor
  · rintro ⟨r, hr, rfl⟩
    rw [List.mem_filter] at hr
    rw [rowOf_mem hd r hr.1]
    exact hr.2
  · intro h
    cases hg : rowOf R z with
    | none => rw [hg] at h; cases h
    | some l =>
      rw [hg] at h
      exact ⟨(z, l), List.mem_filter.2 ⟨rowOf_in hg, h⟩, rfl⟩
theorem some_row {R : List Rw} (hd : (R.map fun r => r.1).Nodup) (z : Ce) : z ∈ onc (R.map fun r => r.1) ↔ (rowOf R z).isSome = true := by
  rw [mem_onc, List.mem_map]
  constructor
  · rintro ⟨r, hr, rfl⟩
    rw [rowOf_mem hd r hr]; rfl
  · intro h
    cases hg : rowOf R z with
    | none => rw [hg] at h; cases h
    | some l => exact ⟨(z, l), rowOf_in hg, rfl⟩
set_option maxRecDepth 100000 in
set_option maxHeartbeats 16000000 in
theorem like_any (p q n : Nat) (S : Nat → Prop) (R : List Rw) (v : Value) (l : List Ce) (w : World) (hG : GrAt w S p n (rowOf R)) (hQ : RgV w q R) (hd : (R.map fun r => r.1).Nodup) (hn : n * 24 ≤ 140737488355328) (hR : R.length ≤ 100000) (hm : ∀ r ∈ R, r.2.length ≤ 100000) (hc : CsAt w v l) (hok : ∀ x ∈ l, okC x) (hl : l.length ≤ 100000) :
    Calls Try.prog 15 #[.pointer (some ⟨p, 0, none⟩), .pointer (some ⟨q, 0, none⟩), v] w fun e w' => e = .returned (.bool true) ∧ Below w.heap.size w w' := by
  have HH1 : Hid (∀ W x, okC x → Below w.heap.size w W → Calls Try.prog 40 #[.pointer (some ⟨p, 0, none⟩), mkC x] W fun e w' => e = .returned (.bool (rowOf R x).isSome) ∧ Below W.heap.size W w') := Lib.hid fun W x hx hW => has_any p n S _ x hx W (hG.kept (Kept.of_below hW))
  have HH2 : Hid (∀ W x, okC x → Below w.heap.size w W → Calls Try.prog 32 #[.pointer (some ⟨q, 0, none⟩), mkC x] W fun e w' => e = .returned (.bool (rowOf R x).isSome) ∧ Below W.heap.size W w') := Lib.hid fun W x hx hW => rhas_any q R x W (hQ.below hW) hR
  have HN1 : Hid (∀ W x, okC x → Below w.heap.size w W → Calls Try.prog 18 #[.pointer (some ⟨p, 0, none⟩), mkC x] W fun e w' => (∃ v, e = .returned v ∧ CsAt w' v (lOf (rowOf R) x)) ∧ Below W.heap.size W w') := Lib.hid fun W x hx hW => (needs_any p n S _ x hx W (hG.kept (Kept.of_below hW)) hn).mono (by rintro e w' ⟨⟨v, rfl, hv⟩, hb⟩; exact ⟨⟨v, rfl, hv.1⟩, hb⟩)
  have HN2 : Hid (∀ W x, okC x → Below w.heap.size w W → Calls Try.prog 46 #[.pointer (some ⟨q, 0, none⟩), mkC x] W fun e w' => (∃ v, e = .returned v ∧ CsAt w' v (lOf (rowOf R) x)) ∧ Below W.heap.size W w') := Lib.hid fun W x hx hW => rneeds_any q R x W (hQ.below hW) hR
  have HF1 : Hid (∀ W x, okC x → Below w.heap.size w W → Calls Try.prog 17 #[.pointer (some ⟨p, 0, none⟩), mkC x] W fun e w' => (∃ v, e = .returned v ∧ CsAt w' v (onc ((R.filter fun r => decide (x ∈ r.2)).map fun r => r.1))) ∧ Below W.heap.size W w') := Lib.hid fun W x hx hW => (for_any p n S _ x hx W (hG.kept (Kept.of_below hW)) hn).mono (fun e w' h => by obtain ⟨⟨v, he, hv⟩, hb⟩ := h.is (srt_onc _) (edge_row hd x); exact ⟨⟨v, he, hv.1⟩, hb⟩)
  have HF2 : Hid (∀ W x, okC x → Below w.heap.size w W → Calls Try.prog 47 #[.pointer (some ⟨q, 0, none⟩), mkC x] W fun e w' => (∃ v, e = .returned v ∧ CsAt w' v (onc ((R.filter fun r => decide (x ∈ r.2)).map fun r => r.1))) ∧ Below W.heap.size W w') := Lib.hid fun W x hx hW => (rfor_any q R x W (hQ.below hW) hR hm).mono (by rintro e w' ⟨⟨v, rfl, hv⟩, hb⟩; exact ⟨⟨v, rfl, hv.1⟩, hb⟩)
  have HC1 : Hid (∀ W, Below w.heap.size w W → Calls Try.prog 31 #[.pointer (some ⟨p, 0, none⟩)] W fun e w' => (∃ v, e = .returned v ∧ CsAt w' v (onc (R.map fun r => r.1))) ∧ Below W.heap.size W w') := Lib.hid fun W hW => (cells_any p n S _ W (hG.kept (Kept.of_below hW)) hn).mono (fun e w' h => by obtain ⟨⟨v, he, hv⟩, hb⟩ := h.is (srt_onc _) (some_row hd); exact ⟨⟨v, he, hv.1⟩, hb⟩)
  have HC2 : Hid (∀ W, Below w.heap.size w W → Calls Try.prog 45 #[.pointer (some ⟨q, 0, none⟩)] W fun e w' => (∃ v, e = .returned v ∧ CsAt w' v (onc (R.map fun r => r.1))) ∧ Below W.heap.size W w') := Lib.hid fun W hW => (rcells_any q R W (hQ.below hW) hR).mono (by rintro e w' ⟨⟨v, rfl, hv⟩, hb⟩; exact ⟨⟨v, rfl, hv.1⟩, hb⟩)
  have HLN : Hid (∀ x, (lOf (rowOf R) x).length ≤ 5864062014805) := Lib.hid fun x => by
    unfold lOf
    cases hg : rowOf R x with
    | none => simp
    | some m => have : m.length ≤ 100000 := hm _ (rowOf_in hg); simp only [Option.getD_some]; omega
  have HLF : Hid (∀ x : Ce, (onc ((R.filter fun r => decide (x ∈ r.2)).map fun r => r.1)).length ≤ 5864062014805) := Lib.hid fun x => by
    have h1 := onc_length ((R.filter fun r => decide (x ∈ r.2)).map fun r => r.1)
    rw [List.length_map] at h1
    have h2 := List.length_filter_le (fun r : Rw => decide (x ∈ r.2)) R
    omega
  have HLC : Hid ((onc (R.map fun r => r.1)).length ≤ 5864062014805) := Lib.hid (by have h1 := onc_length (R.map fun r => r.1); rw [List.length_map] at h1; omega)
  have HCS := Lib.hid hc
  have HOK := Lib.hid hok
  clear hG hQ hd hn hm hR
  obtain ⟨a, cap, rfl, _⟩ := hc.shape
  obtain ⟨L, hL⟩ : ∃ L, L = l.length := ⟨_, rfl⟩
  rw [← hL] at HCS hl ⊢
  have HLL := Lib.hid hL
  clear hL hc hok
  unfold mkC at HH1 HH2 HN1 HN2 HF1 HF2
  go_enter Try.func15, Try.ntmps15
  go_wp2_with (go_at_call 31; refine (HC1.out _ (Below.refl _ _)).mono ?_; rintro e ya ⟨⟨v1, rfl, hv1⟩, hba⟩; have HRA := Lib.hid hba; have HV1 := Lib.hid hv1; clear hv1 hba; go_wp2_with (go_at_call 45; refine (HC2.out _ HRA.out).mono ?_; rintro e yb ⟨⟨v2, rfl, hv2⟩, hbb⟩; have hrb := HRA.out.trans (hbb.mono HRA.out.size); have HRB := Lib.hid hrb; have HV1b := Lib.hid (HV1.out.below hbb); have HV2 := Lib.hid hv2; clear hrb hv2 hbb; go_wp2_with (go_at_call 26; refine (refCells_same _ _ _ _ HV1b.out HV2.out HLC.out).mono ?_; rintro e yc ⟨rfl, hbc⟩; have HRC := Lib.hid (HRB.out.trans (hbc.mono HRB.out.size)); clear hbc)))
  go_loopw [7] (fun i wr => ∃ k : Nat, k ≤ L ∧ i = .int .i64 k ∧ Below w.heap.size w wr) (fun i _ => L - (intOf i).toNat)
  case atStart => exact ⟨0, by omega, rfl, HRC.out⟩
  case round =>
    obtain ⟨k, hk, rfl, hR⟩ := hrel
    have HR := Lib.hid hR
    clear hR
    by_cases hlt : k < L
    · have hkl : k < l.length := by rw [← HLL.out]; exact hlt
      have hc := HCS.out.below HR.out
      rw [HLL.out] at hc
      obtain ⟨g, o, rfl, hg, c0, c1, c2⟩ := hc.at k hkl
      have hox := HOK.out l[k] (List.getElem_mem hkl)
      clear hc
      generalize l[k] = z at *
      obtain ⟨x1, x2, x3⟩ := z
      have HOX := Lib.hid hox
      dsimp only at c0 c1 c2
      clear hox hkl
      go_wp2_with fail
      refine wrp (S := fun w' => Below wr.heap.size wr w' ∧ w'.cell? ⟨g, o + k * 3, none⟩ = some (.int .i64 x1) ∧ w'.cell? ⟨g, o + k * 3 + 1, none⟩ = some (.int .i64 x2) ∧ w'.cell? ⟨g, o + k * 3 + 2, none⟩ = some (.int .i64 x3)) (by kernel_rfl) (fun w' hx => ⟨hx, belK hx c0 hg, belK hx c1 hg, belK hx c2 hg⟩) (fun HKP hHeld => ?_)
      clear c0 c1 c2 hg
      obtain ⟨b, hb⟩ : ∃ b, b = (rowOf R (x1, x2, x3)).isSome := ⟨_, rfl⟩
      have HHb1 : Hid (∀ W x, x = (x1, x2, x3) → okC x → Below w.heap.size w W → Calls Try.prog 40 #[.pointer (some ⟨p, 0, none⟩), .agg #[.int .i64 x1, .int .i64 x2, .int .i64 x3]] W fun e w' => e = .returned (.bool b) ∧ Below W.heap.size W w') := Lib.hid fun W x hx ho hW => by subst hx; have := HH1.out W (x1, x2, x3) ho hW; rwa [← hb] at this
      have HHb2 : Hid (∀ W x, x = (x1, x2, x3) → okC x → Below w.heap.size w W → Calls Try.prog 32 #[.pointer (some ⟨q, 0, none⟩), .agg #[.int .i64 x1, .int .i64 x2, .int .i64 x3]] W fun e w' => e = .returned (.bool b) ∧ Below W.heap.size W w') := Lib.hid fun W x hx ho hW => by subst hx; have := HH2.out W (x1, x2, x3) ho hW; rwa [← hb] at this
      clear hb
      refine tk 0 ?_
      refine tk 1 ?_
      refine tk 2 ?_
      refine tk 3 ?_
      refine tk 4 ?_
      refine tk 6 ?_
      refine tk 7 ?_
      refine tk 8 ?_
      refine tk 9 ?_
      refine tk 10 ?_
      refine rd1 5 (by kernel_rfl) rfl fun K hK => ?_
      go_simp
      (go_at_call 40; refine (HHb1.out _ _ rfl HOX.out (HR.out.trans (hHeld.1.mono HR.out.size))).mono ?_; rintro e ya ⟨rfl, hba⟩)
      try (go_wp2_with fail)
      refine hK.out _ _ (HKP.out ya (hHeld.1.trans (hba.mono hHeld.1.size))) (fun hHeld => ?_)
      clear hK K
      try simp only [pz]
      refine rd1 11 (by kernel_rfl) rfl fun K hK => ?_
      go_simp
      (go_at_call 32; refine (HHb2.out _ _ rfl HOX.out (HR.out.trans (hHeld.1.mono HR.out.size))).mono ?_; rintro e yb ⟨rfl, hbb⟩)
      try (go_wp2_with fail)
      refine hK.out _ _ (HKP.out yb (hHeld.1.trans (hbb.mono hHeld.1.size))) (fun hHeld => ?_)
      clear hK K
      try simp only [pz]
      clear hba hbb
      refine tk 12 ?_
      try rw [show (b != b) = false by simp]
      refine tk 13 ?_
      refine tk 14 ?_
      refine tk 15 ?_
      refine tk 16 ?_
      refine tk 17 ?_
      refine tk 18 ?_
      refine tk 20 ?_
      refine tk 21 ?_
      refine tk 22 ?_
      refine tk 23 ?_
      refine tk 24 ?_
      refine rd1 19 (by kernel_rfl) rfl fun K hK => ?_
      go_simp
      (go_at_call 18; refine (HN1.out _ _ HOX.out (HR.out.trans (hHeld.1.mono HR.out.size))).mono ?_; rintro e ya ⟨⟨v1, rfl, hv1⟩, hba⟩)
      try (go_wp2_with fail)
      refine hK.out _ _ (HKP.out ya (hHeld.1.trans (hba.mono hHeld.1.size))) (fun hHeld => ?_)
      clear hK K
      try simp only [pz]
      refine rd1 25 (by kernel_rfl) rfl fun K hK => ?_
      go_simp
      (go_at_call 46; refine (HN2.out _ _ HOX.out (HR.out.trans (hHeld.1.mono HR.out.size))).mono ?_; rintro e yb ⟨⟨v2, rfl, hv2⟩, hbb⟩)
      try (go_wp2_with fail)
      refine hK.out _ _ (HKP.out yb (hHeld.1.trans (hbb.mono hHeld.1.size))) (fun hHeld => ?_)
      clear hK K
      try simp only [pz]
      have hv1' := hv1.below hbb
      have hv2' := hv2
      clear hv1 hv2 hba hbb
      refine rd1 26 (by kernel_rfl) rfl fun K hK => ?_
      go_simp
      (go_at_call 26; refine (refCells_same _ _ _ _ hv1' hv2' (HLN.out _)).mono ?_; rintro e yc ⟨rfl, hbc⟩)
      try (go_wp2_with fail)
      refine hK.out _ _ (HKP.out yc (hHeld.1.trans (hbc.mono hHeld.1.size))) (fun hHeld => ?_)
      clear hK K
      try simp only [pz]
      clear hv1' hv2' hbc
      refine tk 27 ?_
      refine tk 28 ?_
      refine tk 29 ?_
      refine tk 30 ?_
      refine tk 31 ?_
      refine tk 32 ?_
      refine tk 33 ?_
      refine tk 34 ?_
      refine tk 36 ?_
      refine tk 37 ?_
      refine tk 38 ?_
      refine tk 39 ?_
      refine tk 40 ?_
      refine rd1 35 (by kernel_rfl) rfl fun K hK => ?_
      go_simp
      (go_at_call 17; refine (HF1.out _ _ HOX.out (HR.out.trans (hHeld.1.mono HR.out.size))).mono ?_; rintro e ya ⟨⟨v1, rfl, hv1⟩, hba⟩)
      try (go_wp2_with fail)
      refine hK.out _ _ (HKP.out ya (hHeld.1.trans (hba.mono hHeld.1.size))) (fun hHeld => ?_)
      clear hK K
      try simp only [pz]
      refine rd1 41 (by kernel_rfl) rfl fun K hK => ?_
      go_simp
      (go_at_call 47; refine (HF2.out _ _ HOX.out (HR.out.trans (hHeld.1.mono HR.out.size))).mono ?_; rintro e yb ⟨⟨v2, rfl, hv2⟩, hbb⟩)
      try (go_wp2_with fail)
      refine hK.out _ _ (HKP.out yb (hHeld.1.trans (hbb.mono hHeld.1.size))) (fun hHeld => ?_)
      clear hK K
      try simp only [pz]
      have hv1' := hv1.below hbb
      have hv2' := hv2
      clear hv1 hv2 hba hbb
      refine rd1 42 (by kernel_rfl) rfl fun K hK => ?_
      go_simp
      (go_at_call 26; refine (refCells_same _ _ _ _ hv1' hv2' (HLF.out _)).mono ?_; rintro e yc ⟨rfl, hbc⟩)
      try (go_wp2_with fail)
      refine hK.out _ _ (HKP.out yc (hHeld.1.trans (hbc.mono hHeld.1.size))) (fun hHeld => ?_)
      clear hK K
      try simp only [pz]
      clear hv1' hv2' hbc
      refine tk 43 ?_
      refine tk 44 ?_
      refine wpAnyH_done (by kernel_rfl) ?_ _
      clear HKP
      go_wp2_with fail
      go_roundw
      case rel => exact ⟨k + 1, by omega, by go_num, HR.out.trans (hHeld.1.mono HR.out.size)⟩
      case measure => simp [intOf]; omega
    · obtain rfl : k = L := by omega
      clear hlt
      go_wp2_with fail
      all_goals first | go_ret | go_ret2
      exact ⟨rfl, HR.out⟩
end Go.Proofs.Ytjjpfddgcilliaa
