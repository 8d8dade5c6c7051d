/-
  LAYER 29's DOCUMENT: all cells to which one leads (Leads), walked.
-/
import Derived.Test.YtjjpfddgcilliaaSccl
set_option linter.unusedSimpArgs false
set_option linter.unusedVariables false
namespace Go.Proofs.Ytjjpfddgcilliaa
open Go.RowKit Go.Shelf Go.Sort Go.Lib Go.Maps
set_option maxRecDepth 100000

theorem flat_if (x : Ce) (l : List Ce) (f : Ce → List Ce) : ∀ S : List Ce, S.Nodup → (S.flatMap fun z => if x = z then l else f z).length ≤ (S.flatMap f).length + l.length ∧ (x ∉ S → S.flatMap (fun z => if x = z then l else f z) = S.flatMap f)
  | [], _ => ⟨by simp, fun _ => rfl⟩
  | z :: S, h => by
    rw [List.nodup_cons] at h
    obtain ⟨h1, h2⟩ := flat_if x l f S h.2
    rw [List.flatMap_cons, List.flatMap_cons]
    by_cases e : x = z
    · subst e
      refine ⟨?_, fun hn => absurd (List.mem_cons_self ..) hn⟩
      rw [h2 h.1, if_pos rfl, List.length_append, List.length_append]
      omega
    · rw [if_neg e]
      refine ⟨by rw [List.length_append, List.length_append]; omega, fun hn => ?_⟩
      rw [h2 fun hs => hn (List.mem_cons_of_mem _ hs)]
theorem flat_rows (S : List Ce) (hS : S.Nodup) : ∀ R : List Rw, (S.flatMap (lOf (rowOf R))).length ≤ (R.flatMap fun r => r.2).length
  | [] => by
    have : S.flatMap (lOf (rowOf [])) = [] := by
      rw [List.flatMap_eq_nil_iff]
      intro z _
      rfl
    rw [this]; simp
  | r :: R => by
    have ih := flat_rows S hS R
    have e : lOf (rowOf (r :: R)) = fun z => if r.1 = z then r.2 else lOf (rowOf R) z := funext fun z => by
      unfold lOf
      rw [rowOf_cons]
      by_cases h : r.1 = z
      · rw [if_pos h, if_pos h]; rfl
      · rw [if_neg h, if_neg h]
    rw [e, List.flatMap_cons, List.length_append]
    have := (flat_if r.1 r.2 (lOf (rowOf R)) S hS).1
    omega
theorem rows_len : ∀ R : List Rw, (∀ r ∈ R, r.2.length ≤ 40) → (R.flatMap fun r => r.2).length ≤ 40 * R.length
  | [], _ => by simp
  | r :: R, h => by
    have ih := rows_len R fun r hr => h r (List.mem_cons_of_mem _ hr)
    have h1 := h r (List.mem_cons_self ..)
    rw [List.flatMap_cons, List.length_append, List.length_cons]
    omega
theorem rows_sub {R : List Rw} {S : List Ce} (hS : S.Nodup) (h : ∀ z ∈ S, ∃ a, z ∈ lOf (rowOf R) a) : S.length ≤ (R.flatMap fun r => r.2).length := nodup_len hS fun z hz => by
  obtain ⟨a, ha⟩ := h z hz
  unfold lOf at ha
  cases hr : rowOf R a with
  | none => rw [hr] at ha; cases ha
  | some l =>
    rw [hr] at ha
    exact List.mem_flatMap.2 ⟨(a, l), rowOf_in hr, ha⟩
def LeadsPost (N : Ce → List Ce) (x : Ce) (w : World) (e : Ending) (w' : World) : Prop :=
  (∃ v l, e = .returned v ∧ CsAt w' v l ∧ l.length ≤ 100000 ∧ ∀ z, z ∈ l ↔ ∃ y ∈ N x, Rt (fun a b => b ∈ N a) y z) ∧ Below w.heap.size w w'
set_option maxHeartbeats 16000000 in
theorem leads_any (q : Nat) (R : List Rw) (x : Ce) (w : World) (hV : RgV w q R) (hR : R.length ≤ 272) (hrs : ∀ r ∈ R, r.2.length ≤ 40) (hsn : ∀ z, (lOf (rowOf R) z).Nodup) :
    Calls Try.prog 33 #[.pointer (some ⟨q, 0, none⟩), mkC x] w (LeadsPost (lOf (rowOf R)) x w) := by
  obtain ⟨Po, hPo⟩ : ∃ Po, Po = LeadsPost (lOf (rowOf R)) x w := ⟨_, rfl⟩
  rw [← hPo]
  have HPO := Lib.hid hPo
  have HNE : Hid (∀ z W, Below w.heap.size w W → Calls Try.prog 46 #[.pointer (some ⟨q, 0, none⟩), mkC z] W fun e w' => (∃ v, e = .returned v ∧ CsAt w' v (lOf (rowOf R) z)) ∧ Below W.heap.size W w') := Lib.hid fun z W hW => rneeds_any q R z W (hV.below hW) (by omega)
  have HSL : Hid (∀ S : List Ce, S.Nodup → (∀ z ∈ S, ∃ a, z ∈ lOf (rowOf R) a) → S.length ≤ 11000 ∧ (S.flatMap (lOf (rowOf R))).length ≤ 11000) := Lib.hid fun S h1 h2 => by
    have h3 := rows_len R hrs
    have h4 := rows_sub h1 h2
    have h5 := flat_rows S h1 R
    omega
  have HK : Hid (∀ z y, y ∈ lOf (rowOf R) z → z ∈ R.map fun r => r.1) := Lib.hid fun z y h => by
    unfold lOf at h
    cases hr : rowOf R z with
    | none => rw [hr] at h; cases h
    | some l => exact List.mem_map.2 ⟨(z, l), rowOf_in hr, rfl⟩
  have HST : Hid (LdI (lOf (rowOf R)) (R.map fun r => r.1) x 0 (lOf (rowOf R) x)) := Lib.hid (LdI.start (hsn x))
  have HBX : Hid (∃ (a : Option Addr) (cap : Nat), q < w.heap.size ∧ w.cell? ⟨q, 0, none⟩ = some (.slice a R.length cap)) := Lib.hid (by
    obtain ⟨h1, a, cap, h2, _⟩ := hV
    exact ⟨a, cap, h1, h2⟩)
  have hkl : (R.map fun r => r.1).length = R.length := by simp
  have HKL := Lib.hid hkl
  generalize (R.map fun r => r.1) = K at *
  generalize lOf (rowOf R) = N at *
  obtain ⟨rl, hrl⟩ : ∃ rl, rl = R.length := ⟨_, rfl⟩
  rw [← hrl] at HBX HKL hR
  obtain ⟨ag, cg, zq, kq⟩ := HBX.out
  have KQ := Lib.hid kq
  clear hPo hV hrs hsn HBX kq hkl hrl
  obtain ⟨s, hs⟩ : ∃ s, s = w.alloc (.cells #[.int .i64 x.1, .int .i64 x.2.1, .int .i64 x.2.2] 32) := ⟨_, rfl⟩
  have hb : Below w.heap.size w s := by rw [hs]; exact (Below.refl _ w).alloc (Nat.le_refl _) _
  have hbx := box_at hs
  have HB := Lib.hid hb
  have HS := Lib.hid hs
  clear hs hb
  have HNX := Lib.hid (HNE.out x s HB.out)
  obtain ⟨x1, x2, x3⟩ := x
  unfold mkC at HNX ⊢
  dsimp only at hbx HNX ⊢
  obtain ⟨b0, b1, b2⟩ := hbx
  go_enter Try.func33, Try.ntmps33
  go_wp2_with (go_at_call 46; rw [← HS.out]; refine HNX.out.mono ?_; rintro e w1 ⟨⟨v1, rfl, hv1⟩, hb1⟩; have HV1 := Lib.hid hv1; have HB1 := Lib.hid (HB.out.trans (hb1.mono HB.out.size)); clear hv1 hb1 b0 b1 b2)
  go_loopw [5, 6, 7, 8, 9] (fun vo i _ _ _ wr => ∃ (k : Nat) (T : List Ce), i = .int .i64 k ∧ CsAt wr vo T ∧ LdI N K (x1, x2, x3) k T ∧ Below w.heap.size w wr) (fun _ i _ _ _ _ => 300 - (intOf i).toNat)
  case atStart => exact ⟨0, _, rfl, HV1.out, HST.out, HB1.out⟩
  case round =>
    obtain ⟨k, T, rfl, hct, hld, hbr⟩ := hrel
    obtain ⟨at1, ct1, rfl, hsh⟩ := hct.shape
    have hkr : k ≤ rl := by have := hld.len; have := HKL.out; omega
    have k0 := belK hbr KQ.out zq
    have HCT := Lib.hid hct
    have HLD := Lib.hid hld
    have HBR := Lib.hid hbr
    obtain ⟨hT1, hT2⟩ := HSL.out T hld.nd hld.one
    obtain ⟨tl, htl⟩ : ∃ tl, tl = T.length := ⟨_, rfl⟩
    rw [← htl] at HCT hT1 ⊢
    have HTL := Lib.hid htl
    have HT2 := Lib.hid hT2
    clear hct hld hbr hsh htl hT2
    go_wp2_with (at_builtin; refine wpList_append_lat rfl _ _ rfl (.slice none 0 0) _ [] T rfl (World.ownsRow_nil _ _ _ _) rfl (Or.inl (by rw [← HTL.out] at *; exact HCT.out)) (by have := HTL.out; simp; omega) ?_; intro vm wm hom hgm hbm)
    have HPL : Hid (∀ j, ((T.take j).flatMap N).length ≤ 11000) := Lib.hid fun j => by
      have h1 : T.flatMap N = (T.take j).flatMap N ++ (T.drop j).flatMap N := by rw [← List.flatMap_append, List.take_append_drop]
      have h2 := congrArg List.length h1
      rw [List.length_append] at h2
      have := HT2.out
      omega
    have HOM : Hid (wm.ownsRow 0 32 3 vm (T ++ (T.take 0).flatMap N).length (flC (T ++ (T.take 0).flatMap N))) := Lib.hid (by
      have e : T ++ (T.take 0).flatMap N = [] ++ T := by simp
      rw [e]; exact hom)
    have HOB : Hid (∀ b, vm.ownBlock = some b → wr.heap.size ≤ b) := Lib.hid fun b hb => by
      rcases hbm with h | h
      · rw [h] at hb; cases hb
      · rw [h] at hb; cases hb; exact Nat.le_refl _
    have HBM : Hid (Below wr.heap.size wr wm) := Lib.hid ((Below.refl _ wr).grown hgm (Nat.le_refl _) fun q hq => (by cases hq))
    clear hom hgm hbm k0
    go_loopw [8, 9] (fun vq i wz => ∃ j : Nat, j ≤ tl ∧ i = .int .i64 j ∧ wz.ownsRow 0 32 3 vq (T ++ (T.take j).flatMap N).length (flC (T ++ (T.take j).flatMap N)) ∧ (∀ b, vq.ownBlock = some b → wr.heap.size ≤ b) ∧ Below wr.heap.size wr wz) (fun _ i _ => tl - (intOf i).toNat)
    case atStart => exact ⟨0, by omega, rfl, HOM.out, HOB.out, HBM.out⟩
    case round =>
      obtain ⟨j, hj, rfl, hrow, hob, hbz⟩ := hrel
      have HROW := Lib.hid hrow
      have HOB2 := Lib.hid hob
      have HBZ := Lib.hid hbz
      clear hrow hob hbz HOM HOB HBM
      by_cases hlt : j < tl
      · have hjl : j < T.length := by rw [← HTL.out]; exact hlt
        have hc := HCT.out.below HBZ.out
        rw [HTL.out] at hc
        obtain ⟨g, o, rfl, hg, c0, c1, c2⟩ := hc.at j hjl
        clear hc
        have HTK : Hid (T ++ (T.take (j + 1)).flatMap N = (T ++ (T.take j).flatMap N) ++ N T[j]) := Lib.hid (by rw [take_snoc T j hjl, List.flatMap_append, List.append_assoc]; simp)
        have HNJ : Hid (∀ W, Below w.heap.size w W → Calls Try.prog 46 #[.pointer (some ⟨q, 0, none⟩), mkC T[j]] W fun e w' => (∃ v, e = .returned v ∧ CsAt w' v (N T[j])) ∧ Below W.heap.size W w') := Lib.hid (HNE.out T[j])
        have HP1 := HPL.out (j + 1)
        have hlen : (T ++ (T.take j).flatMap N).length + (N T[j]).length ≤ 22000 := by
          rw [← List.length_append, ← HTK.out, List.length_append]
          have := HTL.out
          omega
        have HLEN := Lib.hid hlen
        clear HP1 hlen
        generalize T[j] = z at *
        obtain ⟨z1, z2, z3⟩ := z
        unfold mkC at HNJ
        dsimp only at c0 c1 c2 HNJ
        go_wp2_with (first | (go_at_call 46; refine (HNJ.out _ (HBR.out.trans (HBZ.out.mono HBR.out.size))).mono ?_; rintro e wn ⟨⟨vn, rfl, hvn⟩, hbn⟩; have HVN := Lib.hid hvn; have HBN := Lib.hid hbn; clear hvn hbn c0 c1 c2) | (at_builtin; refine wpList_append_lat rfl _ _ rfl u8 _ _ (N (z1, z2, z3)) rfl (row_below HROW.out HBN.out) rfl (Or.inl HVN.out) (by have := HLEN.out; omega) ?_; intro vp wp hop hgp hbp))
        refine ⟨⟨j + 1, by omega, by go_num, by rw [HTK.out]; exact hop, fun b hb => ?_, (HBZ.out.trans (HBN.out.mono HBZ.out.size)).grown hgp (Nat.le_trans HBZ.out.size HBN.out.size) fun b hb => HOB2.out b hb⟩, by simp [intOf]; omega⟩
        rcases hbp with h | h
        · exact HOB2.out b (h ▸ hb)
        · rw [h] at hb
          have e := Option.some.inj hb
          have h1 := HBZ.out.size
          have h2 := HBN.out.size
          omega
      · obtain rfl : j = tl := by omega
        clear hlt
        obtain ⟨l2, hl2⟩ : ∃ l2, l2 = ldN N T := ⟨_, rfl⟩
        have HSO : Hid (Calls Try.prog 14 #[u8] wr fun e w' => (∃ v, e = .returned v ∧ CsNew w' wr.heap.size v l2) ∧ Below wr.heap.size wr w') := Lib.hid (by
          have h := refSorted_any u8 _ wr (Or.inl (CsAt.of_owns HROW.out).1) (by rw [List.length_append]; have := HPL.out j; have := HTL.out; omega)
          rw [List.take_of_length_le (Nat.le_of_eq HTL.out.symm)] at h
          rw [hl2]; exact h)
        obtain ⟨n2, hn2⟩ : ∃ n2, n2 = l2.length := ⟨_, rfl⟩
        have HL2 := Lib.hid hl2
        have HN2 := Lib.hid hn2
        have HE : Hid ((ldN N T).length = n2 ∧ T.length = j) := Lib.hid ⟨by rw [hn2, hl2], HTL.out.symm⟩
        have HB9 := Lib.hid (HBR.out.trans (HBZ.out.mono HBR.out.size))
        clear HROW HOB2 hl2 hn2 HPL HNE HNX HST HT2 HCT HBZ
        by_cases he : n2 = j
        · go_wp2_with (go_at_call 14; refine HSO.out.mono ?_; rintro e ws ⟨⟨v2, rfl, hv2⟩, hb2⟩; obtain ⟨a2, c2, rfl, _⟩ := hv2.1.shape; have HV2 := Lib.hid hv2; rw [← HN2.out]; rw [← HN2.out] at HV2; clear hv2)
          have hv3 := HV2.out.1
          rw [he] at hv3
          refine (show Po (.returned (.slice a2 j c2)) ws from ?_)
          rw [HPO.out]
          refine ⟨⟨_, l2, rfl, hv3, ?_, fun z => ?_⟩, HB9.out.trans (hb2.mono HB9.out.size)⟩
          · rw [← HN2.out]; omega
          · rw [HL2.out]
            exact HLD.out.stop (HE.out.1.trans (he.trans HE.out.2.symm)) z
        · have hne : ¬ ((n2 : Int) = (j : Int)) := by omega
          go_wp2_with (go_at_call 14; refine HSO.out.mono ?_; rintro e ws ⟨⟨v2, rfl, hv2⟩, hb2⟩; obtain ⟨a2, c2, rfl, _⟩ := hv2.1.shape; have HV2 := Lib.hid hv2; rw [← HN2.out]; rw [← HN2.out] at HV2; clear hv2)
          have hld : LdI N K (x1, x2, x3) (k + 1) l2 := by
            rw [HL2.out]
            exact HLD.out.next HK.out (by rw [HE.out.1, HE.out.2]; exact he)
          refine ⟨⟨k + 1, l2, by go_num, HV2.out.1, hld, HB9.out.trans (hb2.mono HB9.out.size)⟩, by simp [intOf]; omega⟩
end Go.Proofs.Ytjjpfddgcilliaa
