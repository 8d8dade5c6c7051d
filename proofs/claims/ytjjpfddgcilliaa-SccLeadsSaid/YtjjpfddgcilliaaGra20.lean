/-
  LAYER 28's STATEMENT ON A GRAPH THAT IS NOT THERE, walked.
  GRAPHS: cells held against each other: what the document's Has and Cells tell of lists.
-/
import Derived.Test.YtjjpfddgcilliaaGra19
set_option linter.unusedSimpArgs false
set_option linter.unusedVariables false
namespace Go.Proofs.Ytjjpfddgcilliaa
open Go.RowKit Go.Shelf Go.Sort Go.Lib Go.Maps
set_option maxRecDepth 100000

end Go.Proofs.Ytjjpfddgcilliaa
namespace Go.Proofs.Ytjjpfddgcilliaa
open Go.RowKit Go.Shelf Go.Sort Go.Lib Go.Maps
set_option maxRecDepth 100000

theorem eqC_is (x y : Ce) (w : World) : (binOp .eql 32 (mkC x) (mkC y)).run Try.prog w = .ok (.bool (decide (x = y))) w := by
  obtain ⟨a, b, c⟩ := x
  obtain ⟨d, e, f⟩ := y
  unfold mkC
  go_simp
  by_cases h1 : a = d <;> by_cases h2 : b = e <;> by_cases h3 : c = f <;> simp [h1, h2, h3]
theorem eqG_is (m n : Operand) (x y : Ce) (w : World) : (eqGuard .eql 32 m n (mkC x) (mkC y)).run Try.prog w = .ok () w := by kernel_rfl
section
variable {ops : Array Oper} {S : World → Prop} {oi : Oper} {a : Act}
theorem eq_y {m n : Operand} {t u : TypeId} (hop : oi.op = Op.binOp .eql t m n u) (ht : t = 32) (hg : oi.guard = none) {x y : Ce} (hm : a.eval m = mkC x) (hn : a.eval n = mkC y) {r : Bool} (hr : decide (x = y) = r) : YieldsIf Try.prog ops S oi (.bool r) a := by
  refine Or.inl ⟨by simp [Region.wanted, hg], fun w hw => ?_⟩
  subst ht
  simp [execOp, hop, hm, hn, eqG_is, eqC_is, hr, Result.andThen]
end
set_option maxRecDepth 100000 in
set_option maxHeartbeats 4000000 in
theorem refHas_any (v : Value) (l : List Ce) (x : Ce) (w : World) (h : CsAt w v l) (hn : l.length ≤ 5864062014805) : Calls Try.prog 16 #[v, mkC x] w fun e w' => e = .returned (.bool (decide (x ∈ l))) ∧ Below w.heap.size w w' := by
  obtain ⟨R, hR⟩ : ∃ R, R = decide (x ∈ l) := ⟨_, rfl⟩
  rw [← hR]
  have HYES : Hid (∀ k (hk : k < l.length), l[k] = x → R = true) := Lib.hid fun k hk e => by rw [hR]; exact decide_eq_true (e ▸ List.getElem_mem hk)
  have HNO : Hid ((∀ k (hk : k < l.length), l[k] ≠ x) → R = false) := Lib.hid fun e => by
    rw [hR]; refine decide_eq_false fun hm => ?_
    obtain ⟨k, hk, he⟩ := List.getElem_of_mem hm
    exact e k hk he
  obtain ⟨a, cap, rfl, _⟩ := h.shape
  obtain ⟨s, hs⟩ : ∃ s, s = w.alloc (.cells #[.int .i64 x.1, .int .i64 x.2.1, .int .i64 x.2.2] 32) := ⟨_, rfl⟩
  obtain ⟨A, hA⟩ : ∃ A, A = w.heap.size := ⟨_, rfl⟩
  have hb : Below w.heap.size w s := by rw [hs]; exact (Below.refl _ w).alloc (Nat.le_refl _) _
  have HBX := Lib.hid (box_at hs)
  have zA : A < s.heap.size := by rw [hs, hA]; simp
  have HZ := Lib.hid zA
  have HC := Lib.hid (h.below hb)
  have HB := Lib.hid hb
  have HS := Lib.hid hs
  have HA := Lib.hid hA
  rw [← hA] at HBX
  clear hs hb h hA zA hR
  obtain ⟨L, hL⟩ : ∃ L, L = l.length := ⟨_, rfl⟩
  rw [← hL] at HC hn ⊢
  have HLL := Lib.hid hL
  clear hL
  obtain ⟨x1, x2, x3⟩ := x
  unfold mkC
  go_enter Try.func16, Try.ntmps16
  go_wp2_with fail
  rw [← HS.out, ← HA.out]
  go_loopw [5] (fun i wr => ∃ k : Nat, k ≤ L ∧ i = .int .i64 k ∧ (∀ j (hj : j < l.length), j < k → l[j] ≠ (x1, x2, x3)) ∧ Below s.heap.size s wr) (fun i _ => L - (intOf i).toNat)
  case atStart => exact ⟨0, by omega, rfl, fun j _ hj => absurd hj (by omega), Below.refl _ _⟩
  case round =>
    obtain ⟨k, hk, rfl, hpre, hR⟩ := hrel
    have HR := Lib.hid hR
    have HPRE := Lib.hid hpre
    clear hR hpre
    by_cases hlt : k < L
    · have hkl : k < l.length := by rw [← HLL.out]; exact hlt
      obtain ⟨g, o, rfl, hg, c0, c1, c2⟩ := (HC.out.below HR.out).at k hkl
      have HKL := Lib.hid hkl
      generalize hz : l[k] = z at *
      have HZ2 := Lib.hid hz
      clear hkl hz
      obtain ⟨z1, z2, z3⟩ := z
      dsimp only at c0 c1 c2
      have d0 := belK HR.out HBX.out.1 HZ.out
      have d1 := belK HR.out HBX.out.2.1 HZ.out
      have d2 := belK HR.out HBX.out.2.2 HZ.out
      have zA2 := Nat.lt_of_lt_of_le HZ.out HR.out.size
      go_wp2_with fail
      refine wrp (S := fun w' => Below wr.heap.size wr w' ∧ (w'.cell? ⟨A, 0, none⟩ = some (.int .i64 x1) ∧ w'.cell? ⟨A, 1, none⟩ = some (.int .i64 x2) ∧ w'.cell? ⟨A, 2, none⟩ = some (.int .i64 x3)) ∧ w'.cell? ⟨g, o + k * 3, none⟩ = some (.int .i64 z1) ∧ w'.cell? ⟨g, o + k * 3 + 1, none⟩ = some (.int .i64 z2) ∧ w'.cell? ⟨g, o + k * 3 + 2, none⟩ = some (.int .i64 z3)) (by kernel_rfl) (fun w' hx => ⟨hx, ⟨belK hx d0 zA2, belK hx d1 zA2, belK hx d2 zA2⟩, belK hx c0 hg, belK hx c1 hg, belK hx c2 hg⟩) (fun HKP hHeld => ?_)
      clear d0 d1 d2 c0 c1 c2
      refine tk 0 ?_
      refine tk 1 ?_
      refine tk 2 ?_
      refine tk 3 ?_
      refine tk 4 ?_
      obtain ⟨r, hr⟩ : ∃ r, decide ((z1, z2, z3) = (x1, x2, x3)) = r := ⟨_, rfl⟩
      refine tk 5 ?_ (hy := eq_y rfl rfl rfl rfl rfl hr)
      refine wpAnyH_done (by kernel_rfl) ?_ _
      clear hHeld HKP
      cases r with
      | true =>
        have e := of_decide_eq_true hr
        have hRT := HYES.out k HKL.out (HZ2.out.trans e)
        clear hr
        all_goals go_wp2_with fail
        all_goals first | go_ret | go_ret2
        exact ⟨congrArg _ (congrArg _ hRT.symm), HB.out.trans ((HR.out.drew).mono HB.out.size)⟩
      | false =>
        have e := of_decide_eq_false hr
        have HE := Lib.hid e
        clear hr e
        go_wp2_with fail
        go_roundw
        case rel =>
          refine ⟨k + 1, by omega, by go_num, fun j hj hjk => ?_, HR.out.drew⟩
          by_cases ej : j = k
          · subst ej; exact fun h => HE.out (HZ2.out.symm.trans h)
          · exact HPRE.out j hj (by omega)
        case measure => simp [intOf]; omega
    · obtain rfl : k = L := by omega
      have hRF := HNO.out fun j hj => HPRE.out j hj (by rw [HLL.out]; exact hj)
      clear hlt
      go_wp2_with fail
      all_goals first | go_ret | go_ret2
      exact ⟨congrArg _ (congrArg _ hRF.symm), HB.out.trans ((HR.out).mono HB.out.size)⟩
end Go.Proofs.Ytjjpfddgcilliaa
