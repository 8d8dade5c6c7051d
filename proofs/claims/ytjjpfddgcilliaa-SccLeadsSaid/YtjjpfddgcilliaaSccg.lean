/-
  CIRCLES: whether a cell is in a list (slices.Contains); whether cells are a circle (scc.Circular).
  CIRCLES: lists of lists: where one is found; those taken out that are none (slices.IndexFunc, slices.DeleteFunc at the function of scc.Circles).
-/
import Derived.Test.YtjjpfddgcilliaaSccf
set_option linter.unusedSimpArgs false
set_option linter.unusedVariables false
namespace Go.Proofs.Ytjjpfddgcilliaa
open Go.RowKit Go.Shelf Go.Sort Go.Lib Go.Maps
set_option maxRecDepth 100000

set_option maxHeartbeats 4000000 in
theorem indexC_any (v : Value) (l : List Ce) (x : Ce) (w : World) (h : CsAt w v l) (hn : l.length ≤ 5864062014805) : Calls Try.prog 82 #[v, mkC x] w fun e w' => (∃ r : Int, e = .returned (.int .i64 r) ∧ decide (0 ≤ r) = decide (x ∈ l)) ∧ Below w.heap.size w w' := by
  obtain ⟨R, hR⟩ : ∃ R, R = decide (x ∈ l) := ⟨_, rfl⟩
  rw [← hR]
  have HYES : Hid (∀ k (hk : k < l.length), x = l[k] → R = true) := Lib.hid fun k hk e => by rw [hR]; exact decide_eq_true (e ▸ List.getElem_mem hk)
  have HNO : Hid ((∀ k (hk : k < l.length), x ≠ l[k]) → R = false) := Lib.hid fun e => by
    rw [hR]; refine decide_eq_false fun hm => ?_
    obtain ⟨k, hk, he⟩ := List.getElem_of_mem hm
    exact e k hk he.symm
  obtain ⟨a, cap, rfl, _⟩ := h.shape
  obtain ⟨s, hs⟩ : ∃ s, s = w.alloc (.cells #[.int .i64 x.1, .int .i64 x.2.1, .int .i64 x.2.2] 32) := ⟨_, rfl⟩
  obtain ⟨A, hA⟩ : ∃ A, A = w.heap.size := ⟨_, rfl⟩
  have hb : Below w.heap.size w s := by rw [hs]; exact (Below.refl _ w).alloc (Nat.le_refl _) _
  have HBX := Lib.hid (box_at hs)
  have zA : A < s.heap.size := by rw [hs, hA]; simp
  have HZ := Lib.hid zA
  have HC := Lib.hid (h.below hb)
  have HB := Lib.hid hb
  have HS := Lib.hid hs
  have HA := Lib.hid hA
  rw [← hA] at HBX
  clear hs hb h hA zA hR
  obtain ⟨L, hL⟩ : ∃ L, L = l.length := ⟨_, rfl⟩
  rw [← hL] at HC hn ⊢
  have HLL := Lib.hid hL
  clear hL
  obtain ⟨x1, x2, x3⟩ := x
  unfold mkC
  go_enter Try.func82, Try.ntmps82
  go_wp2_with fail
  rw [← HS.out, ← HA.out]
  go_loopw [5, 8] (fun u i wr => ∃ k : Nat, k ≤ L ∧ i = .int .i64 k ∧ (∀ j (hj : j < l.length), j < k → (x1, x2, x3) ≠ l[j]) ∧ Below s.heap.size s wr) (fun _ i _ => L - (intOf i).toNat)
  case atStart => exact ⟨0, by omega, rfl, fun j _ hj => absurd hj (by omega), Below.refl _ _⟩
  case round =>
    obtain ⟨k, hk, rfl, hpre, hR⟩ := hrel
    have HR := Lib.hid hR
    have HPRE := Lib.hid hpre
    clear hR hpre
    by_cases hlt : k < L
    · have hkl : k < l.length := by rw [← HLL.out]; exact hlt
      obtain ⟨g, o, rfl, hg, c0, c1, c2⟩ := (HC.out.below HR.out).at k hkl
      have HKL := Lib.hid hkl
      generalize hz : l[k] = z at *
      have HZ2 := Lib.hid hz
      clear hkl hz
      obtain ⟨z1, z2, z3⟩ := z
      dsimp only at c0 c1 c2
      have d0 := belK HR.out HBX.out.1 HZ.out
      have d1 := belK HR.out HBX.out.2.1 HZ.out
      have d2 := belK HR.out HBX.out.2.2 HZ.out
      have zA2 := Nat.lt_of_lt_of_le HZ.out HR.out.size
      go_wp2_with fail
      refine wrp (S := fun w' => Below wr.heap.size wr w' ∧ (w'.cell? ⟨A, 0, none⟩ = some (.int .i64 x1) ∧ w'.cell? ⟨A, 1, none⟩ = some (.int .i64 x2) ∧ w'.cell? ⟨A, 2, none⟩ = some (.int .i64 x3)) ∧ w'.cell? ⟨g, o + k * 3, none⟩ = some (.int .i64 z1) ∧ w'.cell? ⟨g, o + k * 3 + 1, none⟩ = some (.int .i64 z2) ∧ w'.cell? ⟨g, o + k * 3 + 2, none⟩ = some (.int .i64 z3)) (by kernel_rfl) (fun w' hx => ⟨hx, ⟨belK hx d0 zA2, belK hx d1 zA2, belK hx d2 zA2⟩, belK hx c0 hg, belK hx c1 hg, belK hx c2 hg⟩) (fun HKP hHeld => ?_)
      clear d0 d1 d2 c0 c1 c2
      refine tk 0 ?_
      refine tk 1 ?_
      refine tk 2 ?_
      refine tk 3 ?_
      refine tk 4 ?_
      obtain ⟨r, hr⟩ : ∃ r, decide ((x1, x2, x3) = (z1, z2, z3)) = r := ⟨_, rfl⟩
      refine tk 5 ?_ (hy := eq_y rfl rfl rfl rfl rfl hr)
      refine wpAnyH_done (by kernel_rfl) ?_ _
      clear hHeld HKP
      cases r with
      | true =>
        have e := of_decide_eq_true hr
        have hRT := HYES.out k HKL.out (e.trans HZ2.out.symm)
        clear hr
        all_goals go_wp2_with fail
        all_goals first | go_ret | go_ret2
        exact ⟨⟨k, rfl, by rw [hRT]; exact decide_eq_true (by omega)⟩, HB.out.trans ((HR.out.drew).mono HB.out.size)⟩
      | false =>
        have e := of_decide_eq_false hr
        have HE := Lib.hid e
        clear hr e
        go_wp2_with fail
        go_roundw
        case rel =>
          refine ⟨k + 1, by omega, by go_num, fun j hj hjk => ?_, HR.out.drew⟩
          by_cases ej : j = k
          · subst ej; exact fun h => HE.out (h.trans HZ2.out)
          · exact HPRE.out j hj (by omega)
        case measure => simp [intOf]; omega
    · obtain rfl : k = L := by omega
      have hRF := HNO.out fun j hj => HPRE.out j hj (by rw [HLL.out]; exact hj)
      clear hlt
      go_wp2_with fail
      all_goals first | go_ret | go_ret2
      exact ⟨⟨-1, rfl, by rw [hRF]; rfl⟩, HB.out.trans ((HR.out).mono HB.out.size)⟩
set_option maxHeartbeats 4000000 in
theorem containsC_any (v : Value) (l : List Ce) (x : Ce) (w : World) (h : CsAt w v l) (hn : l.length ≤ 5864062014805) : Calls Try.prog 62 #[v, mkC x] w fun e w' => e = .returned (.bool (decide (x ∈ l))) ∧ Below w.heap.size w w' := by
  have HI : Hid (∀ W, Below w.heap.size w W → Calls Try.prog 82 #[v, mkC x] W fun e w' => (∃ r : Int, e = .returned (.int .i64 r) ∧ decide (0 ≤ r) = decide (x ∈ l)) ∧ Below W.heap.size W w') := Lib.hid fun W hW => indexC_any v l x W (h.below hW) hn
  obtain ⟨a, cap, rfl, hz⟩ := h.shape
  clear hz h hn
  generalize decide (x ∈ l) = R at *
  generalize l.length = L at *
  obtain ⟨x1, x2, x3⟩ := x
  unfold mkC at *
  dsimp only at HI ⊢
  go_enter Try.func62, Try.ntmps62
  go_wp2_with (go_at_call 82; refine (HI.out _ ((Below.refl _ w).alloc (Nat.le_refl _) _)).mono ?_; rintro e w1 ⟨⟨r, rfl, hr⟩, hb⟩)
  all_goals first | go_ret | go_ret2
  exact ⟨rfl, ((Below.refl _ w).alloc (Nat.le_refl _) _).trans (hb.mono (by simp))⟩
/-- whether cells are a circle. -/
def circB (N : Ce → List Ce) : List Ce → Bool
  | [] => false
  | [x] => decide (x ∈ N x)
  | _ :: _ :: _ => true
theorem GrAt.len {w : World} {S : Nat → Prop} {p n : Nat} {G : Ce → Option (List Ce)} (h : GrAt w S p n G) (x : Ce) : (lOf G x).length ≤ n := by
  obtain ⟨bn, bu, fn, fu, h0, hp, hN, hU⟩ := h
  obtain ⟨u, hu, hc, hl⟩ := hN.look x
  exact hl
set_option maxHeartbeats 8000000 in
theorem circular_any (p n : Nat) (S : Nat → Prop) (G : Ce → Option (List Ce)) (v : Value) (l : List Ce) (hok : ∀ x ∈ l, okC x) (w : World) (hv : CsAt w v l) (h : GrAt w S p n G) (hn : n ≤ 100000) :
    Calls Try.prog 29 #[.pointer (some ⟨p, 0, none⟩), v] w fun e w' => e = .returned (.bool (circB (lOf G) l)) ∧ Below w.heap.size w w' := by
  obtain ⟨a, cap, rfl, hz⟩ := hv.shape
  match l, hok, hv, hz with
  | [], _, _, _ =>
    go_enter Try.func29, Try.ntmps29
    go_wp2_with fail
    all_goals first | go_ret | go_ret2
    exact ⟨rfl, Below.refl _ _⟩
  | x :: y :: r, _, _, _ =>
    obtain ⟨L, hL⟩ : ∃ L, L = (x :: y :: r).length := ⟨_, rfl⟩
    have hL2 : 2 ≤ L := by rw [hL]; simp
    have h1 : ¬ ((L : Int) = 1) := by omega
    have h2 : (1 : Int) < (L : Int) := by omega
    rw [← hL]
    have HT : Hid (circB (lOf G) (x :: y :: r) = true) := Lib.hid rfl
    rw [HT.out]
    clear hL
    go_enter Try.func29, Try.ntmps29
    go_wp2_with fail
    all_goals first | go_ret | go_ret2
    exact ⟨rfl, Below.refl _ _⟩
  | [x], hok, hv, hz =>
    obtain ⟨g, o, rfl, zg, c0, c1, c2⟩ := hz 0 (by simp)
    simp only [List.getElem_cons_zero, Nat.zero_mul, Nat.add_zero] at c0 c1 c2
    have HNE : Hid (∀ W, Below w.heap.size w W → Calls Try.prog 18 #[.pointer (some ⟨p, 0, none⟩), mkC x] W fun e w' => (∃ v, e = .returned v ∧ CsNew w' W.heap.size v (lOf G x) ∧ CapOk v) ∧ Below W.heap.size W w') := Lib.hid fun W hW => needsO_any p n S G x (hok x (by simp)) W (h.kept (Kept.of_below hW)) (by omega)
    have HLN : Hid ((lOf G x).length ≤ 5864062014805) := Lib.hid (by have := h.len x; omega)
    have HCN : Hid (∀ v W, CsAt W v (lOf G x) → Calls Try.prog 62 #[v, mkC x] W fun e w' => e = .returned (.bool (decide (x ∈ lOf G x))) ∧ Below W.heap.size W w') := Lib.hid fun v W hW => containsC_any v _ x W hW HLN.out
    have HT : Hid (circB (lOf G) [x] = decide (x ∈ lOf G x)) := Lib.hid rfl
    rw [HT.out]
    generalize decide (x ∈ lOf G x) = R at *
    generalize lOf G x = N at *
    clear hok hv hz h HT HLN
    obtain ⟨x1, x2, x3⟩ := x
    unfold mkC at *
    dsimp only at HNE HCN c0 c1 c2 ⊢
    go_enter Try.func29, Try.ntmps29
    go_wp2_with fail
    refine wrp (S := fun w' => Below w.heap.size w w' ∧ w'.cell? ⟨g, o, none⟩ = some (.int .i64 x1) ∧ w'.cell? ⟨g, o + 1, none⟩ = some (.int .i64 x2) ∧ w'.cell? ⟨g, o + 2, none⟩ = some (.int .i64 x3)) (by kernel_rfl) (fun w' hx => ⟨hx, belK hx c0 zg, belK hx c1 zg, belK hx c2 zg⟩) (fun HKP hHeld => ?_)
    refine tk 0 ?_
    refine tk 1 ?_
    refine tk 2 ?_
    refine tk 3 ?_
    refine tk 5 ?_
    refine tk 6 ?_
    refine tk 7 ?_
    refine rd1 4 (by kernel_rfl) rfl fun KX hK => ?_
    go_simp
    (go_at_call 18; refine (HNE.out _ (Below.refl _ _).drew).mono ?_; rintro e w1 ⟨⟨v1, rfl, hv1, _⟩, hb1⟩)
    obtain ⟨a1, k1, rfl, _⟩ := hv1.1.shape
    have hbw1 : Below w.heap.size w w1 := (Below.refl w.heap.size w).drew.trans hb1
    refine hK.out _ _ (HKP.out w1 hbw1) (fun hHeld => ?_)
    clear hK KX
    try simp only [pz]
    refine rd1 8 (by kernel_rfl) rfl fun KX hK => ?_
    go_simp
    (go_at_call 62; refine (HCN.out _ _ hv1.1).mono ?_; rintro e w2 ⟨rfl, hb2⟩)
    have hbw2 : Below w.heap.size w w2 := hbw1.trans (hb2.mono hbw1.size)
    refine hK.out _ _ (HKP.out w2 hbw2) (fun hHeld => ?_)
    clear hK KX
    try simp only [pz]
    refine tk 9 ?_
    refine wpAnyH_done (by kernel_rfl) ?_ _
    all_goals go_wp2_with fail
    all_goals first | go_ret | go_ret2
    all_goals exact ⟨rfl, hbw2⟩
end Go.Proofs.Ytjjpfddgcilliaa
namespace Go.Proofs.Ytjjpfddgcilliaa
open Go.RowKit Go.Shelf Go.Sort Go.Lib Go.Maps
set_option maxRecDepth 100000

theorem run_clearP (w : World) (g o n c : Nat) (hn : 0 < n) (hc : ∀ j, j < n → (w.cell? ⟨g, o + j, none⟩).isSome = true) (hf : ∀ j, j < n → w.frozen? ⟨g, o + j, none⟩ = false) :
    ∃ vs : List Value, vs.length = n ∧ ∀ ty, (Builtin.clear_ #[46] ty #[.slice (some ⟨g, o, none⟩) n c]).run Try.prog w = .ok (.tuple #[]) (w.setCells g o vs) := by
  obtain ⟨vs, hvs⟩ : ∃ vs, vs = (Builtin.zeroCells #[.slice none 0 0] n).toList := ⟨_, rfl⟩
  have hl : vs.length = n := by rw [hvs]; simp [Builtin.zeroCells]
  have h1 : ∀ v ∈ vs, v.oneCell' = true := by
    intro v hv
    rw [hvs] at hv
    simp only [Builtin.zeroCells, Array.toList_map, List.mem_map] at hv
    obtain ⟨i, _, rfl⟩ := hv
    have : ∀ k, k < 1 → (#[Value.slice none 0 0] : Array Value)[k]!.oneCell' = true := by
      intro k hk
      match k, hk with
      | 0, _ => rfl
    exact this _ (Nat.mod_lt _ (by simp))
  have hst := run_storeCells_cells (P := Try.prog) g o vs 0 w (by rw [hl]; simpa using hc) (by rw [hl]; simpa using hf) h1
  simp only [Nat.add_zero] at hst
  refine ⟨vs, hl, fun ty => ?_⟩
  obtain ⟨m, rfl⟩ : ∃ m, n = m + 1 := ⟨n - 1, by omega⟩
  have hz : ∀ w, (zeroValue 30).run Try.prog w = .ok (.slice none 0 0) w := fun w => by kernel_rfl
  simp [Builtin.clear_, run_underlying Try.underlying46, hz, Value.cells, ← hvs, hst]
theorem PsAt.at {W : World} {n L cap : Nat} {a : Option Addr} {Z : List (Value × List Ce)} (h : PsAt W n (.slice a L cap) Z) (k : Nat) (hk : k < Z.length) : ∃ g, a = some ⟨g, 0, none⟩ ∧ g < W.heap.size ∧ W.cell? ⟨g, k, none⟩ = some (Z[k].1) := by
  obtain ⟨g, c, hv, hb, hg⟩ := h.r.form (by omega)
  cases hv
  refine ⟨g, rfl, hg, ?_⟩
  rw [h.r.cellAt k (by omega)]
  simp [hk]
theorem PsAt.below {W W1 : World} {n : Nat} {v : Value} {Z : List (Value × List Ce)} (h : PsAt W n v Z) (hb : Below W.heap.size W W1) : PsAt W1 n v Z :=
  h.own (row := none) ⟨hb.os, hb.tape, hb.output, hb.size, fun k hk _ => hb.block k hk⟩ fun r e => by cases e
/-- what the function tells of each list. -/
def DelP (w : World) (v : Value) (b : Nat) (D : List Ce → Bool) (Z : List (Value × List Ce)) : Prop :=
  ∀ q ∈ Z, ∀ W, Trn (fun k => v.ownBlock = some k) w W → Calls Try.prog 61 #[q.1, .pointer (some ⟨b, 0, none⟩)] W fun e w' => e = .returned (.bool (D q.2)) ∧ Below W.heap.size W w'
def IxPost (D : List Ce → Bool) (Z : List (Value × List Ce)) (w : World) (e : Ending) (w' : World) : Prop :=
  (∃ r : Int, e = .returned (.int .i64 r) ∧ ((r = -1 ∧ ∀ q ∈ Z, D q.2 = false) ∨ ∃ k : Nat, ∃ hk : k < Z.length, r = k ∧ D (Z[k].2) = true ∧ ∀ j (hj : j < Z.length), j < k → D (Z[j].2) = false)) ∧ Below w.heap.size w w'
set_option maxHeartbeats 4000000 in
theorem indexF_any (n : Nat) (v : Value) (Z : List (Value × List Ce)) (b : Nat) (D : List Ce → Bool) (w : World) (hZ : PsAt w n v Z) (hD : DelP w v b D Z) (hl : Z.length ≤ 100000) :
    Calls Try.prog 81 #[v, .func (.func 61) #[] #[.pointer (some ⟨b, 0, none⟩)]] w (IxPost D Z w) := by
  obtain ⟨Po, hPo⟩ : ∃ Po, Po = IxPost D Z w := ⟨_, rfl⟩
  rw [← hPo]
  have HPO := Lib.hid hPo
  obtain ⟨al, cl, rfl⟩ := own_slice hZ.r
  have HZ := Lib.hid hZ
  have HD := Lib.hid hD
  clear hPo hZ hD
  obtain ⟨L, hL⟩ : ∃ L, L = Z.length := ⟨_, rfl⟩
  have HLL := Lib.hid hL
  rw [← hL] at hl HZ HD ⊢
  clear hL
  go_enter Try.func81, Try.ntmps81
  go_wp2_with fail
  go_loopw [5, 8] (fun u i wr => ∃ k : Nat, k ≤ L ∧ i = .int .i64 k ∧ (∀ j (hj : j < Z.length), j < k → D (Z[j].2) = false) ∧ Below w.heap.size w wr) (fun _ i _ => L - (intOf i).toNat)
  case atStart => exact ⟨0, by omega, rfl, fun j _ hj => absurd hj (by omega), Below.refl _ _⟩
  case round =>
    obtain ⟨k, hk, rfl, hpre, hR⟩ := hrel
    have HR := Lib.hid hR
    have HPRE := Lib.hid hpre
    clear hR hpre
    by_cases hlt : k < L
    · have hkl : k < Z.length := by rw [← HLL.out]; exact hlt
      obtain ⟨g, rfl, hg, c0⟩ := (HZ.out.below HR.out).at k hkl
      have HKL := Lib.hid hkl
      have HC := Lib.hid (HD.out Z[k] (List.getElem_mem hkl) wr (Trn.of_below HR.out))
      obtain ⟨hq1, hq2, hq3, hq4⟩ := HZ.out.e Z[k] (List.getElem_mem hkl)
      obtain ⟨aq, cq, hqv, hqz⟩ := hq1.shape
      clear hqz
      obtain ⟨R, hRR⟩ : ∃ R, R = D (Z[k].2) := ⟨_, rfl⟩
      rw [← hRR] at HC
      have HRR := Lib.hid hRR
      replace c0 := c0.trans (congrArg some hqv)
      rw [hqv] at HC
      clear hq1 hq2 hq3 hq4 hqv hRR
      generalize (Z[k].2).length = m at *
      clear hkl
      cases R
      · go_wp2_with (go_at_call 61; refine HC.out.mono ?_; rintro e w1 ⟨rfl, hb1⟩)
        go_roundw
        case rel =>
          refine ⟨k + 1, by omega, by go_num, fun j hj hjk => ?_, HR.out.trans (hb1.mono HR.out.size)⟩
          by_cases ej : j = k
          · subst ej; exact HRR.out.symm
          · exact HPRE.out j hj (by omega)
        case measure => simp [intOf]; omega
      · go_wp2_with (go_at_call 61; refine HC.out.mono ?_; rintro e w1 ⟨rfl, hb1⟩)
        refine (show Po (.returned (.int .i64 k)) w1 from ?_)
        rw [HPO.out]
        exact ⟨⟨k, rfl, Or.inr ⟨k, HKL.out, rfl, HRR.out.symm, HPRE.out⟩⟩, HR.out.trans (hb1.mono HR.out.size)⟩
    · obtain rfl : k = L := by omega
      clear hlt
      go_wp2_with fail
      refine (show Po (.returned (.int .i64 (-1))) wr from ?_)
      rw [HPO.out]
      refine ⟨⟨-1, rfl, Or.inl ⟨rfl, fun q hq => ?_⟩⟩, HR.out⟩
      obtain ⟨j, hj, rfl⟩ := List.getElem_of_mem hq
      exact HPRE.out j hj (by rw [HLL.out]; exact hj)
end Go.Proofs.Ytjjpfddgcilliaa
