/-
  LAYER 29: THE FIXED CALLS: two cells that need each other.
  LAYER 29's STATEMENT ON WHAT LEADS WHERE (SccLeads), walked.
-/
import Derived.Test.YtjjpfddgcilliaaSccn
set_option linter.unusedSimpArgs false
set_option linter.unusedVariables false
namespace Go.Proofs.Ytjjpfddgcilliaa
open Go.RowKit Go.Shelf Go.Sort Go.Lib Go.Maps
set_option maxRecDepth 100000

def kC2 : Ce → Option (List Ce) := putG (putG kG0 kA [kB]) kB [kA]
theorem kKeys : KeysG kC2 [kA, kB] := ⟨by unfold Srt; decide, fun z => by
  unfold kC2 putG kG0
  by_cases h1 : z = kB
  · simp [h1]
  · by_cases h2 : z = kA
    · subst h2; decide
    · simp [h2, h1]⟩
theorem kAB : ldG kC2 kA kB := ⟨by decide, by decide⟩
theorem kBA : ldG kC2 kB kA := ⟨by decide, by decide⟩
theorem kSim : Sim (ldG kC2) kA kB := ⟨.one kAB, .one kBA⟩
theorem kPart : scL (ldG kC2) [kA, kB] kA = [kA, kB] := List.filter_eq_self.2 fun z hz => by
  rw [scB_iff]
  rcases List.mem_cons.1 hz with rfl | hz
  · exact Sim.refl _ _
  · rw [List.mem_singleton.1 hz]; exact kSim
theorem kParts : partsL (ldG kC2) [kA, kB] = [[kA, kB]] := (parts_is kKeys.1 (fun p hp => by
  rw [List.mem_singleton.1 hp]
  exact ⟨kA, by simp, kPart.symm⟩) (fun z hz => ⟨_, by simp, hz⟩) (by simp)).symm
theorem kCirc : (partsL (ldG kC2) [kA, kB]).filter (circB (lOf kC2)) = [[kA, kB]] := by rw [kParts]; rfl
theorem onc_one (y : Ce) : onc [y] = [y] := srt_ext (srt_onc _) (by simp [Srt]) fun z => mem_onc
theorem set_one (p n : Nat) (T : Nat → Prop) (G : Ce → Option (List Ce)) (x : Ce) (y1 y2 y3 : Int) (hx : okC x) (hy : okC (y1, y2, y3)) (s : World) (h : GrAt s T p n G) (hT : ∀ k, T k → k < s.heap.size) (hn : (n + 1 + 1) * 24 ≤ 140737488355328) :
    Calls Try.prog 13 #[.pointer (some ⟨p, 0, none⟩), mkC x, .slice (some ⟨s.heap.size, 0, none⟩) 1 1] (s.alloc (.cells #[.int .i64 y1, .int .i64 y2, .int .i64 y3] 32)) fun e w' => e = .returned (.int .i64 0) ∧ GrAt w' (fun k => (T k ∨ s.heap.size + 1 ≤ k) ∧ k < w'.heap.size) p (n + 1 + 1) (putG G x [(y1, y2, y3)]) ∧ Trn T (s.alloc (.cells #[.int .i64 y1, .int .i64 y2, .int .i64 y3] 32)) w' := by
  have hb : Below s.heap.size s (s.alloc (.cells #[.int .i64 y1, .int .i64 y2, .int .i64 y3] 32)) := (Below.refl _ s).alloc (Nat.le_refl _) _
  have h1 := set_any p n T G x hx _ [(y1, y2, y3)] _ (h.kept (Kept.of_below hb)) (fun k hk => Nat.lt_of_lt_of_le (hT k hk) hb.size) (one_new s y1 y2 y3 32) (fun b hb hk => by have e := Option.some.inj hb; have := hT b hk; dsimp only at e; omega) (fun z hz => by rw [List.mem_singleton.1 hz]; exact hy) hn
  rw [onc_one] at h1
  refine h1.mono ?_
  rintro e w' ⟨rfl, h2, h3⟩
  rw [World.size_alloc] at h2
  exact ⟨rfl, h2.bound, h3⟩
set_option maxHeartbeats 16000000 in
theorem known29_any (w : World) : Calls Try.prog 20 #[] w fun e w' => e = .returned (.bool true) ∧ Below w.heap.size w w' := by
  obtain ⟨wk, hwk⟩ : ∃ x, x = (w.alloc (.cells #[.int .i64 0, .int .i64 1, .int .i64 1] 32)).alloc (.cells #[.int .i64 0, .int .i64 2, .int .i64 1] 32) := ⟨_, rfl⟩
  have zk : wk.heap.size = w.heap.size + 1 + 1 := by rw [hwk]; simp
  have HBK : Hid (Below w.heap.size w wk) := Lib.hid (by rw [hwk]; exact ((Below.refl _ w).alloc (Nat.le_refl _) _).alloc (by simp) _)
  have cA := bx1 (l := [.int .i64 0, .int .i64 1, .int .i64 1]) hwk rfl
  have cB := bx0 (l := [.int .i64 0, .int .i64 2, .int .i64 1]) hwk (b := w.heap.size + 1) (by simp)
  have HAB : Hid (∀ V, Below wk.heap.size wk V → (V.cell? ⟨w.heap.size, 0, none⟩ = some (.int .i64 0) ∧ V.cell? ⟨w.heap.size, 1, none⟩ = some (.int .i64 1) ∧ V.cell? ⟨w.heap.size, 2, none⟩ = some (.int .i64 1)) ∧ V.cell? ⟨w.heap.size + 1, 0, none⟩ = some (.int .i64 0) ∧ V.cell? ⟨w.heap.size + 1, 1, none⟩ = some (.int .i64 2) ∧ V.cell? ⟨w.heap.size + 1, 2, none⟩ = some (.int .i64 1)) := Lib.hid fun V hV =>
    ⟨⟨belK hV (cA 0 _ rfl) (by dsimp only; omega), belK hV (cA 1 _ rfl) (by dsimp only; omega), belK hV (cA 2 _ rfl) (by dsimp only; omega)⟩, belK hV (cB 0 _ rfl) (by dsimp only; omega), belK hV (cB 1 _ rfl) (by dsimp only; omega), belK hV (cB 2 _ rfl) (by dsimp only; omega)⟩
  have HWK := Lib.hid hwk
  have HZK := Lib.hid zk
  clear cA cB hwk zk
  go_enter Try.func20, Try.ntmps20
  go_wp2_with (go_at_call 9; rw [← HWK.out]; refine (new_any _).mono ?_; rintro e w1 ⟨p, rfl, hg1, hb1⟩; have HB1 := Lib.hid hb1; obtain ⟨⟨cA0, cA1, cA2⟩, cB0, cB1, cB2⟩ := HAB.out w1 HB1.out; have HG1 := Lib.hid hg1.bound; clear hg1 hb1; have HX1 : Hid (∀ w2, Trn (fun k => wk.heap.size ≤ k ∧ k < w1.heap.size) (w1.alloc (.cells #[.int .i64 0, .int .i64 2, .int .i64 1] 32)) w2 → Below wk.heap.size wk w2) := Lib.hid (fun w2 ht => (HB1.out.alloc HB1.out.size (.cells #[.int .i64 0, .int .i64 2, .int .i64 1] 32)).trans (ht.below (by have := HB1.out.size; simp; omega) fun k hk => hk.1)); have HSET1 := Lib.hid (set_one p 0 _ _ kA 0 2 1 okA okB w1 HG1.out (fun k hk => hk.2) (by omega)); go_wp2_with (go_at_call 13; refine HSET1.out.mono ?_; rintro e w2 ⟨rfl, hg2, ht2⟩; have HB2 := Lib.hid (HX1.out w2 ht2); clear cA0 cA1 cA2 cB0 cB1 cB2; obtain ⟨⟨cA0, cA1, cA2⟩, cB0, cB1, cB2⟩ := HAB.out w2 HB2.out; have HG2 := Lib.hid hg2; clear hg2 ht2; have HX2 : Hid (∀ w3, Trn (fun k => ((wk.heap.size ≤ k ∧ k < w1.heap.size) ∨ w1.heap.size + 1 ≤ k) ∧ k < w2.heap.size) (w2.alloc (.cells #[.int .i64 0, .int .i64 1, .int .i64 1] 32)) w3 → Below wk.heap.size wk w3) := Lib.hid (fun w3 ht => (HB2.out.alloc HB2.out.size (.cells #[.int .i64 0, .int .i64 1, .int .i64 1] 32)).trans (ht.below (by have := HB2.out.size; simp; omega) fun k hk => by have := HB1.out.size; omega)); have HSET2 := Lib.hid (set_one p 2 _ _ kB 0 1 1 okB okA w2 HG2.out (fun k hk => hk.2) (by omega)); go_wp2_with (go_at_call 13; refine HSET2.out.mono ?_; rintro e w3 ⟨rfl, hg3, ht3⟩; have HB3 := Lib.hid (HX2.out w3 ht3); clear cA0 cA1 cA2 cB0 cB1 cB2; obtain ⟨⟨cA0, cA1, cA2⟩, cB0, cB1, cB2⟩ := HAB.out w3 HB3.out; have HG3 := Lib.hid hg3; clear hg3 ht3; have HOF := Lib.hid (of_any p 4 _ kC2 [kA, kB] kKeys w3 HG3.out (fun k hk => hk.2) (by omega) (by simp)); go_wp2_with (go_at_call 21; refine HOF.out.mono ?_; rintro e w4 ⟨⟨v4, Z, rfl, hZ, hm⟩, hb4⟩; obtain ⟨a4, c4, rfl⟩ := own_slice hZ.r; have HZ := Lib.hid hZ; have HM := Lib.hid (hm.trans kParts); have HB4 := Lib.hid hb4; clear hZ hm hb4))))
  have hb34 : Below wk.heap.size wk w4 := HB3.out.trans (HB4.out.mono HB3.out.size)
  have HAB4 : Hid (∀ V, Below w4.heap.size w4 V → Below wk.heap.size wk V) := Lib.hid fun V hV => hb34.trans (hV.mono hb34.size)
  have hz1 : Z.length = 1 := by have h := congrArg List.length HM.out; simpa using h
  have hz0 : 0 < Z.length := by omega
  have hzs : (Z[0]'hz0).2 = [kA, kB] := by
    have h := congrArg (fun l => l[0]?) HM.out
    simpa [hz0] using h
  obtain ⟨gz, rfl, zgz, kz⟩ := HZ.out.at 0 hz0
  obtain ⟨e1, _, _, _⟩ := HZ.out.e Z[0] (List.getElem_mem hz0)
  rw [hzs] at e1
  obtain ⟨au, cu, hu, hsh⟩ := e1.shape
  obtain ⟨gu, ou, rfl, zgu, u0, u1, u2⟩ := hsh 0 (by simp)
  replace kz := kz.trans (congrArg some hu)
  simp only [List.getElem_cons_zero, Nat.zero_mul, Nat.add_zero] at u0 u1 u2
  have HKP0 : Hid (∀ w', Below w4.heap.size w4 w' → Below w4.heap.size w4 w' ∧ w'.cell? ⟨gz, 0, none⟩ = some (.slice (some ⟨gu, ou, none⟩) 2 cu) ∧ (w'.cell? ⟨gu, ou, none⟩ = some (.int .i64 0) ∧ w'.cell? ⟨gu, ou + 1, none⟩ = some (.int .i64 1) ∧ w'.cell? ⟨gu, ou + 2, none⟩ = some (.int .i64 1)) ∧ (w'.cell? ⟨w.heap.size, 0, none⟩ = some (.int .i64 0) ∧ w'.cell? ⟨w.heap.size, 1, none⟩ = some (.int .i64 1) ∧ w'.cell? ⟨w.heap.size, 2, none⟩ = some (.int .i64 1)) ∧ w'.cell? ⟨w.heap.size + 1, 0, none⟩ = some (.int .i64 0) ∧ w'.cell? ⟨w.heap.size + 1, 1, none⟩ = some (.int .i64 2) ∧ w'.cell? ⟨w.heap.size + 1, 2, none⟩ = some (.int .i64 1)) := Lib.hid fun w' hx => ⟨hx, belK hx kz zgz, ⟨belK hx u0 zgu, belK hx u1 zgu, belK hx u2 zgu⟩, HAB.out w' (HAB4.out w' hx)⟩
  have hbw4 : Below w.heap.size w w4 := HBK.out.trans (hb34.mono HBK.out.size)
  have HBW := Lib.hid hbw4
  have HG4 := Lib.hid (HG3.out.kept (Kept.of_below HB4.out))
  have HCI := Lib.hid (fun V (hV : Below w4.heap.size w4 V) => circles_any p 4 _ kC2 [kA, kB] kKeys V (HG4.out.kept (Kept.of_below hV)) (fun k hk => by have := hk.2; have := HB4.out.size; have := hV.size; omega) (by omega) (by simp))
  have HCR : Hid (∀ v V, Below w4.heap.size w4 V → CsAt V v [kA, kB] → Calls Try.prog 29 #[.pointer (some ⟨p, 0, none⟩), v] V fun e w' => e = .returned (.bool true) ∧ Below V.heap.size V w') := Lib.hid (fun v V hV hc => circular_any p 4 _ kC2 v [kA, kB] (fun x hx => by rcases List.mem_cons.1 hx with rfl | hx; exact okA; rw [List.mem_singleton.1 hx]; exact okB) V hc (HG4.out.kept (Kept.of_below hV)) (by omega))
  rw [hz1]
  clear hb34 hbw4 hzs kz e1 hu hsh u0 u1 u2 zgu zgz cA0 cA1 cA2 cB0 cB1 cB2
  refine wrp (S := fun w' => Below w4.heap.size w4 w' ∧ w'.cell? ⟨gz, 0, none⟩ = some (.slice (some ⟨gu, ou, none⟩) 2 cu) ∧ (w'.cell? ⟨gu, ou, none⟩ = some (.int .i64 0) ∧ w'.cell? ⟨gu, ou + 1, none⟩ = some (.int .i64 1) ∧ w'.cell? ⟨gu, ou + 2, none⟩ = some (.int .i64 1)) ∧ (w'.cell? ⟨w.heap.size, 0, none⟩ = some (.int .i64 0) ∧ w'.cell? ⟨w.heap.size, 1, none⟩ = some (.int .i64 1) ∧ w'.cell? ⟨w.heap.size, 2, none⟩ = some (.int .i64 1)) ∧ w'.cell? ⟨w.heap.size + 1, 0, none⟩ = some (.int .i64 0) ∧ w'.cell? ⟨w.heap.size + 1, 1, none⟩ = some (.int .i64 2) ∧ w'.cell? ⟨w.heap.size + 1, 2, none⟩ = some (.int .i64 1)) (by kernel_rfl) HKP0.out (fun HKP hHeld => ?_)
  refine tk 0 ?_
  refine tk 1 ?_
  refine tk 2 ?_
  refine tk 3 ?_
  refine tk 4 ?_
  refine tk 5 ?_
  refine tk 6 ?_
  refine tk 7 ?_
  refine tk 8 ?_
  refine tk 9 ?_
  refine tk 10 ?_
  refine tk 11 ?_
  refine tk 12 ?_
  refine tk 13 ?_
  refine tk 14 ?_
  refine tk 15 ?_
  refine tk 16 ?_
  refine tk 17 ?_
  refine tk 18 ?_
  refine tk 19 ?_
  refine tk 20 ?_
  refine tk 21 ?_
  refine tk 22 ?_
  refine rd1 23 (by kernel_rfl) rfl fun KX hK => ?_
  go_simp
  obtain ⟨w5, hw5⟩ : ∃ x, x = (w4.alloc (.cells #[.int .i64 0, .int .i64 1, .int .i64 1, .int .i64 0, .int .i64 2, .int .i64 1] 32)).drew := ⟨_, rfl⟩
  have hb5 : Below w4.heap.size w4 w5 := by rw [hw5]; exact ((Below.refl w4.heap.size w4).alloc (Nat.le_refl _) _).drew
  have hc5 : CsAt w5 (.slice (some ⟨w4.heap.size, 0, none⟩) 2 2) [kA, kB] := by
    rw [hw5]
    refine Or.inr ⟨w4.heap.size, 0, 2, rfl, (by show w4.heap.size < (w4.alloc _).heap.size; simp), fun j u hj => ?_⟩
    rw [Nat.zero_add]
    show (w4.alloc _).cell? _ = _
    exact bx0 (l := [.int .i64 0, .int .i64 1, .int .i64 1, .int .i64 0, .int .i64 2, .int .i64 1]) rfl rfl j u (by simpa [flC, ec, kA, kB] using hj)
  subst hw5
  refine hK.out _ _ (HKP.out _ hb5) (fun hHeld => ?_)
  clear hK KX
  try simp only [pz]
  refine rd1 24 (by kernel_rfl) rfl fun KX hK => ?_
  go_simp
  (go_at_call 29; refine (HCR.out _ _ hb5 hc5).mono ?_; rintro e w6 ⟨rfl, hb6⟩)
  have hb46 : Below w4.heap.size w4 w6 := hb5.trans (hb6.mono hb5.size)
  refine hK.out _ _ (HKP.out _ hb46) (fun hHeld => ?_)
  clear hK KX
  try simp only [pz]
  refine tk 25 ?_
  refine tk 26 ?_
  refine tk 27 ?_
  refine rd1 28 (by kernel_rfl) rfl fun KX hK => ?_
  go_simp
  (go_at_call 24; refine (HCI.out w6 hb46).mono ?_; rintro e w7 ⟨⟨v7, Z7, rfl, hZ7, hm7⟩, hb7⟩; obtain ⟨a7, c7, rfl⟩ := own_slice hZ7.r)
  have hz7 : Z7.length = 1 := by have h := congrArg List.length (hm7.trans kCirc); simpa using h
  rw [hz7]
  have hb47 : Below w4.heap.size w4 w7 := hb46.trans (hb7.mono hb46.size)
  refine hK.out _ _ (HKP.out _ hb47) (fun hHeld => ?_)
  clear hK KX
  try simp only [pz]
  refine tk 29 ?_
  refine tk 30 ?_
  refine tk 31 ?_
  refine tk 32 ?_
  refine rd1 33 (by kernel_rfl) rfl fun KX hK => ?_
  go_simp
  (go_at_call 21; refine (of_nil w7).mono ?_; rintro e w8 ⟨rfl, hb8⟩)
  have hb48 : Below w4.heap.size w4 w8 := hb47.trans (hb8.mono hb47.size)
  refine hK.out _ _ (HKP.out _ hb48) (fun hHeld => ?_)
  clear hK KX
  try simp only [pz]
  refine tk 34 ?_
  refine tk 35 ?_
  refine tk 36 ?_
  refine tk 37 ?_
  refine wpAnyH_done (by kernel_rfl) ?_ _
  all_goals go_wp2_with fail
  all_goals first | go_ret | go_ret2
  all_goals exact ⟨rfl, HBW.out.trans (hb48.mono HBW.out.size)⟩
end Go.Proofs.Ytjjpfddgcilliaa
namespace Go.Proofs.Ytjjpfddgcilliaa
open Go.RowKit Go.Shelf Go.Sort Go.Lib Go.Maps
set_option maxRecDepth 100000

theorem ActsAt.below' {W W' : World} {v : Value} {N : List Ac} (h : ActsAt W v N) (hb : Below W.heap.size W W') : ActsAt W' v N := by
  obtain ⟨a, cap, rfl, h⟩ := h
  refine ⟨a, cap, rfl, fun k hk => ?_⟩
  obtain ⟨g, o, u, e, hg, c0, c1, c2, c3, c4, hl, h1, h2⟩ := h k hk
  exact ⟨g, o, u, e, Nat.lt_of_lt_of_le hg hb.size, belK hb c0 hg, belK hb c1 hg, belK hb c2 hg, belK hb c3 hg, belK hb c4 hg, hl.imp (fun h => h.below hb) id, h1, h2⟩
section
variable {G : Ce → Option (List Ce)} {a b : Ce}
theorem lead_up {u z : Ce} (h : Rt (fun x y => y ∈ lOf G x) u z) : (G z).isSome = true → Rt (ldG G) u z := by
  induction h with
  | refl => intro _; exact .refl _
  | tail _ h ih => intro hz; exact .tail (ih (lOf_some h)) ⟨h, hz⟩
theorem lead_iff (hb : (G b).isSome = true) (hne : a ≠ b) : (∃ y ∈ lOf G a, Rt (fun x y => y ∈ lOf G x) y b) ↔ Rt (ldG G) a b := by
  constructor
  · rintro ⟨y, hy, hr⟩
    exact lead_up ((Rt.one (E := fun x y => y ∈ lOf G x) hy).trans hr) hb
  · intro h
    rcases h.split with e | ⟨u, hu, hr⟩
    · exact absurd e hne
    · exact ⟨u, hu.1, hr.mono fun _ _ h => h.1⟩
end
theorem rt_dec (P : Prop) : ∃ r : Bool, r = true ↔ P := by
  by_cases h : P
  · exact ⟨true, by simp [h]⟩
  · exact ⟨false, by simp [h]⟩
theorem dec_bool {P : Prop} [Decidable P] {r : Bool} (h : P ↔ r = true) : decide P = r := by
  cases r with
  | true => exact decide_eq_true (h.2 rfl)
  | false => exact decide_eq_false fun hp => by have := h.1 hp; cases this
/-- what is asked of the two graphs, told. -/
structure TwoQ (p q : Nat) (a b : Ce) (r1 r2 : Bool) (w1 : World) : Prop where
  l1 : ∀ V, Below w1.heap.size w1 V → Calls Try.prog 33 #[.pointer (some ⟨q, 0, none⟩), mkC a] V fun e w' => (∃ v, e = .returned v ∧ ∀ V', Below w'.heap.size w' V' → Calls Try.prog 16 #[v, mkC b] V' fun e w' => e = .returned (.bool r1) ∧ Below V'.heap.size V' w') ∧ Below V.heap.size V w'
  l2 : ∀ V, Below w1.heap.size w1 V → Calls Try.prog 33 #[.pointer (some ⟨q, 0, none⟩), mkC b] V fun e w' => (∃ v, e = .returned v ∧ ∀ V', Below w'.heap.size w' V' → Calls Try.prog 16 #[v, mkC a] V' fun e w' => e = .returned (.bool r2) ∧ Below V'.heap.size V' w') ∧ Below V.heap.size V w'
  p1 : ∀ V, Below w1.heap.size w1 V → Calls Try.prog 27 #[.pointer (some ⟨p, 0, none⟩), mkC a] V fun e w' => (∃ v, e = .returned v ∧ ∀ V', Below w'.heap.size w' V' → Calls Try.prog 16 #[v, mkC b] V' fun e w' => e = .returned (.bool (r1 && r2)) ∧ Below V'.heap.size V' w') ∧ Below V.heap.size V w'
  p2 : ∀ V, Below w1.heap.size w1 V → Calls Try.prog 27 #[.pointer (some ⟨p, 0, none⟩), mkC b] V fun e w' => (∃ v, e = .returned v ∧ ∀ V', Below w'.heap.size w' V' → Calls Try.prog 16 #[v, mkC a] V' fun e w' => e = .returned (.bool (r1 && r2)) ∧ Below V'.heap.size V' w') ∧ Below V.heap.size V w'
theorem twoQ_of {n0 p q n : Nat} {R : List Rw} {Sg Sr : Nat → Prop} {w1 : World} {a b : Ce} {r1 r2 : Bool} (h : TwoG n0 p q n R Sg Sr w1) (hn : n ≤ 272) (oa : okC a) (ob : okC b) (ha : (rowOf R a).isSome = true) (hb : (rowOf R b).isSome = true) (hne : a ≠ b)
    (h1 : r1 = true ↔ Rt (ldG (rowOf R)) a b) (h2 : r2 = true ↔ Rt (ldG (rowOf R)) b a) : TwoQ p q a b r1 r2 w1 := by
  have hsn : ∀ z, (lOf (rowOf R) z).Nodup := fun z => by
    obtain ⟨bn, bu, fn, fu, h0, hp, hN, hU⟩ := h.g
    unfold lOf
    cases hg : rowOf R z with
    | none => exact List.nodup_nil
    | some l => exact srt_nodup (hN.ok z l hg).2.1
  have hrl : R.length ≤ 272 := Nat.le_trans h.rl hn
  have hK : KeysG (rowOf R) (onc (R.map fun r => r.1)) := ⟨srt_onc _, fun z => some_row h.nd z⟩
  have hkl : (onc (R.map fun r => r.1)).length ≤ 272 := by
    have h5 := onc_length (R.map fun r => r.1)
    rw [List.length_map] at h5
    omega
  have hL : ∀ (x y : Ce) (r : Bool), (rowOf R y).isSome = true → x ≠ y → (r = true ↔ Rt (ldG (rowOf R)) x y) → ∀ V, Below w1.heap.size w1 V → Calls Try.prog 33 #[.pointer (some ⟨q, 0, none⟩), mkC x] V fun e w' => (∃ v, e = .returned v ∧ ∀ V', Below w'.heap.size w' V' → Calls Try.prog 16 #[v, mkC y] V' fun e w' => e = .returned (.bool r) ∧ Below V'.heap.size V' w') ∧ Below V.heap.size V w' := fun x y r hy hxy hr V hV => by
    refine (leads_any q R x V (h.r.view.below hV) hrl h.rs hsn).mono ?_
    rintro e w' ⟨⟨v, l, rfl, hc, hl, hm⟩, hb⟩
    refine ⟨⟨v, rfl, fun V' hV' => ?_⟩, hb⟩
    have h5 := refHas_any v l y V' (hc.below hV') (by omega)
    rwa [dec_bool ((hm y).trans ((lead_iff hy hxy).trans hr.symm))] at h5
  have hP : ∀ (x y : Ce), okC x → (rowOf R x).isSome = true → (rowOf R y).isSome = true → ((r1 && r2) = true ↔ Sim (ldG (rowOf R)) x y) → ∀ V, Below w1.heap.size w1 V → Calls Try.prog 27 #[.pointer (some ⟨p, 0, none⟩), mkC x] V fun e w' => (∃ v, e = .returned v ∧ ∀ V', Below w'.heap.size w' V' → Calls Try.prog 16 #[v, mkC y] V' fun e w' => e = .returned (.bool (r1 && r2)) ∧ Below V'.heap.size V' w') ∧ Below V.heap.size V w' := fun x y ox hx hy hr V hV => by
    refine (part_any p n Sg (rowOf R) _ hK x ox V (h.g.kept (Kept.of_below hV)) (fun k hk => Nat.lt_of_lt_of_le (h.sg k hk).2 hV.size) (by omega) (by omega)).mono ?_
    rintro e w' ⟨⟨v, rfl, hc⟩, hb⟩
    rw [hx] at hc
    simp only [if_true] at hc
    refine ⟨⟨v, rfl, fun V' hV' => ?_⟩, hb⟩
    have h6 : (scL (ldG (rowOf R)) (onc (R.map fun r => r.1)) x).length ≤ 272 := by
      unfold scL
      have := List.length_filter_le (fun z => scB (ldG (rowOf R)) x z) (onc (R.map fun r => r.1))
      omega
    have h5 := refHas_any v _ y V' (hc.1.below hV') (by omega)
    rwa [dec_bool (mem_scL.trans ((and_iff_right ((hK.2 y).2 hy)).trans hr.symm))] at h5
  have hS : (r1 && r2) = true ↔ Sim (ldG (rowOf R)) a b := by
    rw [Bool.and_eq_true, h1, h2]; rfl
  exact ⟨hL a b r1 hb hne h1, hL b a r2 ha (Ne.symm hne) h2, hP a b oa ha hb hS, hP b a ob hb ha (hS.trans ⟨Sim.symm, Sim.symm⟩)⟩
end Go.Proofs.Ytjjpfddgcilliaa
