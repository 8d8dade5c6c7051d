/-
  LAYER 29's STATEMENTS: what they lay (Laid).
  CIRCLES: PLAIN MATHEMATICS: all cells to which one leads, as the document tells them (Leads).
-/
import Derived.Test.YtjjpfddgcilliaaScci
set_option linter.unusedSimpArgs false
set_option linter.unusedVariables false
namespace Go.Proofs.Ytjjpfddgcilliaa
open Go.RowKit Go.Shelf Go.Sort Go.Lib Go.Maps
set_option maxRecDepth 100000

/-- whether acts are few; what they make of a document's graph. -/
def okN (N : List Ac) : Bool := decide (N.length ≤ 16) && N.all fun a => decide (a.2.2.length ≤ 16)
def rowsN (N : List Ac) : List Rw := N.foldl (fun R a => setR R a.2.1 (onc a.2.2)) []
theorem rowsN_take (N : List Ac) (k : Nat) (h : k < N.length) : rowsN (N.take (k + 1)) = setR (rowsN (N.take k)) N[k].2.1 (onc N[k].2.2) := by
  unfold rowsN
  rw [take_snoc N k h, List.foldl_append]; rfl
/-- a graph of the program and the document's. -/
def LaidPost (N : List Ac) (w : World) (e : Ending) (w' : World) : Prop := ∃ (p q n : Nat) (R : List Rw) (Sg Sr : Nat → Prop), e = .returned (.tuple #[.pointer (some ⟨p, 0, none⟩), .pointer (some ⟨q, 0, none⟩), .bool (okN N)]) ∧ TwoG w.heap.size p q n R Sg Sr w' ∧ n ≤ 272 ∧ (okN N = true → R = rowsN N) ∧ Below w.heap.size w w'
set_option maxHeartbeats 16000000 in
theorem laid29_any (v : Value) (N : List Ac) (w : World) (h : ActsAt w v N) (hbig : N.length ≤ 9223372036854775807) : Calls Try.prog 19 #[v] w (LaidPost N w) := by
  obtain ⟨Po, hPo⟩ : ∃ Po, Po = LaidPost N w := ⟨_, rfl⟩
  rw [← hPo]
  have HPO := Lib.hid hPo
  obtain ⟨a, cap, rfl, hact⟩ := h
  have HACT := Lib.hid hact
  clear hact hPo
  obtain ⟨L, hL⟩ : ∃ L, L = N.length := ⟨_, rfl⟩
  rw [← hL] at hbig ⊢
  have HLL := Lib.hid hL
  clear hL
  have HNEW : Hid (∀ W, Calls Try.prog 9 #[] W fun e w' => ∃ p, e = .returned (.pointer (some ⟨p, 0, none⟩)) ∧ GrAt w' (fun k => W.heap.size ≤ k) p 0 (fun _ => none) ∧ Below W.heap.size W w') := Lib.hid new_any
  by_cases h16 : L ≤ 16
  case neg =>
    go_enter Try.func19, Try.ntmps19
    go_wp2_with (go_at_call 9; refine (HNEW.out _).mono ?_; rintro e w1 ⟨p, rfl, hg1, hb1⟩; have HG1 := Lib.hid hg1; have HB1 := Lib.hid hb1; clear hg1 hb1)
    refine bodyPost_ret (results_tmp3 rfl _ _ _) rfl ?_
    refine (show Po (.returned (.tuple #[.pointer (some ⟨p, 0, none⟩), .pointer (some ⟨w1.heap.size, 0, none⟩), .bool false])) (w1.alloc (.cells #[.slice none 0 0] 29)) from ?_)
    rw [HPO.out]
    have hf : okN N = false := by unfold okN; rw [decide_eq_false (by rw [← HLL.out]; exact h16)]; rfl
    exact ⟨p, _, 0, [], _, _, by rw [hf], TwoG.made HG1.out HB1.out, by omega, fun h => (by rw [hf] at h; cases h), HB1.out.alloc HB1.out.size _⟩
  go_enter Try.func19, Try.ntmps19
  go_wp2_with (go_at_call 9; refine (HNEW.out _).mono ?_; rintro e w1 ⟨p, rfl, hg1, hb1⟩; have HG1 := Lib.hid hg1; have HB1 := Lib.hid hb1; clear hg1 hb1)
  obtain ⟨q, hq⟩ : ∃ q, q = w1.heap.size := ⟨_, rfl⟩
  obtain ⟨w2, hw2⟩ : ∃ w2, w2 = w1.alloc (.cells #[.slice none 0 0] 29) := ⟨_, rfl⟩
  have HPL : Hid (TwoG w.heap.size p q (17 * 0) [] (fun k => w.heap.size ≤ k ∧ k < w1.heap.size) (fun k => k = w1.heap.size) w2) := Lib.hid (by rw [hw2, hq]; exact TwoG.made HG1.out HB1.out)
  have HB2 : Hid (Below w.heap.size w w2) := Lib.hid (by rw [hw2]; exact HB1.out.alloc HB1.out.size _)
  rw [← hw2, ← hq]
  clear hw2 hq HG1 HB1 HNEW
  go_loopw [7] (fun i wr => ∃ k : Nat, k ≤ L ∧ i = .int .i64 k ∧ (∃ Sg Sr, TwoG w.heap.size p q (17 * k) (rowsN (N.take k)) Sg Sr wr) ∧ (∀ j (hj : j < N.length), j < k → N[j].2.2.length ≤ 16) ∧ Below w.heap.size w wr) (fun i _ => L - (intOf i).toNat)
  case atStart => exact ⟨0, by omega, rfl, ⟨_, _, HPL.out⟩, fun j hj h => by omega, HB2.out⟩
  case round =>
    obtain ⟨k, hk, rfl, ⟨Sg, Sr, htwo⟩, hsm, hR⟩ := hrel
    have HSM := Lib.hid hsm
    obtain ⟨R, hRR⟩ : ∃ R, R = rowsN (N.take k) := ⟨_, rfl⟩
    rw [← hRR] at htwo
    have HRR := Lib.hid hRR
    clear hsm hRR
    have HR := Lib.hid hR
    have HTWO := Lib.hid htwo
    clear hR htwo HPL
    by_cases hlt : k < L
    · have hkl : k < N.length := by rw [← HLL.out]; exact hlt
      obtain ⟨g, o, u, rfl, hg, c0, c1, c2, c3, c4, hlu, hox, hoy⟩ := HACT.out k hkl
      have HZM : Hid (N[k] ∈ N) := Lib.hid (List.getElem_mem hkl)
      have HRT : Hid (rowsN (N.take (k + 1)) = setR R N[k].2.1 (onc N[k].2.2)) := Lib.hid (by rw [rowsN_take N k hkl, ← HRR.out])
      have HSM2 : Hid (N[k].2.2.length ≤ 16 → ∀ j (hj : j < N.length), j < k + 1 → N[j].2.2.length ≤ 16) := Lib.hid fun h j hj hjk => by
        by_cases e : j = k
        · subst e; exact h
        · exact HSM.out j hj (by omega)
      generalize N[k] = z at *
      obtain ⟨kd, ⟨x1, x2, x3⟩, y⟩ := z
      dsimp only at c0 c1 c2 c3 c4 hlu hox hoy
      obtain ⟨a2, cap2, rfl⟩ := hlu.shape
      have HBG : Hid (g < w.heap.size) := Lib.hid hg
      have d1 := belK HR.out c1 hg
      have d2 := belK HR.out c2 hg
      have d3 := belK HR.out c3 hg
      have d4 := belK HR.out c4 hg
      have hgr := Nat.lt_of_lt_of_le hg HR.out.size
      clear c0 c1 c2 c3 c4 hg hkl
      obtain ⟨m, hm⟩ : ∃ m, m = y.length := ⟨_, rfl⟩
      rw [← hm] at d4 hlu
      have HM := Lib.hid hm
      have HLU := Lib.hid hlu
      have HOX := Lib.hid hox
      have HOY := Lib.hid hoy
      clear hm hlu hox hoy
      by_cases hm16 : m ≤ 16
      case neg =>
        go_wp2_with fail
        refine bodyPost_ret (results_tmp3 rfl _ _ _) rfl ?_
        refine (show Po (.returned (.tuple #[.pointer (some ⟨p, 0, none⟩), .pointer (some ⟨q, 0, none⟩), .bool false])) wr from ?_)
        rw [HPO.out]
        have hf : okN N = false := by
          unfold okN
          rw [List.all_eq_false.2 ⟨_, HZM.out, by have := HM.out; simp; omega⟩]; simp
        exact ⟨p, q, 17 * k, R, Sg, Sr, by rw [hf], HTWO.out, by omega, fun h => (by rw [hf] at h; cases h), HR.out⟩
      have hym : y.length ≤ 16 := by have := HM.out; omega
      have hn1 : (17 * k + 1 + y.length) * 24 ≤ 140737488355328 := by omega
      have nSg : ¬ Sg g := fun h => by have := (HTWO.out.sg g h).1; have := HBG.out; omega
      have nSr : ¬ Sr g := fun h => by have := (HTWO.out.sr g h).1; have := HBG.out; omega
      have HSG : Hid (Calls Try.prog 13 #[.pointer (some ⟨p, 0, none⟩), mkC (x1, x2, x3), .slice a2 m cap2] wr.drew fun e w' => (∃ r, e = .returned r) ∧ GrAt w' (fun j => Sg j ∨ wr.heap.size ≤ j) p (17 * k + 1 + y.length) (putG (rowOf R) (x1, x2, x3) (onc y)) ∧ Trn Sg wr.drew w') := Lib.hid ((set_lst p (17 * k) Sg (rowOf R) (x1, x2, x3) HOX.out _ y w wr.drew (HTWO.out.g.kept (Kept.of_below (Below.refl _ _).drew)) (fun j hj => (HTWO.out.sg j hj).2) HLU.out HR.out.drew (fun j hj => (HTWO.out.sg j hj).1) HOY.out hn1).mono (by rintro e w' ⟨rfl, h1, h2⟩; exact ⟨⟨_, rfl⟩, h1, h2⟩))
      have HRS : Hid (∀ y1, Trn Sg wr y1 → Calls Try.prog 12 #[.pointer (some ⟨q, 0, none⟩), mkC (x1, x2, x3), .slice a2 m cap2] y1 fun e w' => e = .returned (.tuple #[]) ∧ RgAt w' (fun j => Sr j ∨ y1.heap.size ≤ j) q (setR R (x1, x2, x3) (onc y)) ∧ Trn Sr y1 w') := Lib.hid fun y1 h1 => rset_any q Sr R (x1, x2, x3) _ y w y1 (HTWO.out.r.kept (Kept.of_trn h1 fun j h2 h3 => HTWO.out.sd j h3 h2)) (fun j hj => (HTWO.out.sr j hj).1) (HR.out.trans (h1.below HR.out.size fun j hj => (HTWO.out.sg j hj).1)) HLU.out HTWO.out.nd (by have := HTWO.out.rl; omega) (by omega)
      unfold mkC at HSG HRS
      dsimp only at HSG HRS
      go_wp2_with fail
      refine wrt (T := Sg) (S := fun w' => Trn Sg wr w' ∧ w'.cell? ⟨g, o + k * 5 + 1, none⟩ = some (.int .i64 x1) ∧ w'.cell? ⟨g, o + k * 5 + 2, none⟩ = some (.int .i64 x2) ∧ w'.cell? ⟨g, o + k * 5 + 3, none⟩ = some (.int .i64 x3) ∧ w'.cell? ⟨g, o + k * 5 + 4, none⟩ = some (.slice a2 m cap2)) (by kernel_rfl) (fun w' hx => ⟨hx, hx.cell d1 hgr nSg, hx.cell d2 hgr nSg, hx.cell d3 hgr nSg, hx.cell d4 hgr nSg⟩) (fun HKP hHeld => ?_)
      refine tk 0 ?_
      refine tk 1 ?_
      refine tk 2 ?_
      refine tk 3 ?_
      refine tk 4 ?_
      refine tk 5 ?_
      refine tk 6 ?_
      refine tk 7 ?_
      refine tk 8 ?_
      refine tk 9 ?_
      refine tk 10 ?_
      refine rd1 11 (by kernel_rfl) rfl fun KX hK => ?_
      go_simp
      (go_at_call 13; refine HSG.out.mono ?_; rintro e y1 ⟨⟨r, rfl⟩, hg1, ht1⟩)
      try (go_wp2_with fail)
      have ht1' : Trn Sg wr y1 := ⟨ht1.os, ht1.tape, ht1.output, ht1.size, ht1.block⟩
      refine hK.out _ _ (HKP.out y1 ht1') (fun hHeld => ?_)
      clear hK KX HKP
      try simp only [pz]
      refine wpAnyH_done (by kernel_rfl) ?_ _
      clear hHeld
      have e1 := ht1'.cell d1 hgr nSg
      have e2 := ht1'.cell d2 hgr nSg
      have e3 := ht1'.cell d3 hgr nSg
      have e4 := ht1'.cell d4 hgr nSg
      have hgy := Nat.lt_of_lt_of_le hgr ht1'.size
      have HG1 := Lib.hid hg1
      have HT1 := Lib.hid ht1'
      clear d1 d2 d3 d4 hg1 ht1 ht1' HSG
      go_wp2_with fail
      refine wrt (T := Sr) (S := fun w' => Trn Sr y1 w' ∧ w'.cell? ⟨g, o + k * 5 + 1, none⟩ = some (.int .i64 x1) ∧ w'.cell? ⟨g, o + k * 5 + 2, none⟩ = some (.int .i64 x2) ∧ w'.cell? ⟨g, o + k * 5 + 3, none⟩ = some (.int .i64 x3) ∧ w'.cell? ⟨g, o + k * 5 + 4, none⟩ = some (.slice a2 m cap2)) (by kernel_rfl) (fun w' hx => ⟨hx, hx.cell e1 hgy nSr, hx.cell e2 hgy nSr, hx.cell e3 hgy nSr, hx.cell e4 hgy nSr⟩) (fun HKP hHeld => ?_)
      refine tk 0 ?_
      refine tk 1 ?_
      refine tk 2 ?_
      refine tk 3 ?_
      refine tk 4 ?_
      refine tk 5 ?_
      refine tk 6 ?_
      refine tk 7 ?_
      refine tk 8 ?_
      refine tk 9 ?_
      refine tk 10 ?_
      refine rd1 11 (by kernel_rfl) rfl fun KX hK => ?_
      go_simp
      (go_at_call 12; refine (HRS.out _ HT1.out.drew).mono ?_; rintro e y2 ⟨rfl, hr2, ht2⟩)
      try (go_wp2_with fail)
      have ht2' : Trn Sr y1 y2 := ⟨ht2.os, ht2.tape, ht2.output, ht2.size, ht2.block⟩
      refine hK.out _ _ (HKP.out y2 ht2') (fun hHeld => ?_)
      clear hK KX HKP
      try simp only [pz]
      refine wpAnyH_done (by kernel_rfl) ?_ _
      clear hHeld e1 e2 e3 e4
      go_wp2_with fail
      have hbl : Below w.heap.size w y2 := (HR.out.trans (HT1.out.below HR.out.size fun j hj => (HTWO.out.sg j hj).1)).trans (ht2'.below (Nat.le_trans HR.out.size HT1.out.size) fun j hj => (HTWO.out.sr j hj).1)
      exact ⟨⟨k + 1, by omega, by go_num, ⟨_, _, by rw [HRT.out]; exact (TwoG.setG HTWO.out HG1.out HT1.out hr2 ht2' (by omega)).mono (by omega)⟩, HSM2.out hym, hbl⟩, by simp [intOf]; omega⟩
    · obtain rfl : k = L := by omega
      clear hlt
      go_wp2_with fail
      refine bodyPost_ret (results_tmp3 rfl _ _ _) rfl ?_
      refine (show Po (.returned (.tuple #[.pointer (some ⟨p, 0, none⟩), .pointer (some ⟨q, 0, none⟩), .bool true])) wr from ?_)
      rw [HPO.out]
      have hf : okN N = true := by
        unfold okN
        rw [Bool.and_eq_true, List.all_eq_true]
        refine ⟨decide_eq_true (by rw [← HLL.out]; exact h16), fun a ha => ?_⟩
        obtain ⟨j, hj, rfl⟩ := List.getElem_of_mem ha
        exact decide_eq_true (HSM.out j hj (by rw [HLL.out]; exact hj))
      exact ⟨p, q, 17 * k, R, Sg, Sr, by rw [hf], HTWO.out, by omega, fun _ => by rw [HRR.out, List.take_of_length_le (by rw [HLL.out]; exact Nat.le_refl _)], HR.out⟩
end Go.Proofs.Ytjjpfddgcilliaa
namespace Go.Proofs.Ytjjpfddgcilliaa
open Go.RowKit Go.Shelf Go.Sort Go.Lib Go.Maps

/-- what is told so far, behind i rounds: P was looked through; Q: cells with formulas in it. -/
structure LdI (N : Ce → List Ce) (K : List Ce) (x : Ce) (i : Nat) (S : List Ce) : Prop where
  nd : S.Nodup
  sub : ∀ z ∈ N x, z ∈ S
  snd : ∀ z ∈ S, ∃ y ∈ N x, Rt (fun a b => b ∈ N a) y z
  cnt : ∃ P Q : List Ce, (∀ z ∈ P, z ∈ S) ∧ (∀ z ∈ P, ∀ y ∈ N z, y ∈ S) ∧ Q.Nodup ∧ Q.length = i ∧ ∀ z ∈ Q, z ∈ P ∧ z ∈ K
section
variable {N : Ce → List Ce} {K S : List Ce} {x : Ce} {i : Nat}
theorem LdI.start (h : (N x).Nodup) : LdI N K x 0 (N x) where
  nd := h
  sub := fun z hz => hz
  snd := fun z hz => ⟨z, hz, .refl _⟩
  cnt := ⟨[], [], fun z hz => (by cases hz), fun z hz => (by cases hz), List.nodup_nil, rfl, fun z hz => (by cases hz)⟩
theorem LdI.len (h : LdI N K x i S) : i ≤ K.length := by
  obtain ⟨P, Q, _, _, h3, h4, h5⟩ := h.cnt
  rw [← h4]
  exact nodup_len h3 fun z hz => (h5 z hz).2
/-- one round more. -/
def ldN (N : Ce → List Ce) (S : List Ce) : List Ce := onc (S ++ S.flatMap N)
theorem mem_ldN {z : Ce} : z ∈ ldN N S ↔ z ∈ S ∨ ∃ y ∈ S, z ∈ N y := by
  unfold ldN
  rw [mem_onc, List.mem_append, List.mem_flatMap]
theorem ldN_nd : (ldN N S).Nodup := srt_nodup (srt_onc _)
theorem LdI.snd' (h : LdI N K x i S) : ∀ z ∈ ldN N S, ∃ y ∈ N x, Rt (fun a b => b ∈ N a) y z := fun z hz => by
  rcases mem_ldN.1 hz with h1 | ⟨y, h1, h2⟩
  · exact h.snd z h1
  · obtain ⟨u, h3, h4⟩ := h.snd y h1
    exact ⟨u, h3, .tail h4 h2⟩
theorem LdI.next (hK : ∀ z y, y ∈ N z → z ∈ K) (h : LdI N K x i S) (hne : (ldN N S).length ≠ S.length) : LdI N K x (i + 1) (ldN N S) := by
  obtain ⟨P, Q, h1, h2, h3, h4, h5⟩ := h.cnt
  have hex : ∃ z ∈ ldN N S, z ∉ S := by
    apply Classical.byContradiction
    intro hno
    have ha : (ldN N S).length ≤ S.length := nodup_len ldN_nd fun z hz => Classical.byContradiction fun hzs => hno ⟨z, hz, hzs⟩
    have hb : S.length ≤ (ldN N S).length := nodup_len h.nd fun z hz => mem_ldN.2 (Or.inl hz)
    omega
  obtain ⟨z, hz, hzs⟩ := hex
  obtain ⟨y, hy, hzy⟩ := (mem_ldN.1 hz).resolve_left hzs
  have hyP : y ∉ P := fun hp => hzs (h2 y hp z hzy)
  refine ⟨ldN_nd, fun z hz => mem_ldN.2 (Or.inl (h.sub z hz)), h.snd', ⟨S, Q ++ [y], fun z hz => mem_ldN.2 (Or.inl hz), fun z hz u hu => mem_ldN.2 (Or.inr ⟨z, hz, hu⟩), ?_, by simp [h4], fun u hu => ?_⟩⟩
  · rw [List.nodup_append]
    exact ⟨h3, by simp, fun a ha b hb e => by
      rw [List.mem_singleton.1 hb] at e
      exact hyP (e ▸ (h5 a ha).1)⟩
  · rcases List.mem_append.1 hu with hu | hu
    · exact ⟨h1 u (h5 u hu).1, (h5 u hu).2⟩
    · rw [List.mem_singleton.1 hu]
      exact ⟨hy, hK y z hzy⟩
theorem LdI.stop (h : LdI N K x i S) (he : (ldN N S).length = S.length) (z : Ce) : z ∈ ldN N S ↔ ∃ y ∈ N x, Rt (fun a b => b ∈ N a) y z := by
  have hback : ∀ u ∈ ldN N S, u ∈ S := fun u hu => Classical.byContradiction fun hus => by
    have hn : (S ++ [u]).Nodup := by
      rw [List.nodup_append]
      exact ⟨h.nd, by simp, fun a ha b hb e => by
        rw [List.mem_singleton.1 hb] at e
        exact hus (e ▸ ha)⟩
    have := nodup_len hn fun v hv => (by
      rcases List.mem_append.1 hv with hv | hv
      · exact mem_ldN.2 (Or.inl hv)
      · rw [List.mem_singleton.1 hv]; exact hu : v ∈ ldN N S)
    rw [List.length_append, List.length_singleton] at this
    omega
  refine ⟨h.snd' z, fun ⟨y, hy, hr⟩ => mem_ldN.2 (Or.inl ?_)⟩
  exact hr.closed (P := fun u => u ∈ S) (fun a b ha hab => hback b (mem_ldN.2 (Or.inr ⟨a, ha, hab⟩))) (h.sub y hy)
theorem LdI.one (h : LdI N K x i S) : ∀ z ∈ S, ∃ a, z ∈ N a := fun z hz => by
  obtain ⟨y, hy, hr⟩ := h.snd z hz
  cases hr with
  | refl => exact ⟨x, hy⟩
  | tail _ h => exact ⟨_, h⟩
end
end Go.Proofs.Ytjjpfddgcilliaa
