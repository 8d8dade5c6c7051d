/-
  CIRCLES: all parts of a graph (scc.Of), walked.
-/
import Derived.Test.YtjjpfddgcilliaaSccd
set_option linter.unusedSimpArgs false
set_option linter.unusedVariables false
namespace Go.Proofs.Ytjjpfddgcilliaa
open Go.RowKit Go.Shelf Go.Sort Go.Lib Go.Maps
set_option maxRecDepth 100000
attribute [local go_sem] Oper.semAt_some

theorem Try.infoLs : (Try.prog.info? 30).map (fun i => (i.zero, i.size, i.bytes)) = some (some (.slice none 0 0), 1, 24) := by kernel_rfl
/-- one list more, at a step of a drawn region. -/
theorem step_append_part {ops : Array Oper} {o : Oper} {a : Act} {W : World} {KK : Act → World → Prop} {Q : Exit → Act → World → Prop} {E : Prop} (hgd : o.guard = none) (s x : Operand)
    (ho : o.op = .call { callee := .builtin .append, args := #[s, x], argTypes := #[46, 46] }) (B n : Nat) (v y : Value) (xs : List Value) (hs : a.eval s = v) (hown : W.ownsRow B 30 1 v n xs) {g c : Nat} (hx : a.eval x = .slice (some ⟨g, 0, none⟩) 1 c) (hc : W.cell? ⟨g, 0, none⟩ = some y) (h1 : y.oneCell' = true)
    (hb : (n + 1) * 24 ≤ 140737488355328) (hB : B ≤ W.heap.size)
    (h : ∀ v' w', w'.ownsRow B 30 1 v' (n + 1) (xs ++ [y]) → W.grownBy w' v.ownBlock → (v'.ownBlock = v.ownBlock ∨ v'.ownBlock = some W.heap.size) → KK (a.put o.dst v') w') : if Region.wanted o (yielded ops a.tmps) = true then Oper.wp Try.prog o a W KK Q else E := by
  have hw : Region.wanted o (yielded ops a.tmps) = true := by simp [Region.wanted, hgd]
  rw [if_pos hw]
  obtain ⟨i0, hi, hz0, hz1, hz2⟩ := info_parts Try.infoLs
  have hml : n + 1 ≤ maxLen := by unfold maxLen; omega
  obtain ⟨v', w', hr, h2, h3, _, h4⟩ := run_append_own_at (P := Try.prog) W B _ o.type _ i0 _ 1 24 Try.underlying46 hi hz0 hz1 hz2 rfl (by decide) v _ _ hown ⟨g, 0, none⟩ 1 c [y] rfl (fun j u hj => by
    match j, hj with
    | 0, hj => simp at hj; subst hj; exact hc) (fun u hu => by rw [List.mem_singleton.1 hu]; exact h1) hml hb hB
  unfold Oper.wp execOp
  simp only [ho, resolve, invoke, builtin, Sem.run_bind, Sem.run_pure, Result.andThen_ok, List.map_toArray, List.map_cons, List.map_nil, hs, hx]
  rw [hr]
  exact h v' w' h2 h3 h4
theorem roundC_held {P : Program} {ops : Array Oper} {Q : Exit → Act → World → Prop} {S : World → Prop} {lr m id : Nat} {a : Act} {w : World} (hm : P.follows .mixedOrders = true) (hS : S w.drew) (hnd : noDefer ops.toList = true) (hno : ¬ LetsOut Q)
    (h : S w.drew → wpAnyH P .any ops Q S ops.size (Array.replicate ops.size false) a w.drew) : (Code.region id ops true).wpIn (Fence.wide.inRound lr) m P Q a w :=
  wpIn_region_any hm (wpAny_round hnd hno _ _ _ _ (wpAny_of_held _ _ _ _ (h hS)))
theorem listIn_roundC {P : Program} {ops : Array Oper} {Q : Exit → Act → World → Prop} {lr m : Nat} (hno : ¬ LetsOut Q) : ∀ (l : List Oper) (a : Act) (w : World), noDefer l = true → wpList P ops Q l a w → wpListIn (Fence.wide.inRound lr) m P ops Q l a w
  | [], _, _, _, h => h
  | o :: l, a, w, hnd, h => by
    unfold wpListIn
    unfold wpList at h
    have hn : (∀ c, o.op ≠ .defer c) ∧ noDefer l = true := ⟨noDefer_spec hnd (List.mem_cons_self ..), by
      unfold noDefer at hnd ⊢; rw [List.all_cons, Bool.and_eq_true] at hnd; exact hnd.2⟩
    split
    · rename_i hw
      rw [if_pos hw] at h
      rcases h with h | h
      · exact oper_round hn.1 (Oper.wp_mono (fun a' w' h' => listIn_roundC hno l a' w' hn.2 h') h)
      · exact absurd h.2 hno
    · rename_i hw
      rw [if_neg hw] at h
      exact ⟨fun _ _ => trivial, listIn_roundC hno l _ _ hn.2 h⟩
/-- parts, sorted. -/
theorem sortA_any (n : Nat) (v : Value) (Z : List (Value × List Ce)) (w : World) (hZ : PsAt w n v Z) (hsz : Z.length < 4611686018427387904) :
    Calls Try.prog 55 #[v, .func (.func 56) #[] #[]] w fun e w' =>
      e = .returned (.tuple #[]) ∧ ∃ Z', Z'.Perm Z ∧ PsAt w' n v Z' ∧ Z'.Pairwise (fun p q => cLt (hdC q.2) (hdC p.2) = false) ∧ w.grownBy w' v.ownBlock := by
  by_cases h0 : Z = []
  · subst h0
    obtain ⟨al, cl, rfl⟩ : ∃ a c, v = .slice a 0 c := by
      rcases hZ.r.2 with ⟨h, _⟩ | ⟨g, cap, cur, h, _⟩
      · exact ⟨_, _, h⟩
      · exact ⟨_, _, h⟩
    have h := AnyF.slices_SortFunc_none (ρ := Try.sortP_ren) { Try.sortP with } al cl (.func (.func 56) #[] #[]) w
    change Calls Try.prog 55 _ _ _ at h
    refine h.mono ?_
    rintro e w' ⟨rfl, rfl⟩
    exact ⟨rfl, [], .refl _, hZ, .nil, World.grownBy.refl _ _⟩
  · obtain ⟨g, cap, rfl, _, _⟩ := hZ.r.form (List.length_pos_iff.2 h0)
    exact sortP_any n g cap Z w hZ h0 hsz
theorem PsAt.own {W W1 : World} {B : Nat} {v : Value} {Z : List (Value × List Ce)} {row : Option Nat} (h : PsAt W B v Z) (hg : W.grownBy W1 row) (hr : ∀ r, row = some r → ∃ o, W.heap[r]? = some o ∧ o.isCells = false) : PsAt W1 B v Z where
  r := row_far h.r hg fun j hj e => by
    obtain ⟨o, h1, h2⟩ := hr j e
    rw [ownsRow_cells h.r hj h1] at h2; cases h2
  e := fun p hp => by
    obtain ⟨a, b, c, d⟩ := h.e p hp
    refine ⟨a.kept hg.size fun k cs t f _ hc => hg.block k (Array.getElem?_eq_some_iff.1 hc).1 fun e => ?_, b, c, d⟩
    obtain ⟨o, h1, h2⟩ := hr k e.symm
    rw [hc] at h1; cases h1; cases h2
theorem PsAt.mono {W : World} {B B' : Nat} {v : Value} {Z : List (Value × List Ce)} (h : PsAt W B v Z) (hb : B' ≤ B) : PsAt W B' v Z := ⟨h.r.mono hb, fun p hp => by
  obtain ⟨a, b, c, d⟩ := h.e p hp
  exact ⟨a, b, c, fun j hj => ⟨Nat.le_trans hb (d j hj).1, (d j hj).2⟩⟩⟩
/-- what the round has left as it was: all but the box of the parts, the set, the list of the parts; and these. -/
structure KoV (n0 : Nat) (vp : Value) (A B : World) : Prop where
  size : A.heap.size ≤ B.heap.size
  blk : ∀ k, k < A.heap.size → k ≠ n0 + 1 → k ≠ n0 + 2 → vp.ownBlock ≠ some k → B.heap[k]? = A.heap[k]?
  q : Boxed B (n0 + 1) 46 vp
structure KoW (n0 m N : Nat) (xs : List Value) (vp : Value) (A B : World) : Prop where
  v : KoV n0 vp A B
  r : B.ownsRow m 30 1 vp N xs
section
variable {n0 m N : Nat} {xs : List Value} {vp : Value} {A B C : World}
theorem KoV.cell (h : KoV n0 vp A B) {k j : Nat} {v : Value} (hA : A.cell? ⟨k, j, none⟩ = some v) (h0 : k < A.heap.size) (h1 : k ≠ n0 + 1) (h2 : k ≠ n0 + 2) (h3 : vp.ownBlock ≠ some k) : B.cell? ⟨k, j, none⟩ = some v := (World.cell?_of_block (a := ⟨k, j, none⟩) (h.blk k h0 h1 h2 h3)).trans hA
theorem KoV.set (h : KoV n0 vp A B) (u : Value) {k j : Nat} {v : Value} (hA : A.cell? ⟨k, j, none⟩ = some v) (h0 : k < A.heap.size) (h1 : k ≠ n0 + 1) (h2 : k ≠ n0 + 2) (h3 : vp.ownBlock ≠ some k) : (B.setCell ⟨n0 + 1, 0, none⟩ u).cell? ⟨k, j, none⟩ = some v :=
  (World.cell?_of_block (a := ⟨k, j, none⟩) ((grownBy_setCell' B (n0 + 1) u).block k (Nat.lt_of_lt_of_le h0 h.size) fun e => h1 (Option.some.inj e))).trans (h.cell hA h0 h1 h2 h3)
theorem KoW.below (h : KoW n0 m N xs vp A B) (hb : Below B.heap.size B C) : KoW n0 m N xs vp A C :=
  ⟨⟨Nat.le_trans h.v.size hb.size, fun k h0 h1 h2 h3 => (hb.block k (Nat.lt_of_lt_of_le h0 h.v.size)).trans (h.v.blk k h0 h1 h2 h3), (hb.block _ h.v.q.lt).trans h.v.q⟩, row_below h.r hb⟩
theorem KoW.trn (h : KoW n0 m N xs vp A B) (hm : n0 + 4 ≤ m) (hb : Trn (fun k => k = n0 + 2) B C) : KoW n0 m N xs vp A C :=
  ⟨⟨Nat.le_trans h.v.size hb.size, fun k h0 h1 h2 h3 => (hb.block k (Nat.lt_of_lt_of_le h0 h.v.size) h2).trans (h.v.blk k h0 h1 h2 h3), (hb.block _ h.v.q.lt (by omega)).trans h.v.q⟩,
    row_far (row := some (n0 + 2)) h.r ⟨hb.os, hb.tape, hb.output, hb.size, fun k hk hne => hb.block k hk fun e => hne (by rw [e])⟩ fun j hj e => by have := (h.r.lt j hj).1; have := Option.some.inj e; omega⟩
theorem KoW.row (h : KoW n0 m N xs vp A B) (hm : n0 + 4 ≤ m) (hg : B.grownBy C vp.ownBlock) : KoV n0 vp A C :=
  ⟨Nat.le_trans h.v.size hg.size, fun k h0 h1 h2 h3 => (hg.block k (Nat.lt_of_lt_of_le h0 h.v.size) fun e => h3 e.symm).trans (h.v.blk k h0 h1 h2 h3), h.v.q.kept hg fun e => by have := (h.r.lt _ e.symm).1; omega⟩
theorem ownsRow_ne {W : World} {base : Nat} {e t : TypeId} {size n : Nat} {v : Value} {xs : List Value} (h : W.ownsRow base e size v n xs) {g : Nat} {cs : Array Value} {f : Nat × Nat} (hg : W.heap[g]? = some (.cells cs t f)) (hne : t ≠ e) : v.ownBlock ≠ some g := fun hj => by
  rcases h.2 with ⟨hv, _⟩ | ⟨g', cap, cur, hv, _, hgg, _⟩
  · rw [hv] at hj; cases hj
  · rw [hv] at hj; cases hj
    rw [hgg] at hg; cases hg; exact hne rfl
end
/-- what the loop keeps. -/
def OfI (p B : Nat) (K F : List Ce) (E : Ce → Ce → Prop) (w : World) (pre : List (Fin F.length)) (W : World) : Prop :=
  ∃ vp Z D s, OfM w.heap.size p B K vp Z D s W ∧ Z.length ≤ pre.length ∧ (pre = (List.finRange F.length).take pre.length → LgO E K F pre.length s Z) ∧ Below w.heap.size w W ∧ B ≤ W.heap.size
theorem OfI.own (p B : Nat) (K F : List Ce) (E : Ce → Ce → Prop) (w : World) : OwnFrom B (OfI p B K F E w) := fun pre X Y row ⟨vp, Z, D, s, h1, h2, h3, h4, h5⟩ hg hr => by
  have := h1.lo
  refine ⟨vp, Z, D, s, h1.own hg hr, h2, h3, h4.grown hg h4.size fun k hk => ?_, Nat.le_trans h5 hg.size⟩
  have := (hr k hk).1
  omega
/-- the round's own cell. -/
def OfA (F : List Ce) (Fr : Fin F.length → Ce → Nat → Array Value) (B : Nat) (x : Fin F.length) (a' : Act) (W : World) : Prop :=
  ∃ (y : Ce) (g : Nat), y = F[F.length - 1 - x.1]'(by have := x.2; omega) ∧ a' = { tmps := Fr x y g, defers := [] } ∧ W.heap[g]? = some (.cells #[.int .i64 y.1, .int .i64 y.2.1, .int .i64 y.2.2] 32 (0, 0)) ∧ B ≤ g
theorem OfA.own (F : List Ce) (Fr : Fin F.length → Ce → Nat → Array Value) (B : Nat) {β : Type} (x : Fin F.length) (a' : Act) : OwnFrom B (fun _ : β => OfA F Fr B x a') := fun _ X Y row ⟨y, g, h1, h2, h3, h4⟩ hg hr =>
  ⟨y, g, h1, h2, (hg.block g (Array.getElem?_eq_some_iff.1 h3).1 (fun e => by obtain ⟨_, o, ho, hc⟩ := hr g e.symm; rw [h3] at ho; cases ho; cases hc)).trans h3, h4⟩
/-- the parts that are told. -/
def OfPost (n0 : Nat) (E : Ce → Ce → Prop) (K : List Ce) (w : World) (e : Ending) (w' : World) : Prop := (∃ v Z, e = .returned v ∧ PsAt w' n0 v Z ∧ Z.map Prod.snd = partsL E K) ∧ Below n0 w w'
set_option maxHeartbeats 16000000 in
theorem of_any (p n : Nat) (S : Nat → Prop) (G : Ce → Option (List Ce)) (K : List Ce) (hK : KeysG G K) (w : World) (h : GrAt w S p n G) (hS : ∀ k, S k → k < w.heap.size) (hn : n ≤ 100000) (hKl : K.length ≤ 100000) :
    Calls Try.prog 21 #[.pointer (some ⟨p, 0, none⟩)] w (OfPost w.heap.size (ldG G) K w) := by
  obtain ⟨Po, hPo⟩ : ∃ Po, Po = OfPost w.heap.size (ldG G) K w := ⟨_, rfl⟩
  rw [← hPo]
  have HPO := Lib.hid hPo
  have HG := Lib.hid h
  have HK := Lib.hid hK
  have HS := Lib.hid hS
  have HN := Lib.hid hn
  have HKL := Lib.hid hKl
  have HFI : Hid (∀ W, Below w.heap.size w W → Calls Try.prog 52 #[.pointer (some ⟨p, 0, none⟩)] W fun e w' => (∃ v F, e = .returned v ∧ CsNew w' W.heap.size v F ∧ F.Nodup ∧ FinP (ldG G) F ∧ ∀ z, z ∈ F ↔ z ∈ K) ∧ Below W.heap.size W w') := Lib.hid fun W hW => finished_any p n S G K hK W (h.kept (Kept.of_below hW)) (fun k hk => Nat.lt_of_lt_of_le (hS k hk) hW.size) hn hKl
  clear hPo h hK hS hn hKl
  have hmm := @run_makeMap Try.prog
  obtain ⟨wc, hwc⟩ : ∃ x, x = (((w.alloc (.cells #[.pointer (some ⟨p, 0, none⟩)] 24)).alloc (.cells #[.slice none 0 0] 46)).alloc (.map #[] 0)).alloc (.cells #[.map (some (w.heap.size + 1 + 1))] 77) := ⟨_, rfl⟩
  have zc : wc.heap.size = w.heap.size + 1 + 1 + 1 + 1 := by rw [hwc]; simp
  have HBC : Hid (Below w.heap.size w wc) := Lib.hid (by rw [hwc]; exact ((((Below.refl _ w).alloc (Nat.le_refl _) _).alloc (by simp) _).alloc (by simp; omega) _).alloc (by simp; omega) _)
  have kG : Boxed wc w.heap.size 24 (.pointer (some ⟨p, 0, none⟩)) := by rw [hwc]; exact (((Boxed.new w _ _).alloc _).alloc _).alloc _
  have kQ : Boxed wc (w.heap.size + 1) 46 (.slice none 0 0) := by
    have h := Boxed.new (w.alloc (.cells #[.pointer (some ⟨p, 0, none⟩)] 24)) 46 (.slice none 0 0)
    rw [World.size_alloc] at h
    rw [hwc]; exact (h.alloc _).alloc _
  have kT : Boxed wc (w.heap.size + 3) 77 (.map (some (w.heap.size + 2))) := by
    have h := Boxed.new (((w.alloc (.cells #[.pointer (some ⟨p, 0, none⟩)] 24)).alloc (.cells #[.slice none 0 0] 46)).alloc (.map #[] 0)) 77 (.map (some (w.heap.size + 2)))
    rw [World.size_alloc, World.size_alloc, World.size_alloc] at h
    rw [hwc]; exact h
  have kM : MapAt wc (w.heap.size + 2) 0 (setF fun _ => false) := by
    have h := made_set ((w.alloc (.cells #[.pointer (some ⟨p, 0, none⟩)] 24)).alloc (.cells #[.slice none 0 0] 46))
    rw [World.size_alloc, World.size_alloc] at h
    rw [hwc]; exact h.below ((Below.refl _ _).alloc (Nat.le_refl _) _)
  have KG := Lib.hid kG
  have KQ := Lib.hid kQ
  have KT := Lib.hid kT
  have KM := Lib.hid kM
  have HWC := Lib.hid hwc
  clear kG kQ kT kM hwc
  refine (callsIn_wide (n := 3)).1 ?_
  refine callsIn_of_wp_marks Try.func21 rfl trivial ?_ rfl
  simp only [Try.ntmps21, List.size_toArray, List.length_cons, List.length_nil, Nat.reduceAdd, Nat.reduceSub, Array.replicate_succ, Array.replicate_zero, List.push_toArray, List.append_toArray, List.nil_append, List.cons_append]
  gi_wp2_with (refine ⟨trivial, ?_⟩; first | (gi_at_call 52; rw [← HWC.out]; refine (callsIn_wide.2 (HFI.out wc HBC.out)).mono ?_; rintro e wd ⟨⟨v, F, rfl, hv, hnd, hf, hFK⟩, hbd⟩; obtain ⟨bn, cn, rfl, _⟩ := hv.1.shape; have HV := Lib.hid hv; have HND := Lib.hid hnd; have HF := Lib.hid hf; have HFK := Lib.hid hFK; have HBD := Lib.hid hbd; clear hv hnd hf hFK hbd) | (gi_at_call 51; refine (backwardC_in _ _ _ _ _).mono ?_; rintro e w' ⟨rfl, rfl⟩))
  obtain ⟨we, hwe⟩ : ∃ x, x = wd.alloc (.cells #[.slice bn F.length cn] 30) := ⟨_, rfl⟩
  have ze : we.heap.size = wd.heap.size + 1 := by rw [hwe, World.size_alloc]
  have zcd := HBD.out.size
  have hbe : Below wd.heap.size wd we := by rw [hwe]; exact (Below.refl _ wd).alloc (Nat.le_refl _) _
  have hbce : Below wc.heap.size wc we := HBD.out.trans (hbe.mono zcd)
  have hbwe : Below w.heap.size w we := HBC.out.trans (hbce.mono HBC.out.size)
  have kC := Boxed.new wd 30 (.slice bn F.length cn)
  rw [← hwe] at kC
  have hM0 : OfM w.heap.size p we.heap.size K (.slice none 0 0) [] [] (fun _ => false) we := ⟨(hbce.block _ KG.out.lt).trans KG.out, (hbce.block _ KQ.out.lt).trans KQ.out, (hbce.block _ KT.out.lt).trans KT.out, KM.out.below hbce, ⟨World.ownsRow_nil _ _ _ _, fun q hq => (by cases hq)⟩, List.nodup_nil, fun z hz => (by cases hz), fun z => ⟨fun h => (by cases h), fun h => (by cases h)⟩, by omega⟩
  have hFl : F.length ≤ 100000 := Nat.le_trans (nodup_len HND.out fun z hz => (HFK.out z).1 hz) HKL.out
  have hseq := backwardC_stops 2 (by omega) wd.heap.size we.heap.size (fun k => k = w.heap.size + 1 ∨ k = w.heap.size + 2) F bn cn hFl we (by omega) (by omega) (by omega) kC.cell (HV.out.1.below hbe) (fun j hj => by
    have h1 := HV.out.2 j hj
    have h2 := HV.out.1.lt hj
    exact ⟨by omega, by omega⟩)
  rw [← hwe]
  have HW0 := Lib.hid hbwe
  have HZ := Lib.hid (show w.heap.size + 4 ≤ we.heap.size by omega)
  have HOKK : Hid (∀ y ∈ K, okC y) := Lib.hid fun y hy => (HG.out.okK HK.out y hy).1
  clear hbe hbce hbwe kC hwe zcd ze KG KQ KT KM HWC HFI hmm
  refine wpIn_rangeFunc_ownH rfl (by omega) (gf := 75) (lb := #[.pointer (some ⟨wd.heap.size, 0, none⟩)]) rfl trivial (enters_of Try.func75 (by kernel_rfl) rfl)
    hseq KpT.trans (kpT_b (Nat.le_refl _)) (Below.refl _ _) (fun _ => rfl)
    (OfI p we.heap.size K F (ldG G) w) (fun _ _ _ => False) (OfI.own _ _ _ _ _ _) (fun _ _ _ _ _ h _ _ => h)
    ⟨_, _, _, _, hM0, Nat.le_refl _, fun _ => LgO.made, HW0.out, Nat.le_refl _⟩
    (OfA F (fun x y g => #[.pointer (some ⟨p, 0, none⟩), .pointer (some ⟨w.heap.size, 0, none⟩), .slice none 0 0, .pointer (some ⟨w.heap.size + 1, 0, none⟩), .pointer (some ⟨w.heap.size + 1 + 1 + 1, 0, none⟩), undef, .pointer (some ⟨g, 0, none⟩), .map (some (w.heap.size + 1 + 1)), .pointer (some ⟨p, 0, none⟩), .slice bn F.length cn, .func (.func 75) #[] #[.pointer (some ⟨wd.heap.size, 0, none⟩)], .int .i64 ((F.length - 1 - x.1 : Nat) : Int), mkC y, undef, undef, undef, undef, undef, undef, undef, undef, undef, undef, undef, undef, undef, undef, undef, undef, undef]) we.heap.size) (OfA.own _ _ _) ?assign ?body ?done ?stop
  case assign =>
    clear hseq hM0 hFl
    intro l pre x W KK hi hKK
    obtain ⟨y, hy⟩ : ∃ y, y = F[F.length - 1 - x.1]'(by have := x.2; omega) := ⟨_, rfl⟩
    have hbk : bkC F x = #[.int .i64 ((F.length - 1 - x.1 : Nat) : Int), mkC y] := by rw [hy]; rfl
    rw [hbk]
    have hBW : we.heap.size ≤ W.heap.size := by obtain ⟨_, _, _, _, _, _, _, _, h⟩ := hi; exact h
    obtain ⟨y1, y2, y3⟩ := y
    unfold mkC at *
    dsimp only
    gi_wp2
    exact hKK _ _ (KeepsFrom.of_grownBy (World.grownBy_alloc W _ none) (fun j e => by cases e)) (fun k hk _ => ((Below.refl _ W).alloc (Nat.le_refl _) _).block k (by omega)) (OfI.own _ _ _ _ _ _ pre W _ none hi (World.grownBy_alloc W _ none) (fun r e => by cases e)) ⟨(y1, y2, y3), W.heap.size, hy, rfl, World.alloc_heap_new W _, hBW⟩
  case body =>
    clear hseq hM0
    rintro l pre x a' W _ _ ⟨vp, Z, D, s, hM, hZl, hLg, hbW, hBW⟩ ⟨y, g, hy, rfl, hgb, hg⟩ hlt
    have hyK : y ∈ K := (HFK.out y).1 (by rw [hy]; exact List.getElem_mem _)
    have HY := Lib.hid hy
    have HYK := Lib.hid hyK
    have HOY := Lib.hid (HOKK.out y hyK)
    have HM := Lib.hid hM
    have HZL := Lib.hid hZl
    have HLG := Lib.hid hLg
    have HBW := Lib.hid hbW
    have HLT := Lib.hid hlt
    obtain ⟨sb, hsb⟩ : ∃ sb, sb = s y := ⟨_, rfl⟩
    have HSY : Hid (∀ V, Below W.heap.size W V → Calls Try.prog 53 #[.map (some (w.heap.size + 1 + 1)), mkC y] V fun e w' => e = .returned (.bool sb) ∧ Below V.heap.size V w') := Lib.hid fun V hV => by rw [hsb]; exact cellsHas_any _ _ s y HOY.out V (hM.m.below hV)
    have HSB := Lib.hid hsb
    have HGP : Hid (∀ V, Below w.heap.size w V → GrAt V S p n G) := Lib.hid fun V hV => HG.out.kept (Kept.of_below hV)
    obtain ⟨y1, y2, y3⟩ := y
    unfold mkC at *
    dsimp only at HSY hgb ⊢
    have kT : W.cell? ⟨w.heap.size + 1 + 1 + 1, 0, none⟩ = some (.map (some (w.heap.size + 1 + 1))) := hM.t.cell
    obtain ⟨kB0, kB1, kB2⟩ := three_cells' hgb
    have zT : w.heap.size + 1 + 1 + 1 < W.heap.size := hM.t.lt
    have HGB := Lib.hid hgb
    clear hy hyK hM hZl hLg hbW hlt hsb hgb
    cases sb
    · gi_wp2_with (refine listIn_roundC (fun ⟨_, _, hf⟩ => hf) _ _ _ (by kernel_rfl) ?_; go_wp2_with (go_at_call 53; refine (HSY.out _ (Below.refl _ _)).mono ?_; rintro e wb ⟨rfl, hbb⟩; have HBB := Lib.hid hbb; clear hbb))
      have HM2 := Lib.hid (HM.out.below HBB.out)
      have zbW := HBB.out.size
      have hlo := HZ.out
      have zg : g < wb.heap.size := Nat.lt_of_lt_of_le (Array.getElem?_eq_some_iff.1 HGB.out).1 zbW
      have zP := HM2.out.g.lt
      have zQ := HM2.out.q.lt
      have zT2 := HM2.out.t.lt
      have hgb2 := (HBB.out.block g (Array.getElem?_eq_some_iff.1 HGB.out).1).trans HGB.out
      obtain ⟨b0, b1, b2⟩ := three_cells' hgb2
      have nv : ∀ k, k < we.heap.size → vp.ownBlock ≠ some k := fun k hk e => by have := (HM2.out.ps.r.lt k e).1; omega
      have ng : vp.ownBlock ≠ some g := ownsRow_ne HM2.out.ps.r hgb2 (by decide)
      have kP : wb.cell? ⟨w.heap.size, 0, none⟩ = some (.pointer (some ⟨p, 0, none⟩)) := HM2.out.g.cell
      have kT3 : wb.cell? ⟨w.heap.size + 1 + 1 + 1, 0, none⟩ = some (.map (some (w.heap.size + 1 + 1))) := HM2.out.t.cell
      have HS5 : Hid (∀ w', KoV w.heap.size vp wb w' → w'.cell? ⟨w.heap.size, 0, none⟩ = some (.pointer (some ⟨p, 0, none⟩)) ∧ w'.cell? ⟨g, 0, none⟩ = some (.int .i64 y1) ∧ w'.cell? ⟨g, 1, none⟩ = some (.int .i64 y2) ∧ w'.cell? ⟨g, 2, none⟩ = some (.int .i64 y3) ∧ w'.cell? ⟨w.heap.size + 1 + 1 + 1, 0, none⟩ = some (.map (some (w.heap.size + 1 + 1)))) := Lib.hid fun w' h => ⟨h.cell kP zP (by omega) (by omega) (nv _ (by omega)), h.cell b0 zg (by omega) (by omega) ng, h.cell b1 zg (by omega) (by omega) ng, h.cell b2 zg (by omega) (by omega) ng, h.cell kT3 zT2 (by omega) (by omega) (nv _ (by omega))⟩
      have HS6 : Hid (∀ V u, KoV w.heap.size vp wb V → (fun w' => w'.cell? ⟨w.heap.size, 0, none⟩ = some (.pointer (some ⟨p, 0, none⟩)) ∧ w'.cell? ⟨g, 0, none⟩ = some (.int .i64 y1) ∧ w'.cell? ⟨g, 1, none⟩ = some (.int .i64 y2) ∧ w'.cell? ⟨g, 2, none⟩ = some (.int .i64 y3) ∧ w'.cell? ⟨w.heap.size + 1 + 1 + 1, 0, none⟩ = some (.map (some (w.heap.size + 1 + 1)))) (V.setCell ⟨w.heap.size + 1, 0, none⟩ u)) := Lib.hid fun V u h => ⟨h.set u kP zP (by omega) (by omega) (nv _ (by omega)), h.set u b0 zg (by omega) (by omega) ng, h.set u b1 zg (by omega) (by omega) ng, h.set u b2 zg (by omega) (by omega) ng, h.set u kT3 zT2 (by omega) (by omega) (nv _ (by omega))⟩
      have HDL : Hid (D.length ≤ 100000) := Lib.hid (Nat.le_trans (nodup_len HM2.out.nd HM2.out.dk) HKL.out)
      have HRF : Hid (∀ V, Below wb.heap.size wb V → Calls Try.prog 54 #[.pointer (some ⟨p, 0, none⟩), .agg #[.int .i64 y1, .int .i64 y2, .int .i64 y3], .func (.func 17) #[.pointer (some ⟨p, 0, none⟩)] #[], .map (some (w.heap.size + 1 + 1))] V fun e w' => ∃ v l s1, e = .returned v ∧ CsNew w' V.heap.size v l ∧ l.Nodup ∧ (∀ z, z ∈ l ↔ Rt (Ev (fun x y => ldG G y x) s) (y1, y2, y3) z) ∧ MapAt w' (w.heap.size + 2) (D.length + l.length) (setF s1) ∧ (∀ z, s1 z = true ↔ s z = true ∨ z ∈ l) ∧ Trn (fun k => k = w.heap.size + 2) V w') := Lib.hid fun V hV => reachF_any p n S G K HK.out (y1, y2, y3) HYK.out _ _ s V (HGP.out V ((HBW.out.trans (HBB.out.mono HBW.out.size)).trans (hV.mono (by omega)))) (fun h => by have := HS.out _ h; omega) HN.out HKL.out HDL.out (HM2.out.m.below hV) HSB.out.symm
      have ko0 : KoW w.heap.size we.heap.size Z.length (Z.map Prod.fst) vp wb wb.drew := ⟨⟨Nat.le_refl _, fun _ _ _ _ _ => rfl, HM2.out.q⟩, HM2.out.ps.r.drew⟩
      have KO0 := Lib.hid ko0
      have kq0 : wb.cell? ⟨w.heap.size + 1, 0, none⟩ = some vp := HM2.out.q.cell
      clear kB0 kB1 kB2 kT zT hgb2 b0 b1 b2 nv ng kP kT3 zg zP zQ zT2 zbW ko0
      refine roundC_held (S := fun w' => w'.cell? ⟨w.heap.size, 0, none⟩ = some (.pointer (some ⟨p, 0, none⟩)) ∧ w'.cell? ⟨g, 0, none⟩ = some (.int .i64 y1) ∧ w'.cell? ⟨g, 1, none⟩ = some (.int .i64 y2) ∧ w'.cell? ⟨g, 2, none⟩ = some (.int .i64 y3) ∧ w'.cell? ⟨w.heap.size + 1 + 1 + 1, 0, none⟩ = some (.map (some (w.heap.size + 1 + 1)))) (by kernel_rfl) (HS5.out _ KO0.out.v) (by kernel_rfl) (fun ⟨_, _, hf⟩ => hf) (fun hHeld => ?_)
      refine tk 1 ?_
      refine tk 2 ?_
      refine tk 3 ?_
      refine tk 4 ?_
      refine tk 5 ?_
      refine rd2 0 6 (by kernel_rfl) rfl rfl (fun KX hK => ?_) (fun KX hK => ?_)
      · go_simp
        refine hK.out _ _ hHeld (fun hHeld => ?_)
        clear hK KX
        try simp only [pz]
        refine rd1 6 (by kernel_rfl) rfl fun KX hK => ?_
        go_simp
        (go_at_call 54; refine (HRF.out _ (Below.refl _ _).drew).mono ?_; rintro e w1 ⟨v, l, s1, rfl, hv, hln, hlr, hm1, hs1, htr⟩)
        obtain ⟨al, cl, rfl, _⟩ := hv.1.shape
        have KO1 := Lib.hid (KO0.out.trn HZ.out htr)
        have HV1 := Lib.hid hv
        have HLN := Lib.hid hln
        have HLR := Lib.hid hlr
        have HM1 := Lib.hid hm1
        have HS1 := Lib.hid hs1
        have HTR := Lib.hid htr
        have kq1 : w1.cell? ⟨w.heap.size + 1, 0, none⟩ = some vp := KO1.out.v.q.cell
        have HLK : Hid (∀ z ∈ l, z ∈ K) := Lib.hid fun z hz => ((HLR.out z).1 hz).closed (P := fun z => z ∈ K) (fun a b _ h => ldG_src HK.out h.1) HYK.out
        have HLS : Hid (∀ z ∈ l, s z = false) := Lib.hid fun z hz => ((HLR.out z).1 hz).closed (P := fun z => s z = false) (fun a b _ h => h.2) HSB.out.symm
        have HL5 : Hid (l.length * 24 ≤ 140737488355328) := Lib.hid (by have := nodup_len HLN.out HLK.out; have := HKL.out; omega)
        clear hv hln hlr hm1 hs1 htr kq0
        refine hK.out _ _ (HS5.out w1 KO1.out.v) (fun hHeld => ?_)
        clear hK KX
        try simp only [pz]
        refine rd1 7 (by kernel_rfl) rfl fun KX hK => ?_
        go_simp
        (go_at_call 43; refine (onceC_any _ l w1 HV1.out.1 HL5.out).mono ?_; rintro e w2 ⟨⟨v2, rfl, hv2⟩, hb2⟩)
        obtain ⟨a2, c2, rfl, _⟩ := hv2.1.shape
        have KO2 := Lib.hid (KO1.out.below hb2)
        have HV2 := Lib.hid hv2
        have HB2 := Lib.hid hb2
        have kq2 : w2.cell? ⟨w.heap.size + 1, 0, none⟩ = some vp := KO2.out.v.q.cell
        clear hv2 hb2 kq1
        refine hK.out _ _ (HS5.out w2 KO2.out.v) (fun hHeld => ?_)
        clear hK KX
        try simp only [pz]
        refine rd1 8 (by kernel_rfl) rfl fun KX hK => ?_
        go_simp
        have KO3 := Lib.hid (KO2.out.below ((Below.refl _ w2).alloc (Nat.le_refl _) (.cells #[.slice a2 (onc l).length c2] 30)))
        have kq3 : (w2.alloc (.cells #[.slice a2 (onc l).length c2] 30)).cell? ⟨w.heap.size + 1, 0, none⟩ = some vp := KO3.out.v.q.cell
        clear kq2
        refine hK.out _ _ (HS5.out _ KO3.out.v) (fun hHeld => ?_)
        clear hK KX
        try simp only [pz]
        refine rd1 9 (by kernel_rfl) rfl fun KX hK => ?_
        refine step_append_part rfl _ _ rfl we.heap.size Z.length vp (.slice a2 (onc l).length c2) (Z.map Prod.fst) rfl KO3.out.r rfl (by simp [go_sem]) rfl (by have := HZL.out; have := HLT.out; have := hFl; omega) (by have := KO3.out.v.size; have := HBB.out.size; omega) ?_
        intro vp' w4 hown hgr hbl
        obtain ⟨g', cap', rfl⟩ := ownsRow_succ hown
        have ko4 := KO3.out.row HZ.out hgr
        have kq4 : w4.cell? ⟨w.heap.size + 1, 0, none⟩ = some vp := ko4.q.cell
        have fq4 := ko4.q.frozen
        refine hK.out _ _ (HS5.out w4 ko4) (fun hHeld => ?_)
        clear hK KX
        try simp only [pz]
        refine rd1 10 (by kernel_rfl) rfl fun KX hK => ?_
        go_simp
        refine hK.out _ _ (HS6.out w4 _ ko4) (fun hHeld => ?_)
        clear hK KX
        try simp only [pz]
        refine wpAnyH_done (by kernel_rfl) ?_ _
        obtain ⟨hM', hk1, hk2, hk3⟩ := HM.out.more hBW HBB.out.drew HLN.out HLK.out HLS.out HM1.out HS1.out HTR.out (HB2.out.trans ((Below.refl _ w2).alloc HB2.out.size _)) (HV2.out.below ((Below.refl _ w2).alloc (Nat.le_refl _) _)) (fun e => by
          have h1 : (y1, y2, y3) ∈ onc l := mem_onc.2 ((HLR.out _).2 (.refl _))
          rw [e] at h1; cases h1) rfl hgr hown hbl
        refine ⟨hk1, hk2, ⟨_, _, _, s1, hM', by rw [List.length_append, List.length_append]; have := HZL.out; simp; omega, fun hpre => ?_, HBW.out.trans (hk3 _ (Nat.le_refl _)), Nat.le_trans hBW hk1.size⟩⟩
        obtain ⟨h1, h2⟩ := fin_pre hpre
        have e : F[F.length - 1 - pre.length]'(by have := HLT.out; omega) = (y1, y2, y3) := by rw [HY.out]; congr 1; omega
        rw [List.length_append, List.length_singleton]
        exact (HLG.out h1).more HK.out.1 HF.out HND.out HFK.out (fun _ _ h => ldG_src HK.out h) (fun _ _ h => ldG_dst HK.out h) HLT.out (by rw [e]; exact HSB.out.symm) (fun z => by rw [e]; exact HLR.out z) HS1.out
      · go_simp
        (go_at_call 54; refine (HRF.out _ (Below.refl _ _).drew).mono ?_; rintro e w1 ⟨v, l, s1, rfl, hv, hln, hlr, hm1, hs1, htr⟩)
        obtain ⟨al, cl, rfl, _⟩ := hv.1.shape
        have KO1 := Lib.hid (KO0.out.trn HZ.out htr)
        have HV1 := Lib.hid hv
        have HLN := Lib.hid hln
        have HLR := Lib.hid hlr
        have HM1 := Lib.hid hm1
        have HS1 := Lib.hid hs1
        have HTR := Lib.hid htr
        have kq1 : w1.cell? ⟨w.heap.size + 1, 0, none⟩ = some vp := KO1.out.v.q.cell
        have HLK : Hid (∀ z ∈ l, z ∈ K) := Lib.hid fun z hz => ((HLR.out z).1 hz).closed (P := fun z => z ∈ K) (fun a b _ h => ldG_src HK.out h.1) HYK.out
        have HLS : Hid (∀ z ∈ l, s z = false) := Lib.hid fun z hz => ((HLR.out z).1 hz).closed (P := fun z => s z = false) (fun a b _ h => h.2) HSB.out.symm
        have HL5 : Hid (l.length * 24 ≤ 140737488355328) := Lib.hid (by have := nodup_len HLN.out HLK.out; have := HKL.out; omega)
        clear hv hln hlr hm1 hs1 htr kq0
        refine hK.out _ _ (HS5.out w1 KO1.out.v) (fun hHeld => ?_)
        clear hK KX
        try simp only [pz]
        refine rd2 0 7 (by kernel_rfl) rfl rfl (fun KX hK => ?_) (fun KX hK => ?_)
        · go_simp
          refine hK.out _ _ hHeld (fun hHeld => ?_)
          clear hK KX
          try simp only [pz]
          refine rd1 7 (by kernel_rfl) rfl fun KX hK => ?_
          go_simp
          (go_at_call 43; refine (onceC_any _ l w1 HV1.out.1 HL5.out).mono ?_; rintro e w2 ⟨⟨v2, rfl, hv2⟩, hb2⟩)
          obtain ⟨a2, c2, rfl, _⟩ := hv2.1.shape
          have KO2 := Lib.hid (KO1.out.below hb2)
          have HV2 := Lib.hid hv2
          have HB2 := Lib.hid hb2
          have kq2 : w2.cell? ⟨w.heap.size + 1, 0, none⟩ = some vp := KO2.out.v.q.cell
          clear hv2 hb2 kq1
          refine hK.out _ _ (HS5.out w2 KO2.out.v) (fun hHeld => ?_)
          clear hK KX
          try simp only [pz]
          refine rd1 8 (by kernel_rfl) rfl fun KX hK => ?_
          go_simp
          have KO3 := Lib.hid (KO2.out.below ((Below.refl _ w2).alloc (Nat.le_refl _) (.cells #[.slice a2 (onc l).length c2] 30)))
          have kq3 : (w2.alloc (.cells #[.slice a2 (onc l).length c2] 30)).cell? ⟨w.heap.size + 1, 0, none⟩ = some vp := KO3.out.v.q.cell
          clear kq2
          refine hK.out _ _ (HS5.out _ KO3.out.v) (fun hHeld => ?_)
          clear hK KX
          try simp only [pz]
          refine rd1 9 (by kernel_rfl) rfl fun KX hK => ?_
          refine step_append_part rfl _ _ rfl we.heap.size Z.length vp (.slice a2 (onc l).length c2) (Z.map Prod.fst) rfl KO3.out.r rfl (by simp [go_sem]) rfl (by have := HZL.out; have := HLT.out; have := hFl; omega) (by have := KO3.out.v.size; have := HBB.out.size; omega) ?_
          intro vp' w4 hown hgr hbl
          obtain ⟨g', cap', rfl⟩ := ownsRow_succ hown
          have ko4 := KO3.out.row HZ.out hgr
          have kq4 : w4.cell? ⟨w.heap.size + 1, 0, none⟩ = some vp := ko4.q.cell
          have fq4 := ko4.q.frozen
          refine hK.out _ _ (HS5.out w4 ko4) (fun hHeld => ?_)
          clear hK KX
          try simp only [pz]
          refine rd1 10 (by kernel_rfl) rfl fun KX hK => ?_
          go_simp
          refine hK.out _ _ (HS6.out w4 _ ko4) (fun hHeld => ?_)
          clear hK KX
          try simp only [pz]
          refine wpAnyH_done (by kernel_rfl) ?_ _
          obtain ⟨hM', hk1, hk2, hk3⟩ := HM.out.more hBW HBB.out.drew HLN.out HLK.out HLS.out HM1.out HS1.out HTR.out (HB2.out.trans ((Below.refl _ w2).alloc HB2.out.size _)) (HV2.out.below ((Below.refl _ w2).alloc (Nat.le_refl _) _)) (fun e => by
            have h1 : (y1, y2, y3) ∈ onc l := mem_onc.2 ((HLR.out _).2 (.refl _))
            rw [e] at h1; cases h1) rfl hgr hown hbl
          refine ⟨hk1, hk2, ⟨_, _, _, s1, hM', by rw [List.length_append, List.length_append]; have := HZL.out; simp; omega, fun hpre => ?_, HBW.out.trans (hk3 _ (Nat.le_refl _)), Nat.le_trans hBW hk1.size⟩⟩
          obtain ⟨h1, h2⟩ := fin_pre hpre
          have e : F[F.length - 1 - pre.length]'(by have := HLT.out; omega) = (y1, y2, y3) := by rw [HY.out]; congr 1; omega
          rw [List.length_append, List.length_singleton]
          exact (HLG.out h1).more HK.out.1 HF.out HND.out HFK.out (fun _ _ h => ldG_src HK.out h) (fun _ _ h => ldG_dst HK.out h) HLT.out (by rw [e]; exact HSB.out.symm) (fun z => by rw [e]; exact HLR.out z) HS1.out
        · go_simp
          (go_at_call 43; refine (onceC_any _ l w1 HV1.out.1 HL5.out).mono ?_; rintro e w2 ⟨⟨v2, rfl, hv2⟩, hb2⟩)
          obtain ⟨a2, c2, rfl, _⟩ := hv2.1.shape
          have KO2 := Lib.hid (KO1.out.below hb2)
          have HV2 := Lib.hid hv2
          have HB2 := Lib.hid hb2
          have kq2 : w2.cell? ⟨w.heap.size + 1, 0, none⟩ = some vp := KO2.out.v.q.cell
          clear hv2 hb2 kq1
          refine hK.out _ _ (HS5.out w2 KO2.out.v) (fun hHeld => ?_)
          clear hK KX
          try simp only [pz]
          refine rd2 0 8 (by kernel_rfl) rfl rfl (fun KX hK => ?_) (fun KX hK => ?_)
          · go_simp
            refine hK.out _ _ hHeld (fun hHeld => ?_)
            clear hK KX
            try simp only [pz]
            refine rd1 8 (by kernel_rfl) rfl fun KX hK => ?_
            go_simp
            have KO3 := Lib.hid (KO2.out.below ((Below.refl _ w2).alloc (Nat.le_refl _) (.cells #[.slice a2 (onc l).length c2] 30)))
            have kq3 : (w2.alloc (.cells #[.slice a2 (onc l).length c2] 30)).cell? ⟨w.heap.size + 1, 0, none⟩ = some vp := KO3.out.v.q.cell
            clear kq2
            refine hK.out _ _ (HS5.out _ KO3.out.v) (fun hHeld => ?_)
            clear hK KX
            try simp only [pz]
            refine rd1 9 (by kernel_rfl) rfl fun KX hK => ?_
            refine step_append_part rfl _ _ rfl we.heap.size Z.length vp (.slice a2 (onc l).length c2) (Z.map Prod.fst) rfl KO3.out.r rfl (by simp [go_sem]) rfl (by have := HZL.out; have := HLT.out; have := hFl; omega) (by have := KO3.out.v.size; have := HBB.out.size; omega) ?_
            intro vp' w4 hown hgr hbl
            obtain ⟨g', cap', rfl⟩ := ownsRow_succ hown
            have ko4 := KO3.out.row HZ.out hgr
            have kq4 : w4.cell? ⟨w.heap.size + 1, 0, none⟩ = some vp := ko4.q.cell
            have fq4 := ko4.q.frozen
            refine hK.out _ _ (HS5.out w4 ko4) (fun hHeld => ?_)
            clear hK KX
            try simp only [pz]
            refine rd1 10 (by kernel_rfl) rfl fun KX hK => ?_
            go_simp
            refine hK.out _ _ (HS6.out w4 _ ko4) (fun hHeld => ?_)
            clear hK KX
            try simp only [pz]
            refine wpAnyH_done (by kernel_rfl) ?_ _
            obtain ⟨hM', hk1, hk2, hk3⟩ := HM.out.more hBW HBB.out.drew HLN.out HLK.out HLS.out HM1.out HS1.out HTR.out (HB2.out.trans ((Below.refl _ w2).alloc HB2.out.size _)) (HV2.out.below ((Below.refl _ w2).alloc (Nat.le_refl _) _)) (fun e => by
              have h1 : (y1, y2, y3) ∈ onc l := mem_onc.2 ((HLR.out _).2 (.refl _))
              rw [e] at h1; cases h1) rfl hgr hown hbl
            refine ⟨hk1, hk2, ⟨_, _, _, s1, hM', by rw [List.length_append, List.length_append]; have := HZL.out; simp; omega, fun hpre => ?_, HBW.out.trans (hk3 _ (Nat.le_refl _)), Nat.le_trans hBW hk1.size⟩⟩
            obtain ⟨h1, h2⟩ := fin_pre hpre
            have e : F[F.length - 1 - pre.length]'(by have := HLT.out; omega) = (y1, y2, y3) := by rw [HY.out]; congr 1; omega
            rw [List.length_append, List.length_singleton]
            exact (HLG.out h1).more HK.out.1 HF.out HND.out HFK.out (fun _ _ h => ldG_src HK.out h) (fun _ _ h => ldG_dst HK.out h) HLT.out (by rw [e]; exact HSB.out.symm) (fun z => by rw [e]; exact HLR.out z) HS1.out
          · go_simp
            have KO3 := Lib.hid (KO2.out.below ((Below.refl _ w2).alloc (Nat.le_refl _) (.cells #[.slice a2 (onc l).length c2] 30)))
            have kq3 : (w2.alloc (.cells #[.slice a2 (onc l).length c2] 30)).cell? ⟨w.heap.size + 1, 0, none⟩ = some vp := KO3.out.v.q.cell
            clear kq2
            refine hK.out _ _ (HS5.out _ KO3.out.v) (fun hHeld => ?_)
            clear hK KX
            try simp only [pz]
            refine rd1 0 (by kernel_rfl) rfl fun KX hK => ?_
            go_simp
            refine hK.out _ _ hHeld (fun hHeld => ?_)
            clear hK KX
            try simp only [pz]
            refine rd1 9 (by kernel_rfl) rfl fun KX hK => ?_
            refine step_append_part rfl _ _ rfl we.heap.size Z.length vp (.slice a2 (onc l).length c2) (Z.map Prod.fst) rfl KO3.out.r rfl (by simp [go_sem]) rfl (by have := HZL.out; have := HLT.out; have := hFl; omega) (by have := KO3.out.v.size; have := HBB.out.size; omega) ?_
            intro vp' w4 hown hgr hbl
            obtain ⟨g', cap', rfl⟩ := ownsRow_succ hown
            have ko4 := KO3.out.row HZ.out hgr
            have kq4 : w4.cell? ⟨w.heap.size + 1, 0, none⟩ = some vp := ko4.q.cell
            have fq4 := ko4.q.frozen
            refine hK.out _ _ (HS5.out w4 ko4) (fun hHeld => ?_)
            clear hK KX
            try simp only [pz]
            refine rd1 10 (by kernel_rfl) rfl fun KX hK => ?_
            go_simp
            refine hK.out _ _ (HS6.out w4 _ ko4) (fun hHeld => ?_)
            clear hK KX
            try simp only [pz]
            refine wpAnyH_done (by kernel_rfl) ?_ _
            obtain ⟨hM', hk1, hk2, hk3⟩ := HM.out.more hBW HBB.out.drew HLN.out HLK.out HLS.out HM1.out HS1.out HTR.out (HB2.out.trans ((Below.refl _ w2).alloc HB2.out.size _)) (HV2.out.below ((Below.refl _ w2).alloc (Nat.le_refl _) _)) (fun e => by
              have h1 : (y1, y2, y3) ∈ onc l := mem_onc.2 ((HLR.out _).2 (.refl _))
              rw [e] at h1; cases h1) rfl hgr hown hbl
            refine ⟨hk1, hk2, ⟨_, _, _, s1, hM', by rw [List.length_append, List.length_append]; have := HZL.out; simp; omega, fun hpre => ?_, HBW.out.trans (hk3 _ (Nat.le_refl _)), Nat.le_trans hBW hk1.size⟩⟩
            obtain ⟨h1, h2⟩ := fin_pre hpre
            have e : F[F.length - 1 - pre.length]'(by have := HLT.out; omega) = (y1, y2, y3) := by rw [HY.out]; congr 1; omega
            rw [List.length_append, List.length_singleton]
            exact (HLG.out h1).more HK.out.1 HF.out HND.out HFK.out (fun _ _ h => ldG_src HK.out h) (fun _ _ h => ldG_dst HK.out h) HLT.out (by rw [e]; exact HSB.out.symm) (fun z => by rw [e]; exact HLR.out z) HS1.out
    · gi_wp2_with (refine listIn_roundC (fun ⟨_, _, hf⟩ => hf) _ _ _ (by kernel_rfl) ?_; go_wp2_with (go_at_call 53; refine (HSY.out _ (Below.refl _ _)).mono ?_; rintro e wb ⟨rfl, hbb⟩; have HBB := Lib.hid hbb; clear hbb))
      refine ⟨KeepsFrom.of_grownBy (row := none) ⟨HBB.out.os, HBB.out.tape, HBB.out.output, HBB.out.size, fun k hk _ => HBB.out.block k hk⟩ (fun j e => by cases e), fun k hk _ => HBB.out.block k (by omega), ⟨vp, Z, D, s, HM.out.below HBB.out, by rw [List.length_append]; have := HZL.out; omega, fun hpre => ?_, HBW.out.trans (HBB.out.mono HBW.out.size), Nat.le_trans hBW HBB.out.size⟩⟩
      obtain ⟨h1, h2⟩ := fin_pre hpre
      have e : F[F.length - 1 - pre.length]'(by have := HLT.out; omega) = (y1, y2, y3) := by rw [HY.out]; congr 1; omega
      rw [List.length_append, List.length_singleton]
      exact (HLG.out h1).old HLT.out (by rw [e]; exact HSB.out.symm)
  case stop =>
    rintro D c pre W _ _ h _
    exact h.elim
  case done =>
    clear hseq hM0
    rintro Df ys W hD rfl ⟨vp, Z, D, s, hM, hZl, hLg, hbW, hBW⟩ hDf
    have hL := hLg (by rw [List.length_finRange, fin_takeAll])
    rw [List.length_finRange] at hL hZl
    obtain ⟨al, cl, rfl⟩ : ∃ a c, vp = .slice a Z.length c := by
      rcases hM.ps.r.2 with ⟨h, h2⟩ | ⟨g, cap, cur, h, _⟩
      · rw [h2]; exact ⟨_, _, h⟩
      · exact ⟨_, _, h⟩
    have kq : W.cell? ⟨w.heap.size + 1, 0, none⟩ = some (.slice al Z.length cl) := hM.q.cell
    have HM := Lib.hid hM
    have HLG := Lib.hid hL
    have HBW := Lib.hid hbW
    have HDF := Lib.hid hDf
    have HSO := Lib.hid (sortA_any we.heap.size _ Z W hM.ps (by omega))
    have HLO := Lib.hid hM.lo
    clear hM hL hLg hbW hDf hZl
    gi_wp2_with (refine ⟨trivial, ?_⟩; gi_at_call 55; refine (callsIn_wide.2 HSO.out).mono ?_; rintro e w5 ⟨rfl, Z', hp, hps, hso, hg5⟩; have kq5 : w5.cell? ⟨w.heap.size + 1, 0, none⟩ = some (.slice al Z.length cl) := (World.cell?_of_block (a := ⟨w.heap.size + 1, 0, none⟩) (hg5.block (w.heap.size + 1) HM.out.q.lt fun e => by have := (HM.out.ps.r.lt _ e.symm).1; have := HLO.out; omega)).trans kq; have hd5 := (hg5.block Df (Array.getElem?_eq_some_iff.1 HDF.out).1 fun e => (by have h1 := ownsRow_cells HM.out.ps.r e.symm HDF.out; cases h1)).trans HDF.out; have HP := Lib.hid hp; have HPS := Lib.hid hps; have HSR := Lib.hid hso; have HG5 := Lib.hid hg5; have HD5 := Lib.hid hd5; clear hp hps hso hg5 hd5 kq)
    refine ⟨by simp, .inl ⟨_, _, rfl, run_takeDeferred HD5.out, ?_⟩⟩
    refine ⟨_, results_tmp (t := 2) rfl _ _ _, ?_⟩
    rw [HPO.out]
    have hlo := HLO.out
    refine ⟨⟨_, Z', rfl, (HPS.out.own (grownBy_putObj' w5 Df (.deferred none)) fun r e => ?_).mono (by omega), HLG.out.done HK.out.1 HFK.out HP.out HSR.out⟩, ?_⟩
    · cases e; exact ⟨_, HD5.out, rfl⟩
    · exact ((HBW.out.grown HG5.out HBW.out.size fun k hk => by have := (HM.out.ps.r.lt _ hk).1; omega)).grown (grownBy_putObj' w5 Df (.deferred none)) (by have := HBW.out.size; have := HG5.out.size; omega) (fun k e => by cases e; omega)
end Go.Proofs.Ytjjpfddgcilliaa
