/-
  LAYER 28: A CELL'S FORMULA IS FORGOTTEN.
-/
import Derived.Test.YtjjpfddgcilliaaGra13
set_option linter.unusedSimpArgs false
set_option linter.unusedVariables false
namespace Go.Proofs.Ytjjpfddgcilliaa
open Go.RowKit Go.Shelf Go.Sort Go.Lib Go.Maps
set_option maxRecDepth 100000

section
variable {ops : Array Oper} {o : Oper} {a : Act} {w : World} {KK : Act → World → Prop} {Q : Exit → Act → World → Prop} {E : Prop}
theorem step_drop (hgd : o.guard = none) (m x : Operand) (t : TypeId) (hop : o.op = Op.call { callee := Callee.builtin Builtin.delete, args := #[m, x], argTypes := #[t, 32] }) {e : TypeId} (ht : Try.prog.underlying t = some (.map 32 e)) {b n : Nat} {f : Ce → Option Value}
    (hm : a.eval m = .map (some b)) (h : MapAt w b n f) {y : Ce} (hx : a.eval x = mkC y) (hy : okC y)
    (hK : ∀ w', MapAt w' b n (fun x => if x = y then none else f x) → w.grownBy w' (some b) → KK (a.put o.dst (.tuple #[])) w') : if Region.wanted o (yielded ops a.tmps) = true then Oper.wp Try.prog o a w KK Q else E := by
  have hw : Region.wanted o (yielded ops a.tmps) = true := by simp [Region.wanted, hgd]
  rw [if_pos hw]
  obtain ⟨w', hr, h1, h2⟩ := h.drop ht hy o.type
  unfold Oper.wp
  simp [execOp, hop, resolve, invoke, builtin, hm, hx, hr, Result.andThen]
  exact hK w' h1 h2
theorem step_store (hgd : o.guard = none) (m x v : Operand) (t : TypeId) (hop : o.op = Op.mapUpdate t m x v) {e : TypeId} (ht : Try.prog.underlying t = some (.map 32 e)) {b n : Nat} {f : Ce → Option Value}
    (hm : a.eval m = .map (some b)) (h : MapAt w b n f) (hn : n < maxLen) {y : Ce} (hx : a.eval x = mkC y) (hy : okC y) {u : Value} (hv : a.eval v = u)
    (hK : ∀ w', MapAt w' b (n + 1) (fun x => if x = y then some u else f x) → w.grownBy w' (some b) → KK (a.put o.dst undef) w') : if Region.wanted o (yielded ops a.tmps) = true then Oper.wp Try.prog o a w KK Q else E := by
  have hw : Region.wanted o (yielded ops a.tmps) = true := by simp [Region.wanted, hgd]
  rw [if_pos hw]
  obtain ⟨w', hr, h1, h2⟩ := h.store ht hn hy u
  unfold Oper.wp
  simp [execOp, hop, hm, hx, hv, hr, Result.andThen]
  exact hK w' h1 h2
theorem cnt_y {S : World → Prop} {m : Operand} {t : TypeId} (hgd : o.guard = none) (hop : o.op = Op.call { callee := Callee.builtin Builtin.len, args := #[m], argTypes := #[t] }) {b : Nat} (hm : a.eval m = .map (some b)) {v : Value} (hr : ∀ w, S w → ∀ ty, (Builtin.len_ #[t] ty #[.map (some b)]).run Try.prog w = .ok v w) : YieldsIf Try.prog ops S o v a := by
  refine Or.inl ⟨by simp [Region.wanted, hgd], fun w hw => ?_⟩
  simp [execOp, hop, resolve, invoke, builtin, hm, hr w hw, Result.andThen]
end
/-- how many keys a map has: one number, as long as its block lies as it lies. -/
theorem MapAt.size {W : World} {b n : Nat} {f : Ce → Option Value} (h : MapAt W b n f) {t e : TypeId} (ht : Try.prog.underlying t = some (.map 32 e)) :
    ∃ k : Nat, k ≤ n ∧ (∀ w', w'.heap[b]? = W.heap[b]? → ∀ ty, (Builtin.len_ #[t] ty #[.map (some b)]).run Try.prog w' = .ok (.int .i64 k) w') ∧ (k = 0 ↔ ∀ x, f x = none) := by
  obtain ⟨k, hk, hr, hi⟩ := h.len ht 0
  obtain ⟨⟨D, ⟨es, c, hb, F, hs, hD⟩, h2⟩, h3⟩ := h
  have hw : ∀ w' : World, w'.heap[b]? = W.heap[b]? → w'.ownsMap Try.prog 32 rawR b n D := fun w' e => ⟨es, c, e.trans hb, F, hs, hD⟩
  have hk2 : (k : Int) = (Maps.size D : Nat) := by
    have := (hw W rfl).len ht 0
    rw [hr] at this
    injection this with h1
    simpa using h1
  refine ⟨k, hk, fun w' e ty => ?_, hi⟩
  rw [(hw w' e).len ht ty, ← hk2]
/-- all blocks but one lie as they lay. -/
def ButB (b : Nat) (W W' : World) : Prop := Trn (fun k => k = b) W W'
theorem ButB.of_below {b : Nat} {W W' : World} (h : Below W.heap.size W W') : ButB b W W' := Trn.of_below h
theorem ButB.wrote {b : Nat} {W V V' : World} (h : ButB b W V) (hg : V.grownBy V' (some b)) : ButB b W V' := Trn.wrote h hg (Or.inl rfl)
theorem ButB.cell {b p j : Nat} {W W' : World} {v : Value} (h : ButB b W W') (hc : W.cell? ⟨p, j, none⟩ = some v) (hp : p < W.heap.size) (hne : p ≠ b) : W'.cell? ⟨p, j, none⟩ = some v := (World.cell?_of_block (a := ⟨p, j, none⟩) (h.block p hp hne)).trans hc
theorem ButB.map {b c n : Nat} {W W' : World} {f : Ce → Option Value} (h : ButB b W W') (hm : MapAt W c n f) (hne : c ≠ b) : MapAt W' c n f := hm.blk (h.block c hm.lt hne)
theorem ButB.size {b : Nat} {W W' : World} (h : ButB b W W') : W.heap.size ≤ W'.heap.size := Trn.size h
/-- a region that reads, and writes block b alone. -/
theorem wrb {id : Nat} {ops : Array Oper} {Q : Exit → Act → World → Prop} {a : Act} {w : World} {b : Nat} {S : World → Prop} (hm : Try.prog.follows .mixedOrders = true) (hk : ∀ w', ButB b w w' → S w') (h : Hid (∀ w', ButB b w w' → S w') → S w.drew → wpAnyH Try.prog .any ops Q S ops.size (Array.replicate ops.size false) a w.drew) : (Code.region id ops true).wp Try.prog Q a w :=
  wp_region_held_drew hm (hk _ (ButB.of_below (Below.refl _ _).drew)) (h hk)
/-- who needs what, the first k of x's list taken out. -/
def E_k (G : Ce → Option (List Ce)) (x : Ce) (l : List Ce) (k : Nat) : Ce → Ce → Bool := fun y z => edge G y z && !(decide (z = x) && decide (y ∈ l.take k))
theorem E_0 (G : Ce → Option (List Ce)) (x : Ce) (l : List Ce) : ∀ y z, edge G y z = E_k G x l 0 y z := fun y z => by simp [E_k]
theorem E_next (G : Ce → Option (List Ce)) (x : Ce) (l : List Ce) (k : Nat) (h : k < l.length) : ∀ y z, rmE (E_k G x l k) l[k] x y z = E_k G x l (k + 1) y z := fun y z => by
  unfold rmE E_k
  have hm : decide (y ∈ l.take (k + 1)) = (decide (y ∈ l.take k) || decide (y = l[k])) := by
    rw [List.take_succ_eq_append_getElem h, ← Bool.decide_or]
    exact decide_eq_decide.2 (by rw [List.mem_append, List.mem_singleton])
  rw [hm]
  cases edge G y z <;> cases decide (z = x) <;> cases decide (y ∈ l.take k) <;> cases decide (y = l[k]) <;> rfl
theorem E_here {G : Ce → Option (List Ce)} {x : Ce} {l : List Ce} (hl : lOf G x = l) (hs : Srt l) {k : Nat} (h : k < l.length) : E_k G x l k l[k] x = true := by
  unfold E_k
  have h1 : edge G l[k] x = true := by
    unfold edge; unfold lOf at hl
    cases hg : G x with
    | none => rw [hg] at hl; simp at hl; subst hl; simp at h
    | some m => rw [hg] at hl; simp at hl; subst hl; simp
  have h2 : l[k] ∉ l.take k := by
    intro hm
    obtain ⟨j, hj, e⟩ := List.getElem_of_mem hm
    rw [List.getElem_take] at e
    have hjk : j < k := by simp at hj; omega
    have := List.pairwise_iff_getElem.1 hs j k (by omega) h hjk
    rw [e, cLt_irrefl] at this; cases this
  rw [h1]; simp [h2]
theorem E_end {G : Ce → Option (List Ce)} {x : Ce} {l : List Ce} (hl : lOf G x = l) : ∀ y z, E_k G x l l.length y z = edge (delG G x) y z := fun y z => by
  unfold E_k delG edge
  rw [List.take_length]
  by_cases h : z = x
  · subst h
    unfold lOf at hl
    cases hg : G z with
    | none => simp
    | some m => rw [hg] at hl; simp at hl; subst hl; by_cases hy : y ∈ m <;> simp [hy]
  · simp [h]
/-- what the loop keeps: k cells of the list are done. -/
structure FgR (w : World) (S : Nat → Prop) (p n bn bu A : Nat) (fn : Ce → Option Value) (G : Ce → Option (List Ce)) (x : Ce) (v : Value) (l : List Ce) (k : Nat) (wr : World) : Prop where
  nd : NdsAt wr S bn n fn G
  us : ∃ fu, UsrAt wr S bn bu n fu (E_k G x l k)
  pb : wr.heap[p]? = some (.cells #[.map (some bn), .map (some bu)] 65 (0, 0))
  ab : wr.heap[A]? = some (.cells #[.int .i64 x.1, .int .i64 x.2.1, .int .i64 x.2.2] 32 (0, 0))
  cs : CsAt wr v l
  tr : Trn S w wr
theorem FgR.below {w wr wr' : World} {S : Nat → Prop} {p n bn bu A : Nat} {fn : Ce → Option Value} {G : Ce → Option (List Ce)} {x : Ce} {v : Value} {l : List Ce} {k : Nat} (h : FgR w S p n bn bu A fn G x v l k wr) (hb : Below wr.heap.size wr wr') : FgR w S p n bn bu A fn G x v l k wr' where
  nd := h.nd.kept (Kept.of_below hb)
  us := h.us.imp fun fu hu => hu.kept (Kept.of_below hb)
  pb := (hb.block p (Array.getElem?_eq_some_iff.1 h.pb).1).trans h.pb
  ab := (hb.block A (Array.getElem?_eq_some_iff.1 h.ab).1).trans h.ab
  cs := h.cs.below hb
  tr := h.tr.after hb
theorem CsAt.shape {W : World} {v : Value} {l : List Ce} (h : CsAt W v l) : ∃ (a : Option Addr) (cap : Nat), v = .slice a l.length cap ∧ ∀ k (hk : k < l.length), ∃ g o, a = some ⟨g, o, none⟩ ∧ g < W.heap.size ∧ W.cell? ⟨g, o + k * 3, none⟩ = some (.int .i64 l[k].1) ∧ W.cell? ⟨g, o + k * 3 + 1, none⟩ = some (.int .i64 l[k].2.1) ∧ W.cell? ⟨g, o + k * 3 + 2, none⟩ = some (.int .i64 l[k].2.2) := by
  rcases h with ⟨rfl, rfl⟩ | ⟨g, o, cap, rfl, hg, hc⟩
  · exact ⟨none, 0, rfl, fun k hk => absurd hk (by simp)⟩
  · refine ⟨_, cap, rfl, fun k hk => ?_⟩
    obtain ⟨h0, h1, h2⟩ := flC_get l k hk
    exact ⟨g, o, rfl, hg, hc _ _ h0, hc _ _ h1, hc _ _ h2⟩
theorem CsAt.at {W : World} {a : Option Addr} {n cap : Nat} {l : List Ce} (h : CsAt W (.slice a n cap) l) (k : Nat) (hk : k < l.length) : ∃ g o, a = some ⟨g, o, none⟩ ∧ g < W.heap.size ∧ W.cell? ⟨g, o + k * 3, none⟩ = some (.int .i64 l[k].1) ∧ W.cell? ⟨g, o + k * 3 + 1, none⟩ = some (.int .i64 l[k].2.1) ∧ W.cell? ⟨g, o + k * 3 + 2, none⟩ = some (.int .i64 l[k].2.2) := by
  obtain ⟨a', cap', he, h⟩ := h.shape
  have : a = a' := by cases he; rfl
  subst this
  exact h k hk
theorem three_cells' {W : World} {p : Nat} {u v z : Value} {t : TypeId} (h : W.heap[p]? = some (.cells #[u, v, z] t (0, 0))) : W.cell? ⟨p, 0, none⟩ = some u ∧ W.cell? ⟨p, 1, none⟩ = some v ∧ W.cell? ⟨p, 2, none⟩ = some z := by simp [World.cell?, h]
theorem grown_undrew {V W : World} {r : Option Nat} (h : V.drew.grownBy W r) : V.grownBy W r := ⟨h.os, h.tape, h.output, h.size, h.block⟩
section
variable {w s1 w4 w6 : World} {S : Nat → Prop} {p n bn bu A b k : Nat} {fn fu : Ce → Option Value} {G : Ce → Option (List Ce)} {x y : Ce} {v : Value} {l : List Ce}
theorem FgR.cut (h : FgR w S p n bn bu A fn G x v l k s1) (hU : UsrAt s1 S bn bu n fu (E_k G x l k)) (hy : fu y = some (.map (some b))) (hSb : S b) (hbn : b ≠ bn) (hmb : ∃ es c, s1.heap[b]? = some (.map es c)) (hg : s1.grownBy w4 (some b))
    (hm4 : MapAt w4 b n (fun z => if z = x then none else (if E_k G x l k y z then some unitV else none))) (hl : ∃ z, E_k G x l k y z = true ∧ z ≠ x) (hnx : ∀ y' z, rmE (E_k G x l k) y x y' z = E_k G x l (k + 1) y' z) : FgR w S p n bn bu A fn G x v l (k + 1) w4 where
  nd := h.nd.far hbn hmb hg
  us := ⟨fu, (hU.cut hy hg hm4 hl).congr hnx⟩
  pb := cells_far h.pb hmb hg
  ab := cells_far h.ab hmb hg
  cs := h.cs.far hmb hg
  tr := h.tr.wrote hg (Or.inl hSb)
theorem FgR.cutLast (h : FgR w S p n bn bu A fn G x v l k s1) (hU : UsrAt s1 S bn bu n fu (E_k G x l k)) (hy : fu y = some (.map (some b))) (hSb : S b) (hbn : b ≠ bn) (hbu : b ≠ bu) (hmb : ∃ es c, s1.heap[b]? = some (.map es c)) (hg : s1.grownBy w4 (some b))
    (hl : ∀ z, E_k G x l k y z = true → z = x) (hg2 : w4.grownBy w6 (some bu)) (hm : MapAt w6 bu n (fun z => if z = y then none else fu z)) (hnx : ∀ y' z, rmE (E_k G x l k) y x y' z = E_k G x l (k + 1) y' z) : FgR w S p n bn bu A fn G x v l (k + 1) w6 where
  nd := (h.nd.far hbn hmb hg).far hU.ne (hU.m.kept hg (fun e => hbu (by cases e; rfl))).isMap hg2
  us := ⟨_, (hU.cutLast hy hg hl hg2 hm).congr hnx⟩
  pb := cells_far (cells_far h.pb hmb hg) (hU.m.kept hg (fun e => hbu (by cases e; rfl))).isMap hg2
  ab := cells_far (cells_far h.ab hmb hg) (hU.m.kept hg (fun e => hbu (by cases e; rfl))).isMap hg2
  cs := (h.cs.far hmb hg).far (hU.m.kept hg (fun e => hbu (by cases e; rfl))).isMap hg2
  tr := (h.tr.wrote hg (Or.inl hSb)).wrote hg2 (Or.inl hU.s)
end
set_option maxRecDepth 100000 in
set_option maxHeartbeats 4000000 in
theorem forget_any (p n : Nat) (S : Nat → Prop) (G : Ce → Option (List Ce)) (x : Ce) (hx : okC x) (w : World) (h : GrAt w S p n G) (hn : n * 24 ≤ 140737488355328) : Calls Try.prog 41 #[.pointer (some ⟨p, 0, none⟩), mkC x] w fun e w' => e = .returned (.tuple #[]) ∧ GrAt w' S p n (delG G x) ∧ Trn S w w' := by
  obtain ⟨bn, bu, fn, fu, h0, hp, hN, hU⟩ := h
  obtain ⟨l, hl⟩ : ∃ l, l = lOf G x := ⟨_, rfl⟩
  obtain ⟨v, hv, hc, hln⟩ := hN.look x
  rw [← hl] at hc hln
  have HLB := Lib.hid (show l.length ≤ 5864062014805 by omega)
  clear hln hn
  have hsl : Srt l := by
    rw [hl]; unfold lOf
    cases hg : G x with
    | none => exact List.Pairwise.nil
    | some m => exact (hN.ok x m hg).2.1
  have hol : ∀ y ∈ l, okC y := by
    rw [hl]; unfold lOf
    cases hg : G x with
    | none => intro y hy; simp at hy
    | some m => exact (hN.ok x m hg).2.2.2
  obtain ⟨a, cap, rfl, hce⟩ := hc.shape
  have HX := Lib.hid hx
  have HV := Lib.hid hv
  have HL := Lib.hid hl.symm
  have HSL := Lib.hid hsl
  have HOL := Lib.hid hol
  have HP := Lib.hid hp
  obtain ⟨A, hA⟩ : ∃ A, A = w.heap.size := ⟨_, rfl⟩
  obtain ⟨s, hs⟩ : ∃ s, s = w.alloc (.cells #[.int .i64 x.1, .int .i64 x.2.1, .int .i64 x.2.2] 32) := ⟨_, rfl⟩
  have hb : Below w.heap.size w s := by rw [hs]; exact (Below.refl _ w).alloc (Nat.le_refl _) _
  have HW0 : Hid (FgR w S p n bn bu A fn G x (.slice a l.length cap) l 0 s) := Lib.hid ⟨hN.kept (Kept.of_below hb), ⟨fu, (hU.kept (Kept.of_below hb)).congr (E_0 G x l)⟩, (hb.block p (Array.getElem?_eq_some_iff.1 h0).1).trans h0, by rw [hs, hA]; exact World.alloc_heap_new w _, hc.below hb, Trn.of_below hb⟩
  have HM := Lib.hid (hN.m.below hb)
  have HS := Lib.hid hs
  have HA := Lib.hid hA
  clear hx hv hl hsl hol hp hc hN hU h0 hb hs hce hA
  obtain ⟨x1, x2, x3⟩ := x
  unfold mkC
  go_enter Try.func41, Try.ntmps41
  go_wp2_with fail
  rw [← HS.out, ← HA.out]
  have hpc := two_cells HW0.out.pb
  have hac := three_cells' HW0.out.ab
  have zA : A < s.heap.size := (Array.getElem?_eq_some_iff.1 HW0.out.ab).1
  have zp : p < s.heap.size := (Array.getElem?_eq_some_iff.1 HW0.out.pb).1
  refine wrp (S := fun w' => Below s.heap.size s w' ∧ w'.cell? ⟨p, 0, none⟩ = some (.map (some bn)) ∧ w'.cell? ⟨A, 0, none⟩ = some (.int .i64 x1) ∧ w'.cell? ⟨A, 1, none⟩ = some (.int .i64 x2) ∧ w'.cell? ⟨A, 2, none⟩ = some (.int .i64 x3)) (by kernel_rfl) (fun w' hx => ⟨hx, belK hx hpc.1 zp, belK hx hac.1 zA, belK hx hac.2.1 zA, belK hx hac.2.2 zA⟩) (fun HKP hHeld => ?_)
  refine tk 0 ?_
  refine tk 1 ?_
  refine tk 2 ?_
  refine tk 3 ?_
  refine tk 4 ?_
  refine tk 5 ?_ (hy := look1_y rfl rfl Try.underlying62 Try.zeroValue30 rfl rfl HX.out (fun w' hw => HM.out.below hw.1) HV.out)
  refine tk 6 ?_
  refine tk 7 ?_
  refine wpAnyH_done (by kernel_rfl) ?_ _
  clear hHeld HKP zA zp hpc hac
  go_wp2_with fail
  have HW1 : Hid (FgR w S p n bn bu A fn G (x1, x2, x3) (.slice a l.length cap) l 0 s.drew) := Lib.hid (HW0.out.below (Below.refl _ _).drew)
  obtain ⟨L, hL⟩ : ∃ L, L = l.length := ⟨_, rfl⟩
  rw [← hL] at HW1 ⊢
  have HLL := Lib.hid hL
  have hLb : L ≤ 5864062014805 := by rw [hL]; exact HLB.out
  clear hL HW0
  go_loopw [13] (fun i wr => ∃ k : Nat, k ≤ L ∧ i = .int .i64 k ∧ FgR w S p n bn bu A fn G (x1, x2, x3) (.slice a L cap) l k wr) (fun i _ => L - (intOf i).toNat)
  case atStart => exact ⟨0, by omega, rfl, HW1.out⟩
  case round =>
    obtain ⟨k, hk, rfl, hR⟩ := hrel
    have HR := Lib.hid hR
    clear hR
    by_cases hlt : k < L
    · have hkl : k < l.length := by rw [← HLL.out]; exact hlt
      obtain ⟨g, o, rfl, hg, c0, c1, c2⟩ := HR.out.cs.at k hkl
      obtain ⟨fu, hU⟩ := HR.out.us
      have hE := E_here HL.out HSL.out hkl
      obtain ⟨b, hyb, hSb, hbn, hbu, hmb⟩ : ∃ b, fu l[k] = some (.map (some b)) ∧ S b ∧ b ≠ bn ∧ b ≠ bu ∧ MapAt wr b n (fun z => if E_k G (x1, x2, x3) l k l[k] z then some unitV else none) := by
        cases hf : fu l[k] with
        | none => rw [hU.no _ hf] at hE; cases hE
        | some v => obtain ⟨b, rfl, h1, h2, h3, h4⟩ := hU.yes _ v hf; exact ⟨b, rfl, h1, h2, h3, h4⟩
      have hoy := HOL.out l[k] (List.getElem_mem hkl)
      have hnx := E_next G (x1, x2, x3) l k hkl
      have HU := Lib.hid hU
      have HYB := Lib.hid hyb
      have HSB := Lib.hid hSb
      have HBN := Lib.hid hbn
      have HBU := Lib.hid hbu
      have HMB := Lib.hid hmb
      have HOY := Lib.hid hoy
      have HNX := Lib.hid hnx
      have HG := Lib.hid hg
      clear hU hyb hSb hbn hbu hmb hoy hnx hE hg
      generalize l[k] = y at *
      obtain ⟨y1, y2, y3⟩ := y
      go_wp2_with fail
      obtain ⟨B, hB⟩ : ∃ B, B = wr.heap.size := ⟨_, rfl⟩
      obtain ⟨s1, hs1⟩ : ∃ s1, s1 = wr.alloc (.cells #[.int .i64 y1, .int .i64 y2, .int .i64 y3] 32) := ⟨_, rfl⟩
      have hb1 : Below wr.heap.size wr s1 := by rw [hs1]; exact (Below.refl _ wr).alloc (Nat.le_refl _) _
      have hR1 := HR.out.below hb1
      have hU1 := HU.out.kept (Kept.of_below hb1)
      have hm1 := HMB.out.below hb1
      have hbb : s1.heap[B]? = some (.cells #[.int .i64 y1, .int .i64 y2, .int .i64 y3] 32 (0, 0)) := by rw [hs1, hB]; exact World.alloc_heap_new wr _
      rw [← hs1, ← hB]
      have HB1 := Lib.hid hb1
      have HR1 := Lib.hid hR1
      have HU1 := Lib.hid hU1
      have HM1 := Lib.hid hm1
      have hpc := two_cells hR1.pb
      have hac := three_cells' hR1.ab
      have hbc := three_cells' hbb
      have zp : p < s1.heap.size := (Array.getElem?_eq_some_iff.1 hR1.pb).1
      have zA : A < s1.heap.size := (Array.getElem?_eq_some_iff.1 hR1.ab).1
      have zB : B < s1.heap.size := (Array.getElem?_eq_some_iff.1 hbb).1
      have np : p ≠ b := cells_ne hR1.pb hm1.isMap
      have nA : A ≠ b := cells_ne hR1.ab hm1.isMap
      have nB : B ≠ b := cells_ne hbb hm1.isMap
      have HBB := Lib.hid hbb
      clear hB hs1 hb1 hR1 hU1 hm1 hbb c0 c1 c2
      refine wrb (b := b) (S := fun w' => ButB b s1 w' ∧ w'.cell? ⟨p, 1, none⟩ = some (.map (some bu)) ∧ (w'.cell? ⟨B, 0, none⟩ = some (.int .i64 y1) ∧ w'.cell? ⟨B, 1, none⟩ = some (.int .i64 y2) ∧ w'.cell? ⟨B, 2, none⟩ = some (.int .i64 y3)) ∧ w'.cell? ⟨A, 0, none⟩ = some (.int .i64 x1) ∧ w'.cell? ⟨A, 1, none⟩ = some (.int .i64 x2) ∧ w'.cell? ⟨A, 2, none⟩ = some (.int .i64 x3)) (by kernel_rfl) (fun w' hx => ⟨hx, hx.cell hpc.2 zp np, ⟨hx.cell hbc.1 zB nB, hx.cell hbc.2.1 zB nB, hx.cell hbc.2.2 zB nB⟩, hx.cell hac.1 zA nA, hx.cell hac.2.1 zA nA, hx.cell hac.2.2 zA nA⟩) (fun HKP hHeld => ?_)
      refine tk 0 ?_
      refine tk 1 ?_
      refine tk 2 ?_
      refine tk 3 ?_
      refine tk 4 ?_
      refine tk 5 ?_ (hy := look1_y (v := .map (some b)) rfl rfl Try.underlying63 Try.zeroValue70 rfl rfl HOY.out (fun w' hw => hw.1.map HU1.out.m (Ne.symm HBU.out)) (by rw [HYB.out]; rfl))
      refine tk 6 ?_
      refine rd1 7 (by kernel_rfl) rfl fun K hK => ?_
      refine step_drop rfl _ _ _ rfl Try.underlying70 rfl (HM1.out.below (Below.refl _ _).drew) rfl HX.out (fun w4 hm4 hg4 => ?_)
      have hb4 : ButB b s1 w4 := (ButB.of_below (Below.refl _ _).drew).wrote hg4
      refine hK.out _ _ (HKP.out w4 hb4) (fun hHeld => ?_)
      clear hK K
      try simp only [pz]
      refine wpAnyH_done (by kernel_rfl) ?_ _
      obtain ⟨kk, hkk, hlen, hz⟩ := hm4.size Try.underlying70
      have HM4 := Lib.hid hm4
      have HG4 := Lib.hid hg4
      have HLEN := Lib.hid hlen
      have HZ := Lib.hid hz
      have hpc4 := hHeld.2.1
      have hbc4 := hHeld.2.2.1
      have zp4 := Nat.lt_of_lt_of_le zp hb4.size
      have zB4 := Nat.lt_of_lt_of_le zB hb4.size
      have HB4 := Lib.hid hb4
      clear HKP hHeld hpc hac hbc hm4 hg4 hlen hz hb4
      by_cases hk0 : kk = 0
      · have hkb : ((kk : Int) == 0) = true := by simp [hk0]
        have HK0 := Lib.hid hk0
        clear hk0
        go_wp2_with fail
        refine wrp (S := fun w' => Below w4.heap.size w4 w' ∧ w'.cell? ⟨p, 1, none⟩ = some (.map (some bu)) ∧ w'.cell? ⟨B, 0, none⟩ = some (.int .i64 y1) ∧ w'.cell? ⟨B, 1, none⟩ = some (.int .i64 y2) ∧ w'.cell? ⟨B, 2, none⟩ = some (.int .i64 y3)) (by kernel_rfl) (fun w' hx => ⟨hx, belK hx hpc4 zp4, belK hx hbc4.1 zB4, belK hx hbc4.2.1 zB4, belK hx hbc4.2.2 zB4⟩) (fun HKP hHeld => ?_)
        refine tk 0 ?_
        refine tk 1 ?_
        refine tk 2 ?_
        refine tk 3 ?_
        refine tk 4 ?_
        refine tk 5 ?_ (hy := look1_y (v := .map (some b)) rfl rfl Try.underlying63 Try.zeroValue70 rfl rfl HOY.out (fun w' hw => (HB4.out.map HU1.out.m (Ne.symm HBU.out)).below hw.1) (by rw [HYB.out]; rfl))
        refine tk 6 ?_ (hy := cnt_y rfl rfl rfl (fun w' hw ty => HLEN.out w' (hw.1.block b HM4.out.lt) ty))
        refine tk 7 ?_
        refine wpAnyH_done (by kernel_rfl) ?_ _
        clear HKP hHeld
        go_wp2_with fail
        have MU4 := HB4.out.map HU1.out.m (Ne.symm HBU.out)
        have hpb4 := cells_far HR1.out.pb HM1.out.isMap (grown_undrew HG4.out)
        have hbb4 := cells_far HBB.out HM1.out.isMap (grown_undrew HG4.out)
        have np4 : p ≠ bu := cells_ne hpb4 MU4.isMap
        have nB4 : B ≠ bu := cells_ne hbb4 MU4.isMap
        have HMU := Lib.hid MU4
        clear MU4 hpb4 hbb4
        refine wrb (b := bu) (S := fun w' => ButB bu w4 w' ∧ w'.cell? ⟨p, 1, none⟩ = some (.map (some bu)) ∧ w'.cell? ⟨B, 0, none⟩ = some (.int .i64 y1) ∧ w'.cell? ⟨B, 1, none⟩ = some (.int .i64 y2) ∧ w'.cell? ⟨B, 2, none⟩ = some (.int .i64 y3)) (by kernel_rfl) (fun w' hx => have hx : ButB bu w4 w' := ⟨hx.os, hx.tape, hx.output, hx.size, hx.block⟩; ⟨hx, hx.cell hpc4 zp4 np4, hx.cell hbc4.1 zB4 nB4, hx.cell hbc4.2.1 zB4 nB4, hx.cell hbc4.2.2 zB4 nB4⟩) (fun HKP hHeld => ?_)
        refine tk 0 ?_
        refine tk 1 ?_
        refine tk 2 ?_
        refine tk 3 ?_
        refine tk 4 ?_
        refine rd1 5 (by kernel_rfl) rfl fun K hK => ?_
        refine step_drop rfl _ _ _ rfl Try.underlying63 rfl (HMU.out.below (Below.refl _ _).drew.drew) rfl HOY.out (fun w6 hm6 hg6 => ?_)
        have hg6' := grown_undrew (grown_undrew hg6)
        refine hK.out _ _ (HKP.out w6 ((ButB.of_below (Below.refl _ _).drew).wrote hg6)) (fun hHeld => ?_)
        clear hK K
        try simp only [pz]
        refine wpAnyH_done (by kernel_rfl) ?_ _
        have HM6 := Lib.hid hm6
        have HG6 := Lib.hid hg6'
        clear HKP hHeld hm6 hg6 hg6'
        go_wp2_with fail
        go_roundw
        case rel =>
          refine ⟨k + 1, by omega, by go_num, ?_⟩
          exact FgR.cutLast HR1.out HU1.out HYB.out HSB.out HBN.out HBU.out HM1.out.isMap (grown_undrew HG4.out) (fun z hE => by
            have := HZ.out.1 HK0.out z
            by_cases e : z = (x1, x2, x3)
            · exact e
            · rw [if_neg e, if_pos hE] at this; cases this) HG6.out HM6.out HNX.out
        case measure => simp [intOf]; omega
      · have hkb : ((kk : Int) == 0) = false := by simp [hk0]
        have HK0 := Lib.hid hk0
        clear hk0
        go_wp2_with fail
        refine wrp (S := fun w' => Below w4.heap.size w4 w' ∧ w'.cell? ⟨p, 1, none⟩ = some (.map (some bu)) ∧ w'.cell? ⟨B, 0, none⟩ = some (.int .i64 y1) ∧ w'.cell? ⟨B, 1, none⟩ = some (.int .i64 y2) ∧ w'.cell? ⟨B, 2, none⟩ = some (.int .i64 y3)) (by kernel_rfl) (fun w' hx => ⟨hx, belK hx hpc4 zp4, belK hx hbc4.1 zB4, belK hx hbc4.2.1 zB4, belK hx hbc4.2.2 zB4⟩) (fun HKP hHeld => ?_)
        refine tk 0 ?_
        refine tk 1 ?_
        refine tk 2 ?_
        refine tk 3 ?_
        refine tk 4 ?_
        refine tk 5 ?_ (hy := look1_y (v := .map (some b)) rfl rfl Try.underlying63 Try.zeroValue70 rfl rfl HOY.out (fun w' hw => (HB4.out.map HU1.out.m (Ne.symm HBU.out)).below hw.1) (by rw [HYB.out]; rfl))
        refine tk 6 ?_ (hy := cnt_y rfl rfl rfl (fun w' hw ty => HLEN.out w' (hw.1.block b HM4.out.lt) ty))
        refine tk 7 ?_
        refine wpAnyH_done (by kernel_rfl) ?_ _
        clear HKP hHeld
        go_wp2_with fail
        go_roundw
        case rel =>
          refine ⟨k + 1, by omega, by go_num, ?_⟩
          refine (FgR.cut HR1.out HU1.out HYB.out HSB.out HBN.out HM1.out.isMap (grown_undrew HG4.out) HM4.out ?_ HNX.out).below (Below.refl _ _).drew
          refine Classical.byContradiction fun hno => HK0.out (HZ.out.2 fun z => ?_)
          by_cases e : z = (x1, x2, x3)
          · rw [if_pos e]
          · rw [if_neg e]
            cases hE : E_k G (x1, x2, x3) l k (y1, y2, y3) z with
            | false => rfl
            | true => exact absurd ⟨z, hE, e⟩ hno
        case measure => simp [intOf]; omega
    · obtain rfl : k = L := by omega
      go_wp2_with fail
      have hpc := two_cells HR.out.pb
      have hac := three_cells' HR.out.ab
      have zp : p < wr.heap.size := (Array.getElem?_eq_some_iff.1 HR.out.pb).1
      have zA : A < wr.heap.size := (Array.getElem?_eq_some_iff.1 HR.out.ab).1
      have np : p ≠ bn := cells_ne HR.out.pb HR.out.nd.m.isMap
      have nA : A ≠ bn := cells_ne HR.out.ab HR.out.nd.m.isMap
      refine wrb (b := bn) (S := fun w' => ButB bn wr w' ∧ w'.cell? ⟨p, 0, none⟩ = some (.map (some bn)) ∧ w'.cell? ⟨A, 0, none⟩ = some (.int .i64 x1) ∧ w'.cell? ⟨A, 1, none⟩ = some (.int .i64 x2) ∧ w'.cell? ⟨A, 2, none⟩ = some (.int .i64 x3)) (by kernel_rfl) (fun w' hx => ⟨hx, hx.cell hpc.1 zp np, hx.cell hac.1 zA nA, hx.cell hac.2.1 zA nA, hx.cell hac.2.2 zA nA⟩) (fun HKP hHeld => ?_)
      refine tk 0 ?_
      refine tk 1 ?_
      refine tk 2 ?_
      refine tk 3 ?_
      refine tk 4 ?_
      refine rd1 5 (by kernel_rfl) rfl fun K hK => ?_
      refine step_drop rfl _ _ _ rfl Try.underlying62 rfl (HR.out.nd.m.below (Below.refl _ _).drew) rfl HX.out (fun w9 hm9 hg9 => ?_)
      have hg9' := grown_undrew hg9
      refine hK.out _ _ (HKP.out w9 ((ButB.of_below (Below.refl _ _).drew).wrote hg9)) (fun hHeld => ?_)
      clear hK K
      try simp only [pz]
      refine wpAnyH_done (by kernel_rfl) ?_ _
      have HM9 := Lib.hid hm9
      have HG9 := Lib.hid hg9'
      clear HKP hHeld hm9 hg9 hg9'
      go_wp2_with fail
      go_end0
      obtain ⟨fu', hU⟩ := HR.out.us
      rw [HLL.out] at hU
      exact ⟨rfl, ⟨bn, bu, _, fu', cells_far HR.out.pb HR.out.nd.m.isMap HG9.out, HP.out, HR.out.nd.del HG9.out HM9.out, (hU.congr (E_end HL.out)).far HG9.out⟩, HR.out.tr.wrote HG9.out (Or.inl HR.out.nd.s)⟩
end Go.Proofs.Ytjjpfddgcilliaa
