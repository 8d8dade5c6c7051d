/-
  CIRCLES: sets of cells in memory; a scope with jumps back, told with what is not in the frame.
  CIRCLES: what is reached from a cell (scc.reached).
-/
import Derived.Test.YtjjpfddgcilliaaGra37
import Derived.Test.YtjjpfddgcilliaaScc1
import Derived.ScopeJumps
set_option linter.unusedSimpArgs false
set_option linter.unusedVariables false
namespace Go.Proofs.Ytjjpfddgcilliaa
open Go.RowKit Go.Shelf Go.Sort Go.Lib Go.Maps
set_option maxRecDepth 100000

/-- jumps back to one label: what holds at each, told by a ghost that has a measure. -/
theorem wp_scope_ghost {P : Program} {a : Act} {w : World} {Q : Exit → Act → World → Prop} {Γ : Type} {c rest : Code} (l : Nat) (J : Γ → Act → World → Prop) (μ : Γ → Nat) (hf : findLabel c l = some rest)
    (pass : ∀ γ a w, J γ a w → rest.wp P (Exit.jump l (fun a' w' => ∃ γ', J γ' a' w' ∧ μ γ' < μ γ) Q) a w)
    (first : c.wp P (Exit.jump l (fun a w => ∃ γ, J γ a w) Q) a w) : (Code.scope c).wp P Q a w := by
  intro b k cs
  have hg : gotoIn l (.inScope c :: k) = some (.code rest :: .inScope c :: k) := by simp [gotoIn, hf]
  have key : ∀ n γ a w, μ γ = n → J γ a w → ∃ e a' w', Q e a' w' ∧ Arrives P (lone (b.at a (.code rest :: .inScope c :: k)) cs w) b k cs e a' w' := by
    intro n
    induction n using Nat.strongRecOn with
    | _ n ih =>
      intro γ a w hn hJ
      obtain ⟨e, a₁, w₁, hq, harr⟩ := pass γ a w hJ b (.inScope c :: k) cs
      cases e with
      | normal => exact ⟨.normal, a₁, w₁, hq, Steps.trans harr (.one step_inScope)⟩
      | exit id => exact ⟨.exit id, a₁, w₁, hq, fun k' hk => harr k' (by simp [exitTo, hk])⟩
      | goto l' =>
        obtain ⟨rfl, γ', hJ', hlt⟩ := hq
        obtain ⟨e₂, a₂, w₂, hq₂, harr₂⟩ := ih _ (by omega) γ' a₁ w₁ rfl hJ'
        exact ⟨e₂, a₂, w₂, hq₂, .of_steps (harr _ hg) harr₂⟩
      | ret => exact ⟨_, a₁, w₁, hq, harr⟩
      | panic ch => exact ⟨_, a₁, w₁, hq, harr⟩
      | outgrown => exact ⟨_, a₁, w₁, hq, harr⟩
  obtain ⟨e, a₁, w₁, hq, harr⟩ := first b (.inScope c :: k) cs
  cases e with
  | normal => exact ⟨.normal, a₁, w₁, hq, .head step_scope (Steps.trans harr (.one step_inScope))⟩
  | exit id => exact ⟨.exit id, a₁, w₁, hq, fun k' hk => .head step_scope (harr k' (by simp [exitTo, hk]))⟩
  | goto l' =>
    obtain ⟨rfl, γ, hJ'⟩ := hq
    obtain ⟨e₂, a₂, w₂, hq₂, harr₂⟩ := key _ γ a₁ w₁ rfl hJ'
    exact ⟨e₂, a₂, w₂, hq₂, .of_steps (.head step_scope (harr _ hg)) harr₂⟩
  | ret => exact ⟨_, a₁, w₁, hq, .of_steps (.one step_scope) harr⟩
  | panic ch => exact ⟨_, a₁, w₁, hq, .of_steps (.one step_scope) harr⟩
  | outgrown => exact ⟨_, a₁, w₁, hq, .of_steps (.one step_scope) harr⟩

theorem wp_scope_ghost2 {P : Program} {a : Act} {w : World} {Q : Exit → Act → World → Prop} {Γ : Type} {c rest : Code} (l : Nat) (J : Γ → Act → World → Prop) (μ : Γ → Nat) (hf : findLabel c l = some (Code.skip.seq rest))
    (pass : ∀ γ a w, J γ a w → rest.wp P (Exit.jump l (fun a' w' => ∃ γ', J γ' a' w' ∧ μ γ' < μ γ) Q) a w)
    (first : (∀ γ a w, J γ a w → rest.wp P (Exit.jump l (fun a w => ∃ γ, J γ a w) Q) a w) → c.wp P (Exit.jump l (fun a w => ∃ γ, J γ a w) Q) a w) : (Code.scope c).wp P Q a w :=
  wp_scope_ghost l J μ hf (fun γ a w h => wp_seq (wp_skip (pass γ a w h))) (first fun γ a w h => Code.wp_mono (fun e a w hq => by
    cases e with
    | goto l' => exact ⟨hq.1, hq.2.imp fun _ h => h.1⟩
    | normal => exact hq
    | exit id => exact hq
    | ret => exact hq
    | panic ch => exact hq
    | outgrown => exact hq) (pass γ a w h))
theorem nil_or_snoc {α : Type} (P : List α) : P = [] ∨ ∃ Q t, P = Q ++ [t] := by
  rcases List.eq_nil_or_concat P with h | ⟨Q, t, h⟩
  · exact Or.inl h
  · exact Or.inr ⟨Q, t, by rw [h, List.concat_eq_append]⟩
/-- a set of cells, as a map to nothing. -/
def setF (s : Ce → Bool) : Ce → Option Value := fun z => if s z = true then some unitV else none
theorem setF_put (s : Ce → Bool) (x z : Ce) : (if z = x then some unitV else setF s z) = setF (setB s x) z := by
  unfold setF setB
  by_cases e : z = x
  · simp [e]
  · simp [e]
theorem setF_is (s : Ce → Bool) (x : Ce) : (setF s x).isSome = s x := by
  unfold setF
  cases h : s x with
  | false => rfl
  | true => rfl
set_option maxHeartbeats 4000000 in
theorem cellsHas_any (b n : Nat) (s : Ce → Bool) (x : Ce) (hx : okC x) (w : World) (h : MapAt w b n (setF s)) : Calls Try.prog 53 #[.map (some b), mkC x] w fun e w' => e = .returned (.bool (s x)) ∧ Below w.heap.size w w' := by
  obtain ⟨A, hA⟩ : ∃ A, A = w.heap.size := ⟨_, rfl⟩
  have HV : Hid ((setF s x).getD unitV = .agg #[]) := Lib.hid (by
    unfold setF
    cases s x <;> rfl)
  have HI := Lib.hid (setF_is s x)
  have HX := Lib.hid hx
  have HM := Lib.hid h
  clear h hx
  generalize s x = r at *
  obtain ⟨x1, x2, x3⟩ := x
  unfold mkC
  dsimp only
  go_enter Try.func53, Try.ntmps53
  go_wp2_with (refine wpList_look rfl _ _ _ _ rfl Try.underlying77 (Try.zeroValue71 _) rfl (HM.out.below ((Below.refl _ w).alloc (Nat.le_refl _) _)) rfl HX.out ?_; rw [if_pos rfl, show (setF s (x1, x2, x3)).getD (.agg #[]) = .agg #[] from HV.out, HI.out])
  all_goals first | go_ret | go_ret2
  exact ⟨rfl, ((Below.refl _ w).alloc (Nat.le_refl _) _).alloc (by simp) _⟩
end Go.Proofs.Ytjjpfddgcilliaa
namespace Go.Proofs.Ytjjpfddgcilliaa
open Go.RowKit Go.Shelf Go.Sort Go.Lib Go.Maps
set_option maxRecDepth 100000

/-- the pile and the list in memory, and the set of those that were seen. -/
structure RcM (w : World) (b n : Nat) (vp vl : Value) (P l : List Ce) (s : Ce → Bool) (W : World) : Prop where
  m : MapAt W b (n + (P.length + l.length)) (setF s)
  p : W.ownsRow 0 32 3 vp P.length (flC P)
  l : W.ownsRow 0 32 3 vl l.length (flC l)
  pb : ∀ j, vp.ownBlock = some j → w.heap.size ≤ j ∧ vl.ownBlock ≠ some j
  lb : ∀ j, vl.ownBlock = some j → w.heap.size ≤ j
  tr : Trn (fun k => k = b) w W
theorem RcM.below {w : World} {b n : Nat} {vp vl : Value} {P l : List Ce} {s : Ce → Bool} {W W' : World} (h : RcM w b n vp vl P l s W) (hb : Below W.heap.size W W') : RcM w b n vp vl P l s W' :=
  ⟨h.m.below hb, row_below h.p hb, row_below h.l hb, h.pb, h.lb, h.tr.after hb⟩
theorem own_last {W : World} {base : Nat} {e : TypeId} {g n cap : Nat} {P : List Ce} {t : Ce} (h : W.ownsRow base e 3 (.slice (some ⟨g, 0, none⟩) (n + 1) cap) (n + 1) (flC (P ++ [t]))) (hn : n = P.length) : W.ownsRow base e 3 (.slice (some ⟨g, 0, none⟩) n cap) n (flC P) := by
  rcases h.2 with ⟨h', _⟩ | ⟨g', cap', cur, hv, hb, hg, h1, h2, h3, h4⟩
  · cases h'
  · obtain ⟨rfl, rfl⟩ : g = g' ∧ cap = cap' := by simpa using hv
    refine ⟨by rw [flC_length, hn], Or.inr ⟨g, cap, cur, rfl, hb, hg, by omega, h2, h3, ?_⟩⟩
    have hl : (flC P).length = n * 3 := by rw [flC_length, hn]
    have h5 : (cur.toList.take ((n + 1) * 3)).take (n * 3) = (flC P ++ flC [t]).take (n * 3) := by rw [h4, flC_append]
    rw [List.take_take, Nat.min_eq_left (by omega), List.take_append_of_le_length (by omega)] at h5
    rw [h5]
    exact List.take_of_length_le (by omega)
theorem own_at {W : World} {base g n cap : Nat} {P : List Ce} (h : W.ownsRow base 32 3 (.slice (some ⟨g, 0, none⟩) n cap) n (flC P)) (k : Nat) (hk : k < P.length) : g < W.heap.size ∧ W.cell? ⟨g, k * 3, none⟩ = some (.int .i64 P[k].1) ∧ W.cell? ⟨g, k * 3 + 1, none⟩ = some (.int .i64 P[k].2.1) ∧ W.cell? ⟨g, k * 3 + 2, none⟩ = some (.int .i64 P[k].2.2) := by
  obtain ⟨a0, a1, a2⟩ := flC_get P k hk
  have b0 := h.cells (g := g) rfl _ _ a0
  have b1 := h.cells (g := g) rfl _ _ a1
  have b2 := h.cells (g := g) rfl _ _ a2
  rw [Addr.add_lit, Nat.zero_add] at b0 b1 b2
  exact ⟨World.block_lt_of_cell? _ _ b0, b0, b1, b2⟩
theorem own_cap {W : World} {base n : Nat} {e : TypeId} {a : Option Addr} {cap : Nat} {xs : List Value} (h : W.ownsRow base e 3 (.slice a n cap) n xs) : n ≤ cap := by
  rcases h.2 with ⟨h', h0⟩ | ⟨g', cap', cur, hv, _, _, h1, _⟩
  · omega
  · simp at hv; omega
theorem own_none {W : World} {base n : Nat} {e : TypeId} {a : Option Addr} {cap : Nat} {xs : List Value} (h : W.ownsRow base e 3 (.slice a (n + 1) cap) (n + 1) xs) : ∃ g, a = some ⟨g, 0, none⟩ := by
  rcases h.2 with ⟨h', _⟩ | ⟨g', cap', cur, hv, _⟩
  · cases h'
  · exact ⟨g', by simp at hv; exact hv.1⟩
theorem Trn.row {S : Nat → Prop} {a b c : World} {row : Option Nat} (h : Trn S a b) (k : b.grownBy c row) (hx : ∀ x, row = some x → S x ∨ a.heap.size ≤ x) : Trn S a c :=
  ⟨k.os.trans h.os, k.tape.trans h.tape, k.output.trans h.output, Nat.le_trans h.size k.size, fun i hi hn => (k.block i (Nat.lt_of_lt_of_le hi h.size) (fun e => (hx i e.symm).elim hn (by omega))).trans (h.block i hi hn)⟩
theorem row_far {W V : World} {base : Nat} {e : TypeId} {size n : Nat} {v : Value} {xs : List Value} {row : Option Nat} (h : W.ownsRow base e size v n xs) (hg : W.grownBy V row) (hn : ∀ j, v.ownBlock = some j → row ≠ some j) : V.ownsRow base e size v n xs := by
  refine h.kept hg ?_
  cases ho : v.ownBlock with
  | none => exact Or.inl rfl
  | some b => exact Or.inr (fun e => hn b ho e.symm)
section
variable {w W W1 W2 W3 V : World} {b n : Nat} {vp vl vp' vl' : Value} {P l : List Ce} {s : Ce → Bool} {t y : Ce}
/-- the last one of the pile is told. -/
theorem RcM.told (h : RcM w b n vp vl (P ++ [t]) l s W) (hp : W.ownsRow 0 32 3 vp' P.length (flC P)) (hpb : vp'.ownBlock = vp.ownBlock) (hB : Below W.heap.size W W2) (hg : W2.grownBy V vl.ownBlock) (h1 : V.ownsRow 0 32 3 vl' (l ++ [t]).length (flC (l ++ [t])))
    (hb1 : vl'.ownBlock = vl.ownBlock ∨ vl'.ownBlock = some W2.heap.size) (hbw : b < w.heap.size) : RcM w b n vp' vl' P (l ++ [t]) s V := by
  have hpl : ∀ j, vp'.ownBlock = some j → j < W.heap.size := fun j hj => (hp.lt j hj).2
  refine ⟨?_, row_far (row_below hp hB) hg fun j hj => (h.pb j (hpb ▸ hj)).2, h1, fun j hj => ⟨(h.pb j (hpb ▸ hj)).1, fun e => ?_⟩, fun j hj => ?_, (h.tr.after hB).row hg fun x hx => Or.inr (h.lb x hx)⟩
  · have hm := (h.m.below hB).kept hg (fun e => by have := h.lb b e.symm; omega)
    have e : n + (P.length + (l ++ [t]).length) = n + ((P ++ [t]).length + l.length) := by simp; omega
    rw [e]; exact hm
  · rcases hb1 with h2 | h2
    · exact (h.pb j (hpb ▸ hj)).2 (h2.symm.trans e)
    · have e2 : W2.heap.size = j := Option.some.inj (h2.symm.trans e)
      have := hpl j hj
      have := hB.size
      omega
  · rcases hb1 with h2 | h2
    · exact h.lb j (h2 ▸ hj)
    · have e2 : W2.heap.size = j := Option.some.inj (h2.symm.trans hj)
      have := hB.size
      have := h.tr.size
      omega
/-- one more goes on the pile. -/
theorem RcM.pushed (h : RcM w b n vp vl P l s W) (hB1 : Below W.heap.size W W1) (hg1 : W1.grownBy W2 (some b)) (hm : MapAt W2 b (n + (P.length + l.length) + 1) (setF (setB s y))) (hB2 : Below W2.heap.size W2 W3) (hg : W3.grownBy V vp.ownBlock)
    (h1 : V.ownsRow 0 32 3 vp' (P ++ [y]).length (flC (P ++ [y]))) (hb1 : vp'.ownBlock = vp.ownBlock ∨ vp'.ownBlock = some W3.heap.size) (hbw : b < w.heap.size) : RcM w b n vp' vl (P ++ [y]) l (setB s y) V := by
  have hll : ∀ j, vl.ownBlock = some j → j < W.heap.size := fun j hj => (h.l.lt j hj).2
  have hl2 : W2.ownsRow 0 32 3 vl l.length (flC l) := row_far (row_below h.l hB1) hg1 fun j hj e => by have := h.lb j hj; cases e; omega
  refine ⟨?_, h1, row_far (row_below hl2 hB2) hg fun j hj e => (h.pb j e).2 hj, fun j hj => ⟨?_, fun e => ?_⟩, h.lb, (((h.tr.after hB1).wrote hg1 (Or.inl rfl)).after hB2).row hg fun x hx => Or.inr (h.pb x hx).1⟩
  · have hm2 := (hm.below hB2).kept hg (fun e => by have := (h.pb b e.symm).1; omega)
    have e : n + ((P ++ [y]).length + l.length) = n + (P.length + l.length) + 1 := by simp; omega
    rw [e]; exact hm2
  · rcases hb1 with h2 | h2
    · exact (h.pb j (h2 ▸ hj)).1
    · have e2 : W3.heap.size = j := Option.some.inj (h2.symm.trans hj)
      have := hB1.size
      have := hg1.size
      have := hB2.size
      have := h.tr.size
      omega
  · rcases hb1 with h2 | h2
    · exact (h.pb j (h2 ▸ hj)).2 e
    · have e2 : W3.heap.size = j := Option.some.inj (h2.symm.trans hj)
      have := hll j e
      have := hB1.size
      have := hg1.size
      have := hB2.size
      omega
end
/-- what holds at each jump. -/
def RcJ (w : World) (p sf b n : Nat) (E : Ce → Ce → Prop) (x0 : Ce) (s0 : Ce → Bool) (K : List Ce) (γ : List Ce × List Ce × (Ce → Bool)) (a' : Act) (W : World) : Prop :=
  ∃ vp vl, RcM w b n vp vl γ.1 γ.2.1 γ.2.2 W ∧ Rch E (fun _ _ => False) x0 s0 K γ.1 γ.2.1 γ.2.2 ∧ ∃ u1 u4 u5 u6 u7 u8 u11 u12 u13 u14 u15 u16 u17 u18 u19 u20 u21 u22 u23 u24 u25 u26 u27 u28 u29 u30 u31 u32 u33 u34 u35 u36 u37 u38 u39 u40 u41 u42 u43 u44 u45 u46 u47 u48 u49 u50 u51 u52 u53 u54 u55 u56 u57 u58 u59 u60 u61 u62 : Value, a' = { tmps := #[.pointer (some ⟨p, 0, none⟩), u1, .func (.func sf) #[.pointer (some ⟨p, 0, none⟩)] #[], .map (some b), u4, u5, u6, u7, u8, vp, vl, u11, u12, u13, u14, u15, u16, u17, u18, u19, u20, u21, u22, u23, u24, u25, u26, u27, u28, u29, u30, u31, u32, u33, u34, u35, u36, u37, u38, u39, u40, u41, u42, u43, u44, u45, u46, u47, u48, u49, u50, u51, u52, u53, u54, u55, u56, u57, u58, u59, u60, u61, u62], defers := [] }
def InR (w : World) (b n : Nat) (vq vl v3 : Value) (l1 : List Ce) (E : Ce → Ce → Prop) (t : Ce) (ls : List Ce) (x0 : Ce) (s0 : Ce → Bool) (K : List Ce) (k : Nat) (W : World) : Prop :=
  (∃ P s, RcM w b n vq vl P l1 s W ∧ Rch E (fun z y => z = t ∧ y ∈ ls.drop k) x0 s0 K P l1 s) ∧ CsAt W v3 ls ∧ ∀ j, vq.ownBlock = some j → blkOf v3 ≠ some j
theorem CsAt.rowed {W V : World} {v : Value} {l : List Ce} {row : Option Nat} (h : CsAt W v l) (hg : W.grownBy V row) (hn : ∀ j, blkOf v = some j → row ≠ some j) : CsAt V v l :=
  h.kept hg.size fun b _ _ _ h1 h2 => hg.block b (Array.getElem?_eq_some_iff.1 h2).1 fun e => hn b h1 e.symm
set_option maxHeartbeats 16000000 in
theorem reached_any (p sf b n : Nat) (E : Ce → Ce → Prop) (hasB : Ce → Bool) (stp : Ce → List Ce) (x0 : Ce) (s0 : Ce → Bool) (K : List Ce) (w : World)
    (eg : ∀ args w, (callFunc sf args).run Try.prog w = .ok (.enter sf args) w)
    (hstep : ∀ W, Trn (fun k => k = b) w W → ∀ x ∈ K, Calls Try.prog sf #[.pointer (some ⟨p, 0, none⟩), mkC x] W fun e w' => (∃ v, e = .returned v ∧ CsNew w' W.heap.size v (stp x)) ∧ Below W.heap.size W w')
    (hhas : ∀ W, Trn (fun k => k = b) w W → ∀ x, okC x → Calls Try.prog 40 #[.pointer (some ⟨p, 0, none⟩), mkC x] W fun e w' => e = .returned (.bool (hasB x)) ∧ Below W.heap.size W w')
    (hE : ∀ x ∈ K, ∀ y, E x y ↔ y ∈ stp x ∧ hasB y = true) (hK : ∀ x, hasB x = true → x ∈ K) (hok : ∀ x ∈ K, okC x ∧ ∀ y ∈ stp x, okC y) (hKl : K.length ≤ 100000) (hn : n ≤ 100000) (hsl : ∀ x ∈ K, (stp x).length ≤ 100000)
    (hm : MapAt w b n (setF s0)) (h0 : s0 x0 = false) (hx0 : x0 ∈ K) :
    Calls Try.prog 54 #[.pointer (some ⟨p, 0, none⟩), mkC x0, .func (.func sf) #[.pointer (some ⟨p, 0, none⟩)] #[], .map (some b)] w fun e w' => ∃ v l s, e = .returned v ∧ CsNew w' w.heap.size v l ∧ l.Nodup ∧ (∀ z, z ∈ l ↔ Rt (Ev E s0) x0 z) ∧ MapAt w' b (n + l.length) (setF s) ∧ (∀ z, s z = true ↔ s0 z = true ∨ z ∈ l) ∧ Trn (fun k => k = b) w w' := by
  obtain ⟨Po, hPo⟩ : ∃ Po : Ending → World → Prop, Po = fun e w' => ∃ v l s, e = .returned v ∧ CsNew w' w.heap.size v l ∧ l.Nodup ∧ (∀ z, z ∈ l ↔ Rt (Ev E s0) x0 z) ∧ MapAt w' b (n + l.length) (setF s) ∧ (∀ z, s z = true ↔ s0 z = true ∨ z ∈ l) ∧ Trn (fun k => k = b) w w' := ⟨_, rfl⟩
  rw [← hPo]
  have HPO := Lib.hid hPo
  have HST := Lib.hid hstep
  have HHA := Lib.hid hhas
  have HE := Lib.hid hE
  have HK := Lib.hid hK
  have HOK := Lib.hid hok
  have HKL := Lib.hid hKl
  have HN := Lib.hid hn
  have HSL := Lib.hid hsl
  have HM := Lib.hid hm
  have HS0 := Lib.hid h0
  have HX0 := Lib.hid hx0
  have HOX := Lib.hid (hok x0 hx0).1
  have HMADE := Lib.hid (Rch.made (E := E) (V := fun _ _ => False) h0 hx0)
  clear hPo hstep hhas hE hK hok hKl hn hsl hm h0 hx0
  have hbw : b < w.heap.size := HM.out.lt
  have HBW := Lib.hid hbw
  clear hbw
  obtain ⟨x1, x2, x3⟩ := x0
  unfold mkC
  dsimp only
  go_enter Try.func54, Try.ntmps54
  go_wp2_with fail
  refine wp_scope_ghost2 0 (RcJ w p sf b n E (x1, x2, x3) s0 K) (fun γ => K.length - γ.2.1.length) rfl (fun γ a' W hJ => ?pass) (fun HP => ?first)
  case first =>
    have hb1 : Below w.heap.size w (w.alloc (.cells #[.int .i64 x1, .int .i64 x2, .int .i64 x3] 32)) := (Below.refl _ w).alloc (Nat.le_refl _) _
    have hbx := box_at (w := w) (a := x1) (b := x2) (c := x3) rfl
    have hnb : some w.heap.size ≠ some b := fun e => by have := HBW.out; cases e; omega
    go_wp2_with (refine wpList_store rfl _ _ _ _ rfl Try.underlying77 rfl (HM.out.below hb1) (by have := HN.out; unfold maxLen; omega) (y := (x1, x2, x3)) rfl HOX.out (u := unitV) rfl ?_; intro W1 hm1 hg1; have k0 := hg1.cell hbx.1 hnb; have k1 := hg1.cell hbx.2.1 hnb; have k2 := hg1.cell hbx.2.2 hnb; have HM1 := Lib.hid hm1; have HG1 := Lib.hid hg1; clear hm1 hg1)
    go_step3
    simp only [Exit.then]
    rename_i KK hKK
    refine hKK _ _ ?_
    refine HP ([(x1, x2, x3)], [], setB s0 (x1, x2, x3)) _ _ ⟨.slice (some ⟨W1.heap.size, 0, none⟩) 1 1, .slice none 0 0, ?_, ?_, _, _, _, _, _, _, _, _, _, _, _, _, _, _, _, _, _, _, _, _, _, _, _, _, _, _, _, _, _, _, _, _, _, _, _, _, _, _, _, _, _, _, _, _, _, _, _, _, _, _, _, _, _, _, _, _, _, _, rfl⟩
    · refine ⟨(HM1.out.below ((Below.refl _ W1).alloc (Nat.le_refl _) _)).congr fun z => setF_put s0 (x1, x2, x3) z, World.ownsRow_lit W1 #[.int .i64 x1, .int .i64 x2, .int .i64 x3] 1 (Nat.zero_le _) (by unfold maxLen; omega) rfl, World.ownsRow_nil _ _ _ _, fun j hj => ?_, fun j hj => (by cases hj), ((Trn.of_below (S := fun k => k = b) hb1).wrote HG1.out (Or.inl rfl)).al _⟩
      have e : W1.heap.size = j := Option.some.inj hj
      have := HG1.out.size
      simp at this
      exact ⟨by omega, fun h => by cases h⟩
    · exact HMADE.out
  case pass =>
    obtain ⟨P, l, s⟩ := γ
    obtain ⟨vp, vl, hrm, hrc, u1, u4, u5, u6, u7, u8, u11, u12, u13, u14, u15, u16, u17, u18, u19, u20, u21, u22, u23, u24, u25, u26, u27, u28, u29, u30, u31, u32, u33, u34, u35, u36, u37, u38, u39, u40, u41, u42, u43, u44, u45, u46, u47, u48, u49, u50, u51, u52, u53, u54, u55, u56, u57, u58, u59, u60, u61, u62, rfl⟩ := hJ
    dsimp only at hrm hrc
    have HRM := Lib.hid hrm
    have HRC := Lib.hid hrc
    clear hrm hrc
    obtain ⟨al, cl, rfl⟩ := own_slice HRM.out.l
    rcases nil_or_snoc P with rfl | ⟨P, t, rfl⟩
    · obtain ⟨ap, cp, rfl⟩ := own_slice HRM.out.p
      go_wp2_with fail
      refine (show Po (.returned (.slice al l.length cl)) W from ?_)
      rw [HPO.out]
      obtain ⟨h1, h2, h3⟩ := HRC.out.done
      exact ⟨_, l, s, rfl, ⟨(CsAt.of_owns HRM.out.l).1, HRM.out.lb⟩, h1, h2, HRM.out.m.mono (by simp), h3, HRM.out.tr⟩
    · have hl1 : (P ++ [t]).length = P.length + 1 := by simp
      obtain ⟨ap, cp, hvp⟩ := own_slice HRM.out.p
      rw [hl1] at hvp
      subst hvp
      have hown := HRM.out.p
      rw [hl1] at hown
      obtain ⟨g, rfl⟩ := own_none hown
      have hcp := own_cap hown
      have hk : P.length < (P ++ [t]).length := by rw [hl1]; omega
      have hcell := own_at (n := P.length + 1) (by rw [← hl1] at hown ⊢; exact hown) P.length hk
      rw [show (P ++ [t])[P.length] = t by simp] at hcell
      have HOWN := Lib.hid (own_last hown rfl)
      have htK : t ∈ K := HRC.out.keys t (Or.inl (by simp))
      have HTK := Lib.hid htK
      have HOT := Lib.hid (HOK.out t htK)
      have hll := HRC.out.len
      have HLL := Lib.hid hll
      obtain ⟨m, hm⟩ : ∃ m, m = P.length := ⟨_, rfl⟩
      rw [← hm] at hcell HOWN hcp ⊢
      have HMP := Lib.hid hm
      obtain ⟨hgw, c0, c1, c2⟩ := hcell
      have hm1 : m ≤ 100000 := by have := HKL.out; rw [hl1] at hll; omega
      clear hl1 hown hk htK hll hm
      obtain ⟨t1, t2, t3⟩ := t
      dsimp only at c0 c1 c2
      have hst := (HSL.out (t1, t2, t3) HTK.out)
      go_wp2_with (at_builtin; refine wpList_append_lat rfl _ _ rfl (.slice al l.length cl) _ l [(t1, t2, t3)] rfl ((HRM.out.l.alloc _).alloc _) rfl (Or.inl (one_new2 _ _ t1 t2 t3 _)) (by have := HKL.out; have := HLL.out; simp at *; omega) ?_; intro vl2 V1 h1 g1 b1; obtain ⟨al2, cl2, rfl⟩ := own_slice h1; have hBa : Below W.heap.size W ((W.alloc (.cells #[.int .i64 t1, .int .i64 t2, .int .i64 t3] 32)).alloc (.cells #[.int .i64 t1, .int .i64 t2, .int .i64 t3] 32)) := ((Below.refl _ W).alloc (Nat.le_refl _) _).alloc (by simp) _; have HR1 := Lib.hid (HRM.out.told (vp' := .slice (some ⟨g, 0, none⟩) m cp) (by rw [← HMP.out]; exact HOWN.out) rfl hBa g1 h1 b1 HBW.out); have hdn : some W.heap.size ≠ (Value.slice al l.length cl).ownBlock := (fun e => by have := (HRM.out.l.lt _ e.symm).2; omega); have hbx := bx1 (l := [.int .i64 t1, .int .i64 t2, .int .i64 t3]) (W := W) (t := 32) (o := .cells #[.int .i64 t1, .int .i64 t2, .int .i64 t3] 32) rfl rfl; have k0 := g1.cell (hbx 0 _ rfl) hdn; have k1 := g1.cell (hbx 1 _ rfl) hdn; have k2 := g1.cell (hbx 2 _ rfl) hdn; clear hbx hdn h1 g1 b1 hBa c0 c1 c2; go_wp2_with (show Calls _ sf _ _ _; refine (HST.out _ HR1.out.tr (t1, t2, t3) HTK.out).mono ?_; rintro e V2 ⟨⟨v3, rfl, hv3⟩, hb3⟩; obtain ⟨a3, c3, rfl, _⟩ := hv3.1.shape; have HV3 := Lib.hid hv3; have HB3 := Lib.hid hb3; clear hv3 hb3 k0 k1 k2))
      have HM0 := Lib.hid (HR1.out.below HB3.out)
      obtain ⟨ls, hls⟩ : ∃ ls, ls = stp (t1, t2, t3) := ⟨_, rfl⟩
      rw [← hls] at HV3 hst ⊢
      have HLS := Lib.hid hls
      obtain ⟨L, hL⟩ : ∃ L, L = ls.length := ⟨_, rfl⟩
      rw [← hL] at HV3 hst ⊢
      have HLL2 := Lib.hid hL
      have HRC0 : Hid (Rch E (fun z y => z = (t1, t2, t3) ∧ y ∈ ls.drop 0) (x1, x2, x3) s0 K P (l ++ [(t1, t2, t3)]) s) := Lib.hid (HRC.out.pop fun y hy => ⟨rfl, by rw [List.drop_zero, hls]; exact ((HE.out _ HTK.out y).1 hy).1⟩)
      have hln : (l ++ [(t1, t2, t3)]).length ≤ 100000 := by have := HRC0.out.len; have := HKL.out; omega
      have HLN := Lib.hid hln
      have HDEC : Hid (K.length - (l ++ [(t1, t2, t3)]).length < K.length - l.length) := Lib.hid (by have := HRC0.out.len; simp at *; omega)
      have HTL : Hid ((t1, t2, t3) ∈ l ++ [(t1, t2, t3)]) := Lib.hid (by simp)
      have HGV : Hid (blkOf (.slice a3 L c3) ≠ some g) := Lib.hid fun e => by
        have h1 := HV3.out.2 g e
        have h2 := (HR1.out.p.lt g rfl).2
        omega
      have HLE : Hid ((l ++ [(t1, t2, t3)]).length = l.length + 1) := Lib.hid (by simp)
      clear hls hL hln HRM HR1 HOWN HMP HB3 hm1 hcp HLL
      generalize l ++ [(t1, t2, t3)] = l1 at *
      go_loopw [9, 42] (fun vq i wr => ∃ k : Nat, k ≤ L ∧ i = .int .i64 k ∧ InR w b n vq (.slice al2 l1.length cl2) (.slice a3 L c3) l1 E (t1, t2, t3) ls (x1, x2, x3) s0 K k wr) (fun _ i _ => L - (intOf i).toNat)
      case atStart => exact ⟨0, by omega, rfl, ⟨P, s, HM0.out, HRC0.out⟩, HV3.out.1, fun j hj => by have e : g = j := Option.some.inj hj; rw [← e]; exact HGV.out⟩
      case round =>
        obtain ⟨k, hk, rfl, ⟨⟨P2, s2, hrm, hrc⟩, hcs, hnv⟩⟩ := hrel
        have HRM := Lib.hid hrm
        have HRC := Lib.hid hrc
        have HCS := Lib.hid hcs
        have HNV := Lib.hid hnv
        obtain ⟨aq, cq, rfl⟩ := own_slice hrm.p
        have hpl : P2.length ≤ 100000 := by have := hrc.len; have := HKL.out; omega
        clear hrm hrc hcs hnv
        by_cases hlt : k < L
        · have hkl : k < ls.length := by rw [← HLL2.out]; exact hlt
          obtain ⟨g3, o3, rfl, hg3, c0, c1, c2⟩ := HCS.out.at k (by rw [HLL2.out] at *; exact hkl)
          have hdr : ls.drop k = ls[k] :: ls.drop (k + 1) := List.drop_eq_getElem_cons hkl
          have hym : ls[k] ∈ ls := List.getElem_mem hkl
          generalize ls[k] = y at *
          have HVV : Hid (∀ z y', (z = (t1, t2, t3) ∧ y' ∈ ls.drop k) → E z y' → (z = (t1, t2, t3) ∧ y' ∈ ls.drop (k + 1)) ∨ y' = y) := Lib.hid fun z y' h _ => by
            rw [hdr] at h
            rcases List.mem_cons.1 h.2 with h2 | h2
            · exact Or.inr h2
            · exact Or.inl ⟨h.1, h2⟩
          have HYM := Lib.hid hym
          have HOY : Hid (okC y) := Lib.hid (HOT.out.2 y (by rw [← HLS.out]; exact hym))
          have HEY : Hid (E (t1, t2, t3) y ↔ hasB y = true) := Lib.hid ((HE.out _ HTK.out y).trans ⟨fun h => h.2, fun h => ⟨by rw [← HLS.out]; exact hym, h⟩⟩)
          have HNE : Hid (hasB y = false → ∀ z ∈ l1, ¬ E z y) := Lib.hid fun h z hz he => by
            have := ((HE.out z (HRC.out.keys z (Or.inr hz)) y).1 he).2
            rw [h] at this; cases this
          have HKY : Hid (hasB y = true → y ∈ K) := Lib.hid (HK.out y)
          clear hdr hym hkl
          obtain ⟨hb, hhb⟩ : ∃ hb, hb = hasB y := ⟨_, rfl⟩
          obtain ⟨sb, hsb⟩ : ∃ sb, sb = s2 y := ⟨_, rfl⟩
          have HHY : Hid (∀ W, Trn (fun k => k = b) w W → Calls Try.prog 40 #[.pointer (some ⟨p, 0, none⟩), mkC y] W fun e w' => e = .returned (.bool hb) ∧ Below W.heap.size W w') := Lib.hid fun W hW => by rw [hhb]; exact HHA.out W hW y HOY.out
          have HSY : Hid (∀ W, MapAt W b (n + (P2.length + l1.length)) (setF s2) → Calls Try.prog 53 #[.map (some b), mkC y] W fun e w' => e = .returned (.bool sb) ∧ Below W.heap.size W w') := Lib.hid fun W hW => by rw [hsb]; exact cellsHas_any b _ s2 y HOY.out W hW
          have HHB := Lib.hid hhb
          have HSB := Lib.hid hsb
          clear hhb hsb
          obtain ⟨y1, y2, y3⟩ := y
          unfold mkC at HHY HSY
          dsimp only at c0 c1 c2 HHY HSY
          cases hb
          · go_wp2_with (go_at_call 40; refine (HHY.out _ ((HRM.out.below ((Below.refl _ wr).alloc (Nat.le_refl _) _)).tr)).mono ?_; rintro e ya ⟨rfl, hba⟩)
            have hB : Below wr.heap.size wr ya := ((Below.refl _ wr).alloc (Nat.le_refl _) _).trans (hba.mono (by simp))
            exact ⟨⟨k + 1, by omega, by go_num, ⟨⟨P2, s2, HRM.out.below hB, HRC.out.skip HVV.out (Or.inl (HNE.out HHB.out.symm))⟩, HCS.out.below hB, HNV.out⟩⟩, by simp [intOf]; omega⟩
          · cases sb
            · have hbx := box_at (w := wr) (a := y1) (b := y2) (c := y3) rfl
              have hnb : some wr.heap.size ≠ some b := fun e => by have := HBW.out; have := HRM.out.tr.size; cases e; omega
              go_wp2_with (first | (go_at_call 40; refine (HHY.out _ ((HRM.out.below ((Below.refl _ wr).alloc (Nat.le_refl _) _)).tr)).mono ?_; rintro e ya ⟨rfl, hba⟩; have HBA := Lib.hid hba; have d0 := belK hba hbx.1 (by simp); have d1 := belK hba hbx.2.1 (by simp); have d2 := belK hba hbx.2.2 (by simp); have hzy := Nat.lt_of_lt_of_le (show wr.heap.size < (wr.alloc (.cells #[.int .i64 y1, .int .i64 y2, .int .i64 y3] 32)).heap.size by simp) hba.size; clear hba) | (go_at_call 53; refine (HSY.out _ ((HRM.out.m.below ((Below.refl _ wr).alloc (Nat.le_refl _) _)).below HBA.out)).mono ?_; rintro e yb ⟨rfl, hbb⟩; have HBB := Lib.hid hbb; have e0 := belK hbb d0 hzy; have e1 := belK hbb d1 hzy; have e2 := belK hbb d2 hzy; have hzb := Nat.lt_of_lt_of_le hzy hbb.size; clear hbb d0 d1 d2; go_wp2_with (refine wpList_store rfl _ _ _ _ rfl Try.underlying77 rfl (((HRM.out.m.below ((Below.refl _ wr).alloc (Nat.le_refl _) _)).below HBA.out).below HBB.out) (by have := HN.out; have := HLN.out; unfold maxLen; omega) (y := (y1, y2, y3)) rfl HOY.out (u := unitV) rfl ?_; intro yc hmc hgc; have f0 := hgc.cell e0 hnb; have f1 := hgc.cell e1 hnb; have f2 := hgc.cell e2 hnb; have HMC := Lib.hid hmc; have HGC := Lib.hid hgc; have hzc := Nat.lt_of_lt_of_le hzb hgc.size; clear hmc hgc e0 e1 e2; go_wp2_with (at_builtin; refine wpList_append_lat rfl _ _ rfl (.slice aq P2.length cq) _ P2 [(y1, y2, y3)] rfl ((row_far (row_below HRM.out.p (((Below.refl _ wr).alloc (Nat.le_refl _) _).trans ((HBA.out.mono (by simp)).trans (HBB.out.mono (by have := HBA.out.size; simp at this; omega))))) HGC.out (fun j hj e => by have := (HRM.out.pb j hj).1; have := HBW.out; cases e; omega)).alloc _) rfl (Or.inl (one_new _ y1 y2 y3 _)) (by simp; omega) ?_; intro vq2 V4 h4 g4 b4; obtain ⟨aq2, cq2, rfl⟩ := own_slice h4; have H4 := Lib.hid h4; have G4 := Lib.hid g4; have B4 := Lib.hid b4; clear h4 g4 b4))))
              have hB1 : Below wr.heap.size wr yb := ((Below.refl _ wr).alloc (Nat.le_refl _) _).trans ((HBA.out.mono (by simp)).trans (HBB.out.mono (by have := HBA.out.size; simp at this; omega)))
              have hm1 : MapAt yc b (n + (P2.length + l1.length) + 1) (setF (setB s2 (y1, y2, y3))) := HMC.out.congr fun z => setF_put s2 (y1, y2, y3) z
              have hrm2 := HRM.out.pushed (y := (y1, y2, y3)) hB1 HGC.out hm1 ((Below.refl _ yc).alloc (Nat.le_refl _) _) G4.out H4.out B4.out HBW.out
              have hrc2 := HRC.out.push HVV.out HTL.out (HEY.out.2 HHB.out.symm) HSB.out.symm (HKY.out HHB.out.symm)
              have hlv : ∀ j, blkOf (.slice (some ⟨g3, o3, none⟩) L c3) = some j → j < wr.heap.size := fun j hj => HCS.out.lt hj
              refine ⟨⟨k + 1, by omega, by go_num, ⟨⟨P2 ++ [(y1, y2, y3)], setB s2 (y1, y2, y3), ?_, hrc2⟩, ?_, fun j hj => ?_⟩⟩, by simp [intOf]; omega⟩
              · simpa using hrm2
              · refine (((HCS.out.below hB1).far (HRM.out.m.below hB1).isMap HGC.out).below ((Below.refl _ yc).alloc (Nat.le_refl _) _)).rowed G4.out fun j hj e => HNV.out j e hj
              · intro hv
                have hjw := hlv j hv
                have hj : (Value.slice aq2 (P2 ++ [(y1, y2, y3)]).length cq2).ownBlock = some j := by cases aq2 <;> exact hj
                rcases B4.out with h | h
                · exact HNV.out j (h.symm.trans hj) hv
                · have e2 := Option.some.inj (h.symm.trans hj)
                  simp at e2
                  have := hB1.size
                  have := HGC.out.size
                  omega
            · have hbx := box_at (w := wr) (a := y1) (b := y2) (c := y3) rfl
              go_wp2_with (first | (go_at_call 40; refine (HHY.out _ ((HRM.out.below ((Below.refl _ wr).alloc (Nat.le_refl _) _)).tr)).mono ?_; rintro e ya ⟨rfl, hba⟩; have HBA := Lib.hid hba; have d0 := belK hba hbx.1 (by simp); have d1 := belK hba hbx.2.1 (by simp); have d2 := belK hba hbx.2.2 (by simp); clear hba) | (go_at_call 53; refine (HSY.out _ ((HRM.out.m.below ((Below.refl _ wr).alloc (Nat.le_refl _) _)).below HBA.out)).mono ?_; rintro e yb ⟨rfl, hbb⟩; have HBB := Lib.hid hbb; clear hbb d0 d1 d2))
              have hB1 : Below wr.heap.size wr yb := ((Below.refl _ wr).alloc (Nat.le_refl _) _).trans ((HBA.out.mono (by simp)).trans (HBB.out.mono (by have := HBA.out.size; simp at this; omega)))
              exact ⟨⟨k + 1, by omega, by go_num, ⟨⟨P2, s2, HRM.out.below hB1, HRC.out.skip HVV.out (Or.inr HSB.out.symm)⟩, HCS.out.below hB1, HNV.out⟩⟩, by simp [intOf]; omega⟩
        · obtain rfl : k = L := by omega
          clear hlt
          go_wp2_with fail
          go_step3
          have hcalm : Rch E (fun _ _ => False) (x1, x2, x3) s0 K P2 l1 s2 := HRC.out.calm fun z y h _ => by
            have := h.2
            rw [HLL2.out, List.drop_length] at this
            cases this
          have hrf : RcM w b n (.slice aq P2.length cq) (.slice al2 (l.length + 1) cl2) P2 l1 s2 wr := by rw [← HLE.out]; exact HRM.out
          refine ⟨rfl, (P2, l1, s2), ?_, HDEC.out⟩
          exact ⟨.slice aq P2.length cq, .slice al2 (l.length + 1) cl2, hrf, hcalm, _, _, _, _, _, _, _, _, _, _, _, _, _, _, _, _, _, _, _, _, _, _, _, _, _, _, _, _, _, _, _, _, _, _, _, _, _, _, _, _, _, _, _, _, _, _, _, _, _, _, _, _, _, _, _, _, _, _, rfl⟩
end Go.Proofs.Ytjjpfddgcilliaa
