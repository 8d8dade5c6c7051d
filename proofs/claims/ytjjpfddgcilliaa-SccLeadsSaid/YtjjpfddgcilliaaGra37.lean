/-
  GRAPHS: the program's and the document's, side by side, each in blocks of its own.
-/
import Derived.Test.YtjjpfddgcilliaaGra36
import Derived.Maps.AppendAt
set_option linter.unusedSimpArgs false
set_option linter.unusedVariables false
namespace Go.Proofs.Ytjjpfddgcilliaa
open Go.RowKit Go.Shelf Go.Sort Go.Lib Go.Maps
set_option maxRecDepth 100000

/-- a list's cells, behind those of a list of one's own: in its own block, or in a new one. -/
theorem wpList_append_lat {ops : Array Oper} {rest : List Oper} {o : Oper} {a : Act} {Q : Exit → Act → World → Prop} {W : World} (hgd : o.guard = none) (s x : Operand)
    (ho : o.op = .call { callee := .builtin .append, args := #[s, x], argTypes := #[30, 30] }) (v xv : Value) (l m : List Ce) (hs : a.eval s = v) (hown : W.ownsRow 0 32 3 v l.length (flC l)) (hx : a.eval x = xv) (hm : LstAt W xv m)
    (hb : (l.length + m.length) * 24 ≤ 140737488355328)
    (h : ∀ v' w', w'.ownsRow 0 32 3 v' (l ++ m).length (flC (l ++ m)) → W.grownBy w' v.ownBlock → (v'.ownBlock = v.ownBlock ∨ v'.ownBlock = some W.heap.size) → wpList Try.prog ops Q rest (a.put o.dst v') w') : wpList Try.prog ops Q (o :: rest) a W := by
  obtain ⟨i0, hi, hz0, hz1, hz2⟩ := info_parts Try.infoCe
  have hlen : l.length + m.length = (l ++ m).length := (List.length_append ..).symm
  have hfl : flC l ++ flC m = flC (l ++ m) := (flC_append l m).symm
  rcases hm with (⟨rfl, rfl⟩ | ⟨g, off, cap, rfl, hg, hc⟩) | ⟨ad, rfl, rfl⟩
  · refine wpList_append_own_none hgd s x _ ho 0 _ i0 3 Try.underlying30 hi v _ _ hs hown hx (h v W ?_ ⟨rfl, rfl, rfl, Nat.le_refl _, fun _ _ _ => rfl⟩ (Or.inl rfl))
    rw [List.append_nil]; exact hown
  · refine wpList_append_own_at W hgd s x _ ho 0 _ i0 _ 3 24 Try.underlying30 hi hz0 hz1 hz2 rfl (by decide) v _ _ hs hown ⟨g, off, none⟩ m.length cap (flC m) hx (flC_length m) (fun j u hj => by rw [Addr.add_lit]; exact hc j u hj) (flC_one m) (by unfold maxLen; omega) hb (Nat.zero_le _) (fun v' w' h1 h2 _ h4 => h v' w' ?_ h2 h4)
    rw [hlen, hfl] at h1; exact h1
  · refine wpList_append_own_at W hgd s x _ ho 0 _ i0 _ 3 24 Try.underlying30 hi hz0 hz1 hz2 rfl (by decide) v _ _ hs hown ad 0 0 [] hx rfl (fun j u hj => by simp at hj) (fun u hu => by cases hu) (by unfold maxLen; omega) (by simpa using hb) (Nat.zero_le _) (fun v' w' h1 h2 _ h4 => h v' w' ?_ h2 h4)
    rw [List.append_nil]; simpa using h1
/-- a graph of the program's and the document's. -/
structure TwoG (n0 p q n : Nat) (R : List Rw) (Sg Sr : Nat → Prop) (W : World) : Prop where
  g : GrAt W Sg p n (rowOf R)
  r : RgAt W Sr q R
  nd : (R.map fun r => r.1).Nodup
  rl : R.length ≤ n
  rs : ∀ r ∈ R, r.2.length ≤ 40
  sg : ∀ j, Sg j → n0 ≤ j ∧ j < W.heap.size
  sr : ∀ j, Sr j → n0 ≤ j ∧ j < W.heap.size
  sd : ∀ j, Sg j → ¬ Sr j
section
variable {n0 p q n : Nat} {R : List Rw} {Sg Sr : Nat → Prop} {W W' y0 y1 y2 : World} {x : Ce} {l : List Ce}
theorem TwoG.kept (h : TwoG n0 p q n R Sg Sr W) (hs : W.heap.size ≤ W'.heap.size) (hk : ∀ k, k < W.heap.size → Sg k ∨ Sr k → W'.heap[k]? = W.heap[k]?) : TwoG n0 p q n R Sg Sr W' where
  g := h.g.kept ⟨hs, fun k hk1 h1 => hk k hk1 (Or.inl h1)⟩
  r := h.r.kept ⟨hs, fun k hk1 h1 => hk k hk1 (Or.inr h1)⟩
  nd := h.nd
  rl := h.rl
  rs := h.rs
  sg := fun j hj => ⟨(h.sg j hj).1, Nat.lt_of_lt_of_le (h.sg j hj).2 hs⟩
  sr := fun j hj => ⟨(h.sr j hj).1, Nat.lt_of_lt_of_le (h.sr j hj).2 hs⟩
  sd := h.sd
theorem TwoG.below (h : TwoG n0 p q n R Sg Sr W) (hb : Below W.heap.size W W') : TwoG n0 p q n R Sg Sr W' := h.kept hb.size fun k hk _ => hb.block k hk
theorem TwoG.mono {m : Nat} (h : TwoG n0 p q n R Sg Sr W) (hm : n ≤ m) : TwoG n0 p q m R Sg Sr W :=
  ⟨h.g.mono (fun _ _ h => h) hm, h.r, h.nd, Nat.le_trans h.rl hm, h.rs, h.sg, h.sr, h.sd⟩
theorem TwoG.low (h : TwoG n0 p q n R Sg Sr W) : n0 ≤ W.heap.size := by
  obtain ⟨_, _, _, _, _, hp, _, _⟩ := h.g
  have := h.sg p hp
  omega
theorem setR_len : ∀ (R : List Rw) (x : Ce) (l : List Ce), (setR R x l).length ≤ R.length + 1
  | [], _, _ => by simp [setR]
  | r :: R, x, l => by
    have ih := setR_len R x l
    unfold setR
    split
    · simp
    · simp only [List.length_cons]; omega
theorem setR_mem : ∀ (R : List Rw) (x : Ce) (l : List Ce), ∀ r ∈ setR R x l, r ∈ R ∨ r = (x, l)
  | [], _, _, r, h => by
    unfold setR at h; exact Or.inr (List.mem_singleton.1 h)
  | r0 :: R, x, l, r, h => by
    unfold setR at h
    split at h
    · rcases List.mem_cons.1 h with h | h
      · exact Or.inr h
      · exact Or.inl (List.mem_cons_of_mem _ h)
    · rcases List.mem_cons.1 h with h | h
      · exact Or.inl (by rw [h]; exact List.mem_cons_self ..)
      · exact (setR_mem R x l r h).imp (List.mem_cons_of_mem _) id
/-- both are set, the document's first. -/
theorem TwoG.set (h : TwoG n0 p q n R Sg Sr y0) (hr : RgAt y1 (fun k => Sr k ∨ y0.heap.size ≤ k) q (setR R x (onc l))) (ht : Trn Sr y0 y1) (hg : GrAt y2 (fun k => Sg k ∨ y1.heap.size ≤ k) p (n + 1 + l.length) (putG (rowOf R) x (onc l))) (ht2 : Trn Sg y1 y2) (hl : l.length ≤ 40) :
    TwoG n0 p q (n + 1 + l.length) (setR R x (onc l)) (fun k => (Sg k ∨ y1.heap.size ≤ k) ∧ k < y2.heap.size) (fun k => (Sr k ∨ y0.heap.size ≤ k) ∧ k < y1.heap.size) y2 where
  g := by rw [rowOf_set]; exact hg.bound
  r := hr.bound.kept (Kept.of_trn ht2 fun k hk hs => by
    rcases hk.1 with h1 | h1
    · exact h.sd k hs h1
    · have := (h.sg k hs).2; omega)
  nd := setR_nodup R x _ h.nd
  rl := by have := setR_len R x (onc l); have := h.rl; omega
  rs := fun r hr => by
    rcases setR_mem R x _ r hr with hr | rfl
    · exact h.rs r hr
    · exact Nat.le_trans (onc_length l) hl
  sg := fun j hj => ⟨by
    rcases hj.1 with h1 | h1
    · exact (h.sg j h1).1
    · have := h.low; have := ht.size; omega, hj.2⟩
  sr := fun j hj => ⟨by
    rcases hj.1 with h1 | h1
    · exact (h.sr j h1).1
    · have := h.low; omega, Nat.lt_of_lt_of_le hj.2 ht2.size⟩
  sd := fun j hj hk => by
    rcases hj.1 with h1 | h1
    · rcases hk.1 with h2 | h2
      · exact h.sd j h1 h2
      · have := (h.sg j h1).2; omega
    · have := hk.2; omega
/-- both are set, the program's first. -/
theorem TwoG.setG (h : TwoG n0 p q n R Sg Sr y0) (hg : GrAt y1 (fun k => Sg k ∨ y0.heap.size ≤ k) p (n + 1 + l.length) (putG (rowOf R) x (onc l))) (ht : Trn Sg y0 y1) (hr : RgAt y2 (fun k => Sr k ∨ y1.heap.size ≤ k) q (setR R x (onc l))) (ht2 : Trn Sr y1 y2) (hl : l.length ≤ 40) :
    TwoG n0 p q (n + 1 + l.length) (setR R x (onc l)) (fun k => (Sg k ∨ y0.heap.size ≤ k) ∧ k < y1.heap.size) (fun k => (Sr k ∨ y1.heap.size ≤ k) ∧ k < y2.heap.size) y2 where
  g := by
    rw [rowOf_set]
    refine hg.bound.kept (Kept.of_trn ht2 fun k hk hs => ?_)
    rcases hk.1 with h1 | h1
    · exact h.sd k h1 hs
    · have := (h.sr k hs).2; omega
  r := hr.bound
  nd := setR_nodup R x _ h.nd
  rl := by have := setR_len R x (onc l); have := h.rl; omega
  rs := fun r hr => by
    rcases setR_mem R x _ r hr with hr | rfl
    · exact h.rs r hr
    · exact Nat.le_trans (onc_length l) hl
  sg := fun j hj => ⟨by
    rcases hj.1 with h1 | h1
    · exact (h.sg j h1).1
    · have := h.low; omega, Nat.lt_of_lt_of_le hj.2 ht2.size⟩
  sr := fun j hj => ⟨by
    rcases hj.1 with h1 | h1
    · exact (h.sr j h1).1
    · have := h.low; have := ht.size; omega, hj.2⟩
  sd := fun j hj hk => by
    rcases hk.1 with h1 | h1
    · rcases hj.1 with h2 | h2
      · exact h.sd j h2 h1
      · have := (h.sr j h1).2; omega
    · have := hj.2; omega
/-- a formula is taken out of both. -/
theorem TwoG.drop (h : TwoG n0 p q n R Sg Sr y0) (hg : GrAt y1 Sg p n (delG (rowOf R) x)) (ht : Trn Sg y0 y1) (hr : RgAt y2 (fun k => Sr k ∨ y1.heap.size ≤ k) q (drpR R x)) (ht2 : Trn (fun k => k = q) y1 y2) :
    TwoG n0 p q n (drpR R x) Sg (fun k => (Sr k ∨ y1.heap.size ≤ k) ∧ k < y2.heap.size) y2 where
  g := by
    rw [rowOf_drp]
    refine hg.kept (Kept.of_trn ht2 fun k hk hs => ?_)
    obtain ⟨_, _, _, hq, _⟩ := h.r
    subst hs
    exact h.sd k hk hq
  r := hr.bound
  nd := drpR_nodup R x h.nd
  rl := Nat.le_trans (List.length_filter_le ..) h.rl
  rs := fun r hr => h.rs r (List.mem_filter.1 hr).1
  sg := fun j hj => ⟨(h.sg j hj).1, Nat.lt_of_lt_of_le (h.sg j hj).2 (Nat.le_trans ht.size ht2.size)⟩
  sr := fun j hj => ⟨by
    rcases hj.1 with h1 | h1
    · exact (h.sr j h1).1
    · have := h.low; have := ht.size; omega, hj.2⟩
  sd := fun j hj hk => by
    rcases hk.1 with h1 | h1
    · exact h.sd j hj h1
    · have := (h.sg j hj).2; have := ht.size; omega
/-- the document's graph, new. -/
theorem RgAt.made (W : World) : RgAt (W.alloc (.cells #[.slice none 0 0] 29)) (fun k => k = W.heap.size) W.heap.size [] :=
  ⟨.slice none 0 0, [], World.alloc_heap_new W _, rfl, World.ownsRow_nil _ _ _ _, fun b hb => (by cases hb), rfl, fun y hy => (by cases hy)⟩
theorem TwoG.made {w w1 : World} (hg : GrAt w1 (fun k => w.heap.size ≤ k) p 0 (fun _ => none)) (hb : Below w.heap.size w w1) : TwoG w.heap.size p w1.heap.size 0 [] (fun k => w.heap.size ≤ k ∧ k < w1.heap.size) (fun k => k = w1.heap.size) (w1.alloc (.cells #[.slice none 0 0] 29)) where
  g := hg.bound.kept (Kept.of_below ((Below.refl _ w1).alloc (Nat.le_refl _) _))
  r := RgAt.made w1
  nd := List.nodup_nil
  rl := Nat.le_refl _
  rs := fun r hr => by cases hr
  sg := fun j hj => ⟨hj.1, by simp; omega⟩
  sr := fun j hj => by have := hb.size; subst hj; exact ⟨this, by simp⟩
  sd := fun j hj hk => by omega
end
theorem one_new2 (W : World) (o : Obj) (a b c : Int) (t : TypeId) : CsAt ((W.alloc o).alloc (.cells #[.int .i64 a, .int .i64 b, .int .i64 c] t)) (.slice (some ⟨W.heap.size + 1, 0, none⟩) 1 1) [(a, b, c)] := by
  have := one_new (W.alloc o) a b c t
  rwa [World.size_alloc] at this
theorem edge_lOf (G : Ce → Option (List Ce)) (x z : Ce) : edge G x z = true ↔ x ∈ lOf G z := by
  unfold edge lOf
  cases h : G z with
  | none => simp
  | some l => simp
end Go.Proofs.Ytjjpfddgcilliaa
