/-
  CIRCLES: PLAIN MATHEMATICS: what leads to what; what is reached from a cell, with a pile of those that wait.
  CIRCLES: PLAIN MATHEMATICS: in which order cells are finished; what leads to the one that is finished last.
  CIRCLES: PLAIN MATHEMATICS: all parts of a graph, by their first cells.
  CIRCLES: PLAIN MATHEMATICS: which cells lead to which, reckoned by a table of truths.
-/
import Derived.Test.YtjjpfddgcilliaaGra1
set_option linter.unusedSimpArgs false
set_option linter.unusedVariables false
namespace Go.Proofs.Ytjjpfddgcilliaa

/-- in some steps, none too. -/
inductive Rt (E : Ce → Ce → Prop) : Ce → Ce → Prop
  | refl (x : Ce) : Rt E x x
  | tail {x y z : Ce} : Rt E x y → E y z → Rt E x z
section
variable {E F : Ce → Ce → Prop} {x y z : Ce}
theorem Rt.one (h : E x y) : Rt E x y := .tail (.refl x) h
theorem Rt.trans (h : Rt E x y) (k : Rt E y z) : Rt E x z := by
  induction k with
  | refl => exact h
  | tail _ e ih => exact .tail ih e
theorem Rt.head (h : E x y) (k : Rt E y z) : Rt E x z := (Rt.one h).trans k
theorem Rt.mono (hs : ∀ x y, E x y → F x y) (h : Rt E x y) : Rt F x y := by
  induction h with
  | refl => exact .refl _
  | tail _ e ih => exact .tail ih (hs _ _ e)
theorem Rt.rev (h : Rt E x y) : Rt (fun a b => E b a) y x := by
  induction h with
  | refl => exact .refl _
  | tail _ e ih => exact .head e ih
theorem Rt.closed {P : Ce → Prop} (hP : ∀ x y, P x → E x y → P y) (h : Rt E x y) (hx : P x) : P y := by
  induction h with
  | refl => exact hx
  | tail _ e ih => exact hP _ _ ih e
theorem Rt.split (h : Rt E x y) : x = y ∨ ∃ z, E x z ∧ Rt E z y := by
  induction h with
  | refl => exact Or.inl rfl
  | tail _ e ih =>
    rcases ih with rfl | ⟨u, hu, h⟩
    · exact Or.inr ⟨_, e, .refl _⟩
    · exact Or.inr ⟨u, hu, .tail h e⟩
end
/-- the first one that is not of some. -/
theorem Rt.first {E : Ce → Ce → Prop} (B : List Ce) {z w : Ce} (h : Rt E z w) (hz : z ∈ B) : w ∈ B ∨ ∃ u v, u ∈ B ∧ v ∉ B ∧ Rt E z u ∧ E u v ∧ Rt E v w := by
  induction h with
  | refl => exact Or.inl hz
  | @tail y w h e ih =>
    rcases ih with hy | ⟨u, v, h1, h2, h3, h4, h5⟩
    · by_cases hw : w ∈ B
      · exact Or.inl hw
      · exact Or.inr ⟨y, w, hy, hw, h, e, .refl _⟩
    · exact Or.inr ⟨u, v, h1, h2, h3, h4, .tail h5 e⟩

theorem nodup_len : ∀ {l K : List Ce}, l.Nodup → (∀ z ∈ l, z ∈ K) → l.length ≤ K.length
  | [], _, _, _ => Nat.zero_le _
  | x :: l, K, h, hs => by
    rw [List.nodup_cons] at h
    have hx : x ∈ K := hs x (List.mem_cons_self ..)
    have ih := nodup_len (K := K.erase x) h.2 fun z hz => (List.mem_erase_of_ne (fun e => h.1 (by rw [← e]; exact hz))).2 (hs z (List.mem_cons_of_mem _ hz))
    have h1 := List.length_erase_of_mem hx
    have h2 := List.length_pos_of_mem hx
    rw [List.length_cons]
    omega
/-! ### what is reached -/
/-- a step to one that was not seen ahead. -/
def Ev (E : Ce → Ce → Prop) (s0 : Ce → Bool) (x y : Ce) : Prop := E x y ∧ s0 y = false
/-- what is reached from a: some wait on a pile, others were told; V: steps that are not looked at yet. -/
structure Rch (E V : Ce → Ce → Prop) (a : Ce) (s0 : Ce → Bool) (K pile l : List Ce) (s : Ce → Bool) : Prop where
  nd : (pile ++ l).Nodup
  seen : ∀ z, s z = true ↔ s0 z = true ∨ z ∈ pile ∨ z ∈ l
  way : ∀ z, z ∈ pile ∨ z ∈ l → Rt (Ev E s0) a z
  start : a ∈ pile ∨ a ∈ l
  cl : ∀ z ∈ l, ∀ y, E z y → s0 y = false → y ∈ pile ∨ y ∈ l ∨ V z y
  keys : ∀ z, z ∈ pile ∨ z ∈ l → z ∈ K
section
variable {E V V' : Ce → Ce → Prop} {a t y : Ce} {s0 s : Ce → Bool} {K P l : List Ce}
/-- a set with one more. -/
def setB (s : Ce → Bool) (x : Ce) : Ce → Bool := fun z => if z = x then true else s z
theorem Rch.made (ha : s0 a = false) (hk : a ∈ K) : Rch E V a s0 K [a] [] (setB s0 a) where
  nd := by simp
  seen := fun z => by
    unfold setB
    by_cases h : z = a
    · simp [h]
    · simp [h]
  way := fun z hz => by
    rcases hz with hz | hz
    · rw [List.mem_singleton.1 hz]; exact .refl _
    · cases hz
  start := Or.inl (by simp)
  cl := fun z hz => by cases hz
  keys := fun z hz => by
    rcases hz with hz | hz
    · rw [List.mem_singleton.1 hz]; exact hk
    · cases hz
/-- the last one of the pile is told. -/
theorem Rch.pop (h : Rch E (fun _ _ => False) a s0 K (P ++ [t]) l s) (hV : ∀ y, E t y → V t y) : Rch E V a s0 K P (l ++ [t]) s := by
  have hm : ∀ z, (z ∈ P ∨ z ∈ l ++ [t]) ↔ (z ∈ P ++ [t] ∨ z ∈ l) := fun z => by
    simp only [List.mem_append, List.mem_singleton]
    constructor
    · rintro (h | h | h)
      · exact Or.inl (Or.inl h)
      · exact Or.inr h
      · exact Or.inl (Or.inr h)
    · rintro ((h | h) | h)
      · exact Or.inl h
      · exact Or.inr (Or.inr h)
      · exact Or.inr (Or.inl h)
  refine ⟨?_, fun z => ?_, fun z hz => h.way z ((hm z).1 hz), (hm a).2 h.start, fun z hz y hy h0 => ?_, fun z hz => h.keys z ((hm z).1 hz)⟩
  · have := h.nd
    have hp : (P ++ (l ++ [t])).Perm (P ++ [t] ++ l) := by
      rw [List.append_assoc]
      exact (List.perm_append_comm).append_left P
    exact hp.nodup_iff.2 this
  · rw [h.seen z, hm z]
  · have key : z ∈ l → (y ∈ P ∨ y ∈ l ++ [t] ∨ V z y) := fun hzl => by
      rcases h.cl z hzl y hy h0 with h1 | h1 | h1
      · rcases (hm y).2 (Or.inl h1) with h | h
        · exact Or.inl h
        · exact Or.inr (Or.inl h)
      · exact Or.inr (Or.inl (List.mem_append_left _ h1))
      · exact absurd h1 id
    rcases List.mem_append.1 hz with hzl | hzt
    · exact key hzl
    · rw [List.mem_singleton] at hzt
      subst hzt
      exact Or.inr (Or.inr (hV y hy))
/-- one that was seen, or has no formula. -/
theorem Rch.skip (h : Rch E V a s0 K P l s) (hV : ∀ z y', V z y' → E z y' → V' z y' ∨ y' = y) (hy : (∀ z ∈ l, ¬ E z y) ∨ s y = true) : Rch E V' a s0 K P l s :=
  ⟨h.nd, h.seen, h.way, h.start, fun z hz y' he h0 => by
    rcases h.cl z hz y' he h0 with h1 | h1 | h1
    · exact Or.inl h1
    · exact Or.inr (Or.inl h1)
    · rcases hV z y' h1 he with h2 | rfl
      · exact Or.inr (Or.inr h2)
      · rcases hy with hy | hy
        · exact absurd he (hy z hz)
        · rcases (h.seen y').1 hy with h3 | h3 | h3
          · rw [h0] at h3; cases h3
          · exact Or.inl h3
          · exact Or.inr (Or.inl h3), h.keys⟩
/-- one that was not. -/
theorem Rch.push (h : Rch E V a s0 K P l s) (hV : ∀ z y', V z y' → E z y' → V' z y' ∨ y' = y) (ht : t ∈ l) (hE : E t y) (hy : s y = false) (hk : y ∈ K) : Rch E V' a s0 K (P ++ [y]) l (setB s y) := by
  have hn : ¬ (y ∈ P ∨ y ∈ l) := fun hh => by
    have := (h.seen y).2 (Or.inr hh)
    rw [hy] at this; cases this
  have h0 : s0 y = false := by
    cases h1 : s0 y with
    | false => rfl
    | true => have := (h.seen y).2 (Or.inl h1); rw [hy] at this; cases this
  refine ⟨?_, fun z => ?_, fun z hz => ?_, ?_, fun z hz y' he h0' => ?_, fun z hz => ?_⟩
  · have hp : (P ++ [y] ++ l).Perm (y :: (P ++ l)) := by
      rw [List.append_assoc]
      exact List.perm_middle
    exact hp.nodup_iff.2 (List.nodup_cons.2 ⟨fun hh => hn (List.mem_append.1 hh), h.nd⟩)
  · unfold setB
    by_cases e : z = y
    · simp [e]
    · simp only [e, if_false]
      rw [h.seen z, List.mem_append, List.mem_singleton]
      simp [e]
  · rcases hz with hz | hz
    · rcases List.mem_append.1 hz with hz | hz
      · exact h.way z (Or.inl hz)
      · rw [List.mem_singleton.1 hz]
        exact .tail (h.way t (Or.inr ht)) ⟨hE, h0⟩
    · exact h.way z (Or.inr hz)
  · exact h.start.imp (fun h => List.mem_append_left _ h) id
  · rcases h.cl z hz y' he h0' with h1 | h1 | h1
    · exact Or.inl (List.mem_append_left _ h1)
    · exact Or.inr (Or.inl h1)
    · rcases hV z y' h1 he with h2 | rfl
      · exact Or.inr (Or.inr h2)
      · exact Or.inl (by simp)
  · rcases hz with hz | hz
    · rcases List.mem_append.1 hz with hz | hz
      · exact h.keys z (Or.inl hz)
      · rw [List.mem_singleton.1 hz]; exact hk
    · exact h.keys z (Or.inr hz)
theorem Rch.calm (h : Rch E V a s0 K P l s) (hV : ∀ z y, V z y → E z y → V' z y) : Rch E V' a s0 K P l s :=
  ⟨h.nd, h.seen, h.way, h.start, fun z hz y he h0 => (h.cl z hz y he h0).imp id fun h => h.imp id fun h => hV z y h he, h.keys⟩
/-- the pile is empty. -/
theorem Rch.done (h : Rch E (fun _ _ => False) a s0 K [] l s) : l.Nodup ∧ (∀ z, z ∈ l ↔ Rt (Ev E s0) a z) ∧ ∀ z, s z = true ↔ s0 z = true ∨ z ∈ l := by
  refine ⟨by simpa using h.nd, fun z => ⟨fun hz => h.way z (Or.inr hz), fun hz => ?_⟩, fun z => by rw [h.seen z]; simp⟩
  refine hz.closed (P := fun z => z ∈ l) (fun x y hx he => ?_) (h.start.elim (fun h => by cases h) id)
  rcases h.cl x hx y he.1 he.2 with h1 | h1 | h1
  · cases h1
  · exact h1
  · exact absurd h1 id
theorem Rch.len (h : Rch E V a s0 K P l s) : P.length + l.length ≤ K.length := by
  have : (P ++ l).length ≤ K.length := nodup_len h.nd fun z hz => h.keys z (List.mem_append.1 hz)
  simpa using this
end
end Go.Proofs.Ytjjpfddgcilliaa
namespace Go.Proofs.Ytjjpfddgcilliaa

/-- each cell of a list: all that it leads to is told by then, or leads over one of its own circle that is not. -/
def FinP (E : Ce → Ce → Prop) (l : List Ce) : Prop := ∀ i (h : i < l.length), ∀ w, Rt E l[i] w → w ∈ l.take (i + 1) ∨ ∃ v, v ∉ l.take (i + 1) ∧ Rt E l[i] v ∧ Rt E v l[i] ∧ Rt E v w
theorem FinP.nil (E : Ce → Ce → Prop) : FinP E [] := fun i h => absurd h (by simp)
theorem FinP.snoc {E : Ce → Ce → Prop} {l : List Ce} {z : Ce} (h : FinP E l) (hz : ∀ w, Rt E z w → w ∈ l ++ [z] ∨ ∃ v, v ∉ l ++ [z] ∧ Rt E z v ∧ Rt E v z ∧ Rt E v w) : FinP E (l ++ [z]) := fun i hi w hw => by
  by_cases e : i < l.length
  · have e1 : (l ++ [z])[i] = l[i] := List.getElem_append_left e
    have e2 : (l ++ [z]).take (i + 1) = l.take (i + 1) := List.take_append_of_le_length (by omega)
    rw [e1] at hw ⊢
    rw [e2]
    exact h i e w hw
  · have hi' : i = l.length := by rw [List.length_append, List.length_singleton] at hi; omega
    subst hi'
    have e1 : (l ++ [z])[l.length] = z := by simp
    have e2 : (l ++ [z]).take (l.length + 1) = l ++ [z] := List.take_of_length_le (by simp)
    rw [e1] at hw ⊢
    rw [e2]
    exact hz w hw
/-- cells that are finished, l, and those whose needs are gone through, P, the last one on top; s: which were seen. -/
structure Fsh (E : Ce → Ce → Prop) (N : Ce → List Ce) (K l : List Ce) (P : List (Ce × List Ce)) (s : Ce → Bool) : Prop where
  nd : (l ++ P.map Prod.fst).Nodup
  seen : ∀ z, s z = true ↔ z ∈ l ∨ z ∈ P.map Prod.fst
  keys : ∀ z, z ∈ l ∨ z ∈ (P.map Prod.fst) → z ∈ K
  cl : ∀ z ∈ l, ∀ y, E z y → y ∈ l ∨ y ∈ P.map Prod.fst
  pc : ∀ p ∈ P, ∀ y, E p.1 y → y ∈ l ∨ y ∈ (P.map Prod.fst) ∨ y ∈ p.2
  sub : ∀ p ∈ P, ∀ y ∈ p.2, y ∈ N p.1
  path : P.Pairwise fun a b => Rt E a.1 b.1
  fin : FinP E l
section
variable {E : Ce → Ce → Prop} {N : Ce → List Ce} {K l r : List Ce} {P : List (Ce × List Ce)} {s : Ce → Bool} {x y : Ce}
theorem Fsh.made (E : Ce → Ce → Prop) (N : Ce → List Ce) (K : List Ce) : Fsh E N K [] [] (fun _ => false) where
  nd := by simp
  seen := fun z => by simp
  keys := fun z h => by simp at h
  cl := fun z h => by cases h
  pc := fun p h => by cases h
  sub := fun p h => by cases h
  path := List.Pairwise.nil
  fin := FinP.nil E
/-- one begins. -/
theorem Fsh.start (h : Fsh E N K l [] s) (hx : s x = false) (hk : x ∈ K) (hN : ∀ y, E x y → y ∈ N x) : Fsh E N K l [(x, N x)] (setB s x) where
  nd := by
    have hn : x ∉ l := fun hh => by have := (h.seen x).2 (Or.inl hh); rw [hx] at this; cases this
    have h1 : l.Nodup := by simpa using h.nd
    rw [List.nodup_append]
    exact ⟨h1, by simp, fun a ha b hb e => by simp at hb; exact hn (by rw [← hb, ← e]; exact ha)⟩
  seen := fun z => by
    have := h.seen z
    unfold setB
    by_cases e : z = x
    · simp [e]
    · simp only [e, if_false]; rw [this]; simp [e]
  keys := fun z hz => by
    rcases hz with hz | hz
    · exact h.keys z (Or.inl hz)
    · simp at hz; rw [hz]; exact hk
  cl := fun z hz y hy => by
    rcases h.cl z hz y hy with h | h
    · exact Or.inl h
    · simp at h
  pc := fun p hp y hy => by
    rw [List.mem_singleton] at hp
    subst hp
    exact Or.inr (Or.inr (hN y hy))
  sub := fun p hp y hy => by
    rw [List.mem_singleton] at hp
    subst hp; exact hy
  path := by simp
  fin := h.fin
/-- the one on top is done. -/
theorem Fsh.pop (h : Fsh E N K l (P ++ [(x, [])]) s) : Fsh E N K (l ++ [x]) P s := by
  have hm : ∀ z, (z ∈ l ++ [x] ∨ z ∈ P.map Prod.fst) ↔ (z ∈ l ∨ z ∈ (P ++ [(x, [])]).map Prod.fst) := fun z => by
    simp only [List.map_append, List.map_cons, List.map_nil, List.mem_append, List.mem_singleton]
    constructor
    · rintro ((h | h) | h)
      · exact Or.inl h
      · exact Or.inr (Or.inr h)
      · exact Or.inr (Or.inl h)
    · rintro (h | h | h)
      · exact Or.inl (Or.inl h)
      · exact Or.inr h
      · exact Or.inl (Or.inr h)
  have hpx : ∀ p ∈ P, Rt E p.1 x := fun p hp => by
    have := h.path
    rw [List.pairwise_append] at this
    exact this.2.2 p hp (x, []) (by simp)
  have hcl : ∀ z ∈ l ++ [x], ∀ y, E z y → y ∈ l ++ [x] ∨ y ∈ P.map Prod.fst := fun z hz y hy => by
    rcases List.mem_append.1 hz with hz | hz
    · exact (hm y).2 (h.cl z hz y hy)
    · rw [List.mem_singleton] at hz
      subst hz
      rcases h.pc (z, []) (by simp) y hy with h1 | h1 | h1
      · exact (hm y).2 (Or.inl h1)
      · exact (hm y).2 (Or.inr h1)
      · cases h1
  refine ⟨?_, fun z => ?_, fun z hz => h.keys z ((hm z).1 hz), hcl, fun p hp y hy => ?_, fun p hp => h.sub p (List.mem_append_left _ hp), (List.pairwise_append.1 h.path).1, h.fin.snoc fun w hw => ?_⟩
  · have hp : (l ++ [x] ++ P.map Prod.fst).Perm (l ++ (P ++ [(x, [])]).map Prod.fst) := by
      rw [List.append_assoc, List.map_append]
      exact (List.perm_append_comm).append_left l
    exact hp.nodup_iff.2 h.nd
  · rw [h.seen z, hm z]
  · rcases h.pc p (List.mem_append_left _ hp) y hy with h1 | h1 | h1
    · rcases (hm y).2 (Or.inl h1) with h | h
      · exact Or.inl h
      · exact Or.inr (Or.inl h)
    · rcases (hm y).2 (Or.inr h1) with h | h
      · exact Or.inl h
      · exact Or.inr (Or.inl h)
    · exact Or.inr (Or.inr h1)
  · rcases hw.first (l ++ [x]) (by simp) with h1 | ⟨u, v, h1, h2, h3, h4, h5⟩
    · exact Or.inl h1
    · rcases hcl u h1 v h4 with h6 | h6
      · exact absurd h6 h2
      · obtain ⟨p, hp, rfl⟩ := List.mem_map.1 h6
        exact Or.inr ⟨p.1, h2, .tail h3 h4, hpx p hp, h5⟩
/-- what the one on top needs next has been seen, or has no formula. -/
theorem Fsh.skip (h : Fsh E N K l (P ++ [(x, y :: r)]) s) (hy : ¬ E x y ∨ s y = true) : Fsh E N K l (P ++ [(x, r)]) s := by
  have hf : (P ++ [(x, r)]).map Prod.fst = (P ++ [(x, y :: r)]).map Prod.fst := by simp
  refine ⟨by rw [hf]; exact h.nd, fun z => by rw [hf]; exact h.seen z, fun z => by rw [hf]; exact h.keys z, fun z => by rw [hf]; exact h.cl z, fun p hp z hz => ?_, fun p hp z hz => ?_, ?_, h.fin⟩
  · rw [hf]
    rcases List.mem_append.1 hp with hp | hp
    · exact h.pc p (List.mem_append_left _ hp) z hz
    · rw [List.mem_singleton] at hp
      subst hp
      rcases h.pc (x, y :: r) (by simp) z hz with h1 | h1 | h1
      · exact Or.inl h1
      · exact Or.inr (Or.inl h1)
      · rcases List.mem_cons.1 h1 with rfl | h1
        · rcases hy with hy | hy
          · exact absurd hz hy
          · rcases (h.seen z).1 hy with h2 | h2
            · exact Or.inl h2
            · exact Or.inr (Or.inl h2)
        · exact Or.inr (Or.inr h1)
  · rcases List.mem_append.1 hp with hp | hp
    · exact h.sub p (List.mem_append_left _ hp) z hz
    · rw [List.mem_singleton] at hp
      subst hp
      exact h.sub (x, y :: r) (by simp) z (List.mem_cons_of_mem _ hz)
  · have := h.path
    rw [List.pairwise_append] at this ⊢
    exact ⟨this.1, by simp, fun a ha b hb => by rw [List.mem_singleton] at hb; subst hb; exact this.2.2 a ha (x, y :: r) (by simp)⟩
/-- .. has not: it goes on top. -/
theorem Fsh.push (h : Fsh E N K l (P ++ [(x, y :: r)]) s) (hE : E x y) (hy : s y = false) (hk : y ∈ K) (hN : ∀ z, E y z → z ∈ N y) : Fsh E N K l (P ++ [(x, r)] ++ [(y, N y)]) (setB s y) := by
  have hn : ¬ (y ∈ l ∨ y ∈ (P ++ [(x, y :: r)]).map Prod.fst) := fun hh => by
    have := (h.seen y).2 hh; rw [hy] at this; cases this
  have hf : (P ++ [(x, r)] ++ [(y, N y)]).map Prod.fst = ((P ++ [(x, y :: r)]).map Prod.fst) ++ [y] := by simp
  have hm : ∀ z, z ∈ ((P ++ [(x, y :: r)]).map Prod.fst) → z ∈ (P ++ [(x, r)] ++ [(y, N y)]).map Prod.fst := fun z hz => by rw [hf]; exact List.mem_append_left _ hz
  have hlast : y ∈ (P ++ [(x, r)] ++ [(y, N y)]).map Prod.fst := by rw [hf]; simp
  refine ⟨?_, fun z => ?_, fun z hz => ?_, fun z hz w hw => (h.cl z hz w hw).imp id (hm w), fun p hp w hw => ?_, fun p hp w hw => ?_, ?_, h.fin⟩
  · rw [hf, ← List.append_assoc, List.nodup_append]
    refine ⟨h.nd, by simp, fun a ha b hb e => ?_⟩
    rw [List.mem_singleton] at hb
    have e2 : a = y := e.trans hb
    clear e hb
    subst e2
    exact hn (List.mem_append.1 ha)
  · unfold setB
    by_cases e : z = y
    · subst e; simp only [if_true, true_iff]; exact Or.inr hlast
    · simp only [e, if_false]; rw [h.seen z, hf, List.mem_append, List.mem_singleton]; simp [e]
  · rcases hz with hz | hz
    · exact h.keys z (Or.inl hz)
    · rw [hf] at hz
      rcases List.mem_append.1 hz with hz | hz
      · exact h.keys z (Or.inr hz)
      · rw [List.mem_singleton.1 hz]; exact hk
  · rcases List.mem_append.1 hp with hp | hp
    · rcases List.mem_append.1 hp with hp | hp
      · rcases h.pc p (List.mem_append_left _ hp) w hw with h1 | h1 | h1
        · exact Or.inl h1
        · exact Or.inr (Or.inl (hm w h1))
        · exact Or.inr (Or.inr h1)
      · rw [List.mem_singleton] at hp
        subst hp
        rcases h.pc (x, y :: r) (by simp) w hw with h1 | h1 | h1
        · exact Or.inl h1
        · exact Or.inr (Or.inl (hm w h1))
        · rcases List.mem_cons.1 h1 with rfl | h1
          · exact Or.inr (Or.inl hlast)
          · exact Or.inr (Or.inr h1)
    · rw [List.mem_singleton] at hp
      subst hp
      exact Or.inr (Or.inr (hN w hw))
  · rcases List.mem_append.1 hp with hp | hp
    · rcases List.mem_append.1 hp with hp | hp
      · exact h.sub p (List.mem_append_left _ hp) w hw
      · rw [List.mem_singleton] at hp
        subst hp
        exact h.sub (x, y :: r) (by simp) w (List.mem_cons_of_mem _ hw)
    · rw [List.mem_singleton] at hp
      subst hp; exact hw
  · have hp := h.path
    rw [List.pairwise_append] at hp
    have h1 : (P ++ [(x, r)]).Pairwise fun a b => Rt E a.1 b.1 := by
      rw [List.pairwise_append]
      exact ⟨hp.1, by simp, fun a ha b hb => by rw [List.mem_singleton] at hb; subst hb; exact hp.2.2 a ha (x, y :: r) (by simp)⟩
    rw [List.pairwise_append]
    refine ⟨h1, by simp, fun a ha b hb => ?_⟩
    rw [List.mem_singleton] at hb
    subst hb
    rcases List.mem_append.1 ha with ha | ha
    · exact .tail (hp.2.2 a ha (x, y :: r) (by simp)) hE
    · rw [List.mem_singleton] at ha
      subst ha; exact .one hE
theorem Fsh.len (h : Fsh E N K l P s) : l.length + P.length ≤ K.length := by
  have : (l ++ P.map Prod.fst).length ≤ K.length := nodup_len h.nd fun z hz => h.keys z (List.mem_append.1 hz)
  simpa using this
end

/-! ### what leads to one that is finished last -/
/-- two cells lead to each other. -/
def Sim (E : Ce → Ce → Prop) (x y : Ce) : Prop := Rt E x y ∧ Rt E y x
theorem Sim.refl (E : Ce → Ce → Prop) (x : Ce) : Sim E x x := ⟨.refl _, .refl _⟩
theorem Sim.symm {E : Ce → Ce → Prop} {x y : Ce} (h : Sim E x y) : Sim E y x := ⟨h.2, h.1⟩
theorem Sim.trans {E : Ce → Ce → Prop} {x y z : Ce} (h : Sim E x y) (k : Sim E y z) : Sim E x z := ⟨h.1.trans k.1, k.2.trans h.2⟩
section
variable {E : Ce → Ce → Prop} {F : List Ce} {T : Ce → Prop} {i : Nat}
/-- told: the circles of those behind place i. -/
def ToldB (E : Ce → Ce → Prop) (F : List Ce) (i : Nat) (z : Ce) : Prop := ∃ j, ∃ h : j < F.length, i ≤ j ∧ Sim E z F[j]
theorem kos_back (hf : FinP E F) (hnd : F.Nodup) (hcl : ∀ x y, x ∈ F → E x y → y ∈ F) (hi : i < F.length) : ∀ n j (hj : j < F.length), F.length - j ≤ n → Rt E F[j] F[i] → ¬ ToldB E F (i + 1) F[j] → Rt E F[i] F[j]
  | 0, j, hj, hn, _, _ => by omega
  | n + 1, j, hj, hn, hr, ht => by
    by_cases e : j = i
    · subst e; exact .refl _
    · by_cases hij : i < j
      · exact absurd ⟨j, hj, hij, Sim.refl E _⟩ ht
      · rcases hf j hj F[i] hr with h1 | ⟨v, h1, h2, h3, h4⟩
        · obtain ⟨m, hm, he⟩ := List.getElem_of_mem h1
          rw [List.length_take] at hm
          rw [List.getElem_take] at he
          have := (List.getElem_inj hnd).1 he
          omega
        · have hv : v ∈ F := h2.closed (P := fun z => z ∈ F) hcl (List.getElem_mem hj)
          obtain ⟨m, hm, rfl⟩ := List.getElem_of_mem hv
          have hmj : j < m := by
            apply Nat.lt_of_not_le
            intro hle
            exact h1 (List.mem_take_iff_getElem.2 ⟨m, by omega, rfl⟩)
          have hvt : ¬ ToldB E F (i + 1) F[m] := fun ⟨q, hq, h5, h6⟩ => ht ⟨q, hq, h5, Sim.trans ⟨h2, h3⟩ h6⟩
          exact (kos_back hf hnd hcl hi n m hm (by omega) h4 hvt).trans h3
/-- what is reached backwards from the last one that is not told, by what is not told: its circle. -/
theorem kos_part (hf : FinP E F) (hnd : F.Nodup) (hcl : ∀ x y, x ∈ F → E x y → y ∈ F) (hsrc : ∀ x y, E x y → x ∈ F) (hi : i < F.length) {t0 : Ce → Bool} (ht : ∀ z, t0 z = true ↔ ToldB E F (i + 1) z) (h0 : t0 F[i] = false) (z : Ce) :
    Rt (Ev (fun a b => E b a) t0) F[i] z ↔ Sim E F[i] z := by
  have hFi : F[i] ∈ F := List.getElem_mem hi
  constructor
  · intro h
    have hzF : z ∈ F := h.closed (P := fun z => z ∈ F) (fun x y _ h => hsrc _ _ h.1) hFi
    have h1 : Rt E z F[i] := by
      have h2 : Rt (fun a b => E b a) F[i] z := h.mono fun x y h => h.1
      exact h2.rev
    have h3 : t0 z = false := h.closed (P := fun z => t0 z = false) (fun x y _ h => h.2) h0
    obtain ⟨j, hj, rfl⟩ := List.getElem_of_mem hzF
    refine ⟨kos_back hf hnd hcl hi _ j hj (Nat.le_refl _) h1 (fun h => ?_), h1⟩
    have := (ht _).2 h
    rw [h3] at this; cases this
  · rintro ⟨h1, h2⟩
    have key : ∀ {z : Ce}, Rt (fun a b => E b a) F[i] z → Rt E F[i] z → Rt (Ev (fun a b => E b a) t0) F[i] z := by
      intro z h
      induction h with
      | refl => intro _; exact .refl _
      | @tail y z h e ih =>
        intro hz
        have hy : Rt E F[i] y := hz.trans (.one e)
        refine .tail (ih hy) ⟨e, ?_⟩
        cases h4 : t0 z with
        | false => rfl
        | true =>
          obtain ⟨q, hq, h5, h6⟩ := (ht z).1 h4
          have hs : Sim E F[i] z := ⟨hz, (Rt.tail h e).rev⟩
          have := (ht F[i]).2 ⟨q, hq, h5, hs.trans h6⟩
          rw [h0] at this; cases this
    exact key h2.rev h1
/-- one place more. -/
theorem told_next (hi : i < F.length) (z : Ce) : ToldB E F i z ↔ ToldB E F (i + 1) z ∨ Sim E F[i] z := by
  constructor
  · rintro ⟨j, hj, h1, h2⟩
    by_cases e : j = i
    · subst e; exact Or.inr h2.symm
    · exact Or.inl ⟨j, hj, by omega, h2⟩
  · rintro (⟨j, hj, h1, h2⟩ | h)
    · exact ⟨j, hj, by omega, h2⟩
    · exact ⟨i, hi, Nat.le_refl _, h.symm⟩
theorem told_old (hi : i < F.length) (h : ToldB E F (i + 1) F[i]) (z : Ce) : ToldB E F i z ↔ ToldB E F (i + 1) z := by
  rw [told_next hi z]
  refine ⟨fun h' => h'.elim id fun hs => ?_, Or.inl⟩
  obtain ⟨j, hj, h1, h2⟩ := h
  exact ⟨j, hj, h1, hs.symm.trans h2⟩
theorem told_end (z : Ce) : ¬ ToldB E F F.length z := fun ⟨j, hj, h, _⟩ => by omega
end
end Go.Proofs.Ytjjpfddgcilliaa
namespace Go.Proofs.Ytjjpfddgcilliaa

noncomputable def scB (E : Ce → Ce → Prop) (x y : Ce) : Bool := @decide (Sim E x y) (Classical.propDecidable (Sim E x y))
theorem scB_iff {E : Ce → Ce → Prop} {x y : Ce} : scB E x y = true ↔ Sim E x y := by unfold scB; exact @decide_eq_true_iff _ (Classical.propDecidable _)
/-- the part of a cell. -/
noncomputable def scL (E : Ce → Ce → Prop) (K : List Ce) (x : Ce) : List Ce := K.filter fun z => scB E x z
noncomputable def headB (E : Ce → Ce → Prop) (K : List Ce) (x : Ce) : Bool := decide ((scL E K x).head? = some x)
/-- all parts, by their first cells. -/
noncomputable def partsL (E : Ce → Ce → Prop) (K : List Ce) : List (List Ce) := (K.filter (headB E K)).map (scL E K)
section
variable {E : Ce → Ce → Prop} {K : List Ce} {x y z : Ce}
theorem mem_scL : z ∈ scL E K x ↔ z ∈ K ∧ Sim E x z := by unfold scL; rw [List.mem_filter, scB_iff]
theorem srt_filter {l : List Ce} (h : Srt l) (p : Ce → Bool) : Srt (l.filter p) := List.Pairwise.sublist List.filter_sublist h
theorem srt_scL (hK : Srt K) (x : Ce) : Srt (scL E K x) := srt_filter hK _
theorem scL_self (hx : x ∈ K) : x ∈ scL E K x := mem_scL.2 ⟨hx, Sim.refl E x⟩
theorem scL_sim (h : Sim E x y) : scL E K x = scL E K y := by
  unfold scL
  congr 1
  funext z
  rw [Bool.eq_iff_iff, scB_iff, scB_iff]
  exact ⟨fun k => h.symm.trans k, fun k => h.trans k⟩
theorem scL_is (hK : Srt K) {l : List Ce} (hx : ∀ z, z ∈ l ↔ z ∈ K ∧ Sim E x z) : onc l = scL E K x :=
  srt_ext (srt_onc l) (srt_scL hK x) fun z => by rw [mem_onc, hx z, mem_scL]
theorem srt_nodup {l : List Ce} (h : Srt l) : l.Nodup := List.Pairwise.imp (fun h e => by rw [e, cLt_irrefl] at h; cases h) h
/-- a list's first cell. -/
def hdC (p : List Ce) : Ce := p.headD (0, 0, 0)
theorem hdC_mem {p : List Ce} (h : p ≠ []) : hdC p ∈ p := by
  cases p with
  | nil => exact absurd rfl h
  | cons a r => exact List.mem_cons_self ..
theorem scL_ne (hx : x ∈ K) : scL E K x ≠ [] := fun h => by have := scL_self (E := E) hx; rw [h] at this; cases this
theorem scL_hd (hx : x ∈ K) : scL E K (hdC (scL E K x)) = scL E K x := (scL_sim (mem_scL.1 (hdC_mem (scL_ne hx))).2).symm
theorem head_hdC {p : List Ce} (h : p ≠ []) : p.head? = some (hdC p) := by
  cases p with
  | nil => exact absurd rfl h
  | cons a r => rfl
theorem headB_hd (hx : x ∈ K) : headB E K (hdC (scL E K x)) = true := by
  unfold headB
  rw [scL_hd hx]
  exact decide_eq_true (head_hdC (scL_ne hx))
/-- parts, in order by their first cells, that have all cells: they are all parts. -/
theorem parts_is (hK : Srt K) {L : List (List Ce)} (h1 : ∀ p ∈ L, ∃ x ∈ K, p = scL E K x) (h2 : ∀ z ∈ K, ∃ p ∈ L, z ∈ p) (h3 : L.Pairwise fun p q => cLt (hdC p) (hdC q) = true) : L = partsL E K := by
  have hm : L = (L.map hdC).map (scL E K) := by
    rw [List.map_map]
    refine (List.map_id L).symm.trans (List.map_congr_left fun p hp => ?_)
    obtain ⟨x, hx, rfl⟩ := h1 p hp
    exact (scL_hd hx).symm
  have hH : L.map hdC = K.filter (headB E K) := by
    refine srt_ext ?_ (srt_filter hK _) fun z => ?_
    · unfold Srt
      rw [List.pairwise_map]
      exact h3
    · rw [List.mem_map, List.mem_filter]
      constructor
      · rintro ⟨p, hp, rfl⟩
        obtain ⟨x, hx, rfl⟩ := h1 p hp
        exact ⟨(mem_scL.1 (hdC_mem (scL_ne hx))).1, headB_hd hx⟩
      · rintro ⟨hz, hb⟩
        obtain ⟨p, hp, hzp⟩ := h2 z hz
        obtain ⟨x, hx, rfl⟩ := h1 p hp
        refine ⟨_, hp, ?_⟩
        have hs : Sim E x z := (mem_scL.1 hzp).2
        unfold headB at hb
        have hb := of_decide_eq_true hb
        rw [← scL_sim hs, head_hdC (scL_ne hx)] at hb
        exact Option.some.inj hb
  rw [hm, hH]; rfl
theorem partsL_mem {p : List Ce} (h : p ∈ partsL E K) : ∃ x ∈ K, p = scL E K x ∧ p.head? = some x := by
  unfold partsL at h
  obtain ⟨x, hx, rfl⟩ := List.mem_map.1 h
  obtain ⟨h1, h2⟩ := List.mem_filter.1 hx
  exact ⟨x, h1, rfl, of_decide_eq_true h2⟩
theorem partsL_len : (partsL E K).length ≤ K.length := by
  unfold partsL
  rw [List.length_map]
  exact List.length_filter_le ..
end
end Go.Proofs.Ytjjpfddgcilliaa
namespace Go.Proofs.Ytjjpfddgcilliaa

/-- ways by places below j. -/
inductive Pv (e : Nat → Nat → Prop) (j : Nat) : Nat → Nat → Prop
  | one {i k : Nat} : e i k → Pv e j i k
  | cat {i m k : Nat} : Pv e j i m → m < j → Pv e j m k → Pv e j i k
theorem Pv.next {e : Nat → Nat → Prop} {j i k : Nat} (h : Pv e (j + 1) i k) : Pv e j i k ∨ Pv e j i j ∧ Pv e j j k := by
  induction h with
  | one h => exact Or.inl (.one h)
  | @cat i m k _ hm _ ih1 ih2 =>
    by_cases e1 : m = j
    · subst e1
      refine Or.inr ⟨?_, ?_⟩
      · rcases ih1 with h | h
        · exact h
        · exact h.1
      · rcases ih2 with h | h
        · exact h
        · exact h.2
    · have hmj : m < j := by omega
      rcases ih1 with h1 | ⟨h1, h1'⟩
      · rcases ih2 with h2 | ⟨h2, h2'⟩
        · exact Or.inl (.cat h1 hmj h2)
        · exact Or.inr ⟨.cat h1 hmj h2, h2'⟩
      · rcases ih2 with h2 | ⟨h2, h2'⟩
        · exact Or.inr ⟨h1, .cat h1' hmj h2⟩
        · exact Or.inr ⟨h1, h2'⟩
theorem Pv.zero {e : Nat → Nat → Prop} {i k : Nat} (h : Pv e 0 i k) : e i k := by
  cases h with
  | one h => exact h
  | cat _ h _ => omega
/-- a way of one step or more. -/
def Rp (E : Ce → Ce → Prop) (x y : Ce) : Prop := ∃ z, E x z ∧ Rt E z y
theorem Rp.trans {E : Ce → Ce → Prop} {x y z : Ce} (h : Rp E x y) (k : Rp E y z) : Rp E x z := by
  obtain ⟨u, h1, h2⟩ := h
  obtain ⟨v, k1, k2⟩ := k
  exact ⟨u, h1, h2.trans (.head k1 k2)⟩
theorem Rp.to {E : Ce → Ce → Prop} {x y : Ce} (h : Rp E x y) : Rt E x y := by obtain ⟨z, h1, h2⟩ := h; exact .head h1 h2
theorem Rt.rp {E : Ce → Ce → Prop} {x y : Ce} (h : Rt E x y) (hn : x ≠ y) : Rp E x y := by
  rcases h.split with h | h
  · exact absurd h hn
  · exact h
section
variable {E : Ce → Ce → Prop} {K : List Ce}
/-- the step between places. -/
def ePl (E : Ce → Ce → Prop) (K : List Ce) (i k : Nat) : Prop := ∃ (hi : i < K.length) (hk : k < K.length), E K[i] K[k]
theorem rp_pv (hcl : ∀ x y, E x y → y ∈ K) {i : Nat} (hi : i < K.length) {y : Ce} (h : Rp E K[i] y) : ∃ k, ∃ hk : k < K.length, y = K[k] ∧ Pv (ePl E K) K.length i k := by
  obtain ⟨z, h1, h2⟩ := h
  induction h2 with
  | refl =>
    obtain ⟨k, hk, rfl⟩ := List.getElem_of_mem (hcl _ _ h1)
    exact ⟨k, hk, rfl, .one ⟨hi, hk, h1⟩⟩
  | @tail y z' _ e ih =>
    obtain ⟨m, hm, rfl, hp⟩ := ih
    obtain ⟨k, hk, rfl⟩ := List.getElem_of_mem (hcl _ _ e)
    exact ⟨k, hk, rfl, .cat hp hm (.one ⟨hm, hk, e⟩)⟩
/-- a table: what it says is so; all ways by places below j are there. -/
structure Tab (E : Ce → Ce → Prop) (K : List Ce) (j : Nat) (M : Nat → Nat → Bool) : Prop where
  snd : ∀ i k (hi : i < K.length) (hk : k < K.length), M i k = true → Rp E K[i] K[k]
  all : ∀ i k, i < K.length → k < K.length → Pv (ePl E K) j i k → M i k = true
theorem Tab.start {M : Nat → Nat → Bool} (h : ∀ i k (hi : i < K.length) (hk : k < K.length), M i k = true ↔ E K[i] K[k]) : Tab E K 0 M where
  snd := fun i k hi hk hM => ⟨_, (h i k hi hk).1 hM, .refl _⟩
  all := fun i k hi hk hp => by obtain ⟨_, _, he⟩ := hp.zero; exact (h i k hi hk).2 he
/-- in round j, where places (i, k) up to (a, b) were gone through. -/
structure TabR (E : Ce → Ce → Prop) (K : List Ce) (j a b : Nat) (M0 M : Nat → Nat → Bool) : Prop where
  snd : ∀ i k (hi : i < K.length) (hk : k < K.length), M i k = true → Rp E K[i] K[k]
  ge : ∀ i k, i < K.length → k < K.length → M0 i k = true → M i k = true
  did : ∀ i k, i < K.length → k < K.length → (i < a ∨ i = a ∧ k < b) → M0 i j = true → M0 j k = true → M i k = true
variable {M0 M : Nat → Nat → Bool} {j a b : Nat}
theorem TabR.start (h : Tab E K j M0) : TabR E K j 0 0 M0 M0 := ⟨h.snd, fun _ _ _ _ h => h, fun i k _ _ h => by omega⟩
theorem TabR.row (h : TabR E K j a K.length M0 M) : TabR E K j (a + 1) 0 M0 M := ⟨h.snd, h.ge, fun i k hi hk hh => h.did i k hi hk (by omega)⟩
theorem TabR.yes (h : TabR E K j a b M0 M) (ha : a < K.length) (hb : b < K.length) (hj : j < K.length) (h1 : M a j = true) (h2 : M j b = true) : TabR E K j a (b + 1) M0 (fun i k => if i = a ∧ k = b then true else M i k) where
  snd := fun i k hi hk hM => by
    by_cases e : i = a ∧ k = b
    · obtain ⟨rfl, rfl⟩ := e
      exact (h.snd i j hi hj h1).trans (h.snd j k hj hk h2)
    · rw [if_neg e] at hM; exact h.snd i k hi hk hM
  ge := fun i k hi hk hM => by
    by_cases e : i = a ∧ k = b
    · rw [if_pos e]
    · rw [if_neg e]; exact h.ge i k hi hk hM
  did := fun i k hi hk hh k1 k2 => by
    by_cases e : i = a ∧ k = b
    · rw [if_pos e]
    · rw [if_neg e]; exact h.did i k hi hk (by omega) k1 k2
theorem TabR.no (h : TabR E K j a b M0 M) (hj : j < K.length) (h1 : ¬ (M a j = true ∧ M j b = true)) : TabR E K j a (b + 1) M0 M :=
  ⟨h.snd, h.ge, fun i k hi hk hh k1 k2 => by
    by_cases e : i = a ∧ k = b
    · obtain ⟨rfl, rfl⟩ := e
      exact absurd ⟨h.ge i j hi hj k1, h.ge j k hj hk k2⟩ h1
    · exact h.did i k hi hk (by omega) k1 k2⟩
theorem TabR.next (h : TabR E K j K.length 0 M0 M) (h0 : Tab E K j M0) (hj : j < K.length) : Tab E K (j + 1) M :=
  ⟨h.snd, fun i k hi hk hp => by
    rcases hp.next with h1 | ⟨h1, h2⟩
    · exact h.ge i k hi hk (h0.all i k hi hk h1)
    · exact h.did i k hi hk (Or.inl hi) (h0.all i j hi hj h1) (h0.all j k hj hk h2)⟩
/-- at the end it tells just what leads to what. -/
theorem Tab.is (h : Tab E K K.length M) (hcl : ∀ x y, E x y → y ∈ K) (hnd : K.Nodup) (i k : Nat) (hi : i < K.length) (hk : k < K.length) : M i k = true ↔ Rp E K[i] K[k] := by
  refine ⟨h.snd i k hi hk, fun hr => ?_⟩
  obtain ⟨m, hm, he, hp⟩ := rp_pv hcl hi hr
  obtain rfl := (List.getElem_inj hnd).1 he
  exact h.all i k hi hk hp
/-- the part of the i-th cell. -/
theorem Tab.part (h : Tab E K K.length M) (hcl : ∀ x y, E x y → y ∈ K) (hnd : K.Nodup) (i k : Nat) (hi : i < K.length) (hk : k < K.length) : (decide (k = i) || M i k && M k i) = scB E K[i] K[k] := by
  rw [Bool.eq_iff_iff, scB_iff, Bool.or_eq_true, Bool.and_eq_true, decide_eq_true_iff, h.is hcl hnd i k hi hk, h.is hcl hnd k i hk hi]
  constructor
  · rintro (rfl | ⟨h1, h2⟩)
    · exact Sim.refl E _
    · exact ⟨h1.to, h2.to⟩
  · rintro ⟨h1, h2⟩
    by_cases e : k = i
    · exact Or.inl e
    · have hne : K[i] ≠ K[k] := fun h => e ((List.getElem_inj hnd).1 h).symm
      exact Or.inr ⟨h1.rp hne, h2.rp hne.symm⟩
end
end Go.Proofs.Ytjjpfddgcilliaa
