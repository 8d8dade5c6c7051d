/-
  LAYER 28: A GRAPH IN MEMORY: what a store into one of its maps makes of it.
-/
import Derived.Test.YtjjpfddgcilliaaGra10
set_option linter.unusedSimpArgs false
set_option linter.unusedVariables false
namespace Go.Proofs.Ytjjpfddgcilliaa
open Go.RowKit Go.Shelf Go.Sort Go.Lib Go.Maps
set_option maxRecDepth 100000

theorem cells_ne {W : World} {p b : Nat} {cs : Array Value} {t : TypeId} {f : Nat × Nat} (h : W.heap[p]? = some (.cells cs t f)) (hb : ∃ es c, W.heap[b]? = some (.map es c)) : p ≠ b := fun e => by
  obtain ⟨es, c, hb⟩ := hb
  subst e
  rw [h] at hb; cases hb
theorem cells_far {W W' : World} {p b : Nat} {cs : Array Value} {t : TypeId} {f : Nat × Nat} (h : W.heap[p]? = some (.cells cs t f)) (hb : ∃ es c, W.heap[b]? = some (.map es c)) (hg : W.grownBy W' (some b)) : W'.heap[p]? = some (.cells cs t f) :=
  (hg.block p (Array.getElem?_eq_some_iff.1 h).1 (fun e => cells_ne h hb (by cases e; rfl))).trans h
theorem CsAt.far {W W' : World} {b : Nat} {v : Value} {l : List Ce} (h : CsAt W v l) (hb : ∃ es c, W.heap[b]? = some (.map es c)) (hg : W.grownBy W' (some b)) : CsAt W' v l :=
  h.kept hg.size fun g cs t f _ hc => hg.block g (Array.getElem?_eq_some_iff.1 hc).1 (fun e => cells_ne hc hb (by cases e; rfl))
variable {W W1 W2 W3 : World} {S T : Nat → Prop} {bn bu b n m : Nat} {fn fu : Ce → Option Value} {G : Ce → Option (List Ce)} {E : Ce → Ce → Bool}
theorem NdsAt.far (h : NdsAt W S bn n fn G) (hne : b ≠ bn) (hb : ∃ es c, W.heap[b]? = some (.map es c)) (hg : W.grownBy W1 (some b)) : NdsAt W1 S bn n fn G where
  m := h.m.kept hg (fun e => hne (by cases e; rfl))
  s := h.s
  no := h.no
  yes := fun x l hx => by
    obtain ⟨v, h1, h2, h3⟩ := h.yes x l hx
    exact ⟨v, h1, h2.far hb hg, h3⟩
  ok := h.ok
theorem UsrAt.far (h : UsrAt W S bn bu n fu E) (hg : W.grownBy W1 (some bn)) : UsrAt W1 S bn bu n fu E where
  m := h.m.kept hg (fun e => h.ne (by cases e; rfl))
  s := h.s
  ne := h.ne
  no := h.no
  yes := fun y v hy => by
    obtain ⟨b, h1, h2, h3, h4, h5⟩ := h.yes y v hy
    exact ⟨b, h1, h2, h3, h4, h5.kept hg (fun e => h3 (by cases e; rfl))⟩
  live := h.live
  inj := h.inj
def putG (G : Ce → Option (List Ce)) (x : Ce) (l : List Ce) : Ce → Option (List Ce) := fun z => if z = x then some l else G z
def delG (G : Ce → Option (List Ce)) (x : Ce) : Ce → Option (List Ce) := fun z => if z = x then none else G z
theorem NdsAt.put {x : Ce} {v : Value} {l : List Ce} (h : NdsAt W S bn n fn G) (hg : W.grownBy W1 (some bn)) (hm : MapAt W1 bn m (fun z => if z = x then some v else fn z)) (hnm : n ≤ m) (hc : CsAt W v l) (hs : ∀ b, blkOf v = some b → S b)
    (hx : okC x) (hl : Srt l) (hlm : l.length ≤ m) (hy : ∀ y ∈ l, okC y) : NdsAt W1 S bn m (fun z => if z = x then some v else fn z) (putG G x l) where
  m := hm
  s := h.s
  no := fun z hz => by
    unfold putG at hz
    by_cases e : z = x
    · rw [if_pos e] at hz; cases hz
    · rw [if_neg e] at hz; simp only [e, if_false]; exact h.no z hz
  yes := fun z k hz => by
    unfold putG at hz
    by_cases e : z = x
    · rw [if_pos e] at hz; cases hz
      exact ⟨v, by simp [e], hc.far h.m.isMap hg, hs⟩
    · rw [if_neg e] at hz
      obtain ⟨u, h1, h2, h3⟩ := h.yes z k hz
      exact ⟨u, by simp [e, h1], h2.far h.m.isMap hg, h3⟩
  ok := fun z k hz => by
    unfold putG at hz
    by_cases e : z = x
    · rw [if_pos e] at hz; cases hz
      rw [e]; exact ⟨hx, hl, hlm, hy⟩
    · rw [if_neg e] at hz
      obtain ⟨a, b, c, d⟩ := h.ok z k hz
      exact ⟨a, b, Nat.le_trans c hnm, d⟩
theorem NdsAt.del {x : Ce} (h : NdsAt W S bn n fn G) (hg : W.grownBy W1 (some bn)) (hm : MapAt W1 bn n (fun z => if z = x then none else fn z)) : NdsAt W1 S bn n (fun z => if z = x then none else fn z) (delG G x) where
  m := hm
  s := h.s
  no := fun z hz => by
    unfold delG at hz
    by_cases e : z = x
    · simp [e]
    · rw [if_neg e] at hz; simp only [e, if_false]; exact h.no z hz
  yes := fun z k hz => by
    unfold delG at hz
    by_cases e : z = x
    · rw [if_pos e] at hz; cases hz
    · rw [if_neg e] at hz
      obtain ⟨u, h1, h2, h3⟩ := h.yes z k hz
      exact ⟨u, by simp [e, h1], h2.far h.m.isMap hg, h3⟩
  ok := fun z k hz => by
    unfold delG at hz
    by_cases e : z = x
    · rw [if_pos e] at hz; cases hz
    · rw [if_neg e] at hz
      exact h.ok z k hz
/-- who needs y, but for x; with x. -/
def rmE (E : Ce → Ce → Bool) (y x : Ce) : Ce → Ce → Bool := fun y' x' => E y' x' && !(decide (y' = y) && decide (x' = x))
def adE (E : Ce → Ce → Bool) (y x : Ce) : Ce → Ce → Bool := fun y' x' => E y' x' || (decide (y' = y) && decide (x' = x))
theorem rmE_other {y x y' x' : Ce} (h : y' ≠ y) : rmE E y x y' x' = E y' x' := by simp [rmE, h]
theorem adE_other {y x y' x' : Ce} (h : y' ≠ y) : adE E y x y' x' = E y' x' := by simp [adE, h]
theorem rmE_same {y x x' : Ce} : rmE E y x y x' = (E y x' && !decide (x' = x)) := by simp [rmE]
theorem adE_same {y x x' : Ce} : adE E y x y x' = (E y x' || decide (x' = x)) := by simp [adE]
/-- an edge taken out; the cell is needed still. -/
theorem UsrAt.cut {y x : Ce} (h : UsrAt W S bn bu n fu E) (hy : fu y = some (.map (some b))) (hg : W.grownBy W1 (some b)) (hm : MapAt W1 b n (fun z => if z = x then none else (if E y z then some unitV else none))) (hl : ∃ z, E y z = true ∧ z ≠ x) : UsrAt W1 S bn bu n fu (rmE E y x) := by
  obtain ⟨b', e, hs, hbn, hbu, hmb⟩ := h.yes y _ hy
  obtain rfl : b = b' := by cases e; rfl
  refine ⟨h.m.kept hg (fun e => hbu (by cases e; rfl)), h.s, h.ne, fun z hz x' => ?_, fun z v hz => ?_, fun z v hz => ?_, h.inj⟩
  · have : z ≠ y := fun e => by rw [e, hy] at hz; cases hz
    rw [rmE_other this]; exact h.no z hz x'
  · by_cases e : z = y
    · subst e
      rw [hy] at hz; cases hz
      refine ⟨b, rfl, hs, hbn, hbu, hm.congr fun x' => ?_⟩
      rw [rmE_same]
      by_cases e : x' = x <;> simp [e]
    · obtain ⟨c, h1, h2, h3, h4, h5⟩ := h.yes z v hz
      refine ⟨c, h1, h2, h3, h4, (h5.kept hg (fun e' => e ?_)).congr fun x' => by rw [rmE_other e]⟩
      have hcb : c = b := by cases e'; rfl
      subst hcb; rw [h1] at hz; exact h.inj z y c hz hy
  · by_cases e : z = y
    · subst e
      obtain ⟨q, h1, h2⟩ := hl
      exact ⟨q, by rw [rmE_same, h1]; simp [h2]⟩
    · obtain ⟨q, h1⟩ := h.live z v hz
      exact ⟨q, by rw [rmE_other e]; exact h1⟩
/-- the last edge taken out. -/
theorem UsrAt.cutLast {y x : Ce} (h : UsrAt W S bn bu n fu E) (hy : fu y = some (.map (some b))) (hg : W.grownBy W1 (some b)) (hl : ∀ z, E y z = true → z = x) (hg2 : W1.grownBy W2 (some bu)) (hm : MapAt W2 bu n (fun z => if z = y then none else fu z)) : UsrAt W2 S bn bu n (fun z => if z = y then none else fu z) (rmE E y x) := by
  obtain ⟨b', e, hs, hbn, hbu, hmb⟩ := h.yes y _ hy
  obtain rfl : b = b' := by cases e; rfl
  have far : ∀ {z : Ce} {v : Value}, z ≠ y → fu z = some v → ∃ c, v = .map (some c) ∧ S c ∧ c ≠ bn ∧ c ≠ bu ∧ MapAt W2 c n (fun x' => if rmE E y x z x' then some unitV else none) := fun {z v} hzy hz => by
    obtain ⟨c, h1, h2, h3, h4, h5⟩ := h.yes z v hz
    have hcb : c ≠ b := fun hcb => by subst hcb; rw [h1] at hz; exact hzy (h.inj z y c hz hy)
    exact ⟨c, h1, h2, h3, h4, ((h5.kept hg (fun e' => hcb (by cases e'; rfl))).kept hg2 (fun e' => h4 (by cases e'; rfl))).congr fun x' => by rw [rmE_other hzy]⟩
  refine ⟨hm, h.s, h.ne, fun z hz x' => ?_, fun z v hz => ?_, fun z v hz => ?_, fun z z' c hz hz' => ?_⟩
  · by_cases e : z = y
    · subst e
      rw [rmE_same]
      cases hE : E z x' with
      | false => rfl
      | true => simp [hl x' hE]
    · simp only [e, if_false] at hz
      rw [rmE_other e]; exact h.no z hz x'
  · by_cases e : z = y
    · simp [e] at hz
    · simp only [e, if_false] at hz
      exact far e hz
  · by_cases e : z = y
    · simp [e] at hz
    · simp only [e, if_false] at hz
      obtain ⟨q, h1⟩ := h.live z v hz
      exact ⟨q, by rw [rmE_other e]; exact h1⟩
  · by_cases e : z = y
    · simp [e] at hz
    · by_cases e' : z' = y
      · simp [e'] at hz'
      · simp only [e, e', if_false] at hz hz'
        exact h.inj z z' c hz hz'
/-- an edge more, of a cell that was needed. -/
theorem UsrAt.add {y x : Ce} (h : UsrAt W S bn bu n fu E) (hy : fu y = some (.map (some b))) (hg : W.grownBy W1 (some b)) (hnm : n ≤ m) (hm : MapAt W1 b m (fun z => if z = x then some unitV else (if E y z then some unitV else none))) : UsrAt W1 S bn bu m fu (adE E y x) := by
  obtain ⟨b', e, hs, hbn, hbu, hmb⟩ := h.yes y _ hy
  obtain rfl : b = b' := by cases e; rfl
  refine ⟨(h.m.kept hg (fun e => hbu (by cases e; rfl))).mono hnm, h.s, h.ne, fun z hz x' => ?_, fun z v hz => ?_, fun z v hz => ?_, h.inj⟩
  · have : z ≠ y := fun e => by rw [e, hy] at hz; cases hz
    rw [adE_other this]; exact h.no z hz x'
  · by_cases e : z = y
    · subst e
      rw [hy] at hz; cases hz
      refine ⟨b, rfl, hs, hbn, hbu, hm.congr fun x' => ?_⟩
      rw [adE_same]
      by_cases e : x' = x <;> simp [e]
    · obtain ⟨c, h1, h2, h3, h4, h5⟩ := h.yes z v hz
      refine ⟨c, h1, h2, h3, h4, ((h5.kept hg (fun e' => e ?_)).congr fun x' => by rw [adE_other e]).mono hnm⟩
      have hcb : c = b := by cases e'; rfl
      subst hcb; rw [h1] at hz; exact h.inj z y c hz hy
  · by_cases e : z = y
    · subst e
      exact ⟨x, by rw [adE_same]; simp⟩
    · obtain ⟨q, h1⟩ := h.live z v hz
      exact ⟨q, by rw [adE_other e]; exact h1⟩
/-- an edge more, of a cell that nothing needed. -/
theorem UsrAt.addNew {y x : Ce} (h : UsrAt W S bn bu n fu E) (hy : fu y = none) (hw : Below W.heap.size W W1) (hbW : W.heap.size ≤ b) (hsb : S b) (hbn : bn < W.heap.size) (hg2 : W1.grownBy W2 (some bu)) (hm2 : MapAt W2 bu m (fun z => if z = y then some (.map (some b)) else fu z)) (hnm : n ≤ m)
    (hg3 : W2.grownBy W3 (some b)) (hm3 : MapAt W3 b m (fun z => if z = x then some unitV else none)) : UsrAt W3 S bn bu m (fun z => if z = y then some (.map (some b)) else fu z) (adE E y x) := by
  have hub : bu < W.heap.size := h.m.lt
  refine ⟨hm2.kept hg3 (fun e => by cases e; omega), h.s, h.ne, fun z hz x' => ?_, fun z v hz => ?_, fun z v hz => ?_, fun z z' c hz hz' => ?_⟩
  · by_cases e : z = y
    · simp [e] at hz
    · simp only [e, if_false] at hz
      rw [adE_other e]; exact h.no z hz x'
  · by_cases e : z = y
    · subst e
      simp at hz
      subst hz
      refine ⟨b, rfl, hsb, by omega, by omega, hm3.congr fun x' => ?_⟩
      rw [adE_same, h.no z hy x']
      by_cases e : x' = x <;> simp [e]
    · simp only [e, if_false] at hz
      obtain ⟨c, h1, h2, h3, h4, h5⟩ := h.yes z v hz
      have hc := h5.lt
      exact ⟨c, h1, h2, h3, h4, ((((h5.below hw).kept hg2 (fun e' => h4 (by cases e'; rfl))).kept hg3 (fun e' => by cases e'; omega)).congr fun x' => by rw [adE_other e]).mono hnm⟩
  · by_cases e : z = y
    · subst e; exact ⟨x, by rw [adE_same]; simp⟩
    · simp only [e, if_false] at hz
      obtain ⟨q, h1⟩ := h.live z v hz
      exact ⟨q, by rw [adE_other e]; exact h1⟩
  · have old : ∀ {q : Ce}, fu q = some (.map (some c)) → c < W.heap.size := fun {q} hq => by
      obtain ⟨c', h1, _, _, _, h5⟩ := h.yes q _ hq
      cases h1; exact h5.lt
    by_cases e : z = y
    · by_cases e' : z' = y
      · rw [e, e']
      · simp only [e, e', if_true, if_false] at hz hz'
        have hcb : b = c := by simpa using hz
        have := old hz'; omega
    · by_cases e' : z' = y
      · simp only [e, e', if_true, if_false] at hz hz'
        have hcb : b = c := by simpa using hz'
        have := old hz; omega
      · simp only [e, e', if_false] at hz hz'
        exact h.inj z z' c hz hz'
end Go.Proofs.Ytjjpfddgcilliaa
