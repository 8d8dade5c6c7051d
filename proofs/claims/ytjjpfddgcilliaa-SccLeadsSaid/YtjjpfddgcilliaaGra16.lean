/-
  LAYER 28: A CELL GETS A FORMULA (Set).
-/
import Derived.Test.YtjjpfddgcilliaaGra15
set_option linter.unusedSimpArgs false
set_option linter.unusedVariables false
namespace Go.Proofs.Ytjjpfddgcilliaa
open Go.RowKit Go.Shelf Go.Sort Go.Lib Go.Maps
set_option maxRecDepth 100000

/-- who needs what, the first k of x's list put in. -/
def F_k (G : Ce → Option (List Ce)) (x : Ce) (l : List Ce) (k : Nat) : Ce → Ce → Bool := fun y z => edge (delG G x) y z || (decide (z = x) && decide (y ∈ l.take k))
theorem F_0 (G : Ce → Option (List Ce)) (x : Ce) (l : List Ce) : ∀ y z, edge (delG G x) y z = F_k G x l 0 y z := fun y z => by simp [F_k]
theorem F_next (G : Ce → Option (List Ce)) (x : Ce) (l : List Ce) (k : Nat) (h : k < l.length) : ∀ y z, adE (F_k G x l k) l[k] x y z = F_k G x l (k + 1) y z := fun y z => by
  unfold adE F_k
  have hm : decide (y ∈ l.take (k + 1)) = (decide (y ∈ l.take k) || decide (y = l[k])) := by
    rw [List.take_succ_eq_append_getElem h, ← Bool.decide_or]
    exact decide_eq_decide.2 (by rw [List.mem_append, List.mem_singleton])
  rw [hm]
  cases edge (delG G x) y z <;> cases decide (z = x) <;> cases decide (y ∈ l.take k) <;> cases decide (y = l[k]) <;> rfl
theorem F_end (G : Ce → Option (List Ce)) (x : Ce) (l : List Ce) : ∀ y z, F_k G x l l.length y z = edge (putG G x l) y z := fun y z => by
  unfold F_k delG putG edge
  rw [List.take_length]
  by_cases h : z = x <;> simp [h]
theorem put_del (G : Ce → Option (List Ce)) (x : Ce) (l : List Ce) : putG (delG G x) x l = putG G x l := funext fun z => by
  unfold putG delG
  by_cases e : z = x
  · rw [if_pos e, if_pos e]
  · rw [if_neg e, if_neg e, if_neg e]
/-- what the loop keeps: k cells of the list are done. -/
structure StR (w : World) (S T : Nat → Prop) (p m n0 bn bu A : Nat) (fn : Ce → Option Value) (G : Ce → Option (List Ce)) (x : Ce) (v : Value) (l : List Ce) (k : Nat) (wr : World) : Prop where
  nd : NdsAt wr T bn m fn (putG G x l)
  us : ∃ fu, UsrAt wr T bn bu (n0 + k) fu (F_k G x l k)
  pb : wr.heap[p]? = some (.cells #[.map (some bn), .map (some bu)] 65 (0, 0))
  ab : wr.heap[A]? = some (.cells #[.int .i64 x.1, .int .i64 x.2.1, .int .i64 x.2.2] 32 (0, 0))
  cs : CsAt wr v l
  tr : Trn S w wr
section
variable {w s1 s2 w3 w4 : World} {S T : Nat → Prop} {p m n0 bn bu A b k : Nat} {fn fu : Ce → Option Value} {G : Ce → Option (List Ce)} {x y : Ce} {v : Value} {l : List Ce}
theorem StR.below {wr wr' : World} (h : StR w S T p m n0 bn bu A fn G x v l k wr) (hb : Below wr.heap.size wr wr') : StR w S T p m n0 bn bu A fn G x v l k wr' where
  nd := h.nd.kept (Kept.of_below hb)
  us := h.us.imp fun fu hu => hu.kept (Kept.of_below hb)
  pb := (hb.block p (Array.getElem?_eq_some_iff.1 h.pb).1).trans h.pb
  ab := (hb.block A (Array.getElem?_eq_some_iff.1 h.ab).1).trans h.ab
  cs := h.cs.below hb
  tr := h.tr.after hb
theorem StR.add (h : StR w S T p m n0 bn bu A fn G x v l k s1) (hT : ∀ j, T j → S j ∨ w.heap.size ≤ j) (hU : UsrAt s1 T bn bu (n0 + k) fu (F_k G x l k)) (hy : fu y = some (.map (some b))) (hSb : T b) (hbn : b ≠ bn) (hmb : ∃ es c, s1.heap[b]? = some (.map es c)) (hg : s1.grownBy w4 (some b))
    (hm4 : MapAt w4 b (n0 + k + 1) (fun z => if z = x then some unitV else (if F_k G x l k y z then some unitV else none))) (hnx : ∀ y' z, adE (F_k G x l k) y x y' z = F_k G x l (k + 1) y' z) : StR w S T p m n0 bn bu A fn G x v l (k + 1) w4 where
  nd := h.nd.far hbn hmb hg
  us := ⟨fu, (hU.add hy hg (Nat.le_succ _) hm4).congr hnx⟩
  pb := cells_far h.pb hmb hg
  ab := cells_far h.ab hmb hg
  cs := h.cs.far hmb hg
  tr := h.tr.wrote hg (hT b hSb)
theorem StR.addNew (h : StR w S T p m n0 bn bu A fn G x v l k s1) (hT : ∀ j, T j ↔ S j ∨ w.heap.size ≤ j) (hU : UsrAt s1 T bn bu (n0 + k) fu (F_k G x l k)) (hy : fu y = none) (hs2 : Below s1.heap.size s1 s2) (hb : s1.heap.size ≤ b)
    (hg3 : s2.grownBy w3 (some bu)) (hm3 : MapAt w3 bu (n0 + k + 1) (fun z => if z = y then some (.map (some b)) else fu z)) (hmb : ∃ es c, w3.heap[b]? = some (.map es c)) (hg4 : w3.grownBy w4 (some b)) (hm4 : MapAt w4 b (n0 + k + 1) (fun z => if z = x then some unitV else none))
    (hnx : ∀ y' z, adE (F_k G x l k) y x y' z = F_k G x l (k + 1) y' z) : StR w S T p m n0 bn bu A fn G x v l (k + 1) w4 := by
  have h2 := h.below hs2
  have hbn : bn < s1.heap.size := h.nd.m.lt
  have hmu : ∃ es c, s2.heap[bu]? = some (.map es c) := (hU.m.below hs2).isMap
  have hTb : T b := (hT b).2 (Or.inr (Nat.le_trans h.tr.size hb))
  exact {
    nd := (h2.nd.far hU.ne hmu hg3).far (by omega) hmb hg4
    us := ⟨_, (hU.addNew hy hs2 hb hTb hbn hg3 hm3 (Nat.le_succ _) hg4 hm4).congr hnx⟩
    pb := cells_far (cells_far h2.pb hmu hg3) hmb hg4
    ab := cells_far (cells_far h2.ab hmu hg3) hmb hg4
    cs := (h2.cs.far hmu hg3).far hmb hg4
    tr := (h2.tr.wrote hg3 ((hT bu).1 hU.s)).wrote hg4 (Or.inr (Nat.le_trans h.tr.size hb)) }
end
end Go.Proofs.Ytjjpfddgcilliaa
