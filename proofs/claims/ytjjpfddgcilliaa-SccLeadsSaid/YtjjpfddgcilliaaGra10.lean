/-
  LAYER 28: A GRAPH IN MEMORY: its two maps, and what may change.
-/
import Derived.Test.YtjjpfddgcilliaaGra8
set_option linter.unusedSimpArgs false
set_option linter.unusedVariables false
namespace Go.Proofs.Ytjjpfddgcilliaa
open Go.RowKit Go.Shelf Go.Sort Go.Lib Go.Maps
set_option maxRecDepth 100000

/-! ### collecting, walked -/
set_option maxRecDepth 100000 in
theorem collect_any (gf : Nat) (lb : Array Value) (S Sp : List Ce → Prop) (N : Nat) (w : World) (hN : N * 24 ≤ 140737488355328) (eg : ∀ args w, (callFunc gf args).run Try.prog w = .ok (.enter gf args) w)
    (hseq : SeqStopsK Fence.wide 2 Try.prog gf lb (fun x : Ce => #[mkC x]) KeepsWalks S Sp N w) :
    Calls Try.prog 48 #[.func (.func gf) #[] lb] w (SeqPost w S) := by
  have H := Lib.hid ((callsIn_wide (n := 3)).1 (appendSeq_in gf lb S Sp N w hN eg hseq))
  obtain ⟨Po, hPo⟩ : ∃ Po, Po = SeqPost w S := ⟨_, rfl⟩
  rw [← hPo]
  have HPO := Lib.hid hPo
  clear hseq hPo
  go_enter Try.func48, Try.ntmps48
  go_wp2_with (go_at_call 73; refine H.out.mono ?_; rintro e w1 ⟨⟨v, ys, rfl, hp⟩, hb⟩)
  show Po (.returned v) w1
  rw [HPO.out]
  exact ⟨⟨v, ys, rfl, hp⟩, hb⟩

/-! ### what a graph is -/
/-- blocks of S alone may change. -/
structure Trn (S : Nat → Prop) (w w' : World) : Prop where
  os : w'.os = w.os
  tape : w'.tape = w.tape
  output : w'.output = w.output
  size : w.heap.size ≤ w'.heap.size
  block : ∀ k, k < w.heap.size → ¬ S k → w'.heap[k]? = w.heap[k]?
theorem Trn.refl (S : Nat → Prop) (w : World) : Trn S w w := ⟨rfl, rfl, rfl, Nat.le_refl _, fun _ _ _ => rfl⟩
theorem Trn.drew {S : Nat → Prop} {w w' : World} (h : Trn S w w') : Trn S w w'.drew := ⟨h.os, h.tape, h.output, h.size, h.block⟩
theorem Trn.trans {S : Nat → Prop} {a b c : World} (h : Trn S a b) (k : Trn (fun j => S j ∨ a.heap.size ≤ j) b c) : Trn S a c :=
  ⟨k.os.trans h.os, k.tape.trans h.tape, k.output.trans h.output, Nat.le_trans h.size k.size, fun i hi hn => (k.block i (Nat.lt_of_lt_of_le hi h.size) (fun e => e.elim hn (by omega))).trans (h.block i hi hn)⟩
theorem Trn.mono {S T : Nat → Prop} {w w' : World} (h : Trn S w w') (hs : ∀ k, k < w.heap.size → S k → T k) : Trn T w w' := ⟨h.os, h.tape, h.output, h.size, fun k hk hn => h.block k hk fun hs' => hn (hs k hk hs')⟩
theorem Trn.of_below {S : Nat → Prop} {w w' : World} (h : Below w.heap.size w w') : Trn S w w' := ⟨h.os, h.tape, h.output, h.size, fun k hk _ => h.block k hk⟩
theorem Trn.of_grown {S : Nat → Prop} {w w' : World} {b : Nat} (h : w.grownBy w' (some b)) (hb : S b) : Trn S w w' := ⟨h.os, h.tape, h.output, h.size, fun k hk hn => h.block k hk fun e => hn (by cases e; exact hb)⟩
theorem Trn.below {S : Nat → Prop} {n : Nat} {w w' : World} (h : Trn S w w') (hn : n ≤ w.heap.size) (hs : ∀ k, S k → n ≤ k) : Below n w w' := ⟨h.os, h.tape, h.output, h.size, fun k hk => h.block k (by omega) fun hk' => by have := hs k hk'; omega⟩
theorem Trn.after {S : Nat → Prop} {a b c : World} (h : Trn S a b) (k : Below b.heap.size b c) : Trn S a c := h.trans (Trn.of_below k)
theorem Trn.wrote {S : Nat → Prop} {a b c : World} {x : Nat} (h : Trn S a b) (k : b.grownBy c (some x)) (hx : S x ∨ a.heap.size ≤ x) : Trn S a c := h.trans (Trn.of_grown k hx)
theorem Trn.al {S : Nat → Prop} {a b : World} (h : Trn S a b) (o : Obj) : Trn S a (b.alloc o) := h.after ((Below.refl _ b).alloc (Nat.le_refl _) _)
/-- blocks of S lie as they lay. -/
def Kept (S : Nat → Prop) (W W' : World) : Prop := W.heap.size ≤ W'.heap.size ∧ ∀ k, k < W.heap.size → S k → W'.heap[k]? = W.heap[k]?
theorem Kept.of_below {S : Nat → Prop} {W W' : World} (h : Below W.heap.size W W') : Kept S W W' := ⟨h.size, fun k hk _ => h.block k hk⟩
theorem Kept.of_trn {S T : Nat → Prop} {W W' : World} (h : Trn T W W') (hd : ∀ k, S k → ¬ T k) : Kept S W W' := ⟨h.size, fun k hk hs => h.block k hk (hd k hs)⟩

/-- no element of a set of cells. -/
def unitV : Value := .agg #[]
/-- what cells need. -/
structure NdsAt (W : World) (S : Nat → Prop) (bn n : Nat) (fn : Ce → Option Value) (G : Ce → Option (List Ce)) : Prop where
  m : MapAt W bn n fn
  s : S bn
  no : ∀ x, G x = none → fn x = none
  yes : ∀ x l, G x = some l → ∃ v, fn x = some v ∧ CsAt W v l ∧ ∀ b, blkOf v = some b → S b
  ok : ∀ x l, G x = some l → okC x ∧ Srt l ∧ l.length ≤ n ∧ ∀ y ∈ l, okC y
/-- who needs a cell: E y x: x needs y. -/
structure UsrAt (W : World) (S : Nat → Prop) (bn bu n : Nat) (fu : Ce → Option Value) (E : Ce → Ce → Bool) : Prop where
  m : MapAt W bu n fu
  s : S bu
  ne : bu ≠ bn
  no : ∀ y, fu y = none → ∀ x, E y x = false
  yes : ∀ y v, fu y = some v → ∃ b, v = .map (some b) ∧ S b ∧ b ≠ bn ∧ b ≠ bu ∧ MapAt W b n (fun x => if E y x then some unitV else none)
  live : ∀ y v, fu y = some v → ∃ x, E y x = true
  inj : ∀ y y' b, fu y = some (.map (some b)) → fu y' = some (.map (some b)) → y = y'
def edge (G : Ce → Option (List Ce)) (y x : Ce) : Bool := match G x with
  | some l => decide (y ∈ l)
  | none => false
/-- a graph whose box is block p. -/
def GrAt (W : World) (S : Nat → Prop) (p n : Nat) (G : Ce → Option (List Ce)) : Prop :=
  ∃ (bn bu : Nat) (fn fu : Ce → Option Value), W.heap[p]? = some (.cells #[.map (some bn), .map (some bu)] 65 (0, 0)) ∧ S p ∧ NdsAt W S bn n fn G ∧ UsrAt W S bn bu n fu (edge G)
theorem NdsAt.kept {W W' : World} {S : Nat → Prop} {bn n : Nat} {fn : Ce → Option Value} {G : Ce → Option (List Ce)} (h : NdsAt W S bn n fn G) (hk : Kept S W W') : NdsAt W' S bn n fn G where
  m := h.m.blk (hk.2 _ h.m.lt h.s)
  s := h.s
  no := h.no
  yes := fun x l hx => by
    obtain ⟨v, h1, h2, h3⟩ := h.yes x l hx
    exact ⟨v, h1, h2.kept hk.1 (fun b _ _ _ hb hc => hk.2 b (Array.getElem?_eq_some_iff.1 hc).1 (h3 b hb)), h3⟩
  ok := h.ok
theorem UsrAt.kept {W W' : World} {S : Nat → Prop} {bn bu n : Nat} {fu : Ce → Option Value} {E : Ce → Ce → Bool} (h : UsrAt W S bn bu n fu E) (hk : Kept S W W') : UsrAt W' S bn bu n fu E where
  m := h.m.blk (hk.2 _ h.m.lt h.s)
  s := h.s
  ne := h.ne
  no := h.no
  yes := fun y v hy => by
    obtain ⟨b, h1, h2, h3, h4, h5⟩ := h.yes y v hy
    exact ⟨b, h1, h2, h3, h4, h5.blk (hk.2 _ h5.lt h2)⟩
  live := h.live
  inj := h.inj
theorem GrAt.kept {W W' : World} {S : Nat → Prop} {p n : Nat} {G : Ce → Option (List Ce)} (h : GrAt W S p n G) (hk : Kept S W W') : GrAt W' S p n G := by
  obtain ⟨bn, bu, fn, fu, h0, h1, h2, h3⟩ := h
  exact ⟨bn, bu, fn, fu, (hk.2 p (Array.getElem?_eq_some_iff.1 h0).1 h1).trans h0, h1, h2.kept hk, h3.kept hk⟩
theorem NdsAt.mono {W : World} {S T : Nat → Prop} {bn n m : Nat} {fn : Ce → Option Value} {G : Ce → Option (List Ce)} (h : NdsAt W S bn n fn G) (hs : ∀ k, k < W.heap.size → S k → T k) (hn : n ≤ m) : NdsAt W T bn m fn G where
  m := h.m.mono hn
  s := hs _ h.m.lt h.s
  no := h.no
  yes := fun x l hx => by
    obtain ⟨v, h1, h2, h3⟩ := h.yes x l hx
    exact ⟨v, h1, h2, fun b hb => hs b (h2.lt hb) (h3 b hb)⟩
  ok := fun x l hx => by obtain ⟨a, b, c, d⟩ := h.ok x l hx; exact ⟨a, b, Nat.le_trans c hn, d⟩
theorem UsrAt.mono {W : World} {S T : Nat → Prop} {bn bu n m : Nat} {fu : Ce → Option Value} {E : Ce → Ce → Bool} (h : UsrAt W S bn bu n fu E) (hs : ∀ k, k < W.heap.size → S k → T k) (hn : n ≤ m) : UsrAt W T bn bu m fu E where
  m := h.m.mono hn
  s := hs _ h.m.lt h.s
  ne := h.ne
  no := h.no
  yes := fun y v hy => by
    obtain ⟨b, h1, h2, h3, h4, h5⟩ := h.yes y v hy
    exact ⟨b, h1, hs _ h5.lt h2, h3, h4, h5.mono hn⟩
  live := h.live
  inj := h.inj
theorem GrAt.mono {W : World} {S T : Nat → Prop} {p n m : Nat} {G : Ce → Option (List Ce)} (h : GrAt W S p n G) (hs : ∀ k, k < W.heap.size → S k → T k) (hn : n ≤ m) : GrAt W T p m G := by
  obtain ⟨bn, bu, fn, fu, h0, h1, h2, h3⟩ := h
  exact ⟨bn, bu, fn, fu, h0, hs p (Array.getElem?_eq_some_iff.1 h0).1 h1, h2.mono hs hn, h3.mono hs hn⟩
theorem UsrAt.congr {W : World} {S : Nat → Prop} {bn bu n : Nat} {fu : Ce → Option Value} {E F : Ce → Ce → Bool} (h : UsrAt W S bn bu n fu E) (e : ∀ y x, E y x = F y x) : UsrAt W S bn bu n fu F := by
  rwa [show F = E from funext fun y => funext fun x => (e y x).symm]
end Go.Proofs.Ytjjpfddgcilliaa
