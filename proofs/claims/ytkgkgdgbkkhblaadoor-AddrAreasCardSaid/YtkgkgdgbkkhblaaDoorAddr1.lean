/-
  LAYER 10, ADDRESSES: the plain mathematics: what is in the grid, columns' letters, addresses and back.
-/
import Derived.Test.YtkgkgdgbkkhblaaDoorDec1
namespace Go.Proofs.YtkgkgdgbkkhblaaDoor
set_option linter.unusedSimpArgs false
set_option linter.unusedVariables false
open Go.RowKit Go.Shelf

/-- is a cell in the grid? -/
def inG (c r : Int) : Bool := decide (1 ≤ c) && decide (c ≤ 52) && decide (1 ≤ r) && decide (r ≤ 99)
theorem inG_iff (c r : Int) : inG c r = true ↔ 1 ≤ c ∧ c ≤ 52 ∧ 1 ≤ r ∧ r ≤ 99 := by
  unfold inG; simp only [Bool.and_eq_true, decide_eq_true_eq, and_assoc]
/-- a column's letters. -/
def colL (n : Nat) : List UInt8 := if n = 0 ∨ 52 < n then [] else if n ≤ 26 then [UInt8.ofNat (64 + n)] else [65, UInt8.ofNat (38 + n)]
def colT (n : Nat) : ByteArray := ⟨(colL n).toArray⟩
/-- the column that has these letters, from n on; 0: none. -/
def colFrom (s : ByteArray) : Nat → Nat → Nat
  | 0, _ => 0
  | f + 1, n => if colT n = s then n else colFrom s f (n + 1)
def colF (s : ByteArray) : Nat := colFrom s 52 1
/-- a cell's address. -/
def adrT (c r : Int) : ByteArray := if inG c r then colT c.toNat ++ Nt.D r.toNat else ⟨#[]⟩
def isUp (b : UInt8) : Bool := decide (65 ≤ b.toNat ∧ b.toNat ≤ 90)
/-- does it look like a row? -/
def rowOk (l : List UInt8) : Bool := decide (1 ≤ l.length) && decide (l.length ≤ 3) && !(l.headD 0 == 48) && l.all Nt.isDig
/-- column, row, error. -/
def adrP (s : ByteArray) : Nat × Nat × Nat :=
  let a := s.data.toList.takeWhile isUp
  let d := s.data.toList.dropWhile isUp
  if 1 ≤ a.length ∧ a.length ≤ 2 ∧ rowOk d = true then (if inG (colF ⟨a.toArray⟩ : Nat) (Nt.dv d : Nat) then (colF ⟨a.toArray⟩, Nt.dv d, 0) else (0, 0, 6)) else (0, 0, 10)

theorem colT_neg {n : Nat} (h : n = 0 ∨ 52 < n) : colT n = ⟨#[]⟩ := by unfold colT colL; rw [if_pos h]
theorem col_back : ∀ n : Fin 53, n.val ≠ 0 → colF (colT n) = n.val ∧ (colL n).all isUp = true ∧ 1 ≤ (colL n).length ∧ (colL n).length ≤ 2 := by decide +kernel
theorem row_back : ∀ n : Fin 100, n.val ≠ 0 → rowOk ((Nt.dec n).map UInt8.ofNat) = true ∧ (((Nt.dec n).map UInt8.ofNat).all fun b => !isUp b) = true := by decide +kernel
theorem colFrom_le (s : ByteArray) : ∀ f n : Nat, colFrom s f n = 0 ∨ (n ≤ colFrom s f n ∧ colFrom s f n < n + f ∧ colT (colFrom s f n) = s) := by
  intro f
  induction f with
  | zero => intro n; exact Or.inl rfl
  | succ f ih =>
    intro n
    unfold colFrom
    by_cases h : colT n = s
    · rw [if_pos h]; exact Or.inr ⟨by omega, by omega, h⟩
    · rw [if_neg h]
      rcases ih (n + 1) with h1 | ⟨h1, h2, h3⟩
      · exact Or.inl h1
      · exact Or.inr ⟨by omega, by omega, h3⟩
theorem colT_colF {s : ByteArray} (h : colF s ≠ 0) : colT (colF s) = s := by
  rcases colFrom_le s 52 1 with h1 | ⟨_, _, h1⟩
  · exact absurd h1 h
  · exact h1
theorem takeWhile_app {p : UInt8 → Bool} {a d : List UInt8} (ha : a.all p = true) (hd : d.all (fun b => !p b) = true) : (a ++ d).takeWhile p = a ∧ (a ++ d).dropWhile p = d := by
  induction a with
  | nil =>
    cases d with
    | nil => exact ⟨rfl, rfl⟩
    | cons b d =>
      have : p b = false := by simpa using (List.all_eq_true.1 hd b (List.mem_cons_self ..))
      simp [this]
  | cons b a ih =>
    have hb : p b = true := List.all_eq_true.1 ha b (List.mem_cons_self ..)
    obtain ⟨h1, h2⟩ := ih (List.all_eq_true.2 fun x hx => List.all_eq_true.1 ha x (List.mem_cons_of_mem _ hx))
    simp [hb, h1, h2]
/-- an address is read back. -/
theorem adr_back {c r : Int} (h : inG c r = true) : adrP (adrT c r) = (c.toNat, r.toNat, 0) := by
  obtain ⟨h1, h2, h3, h4⟩ := (inG_iff c r).1 h
  obtain ⟨b1, b2, b3, b4⟩ := col_back ⟨c.toNat, by omega⟩ (by simp; omega)
  obtain ⟨d1, d2⟩ := row_back ⟨r.toNat, by omega⟩ (by simp; omega)
  dsimp only at b1 b2 b3 b4 d1 d2
  have hl : (adrT c r).data.toList = colL c.toNat ++ (Nt.dec r.toNat).map UInt8.ofNat := by
    unfold adrT; rw [if_pos h]; simp [colT, Nt.D, Nt.S]
  obtain ⟨t1, t2⟩ := takeWhile_app b2 d2
  unfold adrP
  dsimp only
  rw [hl, t1, t2, Nt.dv_dec, if_pos ⟨b3, b4, d1⟩]
  have e : (⟨(colL c.toNat).toArray⟩ : ByteArray) = colT c.toNat := rfl
  rw [e, b1, if_pos (by rw [inG_iff]; omega)]
/-- what is read is told again. -/
theorem adr_again {s : ByteArray} {a b : Nat} (h : adrP s = (a, b, 0)) : adrT a b = s := by
  unfold adrP at h
  dsimp only at h
  split at h
  · rename_i hc
    obtain ⟨_, _, hr⟩ := hc
    split at h
    · rename_i hg
      have h1 := congrArg (fun t => t.1) h
      have h2 := congrArg (fun t => t.2.1) h
      dsimp only at h1 h2
      subst h1
      subst h2
      unfold adrT
      rw [if_pos hg, Int.toNat_natCast, Int.toNat_natCast]
      obtain ⟨g1, _⟩ := (inG_iff _ _).1 hg
      rw [colT_colF (by omega)]
      unfold rowOk at hr
      simp only [Bool.and_eq_true, decide_eq_true_eq, Bool.not_eq_true'] at hr
      obtain ⟨⟨⟨r1, r2⟩, r3⟩, r4⟩ := hr
      generalize hd : s.data.toList.dropWhile isUp = d at *
      have r5 : ∀ b ∈ d, Nt.isDig b = true := fun b hb => List.all_eq_true.1 r4 b hb
      have e1 := Nt.dcs_dv d r5
      have e2 := Nt.dcs_trim (Nt.dv_lt d r5)
      have e3 : d.dropWhile (· == 48) = d := by
        cases d with
        | nil => rfl
        | cons x d => exact List.dropWhile_cons_of_neg (by simpa using r3)
      have e4 : (Nt.dcs (Nt.dv d) d.length).dropWhile (· == 48) = Nt.dcs (Nt.dv d) d.length := by
        have hm : ∀ l : List Nat, (∀ x ∈ l, 48 ≤ x ∧ x < 58) → (l.map UInt8.ofNat).dropWhile (· == 48) = l.map UInt8.ofNat → l.dropWhile (· == 48) = l := by
          intro l hl he
          cases l with
          | nil => rfl
          | cons x l =>
            apply List.dropWhile_cons_of_neg
            intro hx
            have hx' : x = 48 := by simpa using hx
            subst hx'
            have : (List.map UInt8.ofNat (48 :: l)).dropWhile (· == 48) = (l.map UInt8.ofNat).dropWhile (· == 48) := by
              rw [List.map_cons]; exact List.dropWhile_cons_of_pos (by decide)
            rw [this] at he
            have h1 := congrArg List.length he
            have h2 := (List.dropWhile_sublist (fun x : UInt8 => x == 48) (l := l.map UInt8.ofNat)).length_le
            simp at h1 h2
            omega
        exact hm _ (Nt.dcs_lt _ _) (by rw [e1]; exact e3)
      rw [e4] at e2
      have hne : Nt.dv d ≠ 0 := by
        intro h0
        rw [if_pos h0] at e2
        have := congrArg List.length e2
        rw [Nt.dcs_length] at this
        simp at this
        omega
      rw [if_neg hne] at e2
      have e5 : Nt.D (Nt.dv d) = ⟨d.toArray⟩ := by
        unfold Nt.D Nt.S; rw [← e2, e1]
      rw [e5, ← hd]
      have : (⟨(s.data.toList.takeWhile isUp).toArray⟩ : ByteArray) ++ ⟨(s.data.toList.dropWhile isUp).toArray⟩ = ⟨(s.data.toList.takeWhile isUp ++ s.data.toList.dropWhile isUp).toArray⟩ := by
        ext1; simp
      rw [this, List.takeWhile_append_dropWhile]
    · have := congrArg (fun t => t.2.2) h; simp at this
  · have := congrArg (fun t => t.2.2) h; simp at this
end Go.Proofs.YtkgkgdgbkkhblaaDoor
