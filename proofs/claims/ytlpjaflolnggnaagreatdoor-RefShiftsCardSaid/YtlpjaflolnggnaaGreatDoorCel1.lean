/-
  LAYER 11, REFERENCES: the plain mathematics of sheets' names.
-/
import Derived.Test.YtlpjaflolnggnaaGreatDoorAddr5
import Derived.Test.YtlpjaflolnggnaaGreatDoorBox
import Derived.Lib.Case
namespace Go.Proofs.YtlpjaflolnggnaaGreatDoor
set_option linter.unusedSimpArgs false
set_option linter.unusedVariables false
open Go.RowKit Go.Shelf

def isLet (b : UInt8) : Bool := decide (65 ≤ b.toNat ∧ b.toNat ≤ 90 ∨ 97 ≤ b.toNat ∧ b.toNat ≤ 122)
def isNam (b : UInt8) : Bool := isLet b || Nt.isDig b || b == 95
/-- a few letters and a few digits? -/
def lookL (l : List UInt8) : Bool :=
  decide (l.length - (l.dropWhile isLet).length ≤ 2) && decide (1 ≤ (l.dropWhile isLet).length) && decide ((l.dropWhile isLet).length ≤ 3) && (l.dropWhile isLet).all Nt.isDig
/-- an address's form, of capital letters. -/
def formL (l : List UInt8) : Bool :=
  decide (1 ≤ (l.takeWhile isUp).length) && decide ((l.takeWhile isUp).length ≤ 2) && decide (1 ≤ (l.dropWhile isUp).length) && decide ((l.dropWhile isUp).length ≤ 3) && (l.dropWhile isUp).all Nt.isDig
def trueL : List UInt8 := [84, 82, 85, 69]
def falseL : List UInt8 := [70, 65, 76, 83, 69]
/-- can a sheet be named so? -/
def namL (l : List UInt8) : Bool :=
  decide (1 ≤ l.length) && decide (l.length ≤ 12) && isLet (l.headD 0) && l.all isNam && !(Lib.toUpperA l == trueL) && !(Lib.toUpperA l == falseL) && !lookL l
def namB (s : ByteArray) : Bool := namL s.data.toList

theorem upper_let (b : UInt8) : isUp (Lib.upperB b) = isLet b ∧ Nt.isDig (Lib.upperB b) = Nt.isDig b := by
  have h : ∀ n : Fin 256, isUp (Lib.upperB (UInt8.ofNat n.val)) = isLet (UInt8.ofNat n.val) ∧ Nt.isDig (Lib.upperB (UInt8.ofNat n.val)) = Nt.isDig (UInt8.ofNat n.val) := by decide +kernel
  have := h ⟨b.toNat, UInt8.toNat_lt b⟩
  rwa [show UInt8.ofNat (⟨b.toNat, UInt8.toNat_lt b⟩ : Fin 256).val = b from UInt8.ofNat_toNat] at this
theorem nam_ascii {b : UInt8} (h : isNam b = true) : b.toNat < 128 := by
  have h2 : ∀ n : Fin 256, isNam (UInt8.ofNat n.val) = true → (UInt8.ofNat n.val).toNat < 128 := by decide +kernel
  have := h2 ⟨b.toNat, UInt8.toNat_lt b⟩
  rw [show UInt8.ofNat (⟨b.toNat, UInt8.toNat_lt b⟩ : Fin 256).val = b from UInt8.ofNat_toNat] at this
  exact this h
theorem takeWhile_up : ∀ l : List UInt8, (Lib.toUpperA l).takeWhile isUp = Lib.toUpperA (l.takeWhile isLet)
  | [] => rfl
  | b :: l => by
    have hb := (upper_let b).1
    have ih := takeWhile_up l
    unfold Lib.toUpperA at ih ⊢
    rw [List.map_cons, List.takeWhile_cons, List.takeWhile_cons, hb]
    split
    · rw [List.map_cons, ih]
    · rfl
theorem dropWhile_up : ∀ l : List UInt8, (Lib.toUpperA l).dropWhile isUp = Lib.toUpperA (l.dropWhile isLet)
  | [] => rfl
  | b :: l => by
    have hb := (upper_let b).1
    have ih := dropWhile_up l
    unfold Lib.toUpperA at ih ⊢
    rw [List.map_cons, List.dropWhile_cons, List.dropWhile_cons, hb]
    split
    · rw [ih]
    · rfl
theorem all_up : ∀ l : List UInt8, (Lib.toUpperA l).all Nt.isDig = l.all Nt.isDig
  | [] => rfl
  | b :: l => by
    have ih := all_up l
    unfold Lib.toUpperA at ih ⊢
    rw [List.map_cons, List.all_cons, List.all_cons, ih, (upper_let b).2]
theorem up_length (l : List UInt8) : (Lib.toUpperA l).length = l.length := by unfold Lib.toUpperA; simp
/-- the document's look at the capital letters is the program's. -/
theorem form_look {l : List UInt8} (h : isLet (l.headD 0) = true) (h1 : 1 ≤ l.length) : formL (Lib.toUpperA l) = lookL l := by
  unfold formL lookL
  rw [takeWhile_up, dropWhile_up, all_up, up_length, up_length]
  have hs := congrArg List.length (List.takeWhile_append_dropWhile (p := isLet) (l := l))
  rw [List.length_append] at hs
  have hp : 1 ≤ (l.takeWhile isLet).length := by
    cases l with
    | nil => simp at h1
    | cons b l =>
      rw [List.takeWhile_cons, show isLet b = true from h]; simp
  have e : l.length - (l.dropWhile isLet).length = (l.takeWhile isLet).length := by omega
  rw [e, decide_eq_true hp, Bool.true_and]
theorem all_take {l : List UInt8} {p : UInt8 → Bool} {n : Nat} (hn : n < l.length) (h : (l.take n).all p = true) (hx : p l[n] = true) : (l.take (n + 1)).all p = true := by
  rw [List.take_succ_eq_append_getElem hn, List.all_append, h]; simp [hx]
theorem all_not {l : List UInt8} {p : UInt8 → Bool} {n : Nat} (hn : n < l.length) (hx : p l[n] = false) : l.all p = false := by
  rw [List.all_eq_false]
  exact ⟨l[n], List.getElem_mem hn, by simp [hx]⟩
theorem nam_size {s : ByteArray} (h : s.size = 0 ∨ 12 < s.size) : namB s = false := by
  have hl : s.data.toList.length = s.size := by simp
  unfold namB namL
  rw [hl]
  rcases h with h | h
  · rw [h]; rfl
  · rw [decide_eq_false (by omega : ¬ s.size ≤ 12)]; simp
theorem nam_head {s : ByteArray} (h0 : 0 < s.size) (h : isLet s[0] = false) : namB s = false := by
  unfold namB namL
  rw [head_get h0, h]; simp
theorem nam_not {s : ByteArray} (h : s.data.toList.all isNam = false) : namB s = false := by
  unfold namB namL
  rw [h]; simp
theorem nam_yes {s : ByteArray} (h0 : 0 < s.size) (h1 : s.size ≤ 12) (h : isLet s[0] = true) (h2 : s.data.toList.all isNam = true) :
    namB s = (!(Lib.toUpperA s.data.toList == trueL) && !(Lib.toUpperA s.data.toList == falseL) && !lookL s.data.toList) := by
  have hl : s.data.toList.length = s.size := by simp
  unfold namB namL
  rw [head_get h0, h, h2, hl, decide_eq_true (by omega : 1 ≤ s.size), decide_eq_true h1]; simp
end Go.Proofs.YtlpjaflolnggnaaGreatDoor
