/-
  TEXTS AS NUMBERS: the document's Parse, and the program's.
-/
import Derived.Test.YtjbpipbmcicjiaaGreatDoorDec1
import Derived.Test.YtjbpipbmcicjiaaGreatDoorShelf2
import Derived.Test.YtjbpipbmcicjiaaGreatDoorLaw2
import Derived.Deep.RegionWith
namespace Go.Proofs.YtjbpipbmcicjiaaGreatDoor
open Go.RowKit Go.Shelf

/-- what a text is as a number, or why it is none. -/
def parseOut (s : ByteArray) : Value :=
  if s.data.toList.all Nt.isDig = false ∨ s.size = 0 then .tuple #[.string ⟨#[]⟩, .int .i64 3]
  else if 400 < s.size then .tuple #[.string ⟨#[]⟩, .int .i64 9]
  else .tuple #[.string (Nt.E (Nt.dv s.data.toList)), .int .i64 0]
theorem parseOut_bad (s : ByteArray) (h : s.data.toList.all Nt.isDig = false ∨ s.size = 0) : parseOut s = .tuple #[.string ⟨#[]⟩, .int .i64 3] := if_pos h
theorem parseOut_long (s : ByteArray) (h : s.data.toList.all Nt.isDig = true) (h4 : 400 < s.size) : parseOut s = .tuple #[.string ⟨#[]⟩, .int .i64 9] := by
  rw [parseOut, if_neg (by rw [h]; exact fun h1 => h1.elim (fun h2 => by cases h2) (fun h2 => by omega)), if_pos h4]
theorem parseOut_ok (s : ByteArray) (h : s.data.toList.all Nt.isDig = true) (h0 : 0 < s.size) (h4 : s.size ≤ 400) : parseOut s = .tuple #[.string (Nt.E (Nt.dv s.data.toList)), .int .i64 0] := by
  rw [parseOut, if_neg (by rw [h]; exact fun h1 => h1.elim (fun h2 => by cases h2) (fun h2 => by omega)), if_neg (by omega)]
theorem Nt.all_false (s : ByteArray) (k : Nat) (h : k < s.size) (hb : Nt.isDig (s[k]'h) = false) : s.data.toList.all Nt.isDig = false := by
  rw [List.all_eq_false]
  exact ⟨s[k], by simp [ByteArray.getElem_eq_getElem_data], by simp [hb]⟩
theorem Nt.all_true (s : ByteArray) (h : ∀ k (hk : k < s.size), Nt.isDig (s[k]'hk) = true) : s.data.toList.all Nt.isDig = true := by
  rw [List.all_eq_true]
  intro b hb
  obtain ⟨i, hi, rfl⟩ := List.getElem_of_mem hb
  have := h i (by simpa using hi)
  simpa [ByteArray.getElem_eq_getElem_data] using this
theorem Nt.dv_take (s : ByteArray) (k : Nat) (h : k < s.size) : Nt.dv (s.data.toList.take (k + 1)) = Nt.dv (s.data.toList.take k) * 10 + ((s[k]'h).toNat - 48) := by
  rw [List.take_succ_eq_append_getElem (by simpa using h), Nt.dv_snoc]; rfl
theorem Nt.dv_size {l : List UInt8} (h : ∀ b ∈ l, Nt.isDig b = true) (hl : l.length ≤ 400) : (Nt.E (Nt.dv l)).size ≤ 170 := by
  refine Nt.E_size_lt (Nat.lt_of_lt_of_le (Nt.dv_lt l h) (Nat.le_trans (Nat.pow_le_pow_right (by omega) hl) ?_))
  have h1 : (10 : Nat) ^ 400 ≤ 256 ^ 170 := by decide +kernel
  exact h1
theorem Nt.dv_mul_size {n : Nat} (h : (Nt.E n).size ≤ 170) (m : Nat) (hm : m < 256 ^ 4) : (Nt.E (n * m)).size ≤ 174 := by
  have h1 := Nt.V_lt (Nt.E n)
  rw [Nt.V_E] at h1
  exact E_le (mul_lt (Nat.lt_of_lt_of_le h1 (Nat.pow_le_pow_right (by omega) h)) hm)

/-- the digits that were read, and their number. -/
def ReadRel (w : World) (s : ByteArray) (a i : Value) (wr : World) : Prop := ∃ k : Nat, k ≤ s.size ∧ i = .int .i64 (k : Int) ∧ a = .string (Nt.E (Nt.dv (s.data.toList.take k))) ∧ Below w.heap.size w wr
set_option maxRecDepth 100000 in
set_option maxHeartbeats 1000000 in
theorem refParse_any (s : ByteArray) (w : World) (hs : s.size ≤ maxLen) :
    Calls Tryz.prog 63 #[.string s] w fun e w' => e = .returned (parseOut s) ∧ Below w.heap.size w w' := by
  unfold maxLen at hs
  have PB := Lib.hid (parseOut_bad s)
  have PL := Lib.hid (parseOut_long s)
  have PO := Lib.hid (parseOut_ok s)
  go_enter Tryz.func63, Tryz.ntmps63
  go_wp2
  go_loop [4] (fun i => ∃ k : Nat, k ≤ s.size ∧ i = .int .i64 (k : Int) ∧ ∀ j (_ : j < k) (h : j < s.size), Nt.isDig (s[j]'h) = true) (fun i => s.size - (intOf i).toNat)
  case atStart => exact ⟨0, by omega, rfl, fun j hj => by omega⟩
  case round =>
    obtain ⟨k, hk, rfl, hall⟩ := hrel
    by_cases hlt : k < s.size
    · have HA := Lib.hid hall
      clear hall
      by_cases hd : Nt.isDig (s[k]'hlt) = true
      · have h1 : ¬ ((s[k]'hlt).toNat : Int) < 48 := by simp [Nt.isDig] at hd; omega
        have h2 : ¬ (57 : Int) < ((s[k]'hlt).toNat : Int) := by simp [Nt.isDig] at hd; omega
        have HD := Lib.hid hd
        clear hd
        go_wp2
        go_round
        case rel =>
          refine ⟨k + 1, by omega, by go_num, fun j hj h => ?_⟩
          by_cases e : j = k
          · subst e; exact HD.out
          · exact HA.out j (by omega) h
        case measure => simp [intOf]; omega
      · have hd' : Nt.isDig (s[k]'hlt) = false := by simpa using hd
        have hr := Lib.hid (PB.out (Or.inl (Nt.all_false s k hlt hd')))
        have h12 : ((s[k]'hlt).toNat : Int) < 48 ∨ (¬ ((s[k]'hlt).toNat : Int) < 48 ∧ (57 : Int) < ((s[k]'hlt).toNat : Int)) := by simp [Nt.isDig] at hd; omega
        clear hd hd'
        rcases h12 with h12 | ⟨h12, h13⟩
        all_goals
          go_wp2
          go_ret2
          exact ⟨congrArg Ending.returned hr.out.symm, Below.refl _ _⟩
    · obtain rfl : k = s.size := by omega
      have hda := Nt.all_true s fun j hj => hall j hj hj
      have hdl : ∀ b ∈ s.data.toList, Nt.isDig b = true := fun b hb => List.all_eq_true.1 hda b hb
      have HDA := Lib.hid hda
      have HDL := Lib.hid hdl
      clear hall hda hdl
      by_cases h0 : s.size = 0
      · have hr := Lib.hid (PB.out (Or.inr h0))
        have hn : s.toList = [] := by
          rw [ByteArray.toList_eq]; exact List.eq_nil_of_length_eq_zero (by simpa using h0)
        have h0' : ¬ (s.size : Int) < (s.size : Int) := by omega
        clear h0
        go_wp2
        go_ret2
        exact ⟨congrArg Ending.returned hr.out.symm, Below.refl _ _⟩
      · have hn : ¬ s.toList = [] := by
          rw [ByteArray.toList_eq]; intro h; exact h0 (by have := congrArg List.length h; simpa using this)
        have hn2 : s.toList.isEmpty = false := by simpa using hn
        by_cases h4 : 400 < s.size
        · have hr := Lib.hid (PL.out HDA.out h4)
          go_wp2
          go_ret2
          exact ⟨congrArg Ending.returned hr.out.symm, Below.refl _ _⟩
        · have hr := Lib.hid (PO.out HDA.out (by omega) (by omega))
          have H0 := Lib.hid h0
          clear h0
          go_wp2
          go_loopw [5, 6] (ReadRel w s) (fun _ i _ => s.size - (intOf i).toNat)
          case atStart => exact ⟨0, by omega, rfl, rfl, Below.refl _ _⟩
          case round =>
            obtain ⟨k, hk, rfl, rfl, hW⟩ := hrel
            by_cases hlt : k < s.size
            · have hd := HDL.out (s[k]'hlt) (by simp [ByteArray.getElem_eq_getElem_data])
              have hs1 := Nt.dv_take s k hlt
              have hsz := Nt.dv_size (l := s.data.toList.take k) (fun b hb => HDL.out b (List.mem_of_mem_take hb)) (by rw [List.length_take]; omega)
              have hms := Nt.dv_mul_size hsz 10 (by decide)
              generalize Nt.dv (s.data.toList.take k) = x at *
              have e1 : Nt.V ⟨#[10]⟩ = 10 := by decide
              have hm := fun W => refMul_any (Nt.E x) ⟨#[10]⟩ W (by omega) (by decide)
              rw [Nt.V_E, e1] at hm
              obtain ⟨c, hc⟩ : ∃ c, c = (s[k]'hlt).toNat := ⟨_, rfl⟩
              have hcd : 48 ≤ c ∧ c ≤ 57 := by rw [hc]; simpa [Nt.isDig] using hd
              have hos := Nat.le_trans (Nt.E_size_lt (n := c - 48) (m := 1) (by omega)) (show 1 ≤ 100000 by omega)
              have ha := fun W => refAdd_any (Nt.E (x * 10)) (Nt.E (c - 48)) W (by omega) hos
              rw [Nt.V_E, Nt.V_E, hc, ← hs1] at ha
              rw [← hc] at ha
              have q1 : IntKind.u8.wrap (((s[k]'hlt).toNat : Int) - 48) = ((c - 48 : Nat) : Int) := by
                rw [← hc]; show (_ : Int) % 256 = _; omega
              have q0 : ((s[k]'hlt).toNat : Int) - 48 = ((c - 48 : Nat) : Int) := by rw [← hc]; omega
              have q2 : (((s[k]'hlt).toNat : Int) - 48) % 256 = ((c - 48 : Nat) : Int) := by rw [← hc]; omega
              have q3 : IntKind.u8.wrap ((c - 48 : Nat) : Int) = ((c - 48 : Nat) : Int) := by show (_ : Int) % 256 = _; omega
              have q4 : IntKind.u64.wrap ((c - 48 : Nat) : Int) = ((c - 48 : Nat) : Int) := u64w (by omega) (by omega)
              have ho := fun W => refOf_any (c - 48) W (by omega)
              have HM := Lib.hid hm
              have HO := Lib.hid ho
              have HAd := Lib.hid ha
              clear hm ho ha hsz hms hs1 hd hos hcd
              have hB := hW.drew
              have HC := Lib.hid hc
              generalize c - 48 = d at *
              clear hc hW
              go_wp2
              go_region_with (first
                | (go_at_call 104; with_reducible refine (chain hB (HM.out _)).mono ?_; clear hB; rintro e w1 ⟨rfl, hB⟩)
                | (go_at_call 59; with_reducible refine (chain hB (HO.out _)).mono ?_; clear hB; rintro e w1 ⟨rfl, hB⟩)
                | (go_at_call 103; with_reducible refine (chain hB (HAd.out _)).mono ?_; clear hB; rintro e w1 ⟨rfl, hB⟩))
              all_goals go_wp2
              all_goals exact ⟨⟨k + 1, by omega, by go_num, rfl, hB⟩, by simp [intOf]; omega⟩
            · have hk' : k = s.size := by omega
              subst hk'
              have hf : Hid (s.data.toList.take s.size = s.data.toList) := List.take_of_length_le (by simp)
              have hr2 : Hid (parseOut s = .tuple #[.string (Nt.E (Nt.dv (s.data.toList.take s.size))), .int .i64 0]) := by rw [Hid, hf.out]; exact hr.out
              go_wp2
              go_ret2
              first
                | exact ⟨congrArg Ending.returned hr2.out.symm, hW⟩
                | exact ⟨congrArg Ending.returned hr.out.symm, hW⟩
end Go.Proofs.YtjbpipbmcicjiaaGreatDoor
