/-
  TEXTS AS NUMBERS: the program's Parse.
-/
import Derived.Test.YtjbpipbmcicjiaaGreatDoorDec2
namespace Go.Proofs.YtjbpipbmcicjiaaGreatDoor
open Go.RowKit Go.Shelf

def digitSet : List UInt8 := [48, 49, 50, 51, 52, 53, 54, 55, 56, 57]
theorem digitSet_has (b : UInt8) : digitSet.contains b = Nt.isDig b := by
  have h : ∀ n : Fin 256, digitSet.contains (UInt8.ofNat n.val) = Nt.isDig (UInt8.ofNat n.val) := by decide +kernel
  have := h ⟨b.toNat, UInt8.toNat_lt b⟩
  rwa [show UInt8.ofNat (⟨b.toNat, UInt8.toNat_lt b⟩ : Fin 256).val = b from UInt8.ofNat_toNat] at this
theorem drop_nil_iff (p : UInt8 → Bool) : ∀ l : List UInt8, l.dropWhile p = [] ↔ ∀ x ∈ l, p x = true
  | [] => by simp
  | b :: r => by
    have ih := drop_nil_iff p r
    by_cases h : p b = true
    · rw [List.dropWhile_cons_of_pos h, ih]
      constructor
      · intro hr x hx
        rcases List.mem_cons.1 hx with rfl | hx
        · exact h
        · exact hr x hx
      · exact fun hr x hx => hr x (List.mem_cons_of_mem _ hx)
    · rw [List.dropWhile_cons_of_neg h]
      constructor
      · intro hr; cases hr
      · intro hr; exact absurd (hr b List.mem_cons_self) h
theorem trimS_nil {l : List UInt8} (h : l.all Nt.isDig = true) : Lib.trimS l digitSet = [] := by
  have h1 : Lib.trimRightS l digitSet = [] := by
    unfold Lib.trimRightS
    rw [List.reverse_eq_nil_iff, drop_nil_iff]
    intro x hx
    rw [List.mem_reverse] at hx
    rw [digitSet_has]
    exact List.all_eq_true.1 h x hx
  unfold Lib.trimS
  rw [h1]; rfl
theorem trimS_some {l : List UInt8} (h : l.all Nt.isDig = false) : Lib.trimS l digitSet ≠ [] := by
  intro hn
  rw [List.all_eq_false] at h
  obtain ⟨x, hx, hb⟩ := h
  have h1 : ∀ y ∈ Lib.trimRightS l digitSet, digitSet.contains y = true := by
    unfold Lib.trimS Lib.trimLeftS at hn
    exact (drop_nil_iff _ _).1 hn
  have h2 : ∀ y ∈ l, digitSet.contains y = true := by
    intro y hy
    have e := List.takeWhile_append_dropWhile (p := (digitSet.contains ·)) (l := l.reverse)
    have hy2 : y ∈ l.reverse := List.mem_reverse.2 hy
    rw [← e, List.mem_append] at hy2
    rcases hy2 with hy2 | hy2
    · have := List.all_takeWhile (p := (digitSet.contains ·)) (l := l.reverse)
      exact List.all_eq_true.1 this y hy2
    · exact h1 y (by unfold Lib.trimRightS; exact List.mem_reverse.2 hy2)
  have := h2 x hx
  rw [digitSet_has] at this
  exact hb this
theorem parseUint_digits {l : List UInt8} (h : ∀ b ∈ l, Nt.isDig b = true) (h0 : l ≠ []) (h9 : l.length ≤ 9) : Lib.parseUintB 64 l = .ok (Nt.dv l) := by
  have key : ∀ (k : List UInt8) (acc : Nat), (∀ b ∈ k, Nt.isDig b = true) → acc * 10 ^ k.length + Nt.dv k < 1000000000 * 10 → Lib.parseUintM (2 ^ 64 - 1) acc k = .ok (acc * 10 ^ k.length + Nt.dv k) := by
    intro k
    induction k with
    | nil => intro acc _ _; simp [Lib.parseUintM, Nt.dv]
    | cons b r ih =>
      intro acc hk hlt
      have hb : 48 ≤ b.toNat ∧ b.toNat ≤ 57 := by simpa [Nt.isDig] using hk b List.mem_cons_self
      have e : acc * 10 ^ (b :: r).length + Nt.dv (b :: r) = (acc * 10 + (b.toNat - 48)) * 10 ^ r.length + Nt.dv r := by
        rw [show b :: r = [b] ++ r from rfl, Nt.dv_append, List.length_append, List.length_singleton, Nat.pow_add, Nat.pow_one, Nat.add_mul, Nat.mul_assoc]
        have : Nt.dv [b] = b.toNat - 48 := by simp [Nt.dv]
        rw [this]; omega
      have hp : 0 < 10 ^ r.length := Nat.pow_pos (by omega)
      have hacc : acc * 10 + (b.toNat - 48) < 1000000000 * 10 := by
        rw [e] at hlt
        have := Nat.mul_le_mul_left (acc * 10 + (b.toNat - 48)) hp
        omega
      rw [e] at hlt ⊢
      rw [Lib.parseUintM, if_pos hb, if_neg (by omega), if_neg (by omega)]
      exact ih _ (fun x hx => hk x (List.mem_cons_of_mem _ hx)) hlt
  have h1 := key l 0 h (by
    rw [Nat.zero_mul, Nat.zero_add]
    refine Nat.lt_of_lt_of_le (Nt.dv_lt l h) (Nat.le_trans (Nat.pow_le_pow_right (by omega) h9) (by decide)))
  rw [Nat.zero_mul, Nat.zero_add] at h1
  rw [Lib.parseUintB, if_neg h0]; exact h1
theorem below_bytesWorld (w : World) (e : TypeId) (s : ByteArray) : Below w.heap.size w (Lib.bytesWorld w e s) := ⟨rfl, rfl, rfl, by rw [Lib.bytesWorld_size]; omega, fun j hj => Lib.bytesWorld_at_old w e s j hj⟩
theorem parseUint_at (s : ByteArray) (w : World) (h : ∀ b ∈ s.data.toList, Nt.isDig b = true) (h0 : 0 < s.size) (h9 : s.size ≤ 9) :
    Calls Tryz.prog 102 #[.string s, .int .i64 10, .int .i64 64] w fun e w' => e = .returned (.tuple #[.int .u64 ((Nt.dv s.data.toList : Nat) : Int), .nilIface]) ∧ Below w.heap.size w w' := by
  have hl : s.data.toList.length = s.size := by simp
  refine (Tryz.strconv_ParseUint_10_at64_ok s (by omega) (Nt.dv s.data.toList) (parseUint_digits h (fun hn => by rw [hn] at hl; simp at hl; omega) (by omega)) w).mono ?_
  rintro e w' ⟨he, hw⟩
  refine ⟨he, ?_⟩
  rcases hw with rfl | rfl
  · exact Below.refl _ _
  · exact below_bytesWorld _ _ _
theorem trim_digits (s : ByteArray) (w : World) (hs : s.size ≤ 9223372036854775807) :
    Calls Tryz.prog 101 #[.string s, .string ⟨#[48, 49, 50, 51, 52, 53, 54, 55, 56, 57]⟩] w fun e w' => e = .returned (.string ⟨(Lib.trimS s.data.toList digitSet).toArray⟩) ∧ Below w.heap.size w w' :=
  Any.strings_Trim_laid Tryz.l160 (by kernel_rfl) s ⟨#[48, 49, 50, 51, 52, 53, 54, 55, 56, 57]⟩ w hs (by decide) (ascii_of_all (by decide))
theorem toArray_toList (l : List UInt8) : (⟨l.toArray⟩ : ByteArray).toList = l := by rw [ByteArray.toList_eq]

/-- what was read of the digits, nine at a time. -/
def NineRel (w : World) (l : List UInt8) (a b : Value) (wr : World) : Prop := ∃ (p : Nat) (cur : ByteArray), cur.data.toList = l.drop p ∧ p ≤ l.length ∧ a = .string cur ∧ b = .string (Nt.E (Nt.dv (l.take p))) ∧ (p = 0 ∨ (l.length - p) % 9 = 0) ∧ Below w.heap.size w wr
def strLen : Value → Nat
  | .string s => s.size
  | _ => 0
set_option maxRecDepth 100000 in
set_option maxHeartbeats 1000000 in
theorem natParse_any (s : ByteArray) (w : World) (hs : s.size ≤ maxLen) :
    Calls Tryz.prog 62 #[.string s] w fun e w' => e = .returned (parseOut s) ∧ Below w.heap.size w w' := by
  unfold maxLen at hs
  have HT := Lib.hid (fun w => trim_digits s w (by omega))
  have hB := Below.refl w.heap.size w
  by_cases h0 : s.size = 0
  · have hr := Lib.hid (parseOut_bad s (Or.inr h0))
    have hn : s.toList = [] := by
      rw [ByteArray.toList_eq]; exact List.eq_nil_of_length_eq_zero (by simpa using h0)
    clear h0
    go_enter Tryz.func62, Tryz.ntmps62
    go_wp2
    go_ret2
    exact ⟨congrArg Ending.returned hr.out.symm, hB⟩
  · have hn : ¬ s.toList = [] := by
      rw [ByteArray.toList_eq]; intro h; exact h0 (by have := congrArg List.length h; simpa using this)
    have hn2 : s.toList.isEmpty = false := by simpa using hn
    by_cases hall : s.data.toList.all Nt.isDig = true
    · have ht : (⟨(Lib.trimS s.data.toList digitSet).toArray⟩ : ByteArray) = ⟨#[]⟩ := by rw [trimS_nil hall]
      have HT1 := Lib.hid (fun w => (ht ▸ HT.out w : Calls Tryz.prog 101 #[.string s, .string ⟨#[48, 49, 50, 51, 52, 53, 54, 55, 56, 57]⟩] w fun e w' => e = .returned (.string ⟨#[]⟩) ∧ Below w.heap.size w w'))
      by_cases h4 : 400 < s.size
      · have hr := Lib.hid (parseOut_long s hall h4)
        clear ht hall
        go_enter Tryz.func62, Tryz.ntmps62
        go_wp2_with (go_at_call 101; with_reducible refine (chain hB (HT1.out _)).mono ?_; clear hB; rintro e w1 ⟨rfl, hB⟩)
        go_ret2
        exact ⟨congrArg Ending.returned hr.out.symm, hB⟩
      · have hr := Lib.hid (parseOut_ok s hall (by omega) (by omega))
        have HDL : Hid (∀ b ∈ s.data.toList, Nt.isDig b = true) := fun b hb => List.all_eq_true.1 hall b hb
        have hlen : s.data.toList.length = s.size := by simp
        obtain ⟨l, hl⟩ : ∃ l, l = s.data.toList := ⟨_, rfl⟩
        rw [← hl] at hr HDL hlen
        have HL := Lib.hid hl
        have HLen := Lib.hid hlen
        have hl4 : l.length ≤ 400 := by omega
        clear ht hall hl hlen
        go_enter Tryz.func62, Tryz.ntmps62
        go_wp2_with (go_at_call 101; with_reducible refine (chain hB (HT1.out _)).mono ?_; clear hB; rintro e w1 ⟨rfl, hB⟩)
        go_loopw [0, 4] (NineRel w l) (fun a _ _ => strLen a)
        case atStart => exact ⟨0, s, by rw [List.drop_zero]; exact HL.out.symm, by omega, rfl, rfl, Or.inl rfl, hB⟩
        case round =>
          obtain ⟨p, cur, hcur, hp, rfl, rfl, hp9, hW⟩ := hrel
          have hcl : cur.size = l.length - p := by
            have := congrArg List.length hcur
            rw [List.length_drop] at this
            simpa using this
          by_cases hlt : p < l.length
          · obtain ⟨z, hz⟩ : ∃ z, z = (cur.size - 1) % 9 + 1 := ⟨_, rfl⟩
            have hzc : z ≤ cur.size := by omega
            have hz9 : z ≤ 9 := by omega
            have gz : ((cur.size : Int) - 1) % 9 + 1 = (z : Int) := by omega
            have hcp : (1 : Int) ≤ (cur.size : Int) := by omega
            have hcs : cur.size ≤ 400 := by omega
            have hdt : (cur.extract 0 z).data.toList = (l.drop p).take z := by rw [Lib.extract_data, hcur]; simp
            have hdr : (cur.extract z cur.size).data.toList = l.drop (p + z) := by
              rw [Lib.extract_data, hcur, List.drop_drop]
              exact List.take_of_length_le (by rw [List.length_drop]; omega)
            have hds : (cur.extract 0 z).size = z := by simp; omega
            have hpu := fun W => parseUint_at (cur.extract 0 z) W (by rw [hdt]; exact fun b hb => HDL.out b (List.mem_of_mem_drop (List.mem_of_mem_take hb))) (by omega) (by omega)
            have hdv : Nt.dv (l.take (p + z)) = Nt.dv (l.take p) * 10 ^ z + Nt.dv ((l.drop p).take z) := by
              rw [List.take_add, Nt.dv_append, List.length_take, List.length_drop]
              congr 3
              omega
            rw [hdt] at hpu
            have hul := Nt.dv_lt ((l.drop p).take z) (fun b hb => HDL.out b (List.mem_of_mem_drop (List.mem_of_mem_take hb)))
            have hul2 : Nt.dv ((l.drop p).take z) < 1000000000 := Nat.lt_of_lt_of_le hul (Nat.le_trans (Nat.pow_le_pow_right (by omega) (Nat.le_trans (List.length_take_le _ _) hz9)) (by decide))
            have hsz := Nt.dv_size (l := l.take p) (fun b hb => HDL.out b (List.mem_of_mem_take hb)) (by rw [List.length_take]; omega)
            have hbil : Nt.dv (l.take p) * 1000000000 + Nt.dv ((l.drop p).take z) = Nt.dv (l.take (p + z)) := by
              rw [hdv]
              rcases hp9 with h | h
              · rw [h]; simp [Nt.dv]
              · have : z = 9 := by omega
                rw [this]
            have hms := Nt.dv_mul_size hsz 1000000000 (by decide)
            have e1 : Nt.V ⟨#[59, 154, 202, 0]⟩ = 1000000000 := by decide
            have hm := fun W => natMul_any (Nt.E (Nt.dv (l.take p))) ⟨#[59, 154, 202, 0]⟩ W (by omega) (by decide)
            rw [Nt.V_E, e1] at hm
            have hos := Nt.E_size_lt (n := Nt.dv ((l.drop p).take z)) (m := 4) (by omega)
            have ha := fun W => natAdd_any (Nt.E (Nt.dv (l.take p) * 1000000000)) (Nt.E (Nt.dv ((l.drop p).take z))) W (by omega) (by omega)
            rw [Nt.V_E, Nt.V_E, hbil] at ha
            have ho := fun W => natOf_any (Nt.dv ((l.drop p).take z)) W (by omega)
            have HP := Lib.hid hpu
            have HM := Lib.hid hm
            have HO := Lib.hid ho
            have HAd := Lib.hid ha
            have HDR := Lib.hid hdr
            have HP9 := Lib.hid hp9
            have HCU := Lib.hid hcur
            have HCL := Lib.hid hcl
            have HZ := Lib.hid hz
            generalize Nt.dv ((l.drop p).take z) = u at *
            generalize Nt.dv (l.take p) = x at *
            clear hpu hm ho ha hdr hp9 hcur hcl hz hbil hdv hul hul2 hms hsz hos hdt e1 hB hds
            have hB := hW
            clear hW
            go_wp2_with (first
              | (go_at_call 102; with_reducible refine (chain hB (HP.out _)).mono ?_; clear hB; rintro e w1 ⟨rfl, hB⟩)
              | (go_at_call 92; with_reducible refine (chain hB (HM.out _)).mono ?_; clear hB; rintro e w1 ⟨rfl, hB⟩)
              | (go_at_call 56; with_reducible refine (chain hB (HO.out _)).mono ?_; clear hB; rintro e w1 ⟨rfl, hB⟩)
              | (go_at_call 83; with_reducible refine (chain hB (HAd.out _)).mono ?_; clear hB; rintro e w1 ⟨rfl, hB⟩))
            refine ⟨⟨p + z, _, HDR.out, by have := HCL.out; omega, rfl, rfl, Or.inr ?_, hB⟩, ?_⟩
            · have h1 := HCL.out
              have h2 := HZ.out
              rcases HP9.out with h | h <;> omega
            · show (cur.extract z cur.size).size < cur.size
              simp; omega
          · have hpl : p = l.length := by omega
            have hf : Hid (l.take p = l) := List.take_of_length_le (by omega)
            have hc0 : cur.size = 0 := by omega
            have hW2 := Lib.hid hW
            clear hcur hcl hp9 hB hW hlt hp
            have hr2 : Hid (parseOut s = .tuple #[.string (Nt.E (Nt.dv (l.take p))), .int .i64 0]) := by rw [Hid, hf.out]; exact hr.out
            go_wp2
            go_ret2
            exact ⟨congrArg Ending.returned hr2.out.symm, hW2.out⟩
    · have hall' : s.data.toList.all Nt.isDig = false := by simpa using hall
      have hr := Lib.hid (parseOut_bad s (Or.inl hall'))
      have hts := trimS_some hall'
      generalize Lib.trimS s.data.toList digitSet = T at *
      have hn3 : ¬ (⟨T.toArray⟩ : ByteArray).toList = [] := by rw [toArray_toList]; exact hts
      have hn4 : (⟨T.toArray⟩ : ByteArray).toList.isEmpty = false := by simpa using hn3
      obtain ⟨TT, hTT⟩ : ∃ TT : ByteArray, TT = ⟨T.toArray⟩ := ⟨_, rfl⟩
      rw [← hTT] at hn3 hn4 HT
      clear hall hall' hts hTT
      go_enter Tryz.func62, Tryz.ntmps62
      go_wp2_with (go_at_call 101; with_reducible refine (chain hB (HT.out _)).mono ?_; clear hB; rintro e w1 ⟨rfl, hB⟩)
      go_ret2
      exact ⟨congrArg Ending.returned hr.out.symm, hB⟩
end Go.Proofs.YtjbpipbmcicjiaaGreatDoor
