/-
  LAYER 10, ADDRESSES: Parse of both.
-/
import Derived.Test.YtlpjaflolnggnaaGreatDoorAddr4
import Derived.OwnWalk
namespace Go.Proofs.YtlpjaflolnggnaaGreatDoor
set_option linter.unusedSimpArgs false
set_option linter.unusedVariables false
open Go.RowKit Go.Shelf

abbrev letterSet : List UInt8 := [65, 66, 67, 68, 69, 70, 71, 72, 73, 74, 75, 76, 77, 78, 79, 80, 81, 82, 83, 84, 85, 86, 87, 88, 89, 90]
theorem letterSet_has (b : UInt8) : letterSet.contains b = isUp b := by
  have h : ∀ n : Fin 256, letterSet.contains (UInt8.ofNat n.val) = isUp (UInt8.ofNat n.val) := by decide +kernel
  have := h ⟨b.toNat, UInt8.toNat_lt b⟩
  rwa [show UInt8.ofNat (⟨b.toNat, UInt8.toNat_lt b⟩ : Fin 256).val = b from UInt8.ofNat_toNat] at this
/-- the letters ahead, and what is behind them. -/
def ahead (s : ByteArray) : ByteArray := ⟨(s.data.toList.takeWhile isUp).toArray⟩
def behind (s : ByteArray) : ByteArray := ⟨(s.data.toList.dropWhile isUp).toArray⟩
theorem behind_list (s : ByteArray) : (behind s).data.toList = s.data.toList.dropWhile isUp := by unfold behind; simp
theorem parts_size (s : ByteArray) : (ahead s).size + (behind s).size = s.size := by
  have h := congrArg List.length (List.takeWhile_append_dropWhile (p := isUp) (l := s.data.toList))
  rw [List.length_append] at h
  have h1 : (ahead s).size = (s.data.toList.takeWhile isUp).length := by unfold ahead; show Array.size _ = _; simp
  have h2 : (behind s).size = (s.data.toList.dropWhile isUp).length := by unfold behind; show Array.size _ = _; simp
  have h3 : s.size = s.data.toList.length := by simp
  omega
theorem ahead_len (s : ByteArray) : (s.data.toList.takeWhile isUp).length = (ahead s).size := by unfold ahead; show _ = Array.size _; simp
theorem trimLeft_letters (s : ByteArray) (w : World) :
    Calls Tryz.prog 53 #[.string s, .string lettersB] w fun e w' => e = .returned (.string (behind s)) ∧ Below w.heap.size w w' := by
  refine (Any.strings_TrimLeft_laid Tryz.l161 (by kernel_rfl) s lettersB w (by decide) (ascii_of_all (by decide))).mono ?_
  rintro e w' ⟨he, hB⟩
  refine ⟨?_, hB⟩
  rw [he]
  have : (fun b => (letterSet.contains b)) = isUp := funext letterSet_has
  show Ending.returned (.string ⟨(s.data.toList.dropWhile (fun b => letterSet.contains b)).toArray⟩) = _
  rw [this]; rfl
theorem trimSuffix_behind (s : ByteArray) (w : World) (hs : s.size ≤ 9223372036854775807) :
    Calls Tryz.prog 54 #[.string s, .string (behind s)] w fun e w' => e = .returned (.string (ahead s)) ∧ Below w.heap.size w w' := by
  refine (Tryz.strings_TrimSuffix s (behind s) w hs).mono ?_
  rintro e w' ⟨he, rfl⟩
  refine ⟨?_, Below.refl _ _⟩
  rw [he, behind_list]
  have h := List.takeWhile_append_dropWhile (p := isUp) (l := s.data.toList)
  have h1 : Lib.hasSuffix s.data.toList (s.data.toList.dropWhile isUp) = true := by
    unfold Lib.hasSuffix
    rw [List.isSuffixOf_iff_suffix]
    exact ⟨_, h⟩
  have h2 : s.data.toList.take (s.data.toList.length - (s.data.toList.dropWhile isUp).length) = s.data.toList.takeWhile isUp := by
    generalize s.data.toList.takeWhile isUp = a at h
    generalize s.data.toList.dropWhile isUp = d at h
    rw [← h]; simp
  unfold Lib.trimSuffix
  rw [h1, if_pos rfl, h2]; rfl
theorem decFrom_dv : ∀ (l : List UInt8) (a : Nat), (∀ b ∈ l, Nt.isDig b = true) → Lib.decFrom a l = some (l.foldl (fun n b => n * 10 + (b.toNat - 48)) a)
  | [], a, _ => rfl
  | b :: l, a, h => by
    have hb := h b (List.mem_cons_self ..)
    unfold Nt.isDig at hb
    have hb' := of_decide_eq_true hb
    have hd : Lib.digitVal b = some (b.toNat - 48) := if_pos hb'
    rw [Lib.decFrom, hd]
    exact decFrom_dv l _ fun x hx => h x (List.mem_cons_of_mem _ hx)
theorem atoi_dv {l : List UInt8} (h : ∀ b ∈ l, Nt.isDig b = true) (h0 : l ≠ []) : Lib.atoi l = some ((Nt.dv l : Nat) : Int) := by
  have hn : Lib.decNat l = some (Nt.dv l) := by
    unfold Lib.decNat
    cases l with
    | nil => exact absurd rfl h0
    | cons b l => exact decFrom_dv (b :: l) 0 h
  cases l with
  | nil => exact absurd rfl h0
  | cons b l =>
    have hb := of_decide_eq_true (h b (List.mem_cons_self ..))
    have e1 : (b == 45) = false := by rw [beq_eq_false_iff_ne]; rintro rfl; simp at hb
    have e2 : (b == 43) = false := by rw [beq_eq_false_iff_ne]; rintro rfl; simp at hb
    unfold Lib.atoi
    dsimp only
    rw [e1, e2, hn]; rfl
theorem rowOk_dig {d : ByteArray} (h : rowOk d.data.toList = true) : 0 < d.size ∧ d.size ≤ 3 ∧ ∀ b ∈ d.data.toList, Nt.isDig b = true := by
  unfold rowOk at h
  simp only [Bool.and_eq_true, decide_eq_true_eq] at h
  obtain ⟨⟨⟨h1, h2⟩, _⟩, h4⟩ := h
  have h3 : d.size = d.data.toList.length := by simp
  exact ⟨by omega, by omega, fun b hb => List.all_eq_true.1 h4 b hb⟩
theorem atoi_any (d : ByteArray) (h : rowOk d.data.toList = true) (w : World) :
    Calls Tryz.prog 57 #[.string d] w fun e w' => e = .returned (.tuple #[.int .i64 ((Nt.dv d.data.toList : Nat) : Int), .nilIface]) ∧ Below w.heap.size w w' := by
  obtain ⟨h1, h2, h3⟩ := rowOk_dig h
  have hl : d.data.toList.length = d.size := by simp
  refine (Tryz.strconv_Atoi d _ (by omega) (atoi_dv h3 (fun hn => by rw [hn] at hl; simp at hl; omega)) w).mono ?_
  rintro e w' ⟨he, t, rfl⟩
  exact ⟨he, below_bytesWorld _ _ _⟩
def adrOut (p : Nat × Nat × Nat) : Value := .tuple #[.int .i64 p.1, .int .i64 p.2.1, .int .i64 p.2.2]
theorem adrP_no {s : ByteArray} (h : (ahead s).size = 0 ∨ 2 < (ahead s).size ∨ rowOk (behind s).data.toList = false) : adrP s = (0, 0, 10) := by
  unfold adrP
  dsimp only
  rw [ahead_len, ← behind_list]
  apply if_neg
  rintro ⟨h1, h2, h3⟩
  rcases h with h | h | h
  · omega
  · omega
  · rw [h3] at h; cases h
theorem adrP_yes {s : ByteArray} (h1 : 0 < (ahead s).size) (h2 : (ahead s).size ≤ 2) (h3 : rowOk (behind s).data.toList = true) :
    adrP s = if inG (colF (ahead s) : Nat) (Nt.dv (behind s).data.toList : Nat) then (colF (ahead s), Nt.dv (behind s).data.toList, 0) else (0, 0, 6) := by
  unfold adrP
  dsimp only
  rw [ahead_len, ← behind_list, if_pos ⟨h1, h2, h3⟩]; rfl
set_option maxRecDepth 100000 in
set_option maxHeartbeats 1000000 in
theorem addrParse_any (s : ByteArray) (w : World) (hs : s.size ≤ maxLen) :
    Calls Tryz.prog 35 #[.string s] w fun e w' => e = .returned (adrOut (adrP s)) ∧ Below w.heap.size w w' := by
  have hB := Below.refl w.heap.size w
  have hud : undef = Value.tuple #[] := rfl
  unfold maxLen at hs
  have HT := Lib.hid (fun w => trimLeft_letters s w)
  have HS := Lib.hid (fun w => trimSuffix_behind s w (by omega))
  have hz := parts_size s
  have HR := Lib.hid (fun w => isRow_any (behind s) w (by unfold maxLen; omega))
  by_cases h0 : (ahead s).size = 0
  · have hr := adrP_no (Or.inl h0)
    rw [hr]
    have hn : (ahead s).toList = [] := by
      rw [ByteArray.toList_eq]; exact List.eq_nil_of_length_eq_zero (by simpa using h0)
    generalize ahead s = A at *
    generalize behind s = D at *
    clear h0 hr
    go_enter Tryz.func35, Tryz.ntmps35
    go_wp2_with (first
      | (go_at_call 53; with_reducible refine (chain hB (HT.out _)).mono ?_; clear hB; rintro e w1 ⟨rfl, hB⟩)
      | (go_at_call 54; with_reducible refine (chain hB (HS.out _)).mono ?_; clear hB; rintro e w1 ⟨rfl, hB⟩))
    go_ret3
    exact ⟨rfl, hB⟩
  · have hn : ¬ (ahead s).toList = [] := by
      rw [ByteArray.toList_eq]; intro h; exact h0 (by have := congrArg List.length h; simpa using this)
    have hn2 : (ahead s).toList.isEmpty = false := by simpa using hn
    by_cases h2 : 2 < (ahead s).size
    · have hr := adrP_no (Or.inr (Or.inl h2))
      rw [hr]
      generalize ahead s = A at *
      generalize behind s = D at *
      clear h0 hr
      go_enter Tryz.func35, Tryz.ntmps35
      go_wp2_with (first
        | (go_at_call 53; with_reducible refine (chain hB (HT.out _)).mono ?_; clear hB; rintro e w1 ⟨rfl, hB⟩)
        | (go_at_call 54; with_reducible refine (chain hB (HS.out _)).mono ?_; clear hB; rintro e w1 ⟨rfl, hB⟩))
      go_ret3
      exact ⟨rfl, hB⟩
    · have h2' : (ahead s).size ≤ 2 := by omega
      cases hro : rowOk (behind s).data.toList with
      | false =>
        have hr := adrP_no (Or.inr (Or.inr hro))
        rw [hr]
        rw [hro] at HR
        generalize ahead s = A at *
        generalize behind s = D at *
        clear h0 hr hro h2
        go_enter Tryz.func35, Tryz.ntmps35
        go_wp2_with (first
          | (go_at_call 53; with_reducible refine (chain hB (HT.out _)).mono ?_; clear hB; rintro e w1 ⟨rfl, hB⟩)
          | (go_at_call 54; with_reducible refine (chain hB (HS.out _)).mono ?_; clear hB; rintro e w1 ⟨rfl, hB⟩)
          | (go_at_call 55; with_reducible refine (chain hB (HR.out _)).mono ?_; clear hB; rintro e w1 ⟨rfl, hB⟩))
        go_ret3
        exact ⟨rfl, hB⟩
      | true =>
        have hr := adrP_yes (by omega) h2' hro
        rw [hro] at HR
        have HA := Lib.hid (fun w => atoi_any (behind s) hro w)
        have HC := Lib.hid (fun w => addrColOf_any (ahead s) w)
        unfold colOut at HC
        generalize Nt.dv (behind s).data.toList = r at *
        generalize hc : colF (ahead s) = c at *
        generalize (c != 0) = cb at *
        generalize ahead s = A at *
        generalize behind s = D at *
        have HI := fun w => addrIn_any (c : Int) (r : Int) w
        cases hg : inG c r with
        | false =>
          rw [hg] at hr HI
          rw [hr]
          have HII := Lib.hid HI
          clear h0 hr hro h2 HI hg hc
          go_enter Tryz.func35, Tryz.ntmps35
          go_wp2_with (first
            | (go_at_call 53; with_reducible refine (chain hB (HT.out _)).mono ?_; clear hB; rintro e w1 ⟨rfl, hB⟩)
            | (go_at_call 54; with_reducible refine (chain hB (HS.out _)).mono ?_; clear hB; rintro e w1 ⟨rfl, hB⟩)
            | (go_at_call 55; with_reducible refine (chain hB (HR.out _)).mono ?_; clear hB; rintro e w1 ⟨rfl, hB⟩)
            | (go_at_call 56; with_reducible refine (chain hB (HC.out _)).mono ?_; clear hB; rintro e w1 ⟨rfl, hB⟩)
            | (go_at_call 57; with_reducible refine (chain hB (HA.out _)).mono ?_; clear hB; rintro e w1 ⟨rfl, hB⟩)
            | (go_at_call 42; with_reducible refine (HII.out _).mono ?_; rintro e w1 ⟨rfl, rfl⟩))
          go_ret3
          exact ⟨rfl, hB⟩
        | true =>
          rw [hg] at hr HI
          rw [hr]
          have HII := Lib.hid HI
          clear h0 hr hro h2 HI hg hc
          go_enter Tryz.func35, Tryz.ntmps35
          go_wp2_with (first
            | (go_at_call 53; with_reducible refine (chain hB (HT.out _)).mono ?_; clear hB; rintro e w1 ⟨rfl, hB⟩)
            | (go_at_call 54; with_reducible refine (chain hB (HS.out _)).mono ?_; clear hB; rintro e w1 ⟨rfl, hB⟩)
            | (go_at_call 55; with_reducible refine (chain hB (HR.out _)).mono ?_; clear hB; rintro e w1 ⟨rfl, hB⟩)
            | (go_at_call 56; with_reducible refine (chain hB (HC.out _)).mono ?_; clear hB; rintro e w1 ⟨rfl, hB⟩)
            | (go_at_call 57; with_reducible refine (chain hB (HA.out _)).mono ?_; clear hB; rintro e w1 ⟨rfl, hB⟩)
            | (go_at_call 42; with_reducible refine (HII.out _).mono ?_; rintro e w1 ⟨rfl, rfl⟩))
          go_ret3
          exact ⟨rfl, hB⟩
end Go.Proofs.YtlpjaflolnggnaaGreatDoor
