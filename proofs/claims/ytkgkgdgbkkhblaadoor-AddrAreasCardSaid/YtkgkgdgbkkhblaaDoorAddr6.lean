/-
  LAYER 10, ADDRESSES: Parse of the document.
-/
import Derived.Test.YtkgkgdgbkkhblaaDoorAddr5
import Derived.Test.YtkgkgdgbkkhblaaDoorDec1
namespace Go.Proofs.YtkgkgdgbkkhblaaDoor
set_option linter.unusedSimpArgs false
set_option linter.unusedVariables false
open Go.RowKit Go.Shelf

theorem ba_ext {a b : ByteArray} (h : a.data.toList = b.data.toList) : a = b := by
  obtain ⟨⟨x⟩⟩ := a; obtain ⟨⟨y⟩⟩ := b; simpa using h
theorem cut_behind (s : ByteArray) : s.extract (ahead s).size s.size = behind s := by
  apply ba_ext
  rw [Lib.extract_data, behind_list]
  have h := List.takeWhile_append_dropWhile (p := isUp) (l := s.data.toList)
  have hl : (ahead s).size = (s.data.toList.takeWhile isUp).length := (ahead_len s).symm
  rw [hl]
  have hsz : s.size = s.data.toList.length := by simp
  rw [List.take_of_length_le (by rw [List.length_drop, hsz]; omega)]
  generalize s.data.toList.takeWhile isUp = a at h ⊢
  generalize s.data.toList.dropWhile isUp = d at h ⊢
  rw [← h]; simp
theorem cut_ahead (s : ByteArray) : s.extract 0 (ahead s).size = ahead s := by
  apply ba_ext
  rw [Lib.extract_data, ahead_list]
  have h := List.takeWhile_append_dropWhile (p := isUp) (l := s.data.toList)
  have hl : (ahead s).size = (s.data.toList.takeWhile isUp).length := (ahead_len s).symm
  rw [hl]
  generalize s.data.toList.takeWhile isUp = a at h ⊢
  generalize s.data.toList.dropWhile isUp = d at h ⊢
  rw [← h]; simp
/-- so many digits were read. -/
def RowRel (d : ByteArray) (r i : Value) : Prop := ∃ n : Nat, n ≤ d.size ∧ r = .int .i64 (Nt.dv (d.data.toList.take n) : Nat) ∧ i = .int .i64 n ∧ (d.data.toList.take n).all Nt.isDig = true
theorem dig_more {l : List UInt8} {n : Nat} (hn : n < l.length) (h : (l.take n).all Nt.isDig = true) (hx : Nt.isDig l[n] = true) : (l.take (n + 1)).all Nt.isDig = true := by
  rw [List.take_succ_eq_append_getElem hn, List.all_append, h]; simp [hx]
theorem dv_small {d : ByteArray} (h3 : d.size ≤ 3) {n : Nat} (ha : (d.data.toList.take n).all Nt.isDig = true) : Nt.dv (d.data.toList.take n) < 1000 := by
  have h := Nt.dv_lt (d.data.toList.take n) (fun b hb => List.all_eq_true.1 ha b hb)
  have hle : (d.data.toList.take n).length ≤ 3 := by
    rw [List.length_take]
    have : d.data.toList.length = d.size := by simp
    omega
  have hp : 10 ^ (d.data.toList.take n).length ≤ 10 ^ 3 := Nat.pow_le_pow_right (by omega) hle
  omega
set_option maxRecDepth 100000 in
set_option maxHeartbeats 2000000 in
theorem refAdrParse_any (s : ByteArray) (w : World) (hs : s.size ≤ maxLen) :
    Calls Tryd.prog 9 #[.string s] w fun e w' => e = .returned (adrOut (adrP s)) ∧ Below w.heap.size w w' := by
  have hB := Below.refl w.heap.size w
  have hud : undef = Value.tuple #[] := rfl
  have hl := fun w => letters_any s w hs
  rw [ahead_len] at hl
  have HL := Lib.hid hl
  unfold maxLen at hs
  have hz := parts_size s
  have hcb := cut_behind s
  have hca := cut_ahead s
  have hno := fun h => Lib.hid (adrP_no (s := s) h)
  have hyes := fun h1 h2 h3 => Lib.hid (adrP_yes (s := s) h1 h2 h3)
  have HC := Lib.hid (fun w => refColOf_any (ahead s) w)
  obtain ⟨V, hV⟩ : ∃ V, V = adrOut (adrP s) := ⟨_, rfl⟩
  rw [← hV]
  generalize adrP s = P at *
  generalize ahead s = A at *
  generalize behind s = D at *
  clear hl
  by_cases hbad : A.size = 0 ∨ 2 < A.size ∨ D.size = 0 ∨ 3 < D.size
  · have hr : P = (0, 0, 10) := by
      rcases hbad with h | h | h | h
      · exact (hno (Or.inl h)).out
      · exact (hno (Or.inr (Or.inl h))).out
      · exact (hno (Or.inr (Or.inr (rowOk_none h)))).out
      · exact (hno (Or.inr (Or.inr (rowOk_long h)))).out
    rw [hr] at hV
    have HV := Lib.hid hV
    clear hno hyes hr hV hca HC
    go_enter Tryd.func9, Tryd.ntmps9
    go_wp2_with (go_at_call 28; refine (HL.out _).mono ?_; rintro e w1 ⟨rfl, rfl⟩)
    all_goals first
      | (exfalso; omega)
      | (go_ret3; exact ⟨congrArg Ending.returned HV.out.symm, hB⟩)
  · have hA0 : 0 < A.size := by omega
    have hA2 : A.size ≤ 2 := by omega
    have hD0 : 0 < D.size := by omega
    have hD3 : D.size ≤ 3 := by omega
    have hgA : 1 ≤ A.size := by omega
    have hgD : 1 ≤ D.size := by omega
    by_cases h48 : D[0].toNat = 48
    · have hr := (hno (Or.inr (Or.inr (rowOk_zero hD0 h48)))).out
      rw [hr] at hV
      have HV := Lib.hid hV
      clear hno hyes hr hV hca HC hbad
      go_enter Tryd.func9, Tryd.ntmps9
      go_wp2_with (go_at_call 28; refine (HL.out _).mono ?_; rintro e w1 ⟨rfl, rfl⟩)
      all_goals first
        | (exfalso; omega)
        | (go_ret3; exact ⟨congrArg Ending.returned HV.out.symm, hB⟩)
    · have hro := rowOk_some hD0 hD3 h48
      have hDl : D.data.toList.length = D.size := by simp
      have hDL := Lib.hid hDl
      have h48b : ((D[0].toNat : Int) == 48) = false := by simp; omega
      clear hDl
      cases hall : D.data.toList.all Nt.isDig with
      | false =>
        rw [hall] at hro
        have hr := (hno (Or.inr (Or.inr hro))).out
        rw [hr] at hV
        have HV := Lib.hid hV
        have HALL := Lib.hid hall
        clear hno hyes hr hV hca HC hbad hro hall
        go_enter Tryd.func9, Tryd.ntmps9
        go_wp2_with (go_at_call 28; refine (HL.out _).mono ?_; rintro e w1 ⟨rfl, rfl⟩)
        go_loop [7, 8] (RowRel D) (fun _ i => D.size - (intOf i).toNat)
        case atStart => exact ⟨0, by omega, rfl, rfl, rfl⟩
        case round =>
          obtain ⟨n, hn, rfl, rfl, ha⟩ := hrel
          have hv := dv_small hD3 ha
          have HA := Lib.hid ha
          clear ha
          by_cases hlt : n < D.size
          · have hg := Lib.hid (get_list D n hlt)
            have hst := Lib.hid (Nt.dv_take D n hlt)
            by_cases h1 : 48 ≤ D[n].toNat
            · by_cases h2 : D[n].toNat ≤ 57
              · have hu : Hid (Nt.isDig D[n] = true) := by show Nt.isDig D[n] = true; unfold Nt.isDig; simp; omega
                obtain ⟨c, hc⟩ : ∃ c, c = D[n].toNat := ⟨_, rfl⟩
                have q0 : ((c : Nat) : Int) - 48 = ((c - 48 : Nat) : Int) := by omega
                have q1 : IntKind.u8.wrap ((c : Int) - 48) = ((c - 48 : Nat) : Int) := by show (_ : Int) % 256 = _; omega
                have q2 : ((c : Int) - 48) % 256 = ((c - 48 : Nat) : Int) := by omega
                rw [hc] at q0 q1 q2
                go_wp2
                refine ⟨⟨n + 1, by omega, ?_, by go_num, ?_⟩, by simp [intOf]; omega⟩
                · rw [hst.out]
                  exact congrArg (Value.int .i64) (by omega)
                · exact dig_more (by rw [hDL.out]; exact hlt) HA.out (by rw [hg.out]; exact hu.out)
              · go_wp2
                go_ret3
                exact ⟨congrArg Ending.returned HV.out.symm, hB⟩
            · go_wp2
              go_ret3
              exact ⟨congrArg Ending.returned HV.out.symm, hB⟩
          · exfalso
            obtain rfl : n = D.size := by omega
            have := HA.out
            rw [List.take_of_length_le (by rw [hDL.out]; omega), HALL.out] at this
            cases this
      | true =>
        rw [hall] at hro
        have hr := (hyes hA0 hA2 hro).out
        unfold colOut at HC
        have HDG : Hid (∀ n (h : n < D.size), Nt.isDig D[n] = true) := fun n h => by
          have := List.all_eq_true.1 hall (D[n]) (by rw [← get_list D n h]; exact List.getElem_mem _)
          exact this
        have HVV := Lib.hid hV
        have HR := Lib.hid hr
        have HI := Lib.hid (fun c r w => refIn_any c r w)
        clear hno hyes hr hV hbad hro hall
        go_enter Tryd.func9, Tryd.ntmps9
        go_wp2_with (go_at_call 28; refine (HL.out _).mono ?_; rintro e w1 ⟨rfl, rfl⟩)
        go_loop [7, 8] (RowRel D) (fun _ i => D.size - (intOf i).toNat)
        case atStart => exact ⟨0, by omega, rfl, rfl, rfl⟩
        case round =>
          obtain ⟨n, hn, rfl, rfl, ha⟩ := hrel
          have hv := dv_small hD3 ha
          have HA := Lib.hid ha
          clear ha
          by_cases hlt : n < D.size
          · have hg := Lib.hid (get_list D n hlt)
            have hst := Lib.hid (Nt.dv_take D n hlt)
            have hu := Lib.hid (HDG.out n hlt)
            have hdig : 48 ≤ D[n].toNat ∧ D[n].toNat ≤ 57 := of_decide_eq_true (HDG.out n hlt)
            obtain ⟨h1, h2⟩ := hdig
            obtain ⟨c, hc⟩ : ∃ c, c = D[n].toNat := ⟨_, rfl⟩
            have q0 : ((c : Nat) : Int) - 48 = ((c - 48 : Nat) : Int) := by omega
            have q1 : IntKind.u8.wrap ((c : Int) - 48) = ((c - 48 : Nat) : Int) := by show (_ : Int) % 256 = _; omega
            have q2 : ((c : Int) - 48) % 256 = ((c - 48 : Nat) : Int) := by omega
            rw [hc] at q0 q1 q2
            go_wp2
            refine ⟨⟨n + 1, by omega, ?_, by go_num, ?_⟩, by simp [intOf]; omega⟩
            · rw [hst.out]
              exact congrArg (Value.int .i64) (by omega)
            · exact dig_more (by rw [hDL.out]; exact hlt) HA.out (by rw [hg.out]; exact hu.out)
          · obtain rfl : n = D.size := by omega
            have hf : D.data.toList.take D.size = D.data.toList := List.take_of_length_le (by rw [hDL.out]; omega)
            rw [hf] at hv
            rw [hf]
            have HRR := HR.out
            generalize Nt.dv D.data.toList = r at *
            generalize colF A = c at *
            generalize (c != 0) = cb at *
            clear HA hf HDG HR
            cases hg : inG c r with
            | false =>
              rw [hg] at HRR
              have hVe : V = adrOut (0, 0, 6) := by rw [HVV.out, HRR]; rfl
              have HII := fun w => HI.out (c : Int) (r : Int) w
              rw [hg] at HII
              have H2 := Lib.hid HII
              have H3 := Lib.hid hVe
              clear HII hVe hg HRR
              go_wp2_with (first
                | (go_at_call 7; with_reducible refine (chain hB (HC.out _)).mono ?_; clear hB; rintro e w1 ⟨rfl, hB⟩)
                | (go_at_call 11; with_reducible refine (H2.out _).mono ?_; rintro e w1 ⟨rfl, rfl⟩))
              go_ret3
              exact ⟨congrArg Ending.returned H3.out.symm, hB⟩
            | true =>
              rw [hg] at HRR
              have hVe : V = adrOut (c, r, 0) := by rw [HVV.out, HRR]; rfl
              have HII := fun w => HI.out (c : Int) (r : Int) w
              rw [hg] at HII
              have H2 := Lib.hid HII
              have H3 := Lib.hid hVe
              clear HII hVe hg HRR
              go_wp2_with (first
                | (go_at_call 7; with_reducible refine (chain hB (HC.out _)).mono ?_; clear hB; rintro e w1 ⟨rfl, hB⟩)
                | (go_at_call 11; with_reducible refine (H2.out _).mono ?_; rintro e w1 ⟨rfl, rfl⟩))
              go_ret3
              exact ⟨congrArg Ending.returned H3.out.symm, hB⟩
end Go.Proofs.YtkgkgdgbkkhblaaDoor
