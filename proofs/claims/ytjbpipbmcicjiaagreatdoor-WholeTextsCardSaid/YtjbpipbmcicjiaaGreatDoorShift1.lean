/-
  THE DOCUMENT'S ANSWERS: Shl, Shr.
  THE DOCUMENT'S ANSWERS: Shl.
  THE DOCUMENT'S ANSWER: Root.
-/
import Derived.Test.YtjbpipbmcicjiaaGreatDoorPow1
namespace Go.Proofs.YtjbpipbmcicjiaaGreatDoor
open Go.RowKit Go.Shelf

/-- what a number shifted up answers. -/
def shlOut (v : Nat) (k : Int) : Value :=
  if k < 0 then .tuple #[.string ⟨#[]⟩, .int .i64 2]
  else if v = 0 then .tuple #[.string ⟨#[]⟩, .int .i64 0]
  else if 1024 < (Nt.E (v * 2 ^ k.toNat)).size then .tuple #[.string ⟨#[]⟩, .int .i64 9]
  else .tuple #[.string (Nt.E (v * 2 ^ k.toNat)), .int .i64 0]
theorem shlOut_neg (v : Nat) (k : Int) (h : k < 0) : shlOut v k = .tuple #[.string ⟨#[]⟩, .int .i64 2] := if_pos h
theorem shlOut_zero (k : Nat) : shlOut 0 (k : Int) = .tuple #[.string ⟨#[]⟩, .int .i64 0] := by rw [shlOut, if_neg (by omega), if_pos rfl]
theorem shlOut_big (v : Nat) (k : Nat) (h0 : v ≠ 0) (h : 1024 < (Nt.E (v * 2 ^ k)).size) : shlOut v (k : Int) = .tuple #[.string ⟨#[]⟩, .int .i64 9] := by
  rw [shlOut, if_neg (by omega), if_neg h0, if_pos (by simpa using h)]
theorem shlOut_fit (v : Nat) (k : Nat) (h0 : v ≠ 0) (h : (Nt.E (v * 2 ^ k)).size ≤ 1024) : shlOut v (k : Int) = .tuple #[.string (Nt.E (v * 2 ^ k)), .int .i64 0] := by
  rw [shlOut, if_neg (by omega), if_neg h0, if_neg (by simpa using h)]; simp
theorem Nt.shl_big (v k M : Nat) (h0 : v ≠ 0) (h : 8 * M ≤ k) : M < (Nt.E (v * 2 ^ k)).size := by
  apply Nt.size_gt
  rw [Nt.pow256]
  refine Nat.le_trans (Nat.pow_le_pow_right (by omega) h) ?_
  exact Nat.le_mul_of_pos_left _ (by omega)
/-- what a number shifted down answers. -/
def shrNum (v : Nat) (k : Int) : Nat := if k < 0 then v else v / 2 ^ k.toNat

theorem Nt.V_take (s : ByteArray) (m : Nat) : Nt.V (s.extract 0 m) = Nt.V s / 256 ^ (s.size - m) := by
  have e : (s.extract 0 m).data.toList = s.data.toList.take m := by
    rw [ByteArray.data_extract, Array.toList_extract]; simp [List.extract]
  have e2 : s.data.toList = s.data.toList.take m ++ s.data.toList.drop m := (List.take_append_drop _ _).symm
  have hl : (s.data.toList.drop m).length = s.size - m := by rw [List.length_drop]; rfl
  show Nt.val (s.extract 0 m).data.toList = Nt.val s.data.toList / 256 ^ (s.size - m)
  rw [e]
  conv => rhs; rw [e2]
  rw [Nt.val_append, hl]
  have hlt := Nt.val_lt (s.data.toList.drop m)
  rw [hl] at hlt
  rw [Nat.mul_comm, Nat.mul_add_div (Nat.pow_pos (by omega)), Nat.div_eq_of_lt hlt, Nat.add_zero]
theorem Nt.two_split (k : Nat) : (2 : Nat) ^ k = 256 ^ (k / 8) * 2 ^ (k % 8) := by
  rw [Nt.pow256, ← Nat.pow_add]; congr 1; omega

end Go.Proofs.YtjbpipbmcicjiaaGreatDoor
namespace Go.Proofs.YtjbpipbmcicjiaaGreatDoor
open Go.RowKit Go.Shelf

end Go.Proofs.YtjbpipbmcicjiaaGreatDoor
namespace Go.Proofs.YtjbpipbmcicjiaaGreatDoor
open Go.RowKit Go.Shelf

/-- the root of a number. -/
def Nt.IsRoot (r v : Nat) : Prop := r * r ≤ v ∧ v < (r + 1) * (r + 1)
theorem Nt.IsRoot.le {r s v : Nat} (h : Nt.IsRoot r v) (h' : Nt.IsRoot s v) : r ≤ s := by
  rcases Nat.lt_or_ge s r with hlt | hge
  · have := Nat.mul_le_mul (show s + 1 ≤ r from hlt) (show s + 1 ≤ r from hlt)
    have := h.1; have := h'.2
    omega
  · exact hge
theorem Nt.IsRoot.eq {r s v : Nat} (h : Nt.IsRoot r v) (h' : Nt.IsRoot s v) : r = s := Nat.le_antisymm (h.le h') (h'.le h)

/-- where the search for a root's digits stands: between r and r + lim, of what is T squared times less. -/
def Nt.RootAt (v r lim T : Nat) : Prop := r * r * (T * T) ≤ v ∧ v < (r + lim) * (r + lim) * (T * T)
theorem Nt.root_next {v r T : Nat} (h : Nt.RootAt v r 1 (256 * T)) : Nt.RootAt v (r * 256) 256 T := by
  refine ⟨?_, ?_⟩
  · have := h.1
    rwa [show r * r * (256 * T * (256 * T)) = r * 256 * (r * 256) * (T * T) from by
      simp only [Nat.mul_comm, Nat.mul_left_comm, Nat.mul_assoc]] at this
  · have := h.2
    have e : r * 256 + 256 = (r + 1) * 256 := by omega
    rw [e]
    generalize r + 1 = x at *
    rwa [show x * x * (256 * T * (256 * T)) = x * 256 * (x * 256) * (T * T) from by
      simp only [Nat.mul_comm, Nat.mul_left_comm, Nat.mul_assoc]] at this
theorem Nt.root_up {v r p T : Nat} (h : Nt.RootAt v r (2 * p) T) (h1 : (r + p) * (r + p) * (T * T) ≤ v) : Nt.RootAt v (r + p) p T :=
  ⟨h1, by have := h.2; rwa [show r + 2 * p = r + p + p from by omega] at this⟩
theorem Nt.root_stay {v r p T : Nat} (h : Nt.RootAt v r (2 * p) T) (h1 : ¬ (r + p) * (r + p) * (T * T) ≤ v) : Nt.RootAt v r p T := ⟨h.1, by omega⟩
theorem Nt.root_size {v r p T : Nat} (hT : 0 < T) (h : Nt.RootAt v r p T) : r ≤ v := by
  have h1 := h.1
  have h2 : 1 ≤ T * T := Nat.mul_pos hT hT
  have h3 : r * r * 1 ≤ r * r * (T * T) := Nat.mul_le_mul (Nat.le_refl _) h2
  have h4 : r ≤ r * r := by
    rcases Nat.eq_zero_or_pos r with rfl | h
    · omega
    · exact Nat.le_mul_of_pos_left _ h
  omega
theorem Nt.sq_size (x : Nat) : (Nt.E (x * x)).size ≤ 2 * (Nt.E x).size := Nt.E_size_lt (by
  have h1 := Nt.V_lt (Nt.E x)
  rw [Nt.V_E] at h1
  rw [show 2 * (Nt.E x).size = (Nt.E x).size + (Nt.E x).size from by omega, Nat.pow_add]
  exact Nat.mul_lt_mul'' h1 h1)
theorem Nt.add_byte_size (s : ByteArray) (p : Nat) (hp : p < 256) : (Nt.E (Nt.V s + p)).size ≤ s.size + 1 := Nt.E_size_lt (by
  have h1 := Nt.V_lt s
  rw [Nat.pow_succ]
  have : 0 < 256 ^ s.size := Nat.pow_pos (by omega)
  omega)
theorem Nt.V_zero_more (s : ByteArray) : Nt.V (s ++ ⟨#[0]⟩) = Nt.V s * 256 := by
  have h := Nt.V_push s 0
  have e : (0 : UInt8).toNat = 0 := rfl
  rw [e, Nat.add_zero] at h
  exact h
theorem size_zero_more (s : ByteArray) : (s ++ ⟨#[0]⟩ : ByteArray).size = s.size + 1 := by
  rw [ByteArray.size_append]; rfl

set_option maxRecDepth 100000 in
set_option maxHeartbeats 4000000 in
theorem refRoot_any (a : ByteArray) (w : World) (ha : a.size ≤ 1000) :
    Calls Tryz.prog 93 #[.string a] w fun e w' => (∃ r, Nt.IsRoot r (Nt.V a) ∧ e = .returned (.string (Nt.E r))) ∧ Below w.heap.size w w' := by
  have HT := Lib.hid (fun w => refTrim_any a w)
  have hs := Nat.le_trans (Nt.E_size_V a) ha
  obtain ⟨v, hv⟩ : ∃ v, v = Nt.V a := ⟨_, rfl⟩
  rw [← hv] at HT hs ⊢
  have hVl := Nt.V_lt (Nt.E v)
  rw [Nt.V_E] at hVl
  have HES := Lib.hid (fun x (h : x ≤ v) => Nt.E_size_le h)
  obtain ⟨A, hA⟩ : ∃ A, A = Nt.E v := ⟨_, rfl⟩
  have hVA : Hid (Nt.V A = v) := by rw [hA, Hid, Nt.V_E]
  rw [← hA] at HT hs hVl HES
  clear hv ha hA
  obtain ⟨H, hH⟩ : ∃ H, H = (A.size + 1) / 2 := ⟨_, rfl⟩
  have hH5 : H ≤ 500 := by omega
  have g1 : IntKind.i64.wrap (((A.size : Int) + 1).tdiv 2) = (H : Int) := by
    rw [Int.tdiv_eq_ediv_of_nonneg (by omega), show ((A.size : Int) + 1) / 2 = (H : Int) from by omega]
    exact IntWalk.i64_in _ (by omega)
  have g2 : ((A.size : Int) + 1) / 2 = (H : Int) := by omega
  have hst : Hid (Nt.RootAt v 0 1 (256 ^ H)) := by
    refine ⟨by omega, ?_⟩
    rw [Nat.zero_add, Nat.one_mul, ← Nat.pow_add]
    exact Nat.lt_of_lt_of_le hVl (Nat.pow_le_pow_right (by omega) (by omega))
  clear hH hVl
  have HCmp := Lib.hid (fun (p : ByteArray) (h : p.size ≤ 100000) W => (by have h := refCmp_any p A W (by omega) (by omega); rw [hVA.out] at h; exact h : Calls Tryz.prog 116 #[.string p, .string A] W fun e w' => e = .returned (.int .i64 (Nt.cmpZ (Nt.V p) v)) ∧ W = w'))
  have HAdd := Lib.hid (fun (r : ByteArray) p (hp : p < 256) (h : r.size ≤ 5000) W => (by have h := refAdd_any r ⟨#[UInt8.ofNat p]⟩ W (by omega) (by show 1 ≤ 100000; omega); rw [Nt.V_byte p hp] at h; exact h : Calls Tryz.prog 103 #[.string r, .string ⟨#[UInt8.ofNat p]⟩] W fun e w' => e = .returned (.string (Nt.E (Nt.V r + p))) ∧ Below W.heap.size W w'))
  have HMul := Lib.hid (fun (t : Nat) (h : (Nt.E t).size ≤ 6000) W => (by have h := refMul_any (Nt.E t) (Nt.E t) W (by omega) (by omega); rw [Nt.V_E] at h; exact h : Calls Tryz.prog 104 #[.string (Nt.E t), .string (Nt.E t)] W fun e w' => e = .returned (.string (Nt.E (t * t))) ∧ Below W.heap.size W w'))
  go_enter Tryz.func93, Tryz.ntmps93
  go_wp2_with (go_at_call 58; refine (HT.out _).mono ?_; rintro e w1 ⟨rfl, rfl⟩)
  go_loopw [3, 4] (fun r i wr => ∃ (k : Nat) (s : ByteArray), k ≤ H ∧ i = .int .i64 k ∧ r = .string s ∧ s.size ≤ A.size + k ∧ Nt.RootAt v (Nt.V s) 1 (256 ^ (H - k)) ∧ Below w.heap.size w wr) (fun _ i _ => H - (intOf i).toNat)
  case atStart => exact ⟨0, ⟨#[]⟩, by omega, rfl, rfl, Nat.zero_le _, hst.out, Below.refl _ _⟩
  case round =>
    obtain ⟨k, s, hk, rfl, rfl, hss, hR, hW⟩ := hrel
    by_cases hlt : k < H
    · obtain ⟨L, hL⟩ : ∃ L, H - k = L + 1 := ⟨H - k - 1, by omega⟩
      rw [hL, Nat.pow_succ, Nat.mul_comm (256 ^ L) 256] at hR
      have hR2 := Nt.root_next hR
      rw [← Nt.V_zero_more] at hR2
      have hs2 : (s ++ ⟨#[0]⟩ : ByteArray).size ≤ A.size + (k + 1) := by rw [size_zero_more]; omega
      have HR2 := Lib.hid hR2
      have gL : IntKind.i64.wrap (IntKind.i64.wrap ((H : Int) - 1) - (k : Int)) = (L : Int) := by
        rw [IntWalk.i64_in ((H : Int) - 1) (by omega), show (H : Int) - 1 - (k : Int) = (L : Int) from by omega]
        exact IntWalk.i64_in _ (by omega)
      have gL2 : (H : Int) - 1 - (k : Int) = (L : Int) := by omega
      have hT0 : 0 < 256 ^ L := Nat.pow_pos (by omega)
      have hL5 : L ≤ 500 := by omega
      have HLk := Lib.hid hL
      have hsl : s.size ≤ 2000 := by omega
      clear hR hR2 hss hL
      go_wp2
      go_loopw [3, 5] (fun r st wr => ∃ (j : Nat) (s : ByteArray), j ≤ 8 ∧ st = .int .i64 ((2 ^ j / 2 : Nat) : Int) ∧ r = .string s ∧ s.size ≤ A.size + (k + 1) ∧ Nt.RootAt v (Nt.V s) (2 ^ j) (256 ^ L) ∧ Below w.heap.size w wr) (fun _ st _ => (intOf st).toNat)
      case atStart => exact ⟨8, _, by omega, rfl, rfl, hs2, HR2.out, hW⟩
      case round =>
        obtain ⟨j, s, hj, rfl, rfl, hss, hR, hW⟩ := hrel
        rcases j with _ | j
        · have e0 : (2 ^ 0 / 2 : Nat) = 0 := rfl
          rw [e0]
          have HRR : Hid (Nt.RootAt v (Nt.V s) 1 (256 ^ (H - (k + 1)))) := by
            rw [show H - (k + 1) = L from by have := HLk.out; omega]; exact hR
          clear hR
          go_wp2
          exact ⟨⟨k + 1, s, by omega, by go_num, rfl, by omega, HRR.out, hW⟩, by simp [intOf]; omega⟩
        · obtain ⟨p, hp⟩ : ∃ p, p = 2 ^ j := ⟨_, rfl⟩
          have e1 : (2 ^ (j + 1) / 2 : Nat) = p := by rw [Nat.pow_succ]; omega
          have e2 : (2 ^ (j + 1) : Nat) = 2 * p := by rw [Nat.pow_succ]; omega
          rw [e1]
          rw [e2] at hR
          have hp0 : 0 < p := by rw [hp]; exact Nat.two_pow_pos j
          have hp256 : p < 256 := by
            have := Nat.pow_le_pow_right (show 0 < 2 by omega) (show j ≤ 7 by omega)
            omega
          have HP := Lib.hid hp
          have e3 : ((p : Int)).toNat = p := by omega
          obtain ⟨p2, hp2⟩ : ∃ p2, p2 = p / 2 := ⟨_, rfl⟩
          have hpt : IntKind.i64.wrap ((p : Int).tdiv 2) = (p2 : Int) := by
            rw [Int.tdiv_eq_ediv_of_nonneg (by omega)]
            exact (IntWalk.i64_in _ (by omega)).trans (by omega)
          have HP2 := Lib.hid hp2
          have hp2l : p2 < p := by omega
          have hup := fun h => Nt.root_up hR h
          have hstay := fun h => Nt.root_stay hR h
          have hts := Nt.add_byte_size s p hp256
          have hadd := HAdd.out s p hp256 (by omega)
          obtain ⟨t, ht⟩ : ∃ t, t = Nt.V s + p := ⟨_, rfl⟩
          rw [← ht] at hup hstay hts hadd
          have hsq := Nt.sq_size t
          have hmul := HMul.out t (by omega)
          have HA := Lib.hid hadd
          have HM := Lib.hid hmul
          have HU := Lib.hid hup
          have HS := Lib.hid hstay
          have hVP : Hid (Nt.V (Nt.E (t * t)) = t * t) := Nt.V_E _
          obtain ⟨P, hPP⟩ : ∃ P, P = Nt.E (t * t) := ⟨_, rfl⟩
          rw [← hPP] at HM hVP hsq
          clear hp e1 e2 hp2 hup hstay hadd hmul ht hR hPP
          go_wp2_with (first
            | (go_at_call 97; refine (refByte_any _ _ (by omega) (by omega)).mono ?_; rintro e w1 ⟨rfl, hb1⟩; rw [e3])
            | (go_at_call 103; refine (HA.out _).mono ?_; rintro e w2 ⟨rfl, hb2⟩)
            | (go_at_call 104; refine (HM.out _).mono ?_; rintro e w3 ⟨rfl, hb3⟩))
          go_loopw [8, 9] (fun q i wr => ∃ (m : Nat) (x : ByteArray), m ≤ 2 * L ∧ i = .int .i64 m ∧ q = .string x ∧ x.size ≤ 2 * (A.size + (k + 1) + 1) + m ∧ Nt.V x = t * t * 256 ^ m ∧ Below w.heap.size w wr) (fun _ i _ => 2 * L - (intOf i).toNat)
          case atStart =>
            have h1 := hW.trans (hb1.mono hW.size)
            have h2 := h1.trans (hb2.mono h1.size)
            exact ⟨0, P, by omega, rfl, rfl, by omega, by rw [Nat.pow_zero, Nat.mul_one, hVP.out], h2.trans (hb3.mono h2.size)⟩
          case round =>
            obtain ⟨m, x, hm, rfl, rfl, hxs, hxv, hW⟩ := hrel
            have HXV := Lib.hid hxv
            clear hxv
            by_cases hml : m < 2 * L
            · have hz : Hid (Nt.V (x ++ ⟨#[0]⟩) = t * t * 256 ^ (m + 1)) := by
                rw [Hid, Nt.V_zero_more, HXV.out, Nat.pow_succ, Nat.mul_assoc]
              have hz2 : (x ++ ⟨#[0]⟩ : ByteArray).size ≤ 2 * (A.size + (k + 1) + 1) + (m + 1) := by rw [size_zero_more]; omega
              go_wp2
              exact ⟨⟨m + 1, _, by omega, by go_num, rfl, hz2, hz.out, hW⟩, by simp [intOf]; omega⟩
            · obtain rfl : m = 2 * L := by omega
              have hcm := HCmp.out x (by omega)
              have e5 : Nt.V x = t * t * (256 ^ L * 256 ^ L) := by rw [HXV.out, ← Nat.pow_add]; congr 2; omega
              rw [e5] at hcm
              by_cases hle : t * t * (256 ^ L * 256 ^ L) ≤ v
              · have hz : Nt.cmpZ (t * t * (256 ^ L * 256 ^ L)) v ≤ 0 := by unfold Nt.cmpZ; split <;> (try split) <;> omega
                have hR3 := Lib.hid (HU.out hle)
                have htv := Nt.root_size hT0 (HU.out hle)
                have htA := HES.out t htv
                have HVt := Lib.hid (Nt.V_E t)
                generalize Nt.cmpZ (t * t * (256 ^ L * 256 ^ L)) v = z at *
                generalize Nt.E t = Te at *
                have HC := Lib.hid hcm
                clear hcm e5 hle htv
                go_wp2_with (go_at_call 116; refine (HC.out _).mono ?_; rintro e w4 ⟨rfl, rfl⟩)
                refine ⟨⟨j, Te, by omega, by rw [← HP.out]; exact congrArg _ (by have := HP2.out; omega), rfl, by omega, ?_, hW⟩, by simp [intOf]; omega⟩
                rw [← HP.out, HVt.out]; exact hR3.out
              · have hz : 0 < Nt.cmpZ (t * t * (256 ^ L * 256 ^ L)) v := by unfold Nt.cmpZ; rw [if_neg (by omega), if_neg (by omega)]; omega
                have hR3 := Lib.hid (HS.out hle)
                generalize Nt.cmpZ (t * t * (256 ^ L * 256 ^ L)) v = z at *
                have HC := Lib.hid hcm
                clear hcm e5 hle
                go_wp2_with (go_at_call 116; refine (HC.out _).mono ?_; rintro e w4 ⟨rfl, rfl⟩)
                refine ⟨⟨j, s, by omega, by rw [← HP.out]; exact congrArg _ (by have := HP2.out; omega), rfl, by omega, ?_, hW⟩, by simp [intOf]; omega⟩
                rw [← HP.out]; exact hR3.out
    · obtain rfl : k = H := by omega
      have hf : Hid (Nt.IsRoot (Nt.V s) v) := by
        rw [Nat.sub_self, Nat.pow_zero] at hR
        have := hR.1; have := hR.2
        simp only [Nat.mul_one] at *
        exact ⟨by omega, by omega⟩
      clear hR
      go_wp2_with (go_at_call 58; refine (refTrim_any _ _).mono ?_; rintro e w1 ⟨rfl, rfl⟩)
      go_ret
      exact ⟨⟨_, hf.out, rfl⟩, hW⟩
end Go.Proofs.YtjbpipbmcicjiaaGreatDoor
