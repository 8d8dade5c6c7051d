/-
  THE DOCUMENT'S ANSWER FOR DIVISIONS: digit, DivMod, Mod, Div, Gcd.
  THE DOCUMENT'S ANSWER FOR DIVISIONS: DivMod, Mod, Div, Gcd.
  THE DOCUMENT'S ANSWER: Gcd.
-/
import Derived.Test.YtjbpipbmcicjiaaGreatDoorCmp
import Derived.Test.YtjbpipbmcicjiaaGreatDoorMul
import Derived.OwnWalk
namespace Go.Proofs.YtjbpipbmcicjiaaGreatDoor
open Go.RowKit Go.Shelf

theorem Nt.V_byte (p : Nat) (hp : p < 256) : Nt.V ⟨#[UInt8.ofNat p]⟩ = p := by
  show Nt.val [UInt8.ofNat p] = p
  rw [Nt.val_cons]
  simp [Nt.val_nil, UInt8.toNat_ofNat']
  omega
theorem Nt.E_size_le {n m : Nat} (h : n ≤ m) : (Nt.E n).size ≤ (Nt.E m).size := Nt.enc_length_mono h
theorem Nt.E_size_lt {n m : Nat} (h : n < 256 ^ m) : (Nt.E n).size ≤ m := Nt.enc_length_le h
theorem Nt.E_byte_size (d p : Nat) (hp : p < 256) : (Nt.E (d * p)).size ≤ (Nt.E d).size + 1 := Nt.E_size_lt (by
  have h1 := Nt.V_lt (Nt.E d)
  rw [Nt.V_E] at h1
  generalize (Nt.E d).size = k at *
  rw [Nat.pow_succ]
  exact Nat.mul_lt_mul'' h1 hp)
theorem ret_int_str {a b : Int} {x y : ByteArray} (h : a = b) (h' : x = y) : Ending.returned (.tuple #[.int .i64 a, .string x]) = .returned (.tuple #[.int .i64 b, .string y]) := by rw [h, h']
theorem ret_str2 {a b x y : ByteArray} (h : a = b) (h' : x = y) (z : Int) : Ending.returned (.tuple #[.string a, .string x, .int .i64 z]) = .returned (.tuple #[.string b, .string y, .int .i64 z]) := by rw [h, h']

set_option maxRecDepth 100000 in
set_option maxHeartbeats 2000000 in
theorem refDigit_any (n d : Nat) (w : World) (hd : 0 < d) (hn : n < 256 * d) (hs : (Nt.E n).size ≤ 90000) (hds : (Nt.E d).size ≤ 90000) :
    Calls Tryz.prog 147 #[.string (Nt.E n), .string (Nt.E d)] w fun e w' => e = .returned (.tuple #[.int .i64 ((n / d : Nat) : Int), .string (Nt.E (n % d))]) ∧ Below w.heap.size w w' := by
  have HS := Lib.hid hs
  have HD := Lib.hid hds
  have hm := fun (p : Nat) (hp : p < 256) W => refMul_any (Nt.E d) ⟨#[UInt8.ofNat p]⟩ W (by omega) (by show 1 ≤ 100000; omega)
  simp only [Nt.V_E] at hm
  have HMul := Lib.hid (fun (p : Nat) (hp : p < 256) W => (by have h := hm p hp W; rw [Nt.V_byte p hp] at h; exact h : Calls Tryz.prog 104 #[.string (Nt.E d), .string ⟨#[UInt8.ofNat p]⟩] W fun e w' => e = .returned (.string (Nt.E (d * p))) ∧ Below W.heap.size W w'))
  have hEP : ∀ p, p < 256 → (Nt.E (d * p)).size ≤ 90001 := fun p hp => Nat.le_trans (Nt.E_byte_size d p hp) (by omega)
  have HEP := Lib.hid hEP
  have HCmp := Lib.hid (fun (m p : Nat) (hm : (Nt.E m).size ≤ 90000) (hp : (Nt.E p).size ≤ 90001) W => (by have h := refCmp_any (Nt.E m) (Nt.E p) W (by omega) (by omega); simp only [Nt.V_E] at h; exact h : Calls Tryz.prog 116 #[.string (Nt.E m), .string (Nt.E p)] W fun e w' => e = .returned (.int .i64 (Nt.cmpZ m p)) ∧ W = w'))
  have HSub := Lib.hid (fun (m p : Nat) (hm : (Nt.E m).size ≤ 90000) (hp : (Nt.E p).size ≤ 90001) W => (by have h := refSub_any (Nt.E m) (Nt.E p) W (by omega) (by omega); simp only [Nt.V_E] at h; exact h : Calls Tryz.prog 117 #[.string (Nt.E m), .string (Nt.E p)] W fun e w' => e = .returned (.string (Nt.E (m - p))) ∧ Below W.heap.size W w'))
  clear hm hEP
  have hc0 := HCmp.out n d HS.out (by have := HD.out; omega)
  have hs2 := Lib.hid (fun m (h : m ≤ n) => Nat.le_trans (Nt.E_size_le h) HS.out)
  clear hs hds
  by_cases hlt : n < d
  · have hr : Hid (n / d = 0 ∧ n % d = n) := ⟨Nat.div_eq_of_lt hlt, Nat.mod_eq_of_lt hlt⟩
    have hz : Nt.cmpZ n d < 0 := by unfold Nt.cmpZ; rw [if_pos hlt]; omega
    generalize Nt.cmpZ n d = z at *
    have HC0 := Lib.hid hc0
    clear hc0 hlt hn
    go_enter Tryz.func147, Tryz.ntmps147
    go_wp2_with (go_at_call 116; refine (HC0.out _).mono ?_; rintro e w1 ⟨rfl, rfl⟩)
    go_ret2
    exact ⟨ret_int_str (by rw [hr.out.1]; rfl) (by rw [hr.out.2]), Below.refl _ _⟩
  · have hz : 0 ≤ Nt.cmpZ n d := by unfold Nt.cmpZ; rw [if_neg hlt]; split <;> omega
    generalize Nt.cmpZ n d = z at *
    have HC0 := Lib.hid hc0
    have HN := Lib.hid hn
    clear hc0 hlt hn
    go_enter Tryz.func147, Tryz.ntmps147
    go_wp2_with (go_at_call 116; refine (HC0.out _).mono ?_; rintro e w1 ⟨rfl, rfl⟩)
    go_loopw [0, 6, 7] (fun a q s wr => ∃ (j m q' : Nat), j ≤ 8 ∧ a = .string (Nt.E m) ∧ q = .int .i64 (q' : Int) ∧ s = .int .i64 ((2 ^ j / 2 : Nat) : Int) ∧ q' * d + m = n ∧ m < 2 ^ j * d ∧ q' + 2 ^ j ≤ 256 ∧ Below w.heap.size w wr) (fun _ _ s _ => (intOf s).toNat)
    case atStart => exact ⟨8, n, 0, by omega, rfl, rfl, rfl, by omega, HN.out, by omega, Below.refl _ _⟩
    case round =>
      obtain ⟨j, m, q, hj, rfl, rfl, rfl, hq, hm, hqp, hW⟩ := hrel
      have hmn : m ≤ n := by omega
      have hms := hs2.out m hmn
      rcases j with _ | j
      · have hf : Hid (n / d = q ∧ n % d = m) := by
          rw [Nat.pow_zero, Nat.one_mul] at hm
          have hq' : n = m + d * q := by rw [Nat.mul_comm]; omega
          exact ⟨by rw [hq', Nat.add_mul_div_left _ _ hd, Nat.div_eq_of_lt hm, Nat.zero_add], by rw [hq', Nat.add_mul_mod_self_left, Nat.mod_eq_of_lt hm]⟩
        have e0 : (2 ^ 0 / 2 : Nat) = 0 := rfl
        clear hq hm
        rw [e0]
        go_wp2
        go_ret2
        exact ⟨ret_int_str (by rw [← hf.out.1]; rfl) (by rw [hf.out.2]), hW⟩
      · obtain ⟨p, hp⟩ : ∃ p, p = 2 ^ j := ⟨_, rfl⟩
        have e1 : (2 ^ (j + 1) / 2 : Nat) = p := by rw [Nat.pow_succ]; omega
        have e2 : (2 ^ (j + 1) : Nat) = 2 * p := by rw [Nat.pow_succ]; omega
        rw [e1]
        rw [e2] at hm hqp
        have hp0 : 0 < p := by rw [hp]; exact Nat.two_pow_pos j
        have HP := Lib.hid hp
        have hps := HEP.out p (by omega)
        have hcm := HCmp.out m (d * p) hms hps
        have hsb := HSub.out m (d * p) hms hps
        have hml := HMul.out p (by omega)
        obtain ⟨P, hPd⟩ : ∃ P, P = d * p := ⟨_, rfl⟩
        rw [← hPd] at hcm hsb hml
        have hm2 : m < 2 * P := by rw [hPd]; rw [Nat.mul_comm d p, ← Nat.mul_assoc]; exact hm
        have hqd : (q + p) * d = q * d + P := by rw [Nat.add_mul, hPd, Nat.mul_comm p d]
        have hpd : p * d = P := by rw [hPd, Nat.mul_comm]
        have HQD := Lib.hid hqd
        have HPD := Lib.hid hpd
        have HQ := Lib.hid hq
        clear hp e1 e2 hPd hqd hpd hq hm
        have e3 : ((p : Int)).toNat = p := by omega
        obtain ⟨p2, hp2⟩ : ∃ p2, p2 = p / 2 := ⟨_, rfl⟩
        have hpt : IntKind.i64.wrap ((p : Int).tdiv 2) = (p2 : Int) := by
          rw [Int.tdiv_eq_ediv_of_nonneg (by omega)]
          exact (IntWalk.i64_in _ (by omega)).trans (by omega)
        have HP2 := Lib.hid hp2
        have hp2l : p2 < p := by omega
        clear hp2
        by_cases hge : P ≤ m
        · have hz2 : 0 ≤ Nt.cmpZ m P := by unfold Nt.cmpZ; rw [if_neg (by omega)]; split <;> omega
          generalize Nt.cmpZ m P = z2 at *
          have H1 := Lib.hid hcm
          have H2 := Lib.hid hsb
          have H3 := Lib.hid hml
          clear hcm hsb hml
          go_wp2_with (first
            | (go_at_call 97; refine (refByte_any _ _ (by omega) (by omega)).mono ?_; rintro e w1 ⟨rfl, hb1⟩; rw [e3])
            | (go_at_call 104; refine (H3.out _).mono ?_; rintro e w2 ⟨rfl, hb2⟩)
            | (go_at_call 116; refine (H1.out _).mono ?_; rintro e w3 ⟨rfl, rfl⟩)
            | (go_at_call 117; refine (H2.out _).mono ?_; rintro e w4 ⟨rfl, hb4⟩))
          refine ⟨⟨j, m - P, q + p, by omega, rfl, by go_num, by rw [← HP.out]; exact congrArg _ (by have := HP2.out; omega), ?_, ?_, by rw [← HP.out]; omega, ?_⟩, by simp [intOf]; omega⟩
          · have := HQ.out; have := HQD.out; omega
          · rw [← HP.out, HPD.out]; omega
          · have h1 := hW.trans (hb1.mono hW.size)
            have h2 := h1.trans (hb2.mono h1.size)
            exact h2.trans (hb4.mono h2.size)
        · have hz2 : Nt.cmpZ m P < 0 := by unfold Nt.cmpZ; rw [if_pos (by omega)]; omega
          generalize Nt.cmpZ m P = z2 at *
          have H1 := Lib.hid hcm
          have H3 := Lib.hid hml
          clear hcm hsb hml
          go_wp2_with (first
            | (go_at_call 97; refine (refByte_any _ _ (by omega) (by omega)).mono ?_; rintro e w1 ⟨rfl, hb1⟩; rw [e3])
            | (go_at_call 104; refine (H3.out _).mono ?_; rintro e w2 ⟨rfl, hb2⟩)
            | (go_at_call 116; refine (H1.out _).mono ?_; rintro e w3 ⟨rfl, rfl⟩))
          refine ⟨⟨j, m, q, by omega, rfl, rfl, by rw [← HP.out]; exact congrArg _ (by have := HP2.out; omega), HQ.out, ?_, by rw [← HP.out]; omega, ?_⟩, by simp [intOf]; omega⟩
          · rw [← HP.out, HPD.out]; omega
          · have h1 := hW.trans (hb1.mono hW.size)
            exact h1.trans (hb2.mono h1.size)
end Go.Proofs.YtjbpipbmcicjiaaGreatDoor
namespace Go.Proofs.YtjbpipbmcicjiaaGreatDoor
open Go.RowKit Go.Shelf

theorem Nt.V_append (x y : ByteArray) : Nt.V (x ++ y) = Nt.V x * 256 ^ y.size + Nt.V y := by
  have h : (x ++ y).data.toList = x.data.toList ++ y.data.toList := by simp
  show Nt.val (x ++ y).data.toList = _
  rw [h, Nt.val_append]
  rfl
theorem Nt.extract_one (t : ByteArray) (k : Nat) (h : k < t.size) : t.extract k (k + 1) = ⟨#[t[k]'h]⟩ := by
  apply ByteArray.ext
  rw [ByteArray.data_extract]
  apply Array.ext
  · simp; have : t.data.size = t.size := rfl; omega
  · intro i h1 h2
    simp at h2
    subst h2
    simp [ByteArray.getElem_eq_getElem_data]
theorem Nt.V_push (x : ByteArray) (c : UInt8) : Nt.V (x ++ ⟨#[c]⟩) = Nt.V x * 256 + c.toNat := by
  rw [Nt.V_append]
  show Nt.V x * 256 ^ 1 + Nt.val [c] = _
  rw [Nt.val_cons]; simp [Nt.val_nil]
theorem Nt.step_div (n d c : Nat) (hd : 0 < d) : (n * 256 + c) / d = n / d * 256 + (n % d * 256 + c) / d ∧ (n * 256 + c) % d = (n % d * 256 + c) % d := by
  have h : n * 256 + c = (n % d * 256 + c) + d * (n / d * 256) := by
    have := Nat.mod_add_div n d
    conv => lhs; rw [← this]
    rw [Nat.add_mul, Nat.mul_assoc]; omega
  rw [h]
  exact ⟨by rw [Nat.add_mul_div_left _ _ hd]; omega, by rw [Nat.add_mul_mod_self_left]⟩

/-- what a division answers. -/
def divOut (n d : Nat) : Value := if d = 0 then .tuple #[.string ⟨#[]⟩, .string ⟨#[]⟩, .int .i64 5] else .tuple #[.string (Nt.E (n / d)), .string (Nt.E (n % d)), .int .i64 0]

set_option maxRecDepth 100000 in
set_option maxHeartbeats 2000000 in
theorem refDivMod_any (a b : ByteArray) (w : World) (ha : a.size ≤ 80000) (hb : b.size ≤ 80000) :
    Calls Tryz.prog 107 #[.string a, .string b] w fun e w' => e = .returned (divOut (Nt.V a) (Nt.V b)) ∧ Below w.heap.size w w' := by
  obtain ⟨d, hd⟩ : ∃ d, d = Nt.V b := ⟨_, rfl⟩
  have HTb := Lib.hid (fun w => (hd ▸ refTrim_any b w : Calls Tryz.prog 58 #[.string b] w fun e w' => e = .returned (.string (Nt.E d)) ∧ w = w'))
  have hds : (Nt.E d).size ≤ 80000 := by rw [hd]; exact Nat.le_trans (Nt.E_size_V b) hb
  rw [← hd]
  clear hd
  by_cases h0 : 0 < d
  · obtain ⟨t, ht⟩ : ∃ t, t = Nt.E (Nt.V a) := ⟨_, rfl⟩
    have hV : Hid (Nt.V t = Nt.V a) := by rw [ht, Hid, Nt.V_E]
    have HTa := Lib.hid (fun w => (ht ▸ refTrim_any a w : Calls Tryz.prog 58 #[.string a] w fun e w' => e = .returned (.string t) ∧ w = w'))
    have hts : t.size ≤ 80000 := by rw [ht]; exact Nat.le_trans (Nt.E_size_V a) ha
    have hpos : 0 < (Nt.E d).size := Nat.pos_of_ne_zero (fun hh => by have := Nt.E_nil d (by omega); omega)
    have hE := isEmpty_false hpos
    have HDg := Lib.hid (fun n (hn : n < 256 * d) W => refDigit_any n d W h0 hn (Nat.le_trans (Nt.E_size_le (show n ≤ d * 256 by omega)) (by
      have h1 := Nt.V_lt (Nt.E d)
      rw [Nt.V_E] at h1
      have h2 : d * 256 < 256 ^ ((Nt.E d).size + 1) := by rw [Nat.pow_succ]; omega
      exact Nat.le_trans (Nt.E_size_lt h2) (by omega))) (by omega))
    have hES : ∀ m, m ≤ d → (Nt.E m).size ≤ 80000 := fun m hm => Nat.le_trans (Nt.E_size_le hm) hds
    obtain ⟨D, hD⟩ : ∃ D, D = Nt.E d := ⟨_, rfl⟩
    rw [← hD] at HTb HDg hE hpos hds
    clear ht ha hb hD
    go_enter Tryz.func107, Tryz.ntmps107
    go_wp2_with (first
      | (go_at_call_of 58 b; refine (HTb.out _).mono ?_; rintro e w1 ⟨rfl, rfl⟩)
      | (go_at_call_of 58 a; refine (HTa.out _).mono ?_; rintro e w1 ⟨rfl, rfl⟩))
    go_loopw [7, 8, 9] (fun q r i wr => ∃ (k : Nat) (s : ByteArray), k ≤ t.size ∧ i = .int .i64 k ∧ q = .string s ∧ s.size = k ∧ Nt.V s = Nt.top t k / d ∧ r = .string (Nt.E (Nt.top t k % d)) ∧ Below w.heap.size w wr) (fun _ _ i _ => t.size - (intOf i).toNat)
    case atStart => exact ⟨0, ⟨#[]⟩, Nat.zero_le _, rfl, rfl, rfl, by rw [Nt.top_zero, Nat.zero_div]; rfl, by rw [Nt.top_zero, Nat.zero_mod]; rfl, Below.refl _ _⟩
    case round =>
      obtain ⟨k, s, hk, rfl, rfl, hsk, hsv, rfl, hW⟩ := hrel
      by_cases hlt : k < t.size
      · have hs1 := Nt.top_step t k hlt
        have hc := UInt8.toNat_lt (t[k]'hlt)
        have hx : Nt.V (Nt.E (Nt.top t k % d) ++ t.extract k (k + 1)) = Nt.top t k % d * 256 + (t[k]'hlt).toNat := by
          rw [Nt.extract_one t k hlt, Nt.V_push, Nt.V_E]
        have hst := Nt.step_div (Nt.top t k) d (t[k]'hlt).toNat h0
        rw [← hs1] at hst
        have hmod := Nat.mod_lt (Nt.top t k) h0
        have hes := hES _ (Nat.le_of_lt hmod)
        obtain ⟨x, hxx⟩ : ∃ x, x = Nt.top t k % d * 256 + (t[k]'hlt).toNat := ⟨_, rfl⟩
        rw [← hxx] at hx hst
        have hxd : x < 256 * d := by rw [hxx]; omega
        have hdg := HDg.out x hxd
        have hqd : x / d < 256 := Nat.div_lt_of_lt_mul (by rw [Nat.mul_comm]; exact hxd)
        obtain ⟨qd, hqq⟩ : ∃ qd, qd = x / d := ⟨_, rfl⟩
        obtain ⟨rd, hrr⟩ : ∃ rd, rd = x % d := ⟨_, rfl⟩
        rw [← hqq, ← hrr] at hdg
        rw [← hqq, ← hrr] at hst
        rw [← hqq] at hqd
        have e3 : ((qd : Int)).toNat = qd := by omega
        obtain ⟨r0, hr0⟩ : ∃ r0, r0 = Nt.top t k % d := ⟨_, rfl⟩
        rw [← hr0] at hx hes ⊢
        have HX := Lib.hid hx
        have HDG := Lib.hid hdg
        have HSV := Lib.hid hsv
        have HST := Lib.hid hst
        clear hx hdg hst hsv hs1 hqq hrr hr0 hmod hxx hc
        go_wp2_with (first
          | (go_at_call 58; refine (refTrim_any _ _).mono ?_; rintro e w1 ⟨rfl, rfl⟩; rw [HX.out])
          | (go_at_call 147; refine (HDG.out _).mono ?_; rintro e w2 ⟨rfl, hb2⟩)
          | (go_at_call 97; refine (refByte_any _ _ (by omega) (by omega)).mono ?_; rintro e w3 ⟨rfl, hb3⟩; rw [e3]))
        refine ⟨⟨k + 1, _, by omega, by go_num, rfl, ?_, ?_, ?_, ?_⟩, by simp [intOf]; omega⟩
        · have : (s ++ ⟨#[UInt8.ofNat qd]⟩).size = s.size + 1 := by rw [ByteArray.size_append]; rfl
          omega
        · rw [Nt.V_push, HST.out.1, HSV.out]
          have : (UInt8.ofNat qd).toNat = qd := by rw [UInt8.toNat_ofNat']; exact Nat.mod_eq_of_lt hqd
          rw [this]
        · rw [HST.out.2]
        · have h1 := hW.trans (hb2.mono hW.size)
          exact h1.trans (hb3.mono h1.size)
      · obtain rfl : k = t.size := by omega
        have hf : Hid (divOut (Nt.V a) d = .tuple #[.string (Nt.E (Nt.V s)), .string (Nt.E (Nt.top t t.size % d)), .int .i64 0]) := by
          rw [Nt.top_all, hV.out] at hsv ⊢
          rw [hsv, Hid, divOut, if_neg (by omega)]
        clear hsv
        go_wp2_with (go_at_call 58; refine (refTrim_any _ _).mono ?_; rintro e w1 ⟨rfl, rfl⟩)
        go_ret3
        exact ⟨congrArg Ending.returned hf.out.symm, hW⟩
  · obtain rfl : d = 0 := by omega
    have hE : (Nt.E 0).toList.isEmpty = true := isEmpty_true (show ¬ 0 < (Nt.E 0).size from by decide)
    obtain ⟨D, hD⟩ : ∃ D, D = Nt.E 0 := ⟨_, rfl⟩
    rw [← hD] at HTb hE
    clear hD
    go_enter Tryz.func107, Tryz.ntmps107
    go_wp2_with (go_at_call 58; refine (HTb.out _).mono ?_; rintro e w1 ⟨rfl, rfl⟩)
    go_ret3
    exact ⟨by rw [divOut, if_pos rfl]; rfl, Below.refl _ _⟩

theorem divOut_zero (n : Nat) : divOut n 0 = .tuple #[.string (Nt.E 0), .string (Nt.E 0), .int .i64 5] := rfl
/-- the quotient, and the rest, as the document's answer hands them on: nothing of a division by nothing. -/
theorem refMod_any (a b : ByteArray) (w : World) (ha : a.size ≤ 80000) (hb : b.size ≤ 80000) (h0 : 0 < Nt.V b) :
    Calls Tryz.prog 149 #[.string a, .string b] w fun e w' => e = .returned (.string (Nt.E (Nt.V a % Nt.V b))) ∧ Below w.heap.size w w' := by
  have hd : divOut (Nt.V a) (Nt.V b) = .tuple #[.string (Nt.E (Nt.V a / Nt.V b)), .string (Nt.E (Nt.V a % Nt.V b)), .int .i64 0] := by rw [divOut, if_neg (by omega)]
  have H := Lib.hid (fun w => (hd ▸ refDivMod_any a b w ha hb : Calls Tryz.prog 107 #[.string a, .string b] w fun e w' => e = .returned (.tuple #[.string (Nt.E (Nt.V a / Nt.V b)), .string (Nt.E (Nt.V a % Nt.V b)), .int .i64 0]) ∧ Below w.heap.size w w'))
  generalize Nt.V a / Nt.V b = x at *
  generalize Nt.V a % Nt.V b = y at *
  clear hd
  go_enter Tryz.func149, Tryz.ntmps149
  go_wp2_with (go_at_call 107; refine (H.out _).mono ?_; rintro e w1 ⟨rfl, hb1⟩)
  go_ret
  exact ⟨rfl, hb1⟩
theorem refDiv_any (a b : ByteArray) (w : World) (ha : a.size ≤ 80000) (hb : b.size ≤ 80000) (h0 : 0 < Nt.V b) :
    Calls Tryz.prog 112 #[.string a, .string b] w fun e w' => e = .returned (.string (Nt.E (Nt.V a / Nt.V b))) ∧ Below w.heap.size w w' := by
  have hd : divOut (Nt.V a) (Nt.V b) = .tuple #[.string (Nt.E (Nt.V a / Nt.V b)), .string (Nt.E (Nt.V a % Nt.V b)), .int .i64 0] := by rw [divOut, if_neg (by omega)]
  have H := Lib.hid (fun w => (hd ▸ refDivMod_any a b w ha hb : Calls Tryz.prog 107 #[.string a, .string b] w fun e w' => e = .returned (.tuple #[.string (Nt.E (Nt.V a / Nt.V b)), .string (Nt.E (Nt.V a % Nt.V b)), .int .i64 0]) ∧ Below w.heap.size w w'))
  generalize Nt.V a / Nt.V b = x at *
  generalize Nt.V a % Nt.V b = y at *
  clear hd
  go_enter Tryz.func112, Tryz.ntmps112
  go_wp2_with (go_at_call 107; refine (H.out _).mono ?_; rintro e w1 ⟨rfl, hb1⟩)
  go_ret
  exact ⟨rfl, hb1⟩
end Go.Proofs.YtjbpipbmcicjiaaGreatDoor
namespace Go.Proofs.YtjbpipbmcicjiaaGreatDoor
open Go.RowKit Go.Shelf

/-- how far Euclid's rounds have come: behind the first one the product halves in each. -/
def Nt.GcdAt (N i m n : Nat) : Prop := (i = 0 ∧ m * n < 2 ^ N) ∨ (1 ≤ i ∧ n < m ∧ m * n * 2 ^ (i - 1) < 2 ^ N)
theorem Nt.gcd_step (N i m n : Nat) (hn : n ≠ 0) (h : Nt.GcdAt N i m n) : m % n < n ∧ Nat.gcd n (m % n) = Nat.gcd m n ∧ Nt.GcdAt N (i + 1) n (m % n) := by
  have hlt : m % n < n := Nat.mod_lt _ (by omega)
  refine ⟨hlt, ?_, Or.inr ⟨by omega, hlt, ?_⟩⟩
  · rw [Nat.gcd_comm n (m % n), ← Nat.gcd_rec, Nat.gcd_comm]
  · rw [Nat.add_sub_cancel]
    rcases h with ⟨rfl, h⟩ | ⟨hi, hnm, h⟩
    · refine Nat.lt_of_le_of_lt ?_ h
      rw [Nat.pow_zero, Nat.mul_one, Nat.mul_comm m n]
      exact Nat.mul_le_mul (Nat.le_refl _) (Nat.mod_le _ _)
    · refine Nat.lt_of_le_of_lt ?_ h
      obtain ⟨j, rfl⟩ : ∃ j, i = j + 1 := ⟨i - 1, by omega⟩
      rw [Nat.add_sub_cancel, Nat.pow_succ]
      have h2 : 2 * (m % n) ≤ m := by
        have := Nat.mod_add_div m n
        have h3 : 1 ≤ m / n := Nat.div_pos (by omega) (by omega)
        have h4 : n * 1 ≤ n * (m / n) := Nat.mul_le_mul (Nat.le_refl _) h3
        omega
      have h5 : n * (m % n) * 2 ≤ m * n := by
        rw [Nat.mul_assoc, Nat.mul_comm m n]
        exact Nat.mul_le_mul (Nat.le_refl _) (by omega)
      calc n * (m % n) * (2 ^ j * 2) = n * (m % n) * 2 * 2 ^ j := by rw [Nat.mul_comm (2 ^ j) 2, ← Nat.mul_assoc]
        _ ≤ m * n * 2 ^ j := Nat.mul_le_mul h5 (Nat.le_refl _)
theorem Nt.gcd_few (N i m n : Nat) (hn : n ≠ 0) (h : Nt.GcdAt N i m n) : i ≤ N := by
  rcases h with ⟨rfl, h⟩ | ⟨hi, hnm, h⟩
  · omega
  · have h1 : 1 ≤ m * n := Nat.mul_pos (by omega) (by omega)
    have h2 : 2 ^ (i - 1) < 2 ^ N := Nat.lt_of_le_of_lt (by
      have := Nat.mul_le_mul h1 (Nat.le_refl (2 ^ (i - 1)))
      omega) h
    have := (Nat.pow_lt_pow_iff_right (by omega : 1 < 2)).1 h2
    omega
theorem Nt.gcd_start (a b : ByteArray) : Nt.GcdAt (8 * a.size + 8 * b.size) 0 (Nt.V a) (Nt.V b) := by
  refine Or.inl ⟨rfl, ?_⟩
  have h1 := Nt.V_lt a
  have h2 := Nt.V_lt b
  have e : ∀ k, (256 : Nat) ^ k = 2 ^ (8 * k) := fun k => by rw [Nat.pow_mul]
  rw [e] at h1 h2
  have h3 := Nat.mul_lt_mul'' h1 h2
  rwa [← Nat.pow_add] at h3

theorem isEmpty_E (n : Nat) : (Nt.E n).toList.isEmpty = decide (n = 0) := by
  by_cases h : n = 0
  · subst h; rw [isEmpty_true (show ¬ 0 < (Nt.E 0).size from by decide)]; rfl
  · rw [isEmpty_false (Nat.pos_of_ne_zero (fun hh => h (Nt.E_nil n (by omega))))]; simp [h]
set_option maxRecDepth 100000 in
set_option maxHeartbeats 2000000 in
theorem refGcd_any (a b : ByteArray) (w : World) (ha : a.size ≤ 1000) (hb : b.size ≤ 1000) :
    Calls Tryz.prog 111 #[.string a, .string b] w fun e w' => e = .returned (.string (Nt.E (Nat.gcd (Nt.V a) (Nt.V b)))) ∧ Below w.heap.size w w' := by
  have hst := Nt.gcd_start a b
  have hsa := Nat.le_trans (Nt.E_size_V a) ha
  have hsb := Nat.le_trans (Nt.E_size_V b) hb
  have HTb := Lib.hid (fun w => refTrim_any b w)
  have HTa := Lib.hid (fun w => refTrim_any a w)
  obtain ⟨x, hx⟩ : ∃ x, x = Nt.V a := ⟨_, rfl⟩
  obtain ⟨y, hy⟩ : ∃ y, y = Nt.V b := ⟨_, rfl⟩
  rw [← hx] at hst hsa HTa ⊢
  rw [← hy] at hst hsb HTb ⊢
  obtain ⟨N, hN⟩ : ∃ N, N = 8 * a.size + 8 * b.size := ⟨_, rfl⟩
  rw [← hN] at hst
  have hN2 : N ≤ 16000 := by omega
  clear hx hy ha hb hN
  obtain ⟨g, hg⟩ : ∃ g, g = Nat.gcd x y := ⟨_, rfl⟩
  rw [← hg]
  have HST := Lib.hid hst
  have HG := Lib.hid hg
  clear hst hg
  have HM := Lib.hid (fun (m n : Nat) (hm : (Nt.E m).size ≤ 1000) (hn : (Nt.E n).size ≤ 1000) (h0 : n ≠ 0) W => (by have h := refMod_any (Nt.E m) (Nt.E n) W (by omega) (by omega) (by rw [Nt.V_E]; omega); simp only [Nt.V_E] at h; exact h : Calls Tryz.prog 149 #[.string (Nt.E m), .string (Nt.E n)] W fun e w' => e = .returned (.string (Nt.E (m % n))) ∧ Below W.heap.size W w'))
  go_enter Tryz.func111, Tryz.ntmps111
  go_wp2_with (first
    | (go_at_call_of 58 b; refine (HTb.out _).mono ?_; rintro e w1 ⟨rfl, rfl⟩)
    | (go_at_call_of 58 a; refine (HTa.out _).mono ?_; rintro e w1 ⟨rfl, rfl⟩))
  go_loopw [0, 1, 5] (fun a b i wr => ∃ (k m n : Nat), k ≤ N + 1 ∧ i = .int .i64 k ∧ a = .string (Nt.E m) ∧ b = .string (Nt.E n) ∧ Nt.GcdAt N k m n ∧ Nat.gcd m n = g ∧ (Nt.E m).size ≤ 1000 ∧ (Nt.E n).size ≤ 1000 ∧ Below w.heap.size w wr) (fun _ _ i _ => N + 1 - (intOf i).toNat)
  case atStart => exact ⟨0, x, y, by omega, rfl, rfl, rfl, HST.out, HG.out.symm, by omega, by omega, Below.refl _ _⟩
  case round =>
    obtain ⟨k, m, n, hk, rfl, rfl, rfl, hA, hgg, hms, hns, hW⟩ := hrel
    have hE := isEmpty_E n
    by_cases h0 : n = 0
    · simp only [h0, decide_true] at hE
      have hf : Hid (g = m) := by rw [Hid, ← hgg, h0, Nat.gcd_zero_right]
      subst h0
      clear hA hgg
      go_wp2
      go_ret
      exact ⟨ret_str (by rw [hf.out]), hW⟩
    · have hfew := Nt.gcd_few N k m n h0 hA
      have hs := Nt.gcd_step N k m n h0 hA
      have hMod := HM.out m n hms hns h0
      have hls := Nt.E_size_le (Nat.le_of_lt hs.1)
      simp only [h0, decide_false] at hE
      rw [hgg] at hs
      obtain ⟨r, hr⟩ : ∃ r, r = m % n := ⟨_, rfl⟩
      rw [← hr] at hs hMod hls
      have H1 := Lib.hid hMod
      have H2 := Lib.hid hs
      clear hMod hs hA hgg hr
      go_wp2_with (go_at_call 149; refine (H1.out _).mono ?_; rintro e w2 ⟨rfl, hb2⟩)
      exact ⟨⟨k + 1, n, r, by omega, by go_num, rfl, rfl, H2.out.2.2, H2.out.2.1, by omega, by omega, hW.trans (hb2.mono hW.size)⟩, by simp [intOf]; omega⟩
end Go.Proofs.YtjbpipbmcicjiaaGreatDoor
