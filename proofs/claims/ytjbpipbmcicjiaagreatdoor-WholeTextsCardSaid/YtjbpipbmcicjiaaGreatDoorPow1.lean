/-
  THE DOCUMENT'S ANSWER: Pow.
  POWERS IN THE PROGRAM: bits.Len of small ones, Pow.
  POWERS IN THE PROGRAM: Pow.
-/
import Derived.Test.YtjbpipbmcicjiaaGreatDoorDiv1
import Derived.Test.YtjbpipbmcicjiaaGreatDoorMul
import Derived.Test.YtjbpipbmcicjiaaGreatDoorRef1
namespace Go.Proofs.YtjbpipbmcicjiaaGreatDoor
open Go.RowKit Go.Shelf

/-- what a power answers. -/
def powOut (v : Nat) (k : Int) : Value :=
  if k < 0 then .tuple #[.string ⟨#[]⟩, .int .i64 2]
  else if 1024 < (Nt.E (v ^ k.toNat)).size then .tuple #[.string ⟨#[]⟩, .int .i64 9]
  else .tuple #[.string (Nt.E (v ^ k.toNat)), .int .i64 0]
theorem powOut_neg (v : Nat) (k : Int) (h : k < 0) : powOut v k = .tuple #[.string ⟨#[]⟩, .int .i64 2] := if_pos h
theorem powOut_big (v : Nat) (k : Nat) (h : 1024 < (Nt.E (v ^ k)).size) : powOut v (k : Int) = .tuple #[.string ⟨#[]⟩, .int .i64 9] := by
  rw [powOut, if_neg (by omega), if_pos (by simpa using h)]
theorem powOut_fit (v : Nat) (k : Nat) (h : (Nt.E (v ^ k)).size ≤ 1024) : powOut v (k : Int) = .tuple #[.string (Nt.E (v ^ k)), .int .i64 0] := by
  rw [powOut, if_neg (by omega), if_neg (by simpa using h)]; simp
theorem E_one : Nt.E 1 = ⟨#[1]⟩ := by decide
theorem E_two_le (v : Nat) (h : v ≠ 1) : Nt.E v ≠ ⟨#[1]⟩ := fun hh => h (Nt.E_inj (hh.trans E_one.symm))
theorem E_toList_one (v : Nat) (h : v ≠ 1) : ((Nt.E v).toList == [1]) = false := by
  rw [ByteArray.toList_eq, Nt.E_toList]
  have : Nt.enc v ≠ [1] := fun hh => E_two_le v h (by rw [Nt.E, hh])
  simpa using this
theorem pow_pos_le (v i k : Nat) (h : 0 < v) (hik : i ≤ k) : v ^ i ≤ v ^ k := Nat.pow_le_pow_right h hik

set_option maxRecDepth 100000 in
set_option maxHeartbeats 2000000 in
theorem refPow_any (a : ByteArray) (k : Int) (w : World) (ha : a.size ≤ 1000) (hk : k ≤ 9223372036854775806) :
    Calls Tryz.prog 123 #[.string a, .int .i64 k] w fun e w' => e = .returned (powOut (Nt.V a) k) ∧ Below w.heap.size w w' := by
  have HT := Lib.hid (fun w => refTrim_any a w)
  have hs := Nat.le_trans (Nt.E_size_V a) ha
  obtain ⟨v, hv⟩ : ∃ v, v = Nt.V a := ⟨_, rfl⟩
  rw [← hv] at HT hs ⊢
  clear hv ha
  by_cases hneg : k < 0
  · have hr : Hid (powOut v k = .tuple #[.string ⟨#[]⟩, .int .i64 2]) := powOut_neg v k hneg
    go_enter Tryz.func123, Tryz.ntmps123
    go_wp2
    go_ret2
    exact ⟨congrArg Ending.returned hr.out.symm, Below.refl _ _⟩
  · obtain ⟨n, rfl⟩ : ∃ n : Nat, k = n := ⟨k.toNat, by omega⟩
    have hE := isEmpty_E v
    by_cases h0 : n = 0
    · subst h0
      have hr : Hid (powOut v ((0 : Nat) : Int) = .tuple #[.string ⟨#[1]⟩, .int .i64 0]) := by
        rw [Hid, powOut_fit v 0 (by rw [Nat.pow_zero]; decide), Nat.pow_zero, E_one]
      go_enter Tryz.func123, Tryz.ntmps123
      go_wp2_with (go_at_call 58; refine (HT.out _).mono ?_; rintro e w1 ⟨rfl, rfl⟩)
      all_goals (go_ret2; exact ⟨congrArg Ending.returned hr.out.symm, Below.refl _ _⟩)
    · by_cases hv1 : v ≤ 1
      · have hp : v ^ n = v := by
          rcases (by omega : v = 0 ∨ v = 1) with rfl | rfl
          · exact Nat.zero_pow (by omega)
          · exact Nat.one_pow n
        have hr : Hid (powOut v (n : Int) = .tuple #[.string (Nt.E v), .int .i64 0]) := by
          rw [Hid, powOut_fit v n (by rw [hp]; exact Nat.le_trans (Nt.E_size_le hv1) (by decide)), hp]
        have hL : v ≠ 0 → Nt.E v = ⟨#[1]⟩ := fun h => by rw [show v = 1 from by omega]; exact E_one
        by_cases hz : v = 0
        · simp only [hz, decide_true] at hE
          have hn0 : (0 : Int) < n := by omega
          subst hz
          clear hL hp
          go_enter Tryz.func123, Tryz.ntmps123
          go_wp2_with (go_at_call 58; refine (HT.out _).mono ?_; rintro e w1 ⟨rfl, rfl⟩)
          all_goals (go_ret2; exact ⟨congrArg Ending.returned hr.out.symm, Below.refl _ _⟩)
        · simp only [hz, decide_false] at hE
          rw [hL hz] at hE hr HT
          have hn0 : (0 : Int) < n := by omega
          clear hL hp
          go_enter Tryz.func123, Tryz.ntmps123
          go_wp2_with (go_at_call 58; refine (HT.out _).mono ?_; rintro e w1 ⟨rfl, rfl⟩)
          all_goals (go_ret2; exact ⟨congrArg Ending.returned hr.out.symm, Below.refl _ _⟩)
      · have hE1 := E_toList_one v (by omega)
        simp only [show ¬ v = 0 from by omega, decide_false] at hE
        have hn0 : (0 : Int) < n := by omega
        have hn00 : ((n : Int) == 0) = false := by simp; omega
        have H00 := Lib.hid h0
        clear h0
        have HMul := Lib.hid (fun (p : Nat) (hp : (Nt.E p).size ≤ 1024) W => (by have h := refMul_any (Nt.E p) (Nt.E v) W (by omega) (by omega); simp only [Nt.V_E] at h; exact h : Calls Tryz.prog 104 #[.string (Nt.E p), .string (Nt.E v)] W fun e w' => e = .returned (.string (Nt.E (p * v))) ∧ Below W.heap.size W w'))
        obtain ⟨A, hA⟩ : ∃ A, A = Nt.E v := ⟨_, rfl⟩
        rw [← hA] at HT HMul hE hE1 hs
        have hv0 : 0 < v := by omega
        clear hv1 hA
        go_enter Tryz.func123, Tryz.ntmps123
        go_wp2_with (go_at_call 58; refine (HT.out _).mono ?_; rintro e w1 ⟨rfl, rfl⟩)
        go_loopw [6, 7] (fun p i wr => ∃ j : Nat, j ≤ n ∧ i = .int .i64 j ∧ p = .string (Nt.E (v ^ j)) ∧ (Nt.E (v ^ j)).size ≤ 1024 ∧ Below w.heap.size w wr) (fun _ i _ => n - (intOf i).toNat)
        case atStart => exact ⟨0, by omega, rfl, by rw [Nat.pow_zero, E_one], by rw [Nat.pow_zero]; decide, Below.refl _ _⟩
        case round =>
          obtain ⟨j, hj, rfl, rfl, hps, hW⟩ := hrel
          by_cases hlt : j < n
          · have hml := HMul.out _ hps
            rw [← Nat.pow_succ] at hml
            have H1 := Lib.hid hml
            have hle := Nt.E_size_le (pow_pos_le v (j + 1) n hv0 hlt)
            have HO := Lib.hid (powOut_big v n)
            clear hml
            obtain ⟨P, hP⟩ : ∃ P, P = Nt.E (v ^ (j + 1)) := ⟨_, rfl⟩
            rw [← hP] at H1 hle
            have HP := Lib.hid hP
            clear hP
            by_cases hbig : 1024 < P.size
            · have hr := Lib.hid (HO.out (by omega))
              go_wp2_with (go_at_call 104; refine (H1.out _).mono ?_; rintro e w2 ⟨rfl, hb2⟩)
              go_ret2
              exact ⟨congrArg Ending.returned hr.out.symm, hW.trans (hb2.mono hW.size)⟩
            · go_wp2_with (go_at_call 104; refine (H1.out _).mono ?_; rintro e w2 ⟨rfl, hb2⟩)
              exact ⟨⟨j + 1, by omega, by go_num, by rw [HP.out], by rw [← HP.out]; omega, hW.trans (hb2.mono hW.size)⟩, by simp [intOf]; omega⟩
          · obtain rfl : j = n := by omega
            have hr := Lib.hid (powOut_fit v j hps)
            go_wp2
            go_ret2
            exact ⟨congrArg Ending.returned hr.out.symm, hW⟩
end Go.Proofs.YtjbpipbmcicjiaaGreatDoor
namespace Go.Proofs.YtjbpipbmcicjiaaGreatDoor
open Go.RowKit Go.Shelf

theorem bitLen_blen_all : ∀ (x : Nat), x < 2 ^ 64 → Lib.bitLen x = Nt.blen x := by
  intro x
  induction x using Nat.strongRecOn with
  | ind x ih =>
    intro hx
    by_cases h0 : x = 0
    · subst h0; rfl
    · rw [Lib.bitLen_half x h0 hx, Nt.blen_half h0, ih (x / 2) (by omega) (by omega)]; omega
theorem Nt.blen_bounds (x : Nat) (h : x ≠ 0) : 2 ^ (Nt.blen x - 1) ≤ x ∧ x < 2 ^ Nt.blen x ∧ 1 ≤ Nt.blen x := by
  rw [Nt.blen, if_neg h]
  exact ⟨by rw [Nat.add_sub_cancel]; exact Nat.log2_self_le h, Nat.lt_log2_self, by omega⟩
theorem Nt.pow256 (m : Nat) : (256 : Nat) ^ m = 2 ^ (8 * m) := by rw [Nat.pow_mul]
theorem Nt.size_gt {x m : Nat} (h : 256 ^ m ≤ x) : m < (Nt.E x).size := by
  have h1 := Nt.V_lt (Nt.E x)
  rw [Nt.V_E] at h1
  exact (Nat.pow_lt_pow_iff_right (by omega : 1 < 256)).1 (Nat.lt_of_le_of_lt h h1)
theorem Nt.pow_big (v s n M : Nat) (hs : 2 ^ s ≤ v) (h : 8 * M ≤ n * s) : M < (Nt.E (v ^ n)).size := by
  apply Nt.size_gt
  rw [Nt.pow256]
  refine Nat.le_trans (Nat.pow_le_pow_right (by omega) (show 8 * M ≤ s * n by rw [Nat.mul_comm s n]; omega)) ?_
  rw [Nat.pow_mul]
  exact Nat.pow_le_pow_left hs n
theorem Nt.pow_fits (v s n j M : Nat) (hv : 0 < v) (hs : v < 2 ^ (s + 1)) (h : 2 * (n * s) < 8 * M) (h1 : 1 ≤ s) (hj : j ≤ n) : (Nt.E (v ^ j)).size ≤ M := by
  refine Nat.le_trans (Nt.E_size_le (Nat.pow_le_pow_right hv hj)) (Nt.E_size_lt ?_)
  rw [Nt.pow256]
  have h2 : n ≤ n * s := Nat.le_mul_of_pos_right n h1
  rcases Nat.eq_zero_or_pos n with rfl | hn
  · rw [Nat.pow_zero]; exact Nat.one_lt_two_pow (by omega)
  · refine Nat.lt_of_lt_of_le (Nat.pow_lt_pow_left hs (by omega)) ?_
    rw [← Nat.pow_mul]
    apply Nat.pow_le_pow_right (by omega)
    rw [Nat.mul_comm, Nat.mul_add]; omega
theorem Nt.half_step (n i : Nat) : n / 2 ^ i = 2 * (n / 2 ^ (i + 1)) + n / 2 ^ i % 2 := by
  rw [Nat.pow_succ, ← Nat.div_div_eq_div_mul]; omega

set_option maxRecDepth 100000 in
set_option maxHeartbeats 4000000 in
theorem len64_low (x : Int) (w : World) (h0 : 0 ≤ x) (h1 : x ≤ 255) :
    Calls Tryz.prog 173 #[.int .u64 x] w fun e w' => e = .returned (.int .i64 (Lib.bitLen x.toNat)) ∧ w = w' := by
  go_enter Tryz.func173, Tryz.ntmps173
  go_wp2
  go_ret
  refine ⟨congrArg Ending.returned (congrArg (Value.int IntKind.i64) ?_), rfl⟩
  rw [Lib.len8_of x h0 h1]
  have l := Lib.bitLen_le8' x h0 h1
  unfold wrap64
  omega
set_option maxRecDepth 100000 in
set_option maxHeartbeats 4000000 in
theorem len64_mid (x : Int) (w : World) (h0 : 256 ≤ x) (h1 : x ≤ 65535) :
    Calls Tryz.prog 173 #[.int .u64 x] w fun e w' => e = .returned (.int .i64 (Lib.bitLen x.toNat)) ∧ w = w' := by
  have h2 : x / 256 ≤ 255 := by omega
  have h3 : 0 ≤ x / 256 := by omega
  have h4 : x / 256 < (Lib.len8tab.size : Int) := by rw [Lib.len8tab_size]; omega
  go_enter Tryz.func173, Tryz.ntmps173
  go_wp2
  go_ret
  refine ⟨congrArg Ending.returned (congrArg (Value.int IntKind.i64) ?_), rfl⟩
  rw [Lib.len8_of (x / 256) h3 h2]
  have l := Lib.bitLen_le8' (x / 256) h3 h2
  have e : (x / 256).toNat = x.toNat / 256 := by omega
  have s := Lib.bitLen_shift8 x.toNat (by omega) (by omega)
  rw [e] at l ⊢
  unfold wrap64
  omega
theorem len64_any (x : Nat) (w : World) (hx : x < 65536) :
    Calls Tryz.prog 173 #[.int .u64 (x : Int)] w fun e w' => e = .returned (.int .i64 (Nt.blen x : Int)) ∧ w = w' := by
  rw [← bitLen_blen_all x (by omega)]
  by_cases h : x < 256
  · exact len64_low x w (by omega) (by omega)
  · exact len64_mid x w (by omega) (by omega)
theorem len_any (x : Nat) (w : World) (hx : x < 65536) :
    Calls Tryz.prog 152 #[.int .u64 (x : Int)] w fun e w' => e = .returned (.int .i64 (Nt.blen x : Int)) ∧ w = w' := by
  have H := Lib.hid (fun w => len64_any x w hx)
  generalize Nt.blen x = y at *
  go_enter Tryz.func152, Tryz.ntmps152
  go_wp2_with (go_at_call 173; refine (H.out _).mono ?_; rintro e w2 ⟨rfl, rfl⟩)
  go_ret
  exact ⟨rfl, rfl⟩
end Go.Proofs.YtjbpipbmcicjiaaGreatDoor
namespace Go.Proofs.YtjbpipbmcicjiaaGreatDoor
open Go.RowKit Go.Shelf

theorem and_one (n i : Nat) (h : n < 9223372036854775808) : bits .and .i64 ((n : Int) / 2 ^ i) 1 = ((n / 2 ^ i % 2 : Nat) : Int) := by
  have hle := Nat.div_le_self n (2 ^ i)
  have e : (n : Int) / 2 ^ i = ((n / 2 ^ i : Nat) : Int) := by simp
  rw [e]
  generalize n / 2 ^ i = y at *
  have h1 := bits_mask .i64 63 (by decide) (fun m h0 h1 => by rw [IntKind.wrap_i64]; omega) 1 (by decide) (y : Int) (by omega) (by omega)
  have e2 : ((2 : Int) ^ 1 - 1) = 1 := by decide
  rw [e2] at h1
  rw [h1]; omega
set_option maxRecDepth 100000 in
set_option maxHeartbeats 2000000 in
theorem natPow_any (a : ByteArray) (k : Int) (w : World) (ha : a.size ≤ 1000) (hk : k ≤ 9223372036854775806) :
    Calls Tryz.prog 125 #[.string a, .int .i64 k] w fun e w' => e = .returned (powOut (Nt.V a) k) ∧ Below w.heap.size w w' := by
  have HT := Lib.hid (fun w => natTrim_any a w)
  have hs := Nat.le_trans (Nt.E_size_V a) ha
  obtain ⟨v, hv⟩ : ∃ v, v = Nt.V a := ⟨_, rfl⟩
  rw [← hv] at HT hs ⊢
  clear hv ha
  by_cases hneg : k < 0
  · have hr : Hid (powOut v k = .tuple #[.string ⟨#[]⟩, .int .i64 2]) := powOut_neg v k hneg
    go_enter Tryz.func125, Tryz.ntmps125
    go_wp2
    go_ret2
    exact ⟨congrArg Ending.returned hr.out.symm, Below.refl _ _⟩
  · obtain ⟨n, rfl⟩ : ∃ n : Nat, k = n := ⟨k.toNat, by omega⟩
    have HOf := Lib.hid (fun w => natOf_any 1 w (by omega))
    have HB := Lib.hid (fun w => (by have h := natBits_any (Nt.E v) w (by omega); rw [Nt.V_E] at h; exact h : Calls Tryz.prog 105 #[.string (Nt.E v)] w fun e w' => e = .returned (.int .i64 (Nt.blen v : Int)) ∧ w = w'))
    by_cases h0 : n = 0
    · subst h0
      have hr : Hid (powOut v ((0 : Nat) : Int) = .tuple #[.string (Nt.E 1), .int .i64 0]) := by
        rw [Hid, powOut_fit v 0 (by rw [Nat.pow_zero]; decide), Nat.pow_zero]
      go_enter Tryz.func125, Tryz.ntmps125
      go_wp2_with (first
        | (go_at_call 57; refine (HT.out _).mono ?_; rintro e w1 ⟨rfl, rfl⟩)
        | (go_at_call 56; refine (HOf.out _).mono ?_; rintro e w2 ⟨rfl, hb2⟩))
      go_ret2
      exact ⟨congrArg Ending.returned hr.out.symm, hb2⟩
    · have hn0 : (0 : Int) < n := by omega
      have hn00 : ((n : Int) == 0) = false := by simp; omega
      by_cases hv1 : v ≤ 1
      · have hp : v ^ n = v := by
          rcases (by omega : v = 0 ∨ v = 1) with rfl | rfl
          · exact Nat.zero_pow (by omega)
          · exact Nat.one_pow n
        have hr : Hid (powOut v (n : Int) = .tuple #[.string (Nt.E v), .int .i64 0]) := by
          rw [Hid, powOut_fit v n (by rw [hp]; exact Nat.le_trans (Nt.E_size_le hv1) (by decide)), hp]
        have hb : Nt.blen v ≤ 1 := by
          rcases (by omega : v = 0 ∨ v = 1) with rfl | rfl <;> decide
        generalize Nt.blen v = y at *
        have hb2 : (y : Int) - 1 ≤ 0 := by omega
        generalize Nt.E v = A at *
        have H00 := Lib.hid h0
        clear hv1 hp h0
        go_enter Tryz.func125, Tryz.ntmps125
        go_wp2_with (first
          | (go_at_call 57; refine (HT.out _).mono ?_; rintro e w1 ⟨rfl, rfl⟩)
          | (go_at_call 105; refine (HB.out _).mono ?_; rintro e w2 ⟨rfl, rfl⟩))
        go_ret2
        exact ⟨congrArg Ending.returned hr.out.symm, Below.refl _ _⟩
      · have hbb := Nt.blen_bounds v (by omega)
        have hbl : Nt.blen v ≤ 8001 := by
          have h1 := Nt.V_lt (Nt.E v)
          rw [Nt.V_E, Nt.pow256] at h1
          have h2 := (Nat.pow_lt_pow_iff_right (by omega : 1 < 2)).1 (Nat.lt_of_le_of_lt hbb.1 h1)
          omega
        obtain ⟨s, hs1⟩ : ∃ s, Nt.blen v = s + 1 := ⟨Nt.blen v - 1, by omega⟩
        rw [hs1, Nat.add_sub_cancel] at hbb
        have hsp : 1 ≤ s := by
          rcases Nat.eq_zero_or_pos s with rfl | h
          · have := hbb.2.1; simp at this; omega
          · exact h
        rw [hs1] at HB hbl
        have g1 : IntKind.i64.wrap (((s + 1 : Nat) : Int) - 1) = (s : Int) := (IntWalk.i64_in _ (by omega)).trans (by omega)
        have g2 : IntKind.i64.wrap ((8191 : Int).tdiv (s : Int)) = ((8191 / s : Nat) : Int) := by
          rw [Int.tdiv_eq_ediv_of_nonneg (by omega)]
          have h3 : (8191 : Int) / (s : Int) = ((8191 / s : Nat) : Int) := by simp
          have h4 := Nat.div_le_self 8191 s
          rw [h3]
          generalize 8191 / s = t at h4 ⊢
          exact IntWalk.i64_in _ (by omega)
        have hsn : ((s : Int) == 0) = false := by simp; omega
        obtain ⟨t, ht⟩ : ∃ t, t = 8191 / s := ⟨_, rfl⟩
        rw [← ht] at g2
        have hdm := Nat.mod_add_div 8191 s
        have hml := Nat.mod_lt 8191 (show s > 0 from hsp)
        rw [← ht] at hdm
        have H00 := Lib.hid h0
        clear h0 hs1 ht
        by_cases hlong : t < n
        · have hr : Hid (powOut v (n : Int) = .tuple #[.string ⟨#[]⟩, .int .i64 9]) := powOut_big v n (Nt.pow_big v s n 1024 hbb.1 (by
            have h4 : (t + 1) * s ≤ n * s := Nat.mul_le_mul hlong (Nat.le_refl _)
            rw [Nat.add_mul, Nat.mul_comm t s] at h4
            omega))
          have hbb' := Lib.hid hbb
          clear hbb hdm hml
          generalize Nt.E v = A at *
          go_enter Tryz.func125, Tryz.ntmps125
          go_wp2_with (first
            | (go_at_call 57; refine (HT.out _).mono ?_; rintro e w1 ⟨rfl, rfl⟩)
            | (go_at_call 105; refine (HB.out _).mono ?_; rintro e w2 ⟨rfl, rfl⟩))
          go_ret2
          exact ⟨congrArg Ending.returned hr.out.symm, Below.refl _ _⟩
        · have hns : n * s ≤ 8191 := by
            have h4 : n * s ≤ t * s := Nat.mul_le_mul (by omega) (Nat.le_refl _)
            rw [Nat.mul_comm t s] at h4
            omega
          have hn2 : n ≤ 8191 := Nat.le_trans (Nat.le_mul_of_pos_right n hsp) hns
          have HSZ := Lib.hid (fun j (hj : j ≤ n) => Nt.pow_fits v s n j 2048 (by omega) hbb.2.1 (by omega) hsp hj)
          have HL := Lib.hid (fun w => len_any n w (by omega))
          have hnb := Nt.blen_bounds n (by omega)
          obtain ⟨L, hL⟩ : ∃ L, L = Nt.blen n := ⟨_, rfl⟩
          rw [← hL] at HL hnb
          have hL2 : L ≤ 14 := by
            have h5 := (Nat.pow_lt_pow_iff_right (by omega : 1 < 2)).1 (Nat.lt_of_le_of_lt hnb.1 (show n < 2 ^ 13 by omega))
            omega
          have HM := Lib.hid (fun (p q : Nat) (hp : (Nt.E p).size ≤ 2048) (hq : (Nt.E q).size ≤ 2048) W => (by have h := natMul_any (Nt.E p) (Nt.E q) W (by omega) (by omega); simp only [Nt.V_E] at h; exact h : Calls Tryz.prog 92 #[.string (Nt.E p), .string (Nt.E q)] W fun e w' => e = .returned (.string (Nt.E (p * q))) ∧ Below W.heap.size W w'))
          have hz0 : n / 2 ^ L = 0 := Nat.div_eq_of_lt hnb.2.1
          have HZ := Lib.hid hz0
          have HNB := Lib.hid hnb
          have HBB := Lib.hid hbb
          clear hbb hdm hml hnb hL hz0 hns
          go_enter Tryz.func125, Tryz.ntmps125
          go_wp2_with (first
            | (go_at_call 57; refine (HT.out _).mono ?_; rintro e w1 ⟨rfl, rfl⟩)
            | (go_at_call 56; refine (HOf.out _).mono ?_; rintro e w2 ⟨rfl, hb2⟩)
            | (go_at_call 152; refine (HL.out _).mono ?_; rintro e w2 ⟨rfl, rfl⟩)
            | (go_at_call 105; refine (HB.out _).mono ?_; rintro e w2 ⟨rfl, rfl⟩))
          go_loopw [7, 8] (fun p i wr => ∃ j : Nat, j ≤ L ∧ i = .int .i64 ((j : Int) - 1) ∧ p = .string (Nt.E (v ^ (n / 2 ^ j))) ∧ Below w.heap.size w wr) (fun _ i _ => (intOf i + 1).toNat)
          case atStart => exact ⟨L, by omega, by go_num, by rw [HZ.out, Nat.pow_zero], by assumption⟩
          case round =>
            obtain ⟨j, hj, rfl, rfl, hW⟩ := hrel
            rcases j with _ | i
            · have hps := HSZ.out n (Nat.le_refl _)
              rw [Nat.pow_zero, Nat.div_one]
              have e0 : ((0 : Nat) : Int) - 1 = -1 := rfl
              rw [e0]
              have HO := Lib.hid (powOut_big v n)
              have HF := Lib.hid (powOut_fit v n)
              obtain ⟨P, hP⟩ : ∃ P, P = Nt.E (v ^ n) := ⟨_, rfl⟩
              rw [← hP] at HO HF hps ⊢
              clear hP
              by_cases hbig : 1024 < P.size
              · have hr := Lib.hid (HO.out hbig)
                go_wp2
                go_ret2
                exact ⟨congrArg Ending.returned hr.out.symm, hW⟩
              · have hr := Lib.hid (HF.out (by omega))
                go_wp2
                go_ret2
                exact ⟨congrArg Ending.returned hr.out.symm, hW⟩
            · rw [show ((i + 1 : Nat) : Int) - 1 = (i : Int) from by omega]
              have hst := Nt.half_step n i
              have hm := Nat.mod_lt (n / 2 ^ i) (show 2 > 0 by omega)
              have hle := Nat.div_le_self n (2 ^ i)
              obtain ⟨m, hm'⟩ : ∃ m, m = n / 2 ^ (i + 1) := ⟨_, rfl⟩
              obtain ⟨x, hx⟩ : ∃ x, x = n / 2 ^ i := ⟨_, rfl⟩
              rw [← hm', ← hx] at hst
              rw [← hx] at hm hle
              have hpm := HSZ.out m (by omega)
              rw [← hm']
              have hand := and_one n i (by omega)
              rw [← hx] at hand
              have HX := Lib.hid hx
              clear hx hm'
              by_cases hb : x % 2 = 1
              · have h1 := HM.out (v ^ m) (v ^ m) hpm hpm
                have h2 := HM.out (v ^ m * v ^ m) v (by rw [← Nat.pow_add]; exact HSZ.out _ (by omega)) (by have := HSZ.out 1 (by omega); rwa [Nat.pow_one] at this)
                have e1 : v ^ m * v ^ m * v = v ^ x := by rw [← Nat.pow_add, ← Nat.pow_succ]; congr 1; omega
                rw [e1] at h2
                have H1 := Lib.hid h1
                have H2 := Lib.hid h2
                rw [hb] at hand
                clear h1 h2 e1 hst
                go_wp2_with (first
                  | (go_at_call_of 92 (Nt.E (v ^ m)); refine (H1.out _).mono ?_; rintro e w2 ⟨rfl, hb2⟩)
                  | (go_at_call 92; refine (H2.out _).mono ?_; rintro e w3 ⟨rfl, hb3⟩))
                all_goals (have hw1 := hW.trans (hb2.mono hW.size))
                exact ⟨⟨i, by omega, by go_num, by rw [← HX.out], hw1.trans (hb3.mono hw1.size)⟩, by simp [intOf]⟩
              · have h1 := HM.out (v ^ m) (v ^ m) hpm hpm
                have e1 : v ^ m * v ^ m = v ^ x := by rw [← Nat.pow_add]; congr 1; omega
                rw [e1] at h1
                have H1 := Lib.hid h1
                rw [show x % 2 = 0 from by omega] at hand
                clear h1 e1 hst
                go_wp2_with (go_at_call 92; refine (H1.out _).mono ?_; rintro e w2 ⟨rfl, hb2⟩)
                exact ⟨⟨i, by omega, by go_num, by rw [← HX.out], hW.trans (hb2.mono hW.size)⟩, by simp [intOf]⟩
end Go.Proofs.YtjbpipbmcicjiaaGreatDoor
