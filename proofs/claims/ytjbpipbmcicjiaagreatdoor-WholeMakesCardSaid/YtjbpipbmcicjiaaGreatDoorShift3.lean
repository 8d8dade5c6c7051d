/-
  THE PROGRAM: Shr.
-/
import Derived.Test.YtjbpipbmcicjiaaGreatDoorShift1
namespace Go.Proofs.YtjbpipbmcicjiaaGreatDoor
open Go.RowKit Go.Shelf

theorem Nt.blen_le_size (v : Nat) : Nt.blen v ≤ 8 * (Nt.E v).size := by
  by_cases h : v = 0
  · subst h; exact Nat.zero_le _
  · have h1 := Nt.blen_bounds v h
    have h2 := Nt.V_lt (Nt.E v)
    rw [Nt.V_E, Nt.pow256] at h2
    have h3 := (Nat.pow_lt_pow_iff_right (by omega : 1 < 2)).1 (Nat.lt_of_le_of_lt h1.1 h2)
    omega
theorem Nt.lt_blen (v : Nat) : v < 2 ^ Nt.blen v := by
  by_cases h : v = 0
  · subst h; decide
  · exact (Nt.blen_bounds v h).2.1
/-- a byte of a number shifted down by less than a byte: out of the byte ahead and its own. -/
theorem Nt.shr_byte (u m k r : Nat) (hk : k < m) (hr : r < 8) : (u / 256 ^ (m - k) % 256 * 256 + u / 256 ^ (m - (k + 1)) % 256) / 2 ^ r % 256 = Nt.dig (u / 2 ^ r) (m - 1 - k) := by
  have e1 : m - k = m - (k + 1) + 1 := by omega
  have e2 : m - 1 - k = m - (k + 1) := by omega
  rw [e1, e2, Nat.pow_succ]
  unfold Nt.dig
  rw [Nat.div_div_eq_div_mul u (2 ^ r), Nat.mul_comm (2 ^ r), ← Nat.div_div_eq_div_mul u, ← Nat.div_div_eq_div_mul u]
  generalize u / 256 ^ (m - (k + 1)) = x
  have h : x / 256 % 256 * 256 + x % 256 = x % 65536 := by omega
  rw [h]
  rcases (by omega : r = 0 ∨ r = 1 ∨ r = 2 ∨ r = 3 ∨ r = 4 ∨ r = 5 ∨ r = 6 ∨ r = 7) with rfl | rfl | rfl | rfl | rfl | rfl | rfl | rfl <;> simp <;> omega

set_option maxRecDepth 100000 in
set_option maxHeartbeats 2000000 in
theorem natShr_any (a : ByteArray) (k : Int) (w : World) (ha : a.size ≤ 100000) (hk : k ≤ 9223372036854775807) :
    Calls Tryz.prog 128 #[.string a, .int .i64 k] w fun e w' => e = .returned (.string (Nt.E (shrNum (Nt.V a) k))) ∧ Below w.heap.size w w' := by
  have HT := Lib.hid (fun w => natTrim_any a w)
  have hs := Nat.le_trans (Nt.E_size_V a) ha
  obtain ⟨v, hv⟩ : ∃ v, v = Nt.V a := ⟨_, rfl⟩
  rw [← hv] at HT hs ⊢
  clear hv ha
  by_cases hneg : k ≤ 0
  · have hr : Hid (shrNum v k = v) := by
      rcases (by omega : k < 0 ∨ k = 0) with h | rfl
      · exact if_pos h
      · rw [Hid, shrNum, if_neg (by omega)]; simp
    go_enter Tryz.func128, Tryz.ntmps128
    go_wp2_with (go_at_call 57; refine (HT.out _).mono ?_; rintro e w1 ⟨rfl, rfl⟩)
    go_ret
    exact ⟨ret_str (by rw [hr.out]), Below.refl _ _⟩
  · obtain ⟨n, rfl⟩ : ∃ n : Nat, k = n := ⟨k.toNat, by omega⟩
    have HB := Lib.hid (fun w => (by have h := natBits_any (Nt.E v) w (by omega); rw [Nt.V_E] at h; exact h : Calls Tryz.prog 105 #[.string (Nt.E v)] w fun e w' => e = .returned (.int .i64 (Nt.blen v : Int)) ∧ w = w'))
    have hbs := Nt.blen_le_size v
    have htk := Nt.V_take (Nt.E v)
    rw [Nt.V_E] at htk
    have hlb := Nt.lt_blen v
    have hr : shrNum v (n : Int) = v / 256 ^ (n / 8) / 2 ^ (n % 8) := by
      rw [shrNum, if_neg (by omega), Int.toNat_natCast, Nt.two_split n, Nat.div_div_eq_div_mul]
    obtain ⟨A, hA⟩ : ∃ A, A = Nt.E v := ⟨_, rfl⟩
    rw [← hA] at HT HB hs hbs htk
    generalize Nt.blen v = L at *
    clear hA
    by_cases hbig : L ≤ n
    · have hr0 : Hid (Nt.E (shrNum v (n : Int)) = ⟨#[]⟩) := by
        rw [Hid, shrNum, if_neg (by omega), Int.toNat_natCast, Nat.div_eq_of_lt (Nat.lt_of_lt_of_le hlb (Nat.pow_le_pow_right (by omega) hbig))]; rfl
      clear hr htk hlb
      go_enter Tryz.func128, Tryz.ntmps128
      go_wp2_with (first
        | (go_at_call 57; refine (HT.out _).mono ?_; rintro e w1 ⟨rfl, rfl⟩)
        | (go_at_call 105; refine (HB.out _).mono ?_; rintro e w1 ⟨rfl, rfl⟩))
      go_ret
      exact ⟨ret_str (by rw [hr0.out]), Below.refl _ _⟩
    · have hq : n / 8 < A.size := by omega
      have hm : Nt.V (A.extract 0 (A.size - n / 8)) = v / 256 ^ (n / 8) := by
        rw [htk]; congr 2; omega
      have hxs : (A.extract 0 (A.size - n / 8)).size = A.size - n / 8 := by simp
      rw [← hm] at hr
      obtain ⟨t, ht⟩ : ∃ t, t = A.extract 0 (A.size - n / 8) := ⟨_, rfl⟩
      rw [← ht] at hr hxs
      have HX := Lib.hid ht
      have HR := Lib.hid hr
      have hts : t.size ≤ 100000 := by omega
      have hmk := fun W => run_zeros (P := Tryz.prog) 94 5 .u8 1 Tryz.underlying94 Tryz.infoU8 (A.size - n / 8) (by omega) (by omega) W
      clear ht hr htk hlb hm
      have HS := Lib.hid hxs
      clear hxs
      go_enter Tryz.func128, Tryz.ntmps128
      go_wp2_with (first
        | (go_at_call 57; refine (HT.out _).mono ?_; rintro e w1 ⟨rfl, rfl⟩)
        | (go_at_call 105; refine (HB.out _).mono ?_; rintro e w1 ⟨rfl, rfl⟩))
      rw [← HX.out, ← HS.out]
      go_loopw [6, 30] (fun c i wr => ∃ k : Nat, k ≤ t.size ∧ i = .int .i64 k ∧ c = .int .u64 ((Nt.top t k % 256 : Nat) : Int) ∧ Blk wr w.heap.size 5 (kV .u8 (Nt.upTo (Nt.V t / 2 ^ (n % 8)) t.size k)) ∧ Below w.heap.size w wr) (fun _ i _ => t.size - (intOf i).toNat)
      case atStart => exact ⟨0, by omega, rfl, by rw [Nt.top_zero]; rfl, by rw [Nt.upTo_zero]; exact Blk.new _ _ _, (Below.refl _ _).alloc (Nat.le_refl _) _⟩
      case round =>
        obtain ⟨k, hk, rfl, rfl, hB, hW⟩ := hrel
        by_cases hlt : k < t.size
        · have hs1 := Nt.top_step t k hlt
          have hd := UInt8.toNat_lt (t[k]'hlt)
          have hsh := Nt.shr_byte (Nt.V t) t.size k (n % 8) hlt (by omega)
          have etop : Nt.V t / 256 ^ (t.size - k) = Nt.top t k := rfl
          have etop1 : Nt.V t / 256 ^ (t.size - (k + 1)) = Nt.top t (k + 1) := rfl
          rw [etop, etop1] at hsh
          have hx : Nt.top t (k + 1) % 256 = (t[k]'hlt).toNat := by rw [hs1]; omega
          rw [hx] at hsh
          have HX1 := Lib.hid hx
          have ho := or_low (Nt.top t k % 256) (t[k]'hlt).toNat (by omega) hd
          obtain ⟨x, hxx⟩ : ∃ x, x = Nt.top t k % 256 := ⟨_, rfl⟩
          rw [← hxx] at hsh ho ⊢
          have hx256 : x < 256 := by omega
          have hlen : k < (Nt.upTo (Nt.V t / 2 ^ (n % 8)) t.size k).length := by rw [Nt.upTo_length _ _ _ hk]; exact hlt
          have hc2 : wr.cell? ⟨w.heap.size, k, none⟩ = some (.int .u8 (((Nt.upTo (Nt.V t / 2 ^ (n % 8)) t.size k)[k]'hlen : Nat) : Int)) := (hB.cell _).trans (kV_get_lt _ _ _ hlen)
          have hf2 : wr.frozen? ⟨w.heap.size, k, none⟩ = false := hB.frozen _
          have HSH := Lib.hid hsh
          clear hsh hs1 hx hxx etop etop1
          rw [u64w (by omega) (by omega)] at ho
          have hand := and_255 (x * 256 + (t[k]'hlt).toNat) (by omega)
          rw [show (x * 256 + (t[k]'hlt).toNat) % 256 = (t[k]'hlt).toNat from by omega] at hand
          have HO := Lib.hid ho
          have HN := Lib.hid hand
          clear ho hand
          go_wp2
          rw [HO.out, HN.out]
          refine ⟨⟨k + 1, by omega, by go_num, by rw [HX1.out], ?_, hW.setCell (p := ⟨w.heap.size, k, none⟩) (Nat.le_refl _) _⟩, by simp [intOf]; omega⟩
          have e : ((x * 256 + (t[k]'hlt).toNat : Nat) : Int) / 2 ^ (n % 8) % 256 = ((Nt.dig (Nt.V t / 2 ^ (n % 8)) (t.size - 1 - k) : Nat) : Int) := by
            rw [← HSH.out]; simp
          rw [e, ← Nt.upTo_set _ t.size k _ hlt rfl, ← kV_set]
          exact hB.put _ _
        · obtain rfl : k = t.size := by omega
          have hT := run_text (P := Tryz.prog) 94 9 5 Tryz.underlying94 Tryz.underlying5 Tryz.underlying9 w.heap.size t.size t.size _ (Nt.upTo_length (Nt.V t / 2 ^ (n % 8)) t.size t.size hk) wr hB
          rw [Nt.upTo_all] at hT
          have hf : Hid (Nt.E (Nt.V ⟨((Nt.digs (Nt.V t / 2 ^ (n % 8)) t.size).map UInt8.ofNat).toArray⟩) = Nt.E (shrNum v (n : Int))) := by
            rw [Hid, Nt.V_digs_lt (Nat.lt_of_le_of_lt (Nat.div_le_self _ _) (Nt.V_lt t)), HR.out]
          go_wp2_with (go_at_call 57; refine (natTrim_any _ _).mono ?_; rintro e w1 ⟨rfl, rfl⟩)
          go_ret
          exact ⟨ret_str (by rw [hf.out]), hW⟩
end Go.Proofs.YtjbpipbmcicjiaaGreatDoor
