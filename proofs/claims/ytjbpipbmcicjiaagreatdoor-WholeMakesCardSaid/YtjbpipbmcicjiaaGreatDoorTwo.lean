/-
  THE PROGRAM: twoTo, Shl.
-/
import Derived.Test.YtjbpipbmcicjiaaGreatDoorShelf
import Derived.Test.YtjbpipbmcicjiaaGreatDoorShift3
import Derived.Deep.RegionWith
namespace Go.Proofs.YtjbpipbmcicjiaaGreatDoor
open Go.RowKit Go.Shelf

theorem Nt.size_gt2 {x M : Nat} (h : 2 ^ (8 * M) ≤ x) : M < (Nt.E x).size := Nt.size_gt (by rwa [Nt.pow256])
theorem Nt.size_le2 {x M : Nat} (h : x < 2 ^ (8 * M)) : (Nt.E x).size ≤ M := Nt.E_size_lt (by rwa [Nt.pow256])
theorem Nt.shl_hi (v L n M : Nat) (h : 2 ^ L ≤ v) (h2 : 8 * M ≤ L + n) : M < (Nt.E (v * 2 ^ n)).size := Nt.size_gt2 (by
  refine Nat.le_trans (Nat.pow_le_pow_right (by omega) h2) ?_
  rw [Nat.pow_add]
  exact Nat.mul_le_mul h (Nat.le_refl _))
theorem Nt.shl_lo (v L n M : Nat) (h : v < 2 ^ L) (h2 : L + n ≤ 8 * M) : (Nt.E (v * 2 ^ n)).size ≤ M := Nt.size_le2 (by
  refine Nat.lt_of_lt_of_le (Nat.mul_lt_mul_of_pos_right h (Nat.two_pow_pos n)) ?_
  rw [← Nat.pow_add]
  exact Nat.pow_le_pow_right (by omega) h2)
theorem val_zeros (c : UInt8) (m : Nat) : Nt.val (c :: List.replicate m 0) = c.toNat * 256 ^ m := by
  induction m with
  | zero => simp [Nt.val_cons, Nt.val_nil]
  | succ m ih =>
    have e : c :: List.replicate (m + 1) (0 : UInt8) = (c :: List.replicate m 0) ++ [0] := by
      rw [List.cons_append, ← List.replicate_succ']
    rw [e, Nt.val_snoc, ih, Nat.pow_succ, Nat.mul_assoc]; rfl
theorem two_text (n : Nat) : (⟨#[UInt8.ofNat (2 ^ (n % 8))]⟩ : ByteArray) ++ ⟨(List.replicate (n / 8) 0).toArray⟩ = Nt.E (2 ^ n) := by
  have hp : 2 ^ (n % 8) < 256 := by
    have := Nat.pow_le_pow_right (show 0 < 2 by omega) (show n % 8 ≤ 7 by omega)
    omega
  have hp0 : 0 < 2 ^ (n % 8) := Nat.two_pow_pos _
  have hc : (UInt8.ofNat (2 ^ (n % 8))).toNat = 2 ^ (n % 8) := by rw [UInt8.toNat_ofNat']; exact Nat.mod_eq_of_lt hp
  have e : (⟨#[UInt8.ofNat (2 ^ (n % 8))]⟩ : ByteArray) ++ ⟨(List.replicate (n / 8) 0).toArray⟩ = ⟨(UInt8.ofNat (2 ^ (n % 8)) :: List.replicate (n / 8) 0).toArray⟩ := by
    rw [show (⟨#[UInt8.ofNat (2 ^ (n % 8))]⟩ : ByteArray) = ⟨[UInt8.ofNat (2 ^ (n % 8))].toArray⟩ from rfl, str_append]; rfl
  rw [e]
  have hv : Nt.V ⟨(UInt8.ofNat (2 ^ (n % 8)) :: List.replicate (n / 8) 0).toArray⟩ = 2 ^ n := by
    show Nt.val _ = _
    rw [val_zeros, hc, Nt.two_split n, Nat.mul_comm]
  have hh := Nt.E_V_head ⟨(UInt8.ofNat (2 ^ (n % 8)) :: List.replicate (n / 8) 0).toArray⟩ (show 0 < (UInt8.ofNat (2 ^ (n % 8)) :: List.replicate (n / 8) 0).length from by simp) (by
    show (UInt8.ofNat (2 ^ (n % 8))).toNat ≠ 0
    omega)
  rw [hv] at hh
  exact hh.symm

set_option maxRecDepth 100000 in
set_option maxHeartbeats 2000000 in
theorem twoTo_any (n : Nat) (w : World) (hn : n ≤ 100000) :
    Calls Tryz.prog 127 #[.int .i64 (n : Int)] w fun e w' => e = .returned (.string (Nt.E (2 ^ n))) ∧ Below w.heap.size w w' := by
  have hr := fun W => Tryz.strings_Repeat ⟨#[0]⟩ (n / 8) W (by omega) (by show 1 * (n / 8) ≤ _; omega)
  have HT := Lib.hid (two_text n)
  have hc : ∀ c : Nat, #[Value.int .u8 (c : Int)] = kV .u8 [c] := fun c => rfl
  obtain ⟨c, hcc⟩ : ∃ c, c = 2 ^ (n % 8) := ⟨_, rfl⟩
  have hc256 : c < 256 := by
    have := Nat.pow_le_pow_right (show 0 < 2 by omega) (show n % 8 ≤ 7 by omega)
    rw [hcc]; omega
  rw [← hcc] at HT
  have g1 : IntKind.u8.wrap (2 ^ min (n % 8) 8) = (c : Int) := by
    rw [show min (n % 8) 8 = n % 8 from by omega, show ((2 : Int) ^ (n % 8)) = (c : Int) from by rw [hcc]; simp]
    show (c : Int) % 256 = (c : Int); omega
  have hx2 := fun g W (hB : Blk W g 5 #[.int .u8 (c : Int)]) => run_text (P := Tryz.prog) 94 9 5 Tryz.underlying94 Tryz.underlying5 Tryz.underlying9 g 1 1 [c] rfl W hB
  simp only [List.map_cons, List.map_nil] at hx2
  obtain ⟨O, hO⟩ : ∃ O : ByteArray, O = ⟨#[UInt8.ofNat c]⟩ := ⟨_, rfl⟩
  have hO1 : O.size = 1 := by rw [hO]; rfl
  rw [← hO] at hx2 HT
  have HX2 := Lib.hid hx2
  have hxA := HX2.out _ _ ((Blk.new w 5 #[.int .u8 (c : Int)]).drew)
  have hrp : (Lib.repeatL [0] (n / 8) = List.replicate (n / 8) 0) := by
    have := Lib.repeatL_replicate 0 1 (n / 8)
    rw [Nat.mul_one] at this; exact this
  obtain ⟨r, hr'⟩ : ∃ r, r = n % 8 := ⟨_, rfl⟩
  obtain ⟨q, hq'⟩ : ∃ q, q = n / 8 := ⟨_, rfl⟩
  have g3 : (n : Int).tmod 8 = (r : Int) := by rw [Int.tmod_eq_emod_of_nonneg (by omega)]; omega
  have g4 : IntKind.i64.wrap ((n : Int) / 8) = (q : Int) := by
    rw [show (n : Int) / 8 = (q : Int) from by omega]; exact IntWalk.i64_in _ (by omega)
  have g5 : IntKind.i64.wrap (r : Int) = (r : Int) := IntWalk.i64_in _ (by omega)
  have g6 : (0 : Int) ≤ (r : Int) := by omega
  rw [← hr'] at g1
  rw [← hq'] at HT hrp hr
  rw [show (⟨#[0]⟩ : ByteArray).data.toList = [0] from rfl, hrp] at hr
  obtain ⟨Z, hZ⟩ : ∃ Z : ByteArray, Z = ⟨(List.replicate q 0).toArray⟩ := ⟨_, rfl⟩
  have hZ1 : Z.size = q := by rw [hZ]; show (List.replicate q (0 : UInt8)).toArray.size = q; simp
  have hZ2 : Z.size ≤ 20000 := by omega
  have hO2 : O.size ≤ 1 := by omega
  rw [← hZ] at hr HT
  have HR := Lib.hid hr
  clear hcc hx2 hc hr' hq' hr hrp hO hO1 hZ hZ1
  go_enter Tryz.func127, Tryz.ntmps127
  go_wp2
  go_region_with (go_at_call 153; refine (HR.out _).mono ?_; rintro e w1 ⟨rfl, hb1⟩; have hxC := HX2.out _ _ (Blk.new w1 5 #[.int .u8 (c : Int)]); try have hxB := HX2.out _ _ (Blk.below ((Blk.new w 5 #[.int .u8 (c : Int)]).drew) hb1 (by simp)))
  all_goals (go_wp2; go_ret)
  all_goals first
    | exact ⟨ret_str HT.out, ((Below.refl w.heap.size w).alloc (Nat.le_refl _) _).drew.trans (hb1.mono (show w.heap.size ≤ (w.alloc _).heap.size from by simp))⟩
    | (have hb2 : Below w.heap.size w w1 := ((Below.refl w.heap.size w).drew).trans hb1
       exact ⟨ret_str HT.out, hb2.alloc hb2.size _⟩)

end Go.Proofs.YtjbpipbmcicjiaaGreatDoor
