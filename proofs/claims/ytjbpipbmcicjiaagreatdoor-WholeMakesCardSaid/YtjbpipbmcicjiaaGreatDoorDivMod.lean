/-
  THE PROGRAM: DivMod, Gcd, out of what the limbs' functions answer.
  THE PROGRAM: Gcd, out of what the limbs' functions answer.
  PLAIN MATHS: four digits of a text are a word; the list of words grows.
  A TEXT's LIMBS.
  FOUR DIGITS AT A TIME.
  LIMBS AS A TEXT.
-/
import Derived.Test.YtjbpipbmcicjiaaGreatDoorLimbs1
import Derived.Test.YtjbpipbmcicjiaaGreatDoorShift1
import Derived.Laws.MakeOwn
namespace Go.Proofs.YtjbpipbmcicjiaaGreatDoor
open Go.RowKit Go.Shelf

/-- what the limbs' functions are owed: proved apart. -/
structure LimbsOk : Prop where
  of : ∀ (a : ByteArray) (w : World), a.size ≤ 2000 → Calls Tryz.prog 135 #[.string a] w fun e w' => (∃ v, e = .returned v ∧ Lim w' v (Nt.V a)) ∧ Below w.heap.size w w'
  text : ∀ (v : Value) (N : Nat) (w : World), Lim w v N → (Nt.E N).size ≤ 2000 → Calls Tryz.prog 137 #[v] w fun e w' => e = .returned (.string (Nt.E N)) ∧ Below w.heap.size w w'
  divided : ∀ (u v : Value) (U V : Nat) (w : World), Lim w u U → Lim w v V → 0 < V → (Nt.E U).size ≤ 2000 → (Nt.E V).size ≤ 2000 → Calls Tryz.prog 136 #[u, v] w fun e w' => (∃ q r, e = .returned (.tuple #[q, r]) ∧ Lim w' q (U / V) ∧ Lim w' r (U % V)) ∧ Below w.heap.size w w'

theorem Lim.zero {w : World} {v : Value} (h : Lim w v 0) : ∃ A cap, v = .slice A 0 cap := by
  rcases h with ⟨rfl, _⟩ | ⟨g, k, cap, rfl, h2, h3, h4, h5, h6⟩
  · exact ⟨_, _, rfl⟩
  · rcases h6 with rfl | h6
    · exact ⟨_, _, rfl⟩
    · have : 0 < 4294967296 ^ (k - 1) := Nat.pow_pos (by omega)
      omega
theorem Lim.pos {w : World} {v : Value} {N : Nat} (h : Lim w v N) (h0 : 0 < N) : ∃ A k cap, 0 < k ∧ v = .slice A k cap := by
  rcases h with ⟨rfl, _⟩ | ⟨g, k, cap, rfl, h2, h3, h4, h5, h6⟩
  · omega
  · refine ⟨_, k, _, ?_, rfl⟩
    rcases Nat.eq_zero_or_pos k with rfl | h
    · rw [Nat.pow_zero] at h5; omega
    · exact h

set_option maxRecDepth 100000 in
set_option maxHeartbeats 2000000 in
theorem divMod_of (H : LimbsOk) : DivModOk := by
  intro a b w ha hb
  have hsa := Nat.le_trans (Nt.E_size_V a) ha
  have hsb := Nat.le_trans (Nt.E_size_V b) hb
  have HA := Lib.hid (fun w => H.of a w ha)
  have HB := H.of b
  have HT := Lib.hid H.text
  have HD := Lib.hid H.divided
  clear H
  generalize Nt.V a = U at *
  generalize Nt.V b = V at *
  by_cases h0 : V = 0
  · subst h0
    have HZ := Lib.hid (fun w => (HB w hb).mono (fun e w' (h : (∃ v, e = .returned v ∧ Lim w' v 0) ∧ Below w.heap.size w w') => (by
      obtain ⟨⟨v, rfl, hl⟩, hb⟩ := h
      obtain ⟨A, cap, rfl⟩ := hl.zero
      exact ⟨⟨A, cap, rfl⟩, hb⟩ : (∃ A cap, e = .returned (.slice A 0 cap)) ∧ Below w.heap.size w w')))
    have hr : Hid (divOut U 0 = .tuple #[.string ⟨#[]⟩, .string ⟨#[]⟩, .int .i64 5]) := by rw [Hid, divOut, if_pos rfl]
    clear HB
    go_enter Tryz.func98, Tryz.ntmps98
    go_wp2_with (go_at_call_of 135 b; refine (HZ.out _).mono ?_; rintro e w1 ⟨⟨A, cap, rfl⟩, hb1⟩)
    go_ret3
    exact ⟨congrArg Ending.returned hr.out.symm, hb1⟩
  · have hV : 0 < V := by omega
    have HP := Lib.hid (fun w => (HB w hb).mono (fun e w' (h : (∃ v, e = .returned v ∧ Lim w' v V) ∧ Below w.heap.size w w') => (by
      obtain ⟨⟨v, rfl, hl⟩, hb⟩ := h
      obtain ⟨A, k, cap, hk, rfl⟩ := hl.pos hV
      exact ⟨⟨A, k, cap, hk, rfl, hl⟩, hb⟩ : (∃ A k cap, 0 < k ∧ e = .returned (.slice A k cap) ∧ Lim w' (.slice A k cap) V) ∧ Below w.heap.size w w')))
    have hr : Hid (divOut U V = .tuple #[.string (Nt.E (U / V)), .string (Nt.E (U % V)), .int .i64 0]) := by rw [Hid, divOut, if_neg h0]
    have hq1 := Nat.le_trans (Nt.E_size_le (Nat.div_le_self U V)) hsa
    have hm1 := Nat.le_trans (Nt.E_size_le (Nat.mod_le U V)) hsa
    clear HB h0
    go_enter Tryz.func98, Tryz.ntmps98
    go_wp2_with (first
      | (go_at_call_of 135 b; refine (HP.out _).mono ?_; rintro e w1 ⟨⟨A, k, cap, hk, rfl, hl1⟩, hb1⟩; have hk0 : ((k : Int) == 0) = false := by simp; omega)
      | (go_at_call_of 135 a; refine (HA.out _).mono ?_; rintro e w2 ⟨⟨u, rfl, hl2⟩, hb2⟩)
      | (go_at_call 136; refine (HD.out _ _ U V _ hl2 (hl1.below hb2 (Nat.le_refl _)) hV hsa hsb).mono ?_; rintro e w3 ⟨⟨q, r, rfl, hq, hr3⟩, hb3⟩)
      | (go_at_call_of 137 q; refine (HT.out q (U / V) _ hq hq1).mono ?_; rintro e w4 ⟨rfl, hb4⟩)
      | (go_at_call_of 137 r; refine (HT.out r (U % V) _ (hr3.below hb4 (Nat.le_refl _)) hm1).mono ?_; rintro e w5 ⟨rfl, hb5⟩))
    go_ret3
    have h2 := hb1.trans (hb2.mono hb1.size)
    have h3 := h2.trans (hb3.mono h2.size)
    have h4 := h3.trans (hb4.mono h3.size)
    exact ⟨congrArg Ending.returned hr.out.symm, h4.trans (hb5.mono h4.size)⟩
end Go.Proofs.YtjbpipbmcicjiaaGreatDoor
namespace Go.Proofs.YtjbpipbmcicjiaaGreatDoor
open Go.RowKit Go.Shelf

theorem Lim.uniq {w : World} {v : Value} {N M : Nat} (h : Lim w v N) (h' : Lim w v M) : N = M := by
  rcases h with ⟨rfl, rfl⟩ | ⟨g, k, cap, rfl, _, _, h4, h5, _⟩
  · rcases h' with ⟨_, rfl⟩ | ⟨g, k, cap, e, _⟩
    · rfl
    · simp at e
  · rcases h' with ⟨e, _⟩ | ⟨g', k', cap', e, _, _, h4', h5', _⟩
    · simp at e
    · simp only [Value.slice.injEq, Option.some.injEq, Addr.mk.injEq, and_true] at e
      obtain ⟨rfl, rfl, _⟩ := e
      have hw : Nt.wds N k = Nt.wds M k := by
        apply List.ext_getElem (by simp [Nt.wds])
        intro i h1 h2
        have a1 := h4 i h1
        have a2 := h4' i h2
        rw [a1] at a2
        simp only [Option.some.injEq, Value.int.injEq, true_and] at a2
        exact_mod_cast a2
      have e1 := Nt.lw_wds N k
      have e2 := Nt.lw_wds M k
      rw [hw, e2, Nat.mod_eq_of_lt h5, Nat.mod_eq_of_lt h5'] at e1
      exact e1.symm
open Classical in
/-- the number that limbs hold. -/
noncomputable def numOf (w : World) (v : Value) : Nat := if h : ∃ N, Lim w v N then Classical.choose h else 0
theorem numOf_eq {w : World} {v : Value} {N : Nat} (h : Lim w v N) : numOf w v = N := by
  have hx : ∃ N, Lim w v N := ⟨N, h⟩
  rw [numOf, dif_pos hx]
  exact (Classical.choose_spec hx).uniq h

set_option maxRecDepth 100000 in
set_option maxHeartbeats 2000000 in
theorem gcd_of (H : LimbsOk) (a b : ByteArray) (w : World) (ha : a.size ≤ 2000) (hb : b.size ≤ 2000) :
    Calls Tryz.prog 148 #[.string a, .string b] w fun e w' => e = .returned (.string (Nt.E (Nat.gcd (Nt.V a) (Nt.V b)))) ∧ Below w.heap.size w w' := by
  have hsa := Nat.le_trans (Nt.E_size_V a) ha
  have hsb := Nat.le_trans (Nt.E_size_V b) hb
  have HA := Lib.hid (fun w => H.of a w ha)
  have HB := Lib.hid (fun w => H.of b w hb)
  have HT := Lib.hid H.text
  have HD := Lib.hid H.divided
  clear H
  generalize Nt.V a = U at *
  generalize Nt.V b = V at *
  obtain ⟨g, hg⟩ : ∃ g, g = Nat.gcd U V := ⟨_, rfl⟩
  rw [← hg]
  have HG := Lib.hid hg
  clear hg
  go_enter Tryz.func148, Tryz.ntmps148
  go_wp2_with (first
    | (go_at_call_of 135 a; refine (HA.out _).mono ?_; rintro e w1 ⟨⟨u, rfl, hl1⟩, hb1⟩)
    | (go_at_call_of 135 b; refine (HB.out _).mono ?_; rintro e w2 ⟨⟨v, rfl, hl2⟩, hb2⟩))
  go_loopw [5, 6] (fun x y wr => ∃ X Y : Nat, Lim wr x X ∧ Lim wr y Y ∧ Nat.gcd X Y = g ∧ (Nt.E X).size ≤ 2000 ∧ (Nt.E Y).size ≤ 2000 ∧ Below w.heap.size w wr) (fun _ y wr => numOf wr y)
  case atStart => exact ⟨U, V, hl1.below hb2 (Nat.le_refl _), hl2, HG.out.symm, hsa, hsb, hb1.trans (hb2.mono hb1.size)⟩
  case round =>
    obtain ⟨X, Y, hx, hy, hgg, hxs, hys, hW⟩ := hrel
    by_cases h0 : Y = 0
    · subst h0
      obtain ⟨A, cap, e⟩ := hy.zero
      subst e
      have hf : Hid (g = X) := by rw [Hid, ← hgg, Nat.gcd_zero_right]
      clear hgg
      go_wp2_with (go_at_call 137; refine (HT.out _ X _ hx hxs).mono ?_; rintro e w4 ⟨rfl, hb4⟩)
      go_ret
      exact ⟨ret_str (by rw [hf.out]), hW.trans (hb4.mono hW.size)⟩
    · have hY : 0 < Y := by omega
      have hm : Hid (numOf wr _ = Y) := numOf_eq hy
      obtain ⟨A, k, cap, hk, e⟩ := hy.pos hY
      subst e
      have hg2 : Hid (Nat.gcd Y (X % Y) = g) := by rw [Hid, Nat.gcd_comm Y, ← Nat.gcd_rec, Nat.gcd_comm]; exact hgg
      have hlt := Nat.mod_lt X hY
      have hms := Nat.le_trans (Nt.E_size_le (Nat.mod_le X Y)) hxs
      have hk0 : (0 : Int) < k := by omega
      clear hgg h0
      go_wp2_with (go_at_call 136; refine (HD.out _ _ X Y _ hx hy hY hxs hys).mono ?_; rintro e w3 ⟨⟨q, r, rfl, hq, hr3⟩, hb3⟩)
      refine ⟨⟨Y, X % Y, hy.below hb3 (Nat.le_refl _), hr3, hg2.out, hys, hms, hW.trans (hb3.mono hW.size)⟩, ?_⟩
      rw [numOf_eq hy, numOf_eq hr3]
      exact hlt
end Go.Proofs.YtjbpipbmcicjiaaGreatDoor
namespace Go.Proofs.YtjbpipbmcicjiaaGreatDoor
open Go.RowKit Go.Shelf

theorem Nt.V_drop (s : ByteArray) (i : Nat) (h : i ≤ s.size) : Nt.V (s.extract i s.size) = Nt.V s % 256 ^ (s.size - i) := by
  have e : (s.extract i s.size).data.toList = s.data.toList.drop i := by
    rw [ByteArray.data_extract, Array.toList_extract]
    have : s.data.toList.length = s.size := rfl
    simp only [List.extract]
    rw [List.take_of_length_le (by rw [List.length_drop]; omega)]
  have hl : (s.data.toList.drop i).length = s.size - i := by rw [List.length_drop]; rfl
  show Nt.val (s.extract i s.size).data.toList = Nt.val s.data.toList % 256 ^ (s.size - i)
  rw [e]
  conv => rhs; rw [← List.take_append_drop i s.data.toList]
  rw [Nt.val_append, hl, Nat.add_comm, Nat.add_mul_mod_self_right]
  have hlt := Nt.val_lt (s.data.toList.drop i)
  rw [hl] at hlt
  exact (Nat.mod_eq_of_lt hlt).symm
theorem Nt.V_mid (s : ByteArray) (i j : Nat) (h : i ≤ j) (hj : j ≤ s.size) : Nt.V (s.extract i j) = Nt.V s / 256 ^ (s.size - j) % 256 ^ (j - i) := by
  have e : s.extract i j = (s.extract 0 j).extract i (s.extract 0 j).size := by
    have hsz : (s.extract 0 j).size = j := by simp; omega
    rw [hsz]
    apply ByteArray.ext
    simp only [ByteArray.data_extract]
    apply Array.ext_getElem?
    intro k
    simp only [Array.getElem?_extract]
    simp
    split
    · rw [if_pos (by omega)]
    · rfl
  have hsz : (s.extract 0 j).size = j := by simp; omega
  rw [e, Nt.V_drop _ _ (by omega), Nt.V_take, hsz]
theorem Nt.wds_snoc (N k : Nat) : Nt.wds N (k + 1) = Nt.wds N k ++ [Nt.wd N k] := by simp [Nt.wds, List.range_succ]
/-- the word that four digits (fewer at the head) make. -/
theorem Nt.V_word (s : ByteArray) (k : Nat) (hk : 4 * k < s.size) : Nt.V (s.extract (s.size - 4 * (k + 1)) (s.size - 4 * k)) = Nt.wd (Nt.V s) k := by
  rw [Nt.V_mid s _ _ (by omega) (by omega), show s.size - (s.size - 4 * k) = 4 * k from by omega]
  unfold Nt.wd
  rw [Nt.pow32, ← Nt.pow4]
  by_cases h : 4 * (k + 1) ≤ s.size
  · rw [show s.size - 4 * k - (s.size - 4 * (k + 1)) = 4 from by omega]
  · have hlt : Nt.V s / 256 ^ (4 * k) < 256 ^ (s.size - 4 * k) := by
      apply Nat.div_lt_of_lt_mul
      rw [← Nat.pow_add, show 4 * k + (s.size - 4 * k) = s.size from by omega]
      exact Nt.V_lt s
    rw [show s.size - 4 * k - (s.size - 4 * (k + 1)) = s.size - 4 * k from by omega, Nat.mod_eq_of_lt hlt, Nat.mod_eq_of_lt (Nat.lt_of_lt_of_le hlt (Nat.pow_le_pow_right (by omega) (by omega)))]
end Go.Proofs.YtjbpipbmcicjiaaGreatDoor
namespace Go.Proofs.YtjbpipbmcicjiaaGreatDoor
open Go.RowKit Go.Shelf

theorem ownsRow_below {w w' : World} {base : Nat} {e : TypeId} {size n : Nat} {v : Value} {xs : List Value} (h : w.ownsRow base e size v n xs) (hb : Below w.heap.size w w') : w'.ownsRow base e size v n xs := by
  refine ⟨h.1, ?_⟩
  rcases h.2 with h2 | ⟨g, cap, cur, h1, h2, h3, h4⟩
  · exact Or.inl h2
  · exact Or.inr ⟨g, cap, cur, h1, h2, (hb.block g (Array.getElem?_eq_some_iff.1 h3).1).trans h3, h4⟩
/-- numbers, as 32-bit words in memory. -/
def w32s (l : List Nat) : List Value := l.map fun n : Nat => Value.int .u32 (n : Int)
theorem w32s_snoc (l : List Nat) (n : Nat) : w32s l ++ [.int .u32 (n : Int)] = w32s (l ++ [n]) := by simp [w32s]

set_option maxRecDepth 100000 in
set_option maxHeartbeats 2000000 in
theorem limbsOf_any (a : ByteArray) (w : World) (ha : a.size ≤ 2000) :
    Calls Tryz.prog 135 #[.string a] w fun e w' => (∃ v, e = .returned v ∧ Lim w' v (Nt.V a)) ∧ Below w.heap.size w w' := by
  obtain ⟨i0, hi, hz0, hz1, hz2⟩ := info_parts Tryz.infoU32
  obtain ⟨t, ht⟩ : ∃ t, t = Nt.E (Nt.V a) := ⟨_, rfl⟩
  have HT := Lib.hid (fun w => (ht ▸ natTrim_any a w : Calls Tryz.prog 57 #[.string a] w fun e w' => e = .returned (.string t) ∧ w = w'))
  have hts : t.size ≤ 2000 := by rw [ht]; exact Nat.le_trans (Nt.E_size_V a) ha
  have hV : Hid (Nt.V t = Nt.V a) := by rw [ht, Hid, Nt.V_E]
  have HTE := Lib.hid ht
  obtain ⟨c, hc⟩ : ∃ c, c = (t.size + 3) / 4 := ⟨_, rfl⟩
  have g1 : ((t.size : Int) + 3) / 4 = (c : Int) := by omega
  have hc2 : c ≤ 1000 := by omega
  obtain ⟨Z, hZ⟩ : ∃ Z, Z = madeCells (Value.int .u32 0).cells (c * i0.size) := ⟨_, rfl⟩
  have hZs : Z.size = c * 1 := by rw [hZ, ← hz1]; exact size_madeCells _ _
  have hmk : ∀ W : World, (Instr.makeSlice 112 (.int .i64 0) (.int .i64 (c : Int))).run Tryz.prog W = .ok (.slice (some ⟨W.heap.size, 0, none⟩) 0 c) (W.alloc (.cells Z 84)) := fun W => by
    have h := run_make (P := Tryz.prog) W 112 84 i0 (.int .u32 0) Tryz.underlying112 hi hz0 .i64 .i64 0 c (by omega) (by omega) (by rw [hz2]; omega) (by omega)
    simp only [Int.toNat_zero, Int.toNat_natCast] at h
    rw [hZ]; exact h
  have HZs := Lib.hid hZs
  clear ht hc hZ hZs
  go_enter Tryz.func135, Tryz.ntmps135
  go_wp2_with (go_at_call 57; refine (HT.out _).mono ?_; rintro e w1 ⟨rfl, rfl⟩)
  clear g1
  go_loopw [3, 4] (fun v i wr => ∃ k : Nat, 4 * k ≤ t.size + 3 ∧ i = .int .i64 ((t.size : Int) - 4 * (k : Int)) ∧ wr.ownsRow w.heap.size 84 1 v k (w32s (Nt.wds (Nt.V t) k)) ∧ Below w.heap.size w wr) (fun _ i _ => (intOf i).toNat)
  case atStart => exact ⟨0, by omega, by go_num, World.ownsRow_made w Z c (Nat.le_refl _) (by unfold maxLen; omega) HZs.out, (Below.refl _ _).alloc (Nat.le_refl _) _⟩
  case round =>
    obtain ⟨k, hk, rfl, hO, hW⟩ := hrel
    by_cases hlt : 4 * k < t.size
    · have hmax : max (0 : Int) ((t.size : Int) - 4 * (k : Int) - 4) = ((t.size - 4 * (k + 1) : Nat) : Int) := by omega
      have hsm := fun W => natSmall_any (t.extract (t.size - 4 * (k + 1)) (t.size - 4 * k)) W
      rw [Nt.V_word t k hlt] at hsm
      have hxb := Nt.wd_lt (Nt.V t) k
      obtain ⟨x, hx⟩ : ∃ x, x = Nt.wd (Nt.V t) k := ⟨_, rfl⟩
      rw [← hx] at hsm hxb
      rw [show Nt.sm x = x from by rw [Nt.sm, if_pos (by omega)], show Nt.smB x = true from by rw [Nt.smB]; simp; omega] at hsm
      have HSM := Lib.hid hsm
      have HX := Lib.hid hx
      have hxm : (x : Int) % 4294967296 = (x : Int) := by omega
      have hk1 : k + 1 ≤ maxLen := by unfold maxLen; omega
      have hk2 : (k + 1) * 4 ≤ 140737488355328 := by omega
      clear hsm hx
      go_wp2_with (first
        | (go_at_call 53; refine (HSM.out _).mono ?_; rintro e w2 ⟨rfl, hb2⟩)
        | (at_builtin; refine wpList_append_own _ rfl _ _ 112 rfl w.heap.size 84 i0 (.int .u32 0) 1 4 Tryz.underlying112 hi hz0 hz1 hz2 rfl (by decide) _ _ _ rfl ((ownsRow_below hO hb2).alloc _) ⟨w2.heap.size, 0, none⟩ 1 1 [.int .u32 (x : Int)] rfl rfl (cell_one_new _ _ _) (by simp [Value.oneCell']) hk1 hk2 (by have := hW.size; have := hb2.size; simp; omega) ?_; intro v1 w3 hown1 hgrow1 _))

      have h2 := hW.trans (hb2.mono hW.size)
      refine ⟨⟨k + 1, by omega, congrArg _ (by omega), ?_, (h2.alloc h2.size _).grown hgrow1 (by have := h2.size; simp; omega) (fun j hj => ((ownsRow_below hO hb2).lt j hj).1)⟩, by simp [intOf]; omega⟩
      rw [Nt.wds_snoc, ← w32s_snoc, ← HX.out]
      exact hown1
    · have hl : Hid (∀ wr v, wr.ownsRow w.heap.size 84 1 v k (w32s (Nt.wds (Nt.V t) k)) → Lim wr v (Nt.V a)) := by
        intro wr v hO
        rw [← hV.out]
        have hlt2 : Nt.V t < 4294967296 ^ k := by
          rw [Nt.pow32]
          exact Nat.lt_of_lt_of_le (Nt.V_lt t) (Nat.pow_le_pow_right (by omega) (by omega))
        rcases hO.2 with ⟨rfl, rfl⟩ | ⟨g, cap, cur, rfl, _, hg, hkc, _⟩
        · exact Or.inl ⟨rfl, by rw [Nat.pow_zero] at hlt2; omega⟩
        · refine Or.inr ⟨g, k, cap, rfl, hkc, (Array.getElem?_eq_some_iff.1 hg).1, ?_, hlt2, ?_⟩
          · intro i hi'
            have hcell := hO.cells (g := g) rfl i (.int .u32 (((Nt.wds (Nt.V t) k)[i]'hi' : Nat) : Int)) (by unfold w32s; rw [List.getElem?_map, List.getElem?_eq_getElem hi']; rfl)
            have hadd : (⟨g, 0, none⟩ : Addr).add i = ⟨g, i, none⟩ := by unfold Addr.add; split <;> simp_all
            rwa [hadd] at hcell
          · rcases Nat.eq_zero_or_pos k with h0 | h0
            · exact Or.inl h0
            · right
              have hne : Nt.V a ≠ 0 := fun h => by
                have : t.size = 0 := by rw [HTE.out, h]; rfl
                omega
              have h4 := Nt.enc_ge hne
              have h5 : (Nt.enc (Nt.V a)).length = t.size := by rw [HTE.out]; rfl
              rw [h5] at h4
              rw [Nt.pow32, hV.out]
              exact Nat.le_trans (Nat.pow_le_pow_right (by omega) (by omega)) h4
      go_wp2
      go_ret
      exact ⟨⟨_, rfl, hl.out _ _ hO⟩, hW⟩
end Go.Proofs.YtjbpipbmcicjiaaGreatDoor
namespace Go.Proofs.YtjbpipbmcicjiaaGreatDoor
open Go.RowKit Go.Shelf

theorem Nt.dig_high (n m q : Nat) : Nt.dig n (m + q) = Nt.dig (n / 256 ^ q) m := by
  unfold Nt.dig
  rw [Nat.add_comm m q, Nat.pow_add, Nat.div_div_eq_div_mul]
theorem Nt.dig_low (n i q : Nat) (h : i < q) : Nt.dig (n % 256 ^ q) i = Nt.dig n i := by
  unfold Nt.dig
  obtain ⟨p, rfl⟩ : ∃ p, q = i + (p + 1) := ⟨q - i - 1, by omega⟩
  rw [Nat.pow_add, Nat.mod_mul_right_div_self, Nat.pow_succ, Nat.mul_comm (256 ^ p), Nat.mod_mul_right_mod]
theorem Nt.digs_four (n m : Nat) : Nt.digs n (m + 4) = Nt.digs (n / 4294967296) m ++ [Nt.dig n 3, Nt.dig n 2, Nt.dig n 1, Nt.dig n 0] := by
  induction m with
  | zero => rfl
  | succ m ih =>
    have e : Nt.digs n (m + 1 + 4) = Nt.dig n (m + 4) :: Nt.digs n (m + 4) := rfl
    have e2 : Nt.digs (n / 4294967296) (m + 1) = Nt.dig (n / 4294967296) m :: Nt.digs (n / 4294967296) m := rfl
    rw [e, e2, ih, Nt.dig_high n m 4, Nt.pow4]; rfl
def w8s (l : List Nat) : List Value := l.map fun n : Nat => Value.int .u8 (n : Int)
theorem w8s_append (l k : List Nat) : w8s l ++ w8s k = w8s (l ++ k) := by simp [w8s]

theorem cell_four_new (w : World) (a b c d : Value) (e : TypeId) : ∀ j u, [a, b, c, d][j]? = some u → (w.alloc (.cells #[a, b, c, d] e)).cell? ((⟨w.heap.size, 0, none⟩ : Addr).add j) = some u := by
  intro j u h
  have hadd : (⟨w.heap.size, 0, none⟩ : Addr).add j = ⟨w.heap.size, j, none⟩ := by unfold Addr.add; split <;> simp_all
  rw [hadd, (Blk.new w e #[a, b, c, d]).cell j]
  simpa using h
end Go.Proofs.YtjbpipbmcicjiaaGreatDoor
namespace Go.Proofs.YtjbpipbmcicjiaaGreatDoor
open Go.RowKit Go.Shelf

theorem run_text_own {P : Program} (src dst e : TypeId) (hs : P.underlying src = some (.slice e)) (he : P.underlying e = some (.int .u8)) (hd : P.underlying dst = some .string)
    (base n : Nat) (v : Value) (l : List Nat) (w : World) (h : w.ownsRow base e 1 v n (w8s l)) :
    (convert src dst v).run P w = .ok (.string ⟨(l.map UInt8.ofNat).toArray⟩) w := by
  have hl : l.length = n := by have := h.1; simpa [w8s] using this
  rcases h.2 with ⟨rfl, rfl⟩ | ⟨g, cap, cur, rfl, _, hg, _⟩
  · obtain rfl : l = [] := List.eq_nil_of_length_eq_zero hl
    exact run_convert_bytes_nil (P := P) w src e hs he 0 0 dst hd
  · have hx := run_convert_bytes_arg (P := P) w src e hs he g 0 n cap (l.map fun m : Nat => (m : Int)) (by simpa using hl) (fun i hi => by
      have hi' : i < l.length := by omega
      have hcell := h.cells (g := g) rfl i (.int .u8 ((l[i]'hi' : Nat) : Int)) (by unfold w8s; rw [List.getElem?_map, List.getElem?_eq_getElem hi']; rfl)
      have hadd : (⟨g, 0, none⟩ : Addr).add i = ⟨g, i, none⟩ := by unfold Addr.add; split <;> simp_all
      rw [hadd] at hcell
      rw [Nat.zero_add, hcell]
      simp [List.getD, List.getElem?_eq_getElem hi']) dst hd
    rw [hx]
    have e2 : strOfNums (l.map fun m : Nat => (m : Int)) = ⟨(l.map UInt8.ofNat).toArray⟩ := by
      have := strOfNums_data (l.map fun m : Nat => (m : Int))
      have e3 : ∀ (a b : ByteArray), a.data.toList = b.data.toList → a = b := fun a b hab => by
        obtain ⟨⟨x⟩⟩ := a; obtain ⟨⟨y⟩⟩ := b; simpa using hab
      apply e3
      rw [this]
      simp
    rw [e2]

set_option maxRecDepth 100000 in
set_option maxHeartbeats 2000000 in
theorem limbsText_some (g k cap N : Nat) (w : World) (hk : k ≤ 1000) (hg : g < w.heap.size) (hc : Lm w g (Nt.wds N k)) (hN : N < 4294967296 ^ k) :
    Calls Tryz.prog 137 #[.slice (some ⟨g, 0, none⟩) k cap] w fun e w' => e = .returned (.string (Nt.E N)) ∧ Below w.heap.size w w' := by
  obtain ⟨i0, hi, hz0, hz1, hz2⟩ := info_parts Tryz.infoU8
  obtain ⟨c, hcc⟩ : ∃ c, c = 4 * k := ⟨_, rfl⟩
  have g1 : 4 * (k : Int) = (c : Int) := by omega
  obtain ⟨Z, hZ⟩ : ∃ Z, Z = madeCells (Value.int .u8 0).cells (c * i0.size) := ⟨_, rfl⟩
  have hZs : Z.size = c * 1 := by rw [hZ, ← hz1]; exact size_madeCells _ _
  have hmk : ∀ W : World, (Instr.makeSlice 94 (.int .i64 0) (.int .i64 (c : Int))).run Tryz.prog W = .ok (.slice (some ⟨W.heap.size, 0, none⟩) 0 c) (W.alloc (.cells Z 5)) := fun W => by
    have h := run_make (P := Tryz.prog) W 94 5 i0 (.int .u8 0) Tryz.underlying94 hi hz0 .i64 .i64 0 c (by omega) (by omega) (by rw [hz2]; omega) (by omega)
    simp only [Int.toNat_zero, Int.toNat_natCast] at h
    rw [hZ]; exact h
  have HZs := Lib.hid hZs
  have HC := Lib.hid hc
  have HN := Lib.hid hN
  have hc4 : c ≤ 4000 := by omega
  clear hZ hZs hcc hc hN
  go_enter Tryz.func137, Tryz.ntmps137
  go_wp2
  clear g1
  go_loopw [3, 4] (fun v i wr => ∃ j : Nat, j ≤ k ∧ i = .int .i64 ((j : Int) - 1) ∧ wr.ownsRow w.heap.size 5 1 v (4 * (k - j)) (w8s (Nt.digs (N / 4294967296 ^ j) (4 * (k - j)))) ∧ Below w.heap.size w wr) (fun _ i _ => (intOf i + 1).toNat)
  case atStart => exact ⟨k, by omega, by go_num, by rw [Nat.sub_self]; exact World.ownsRow_made w Z c (Nat.le_refl _) (by unfold maxLen; omega) HZs.out, (Below.refl _ _).alloc (Nat.le_refl _) _⟩
  case round =>
    obtain ⟨j, hj, rfl, hO, hW⟩ := hrel
    rcases j with _ | i
    · have hT := run_text_own (P := Tryz.prog) 94 9 5 Tryz.underlying94 Tryz.underlying5 Tryz.underlying9 _ _ _ _ wr hO
      have hv : Hid (Nt.V ⟨((Nt.digs N (4 * k)).map UInt8.ofNat).toArray⟩ = N) := by
        exact Nt.V_digs_lt (by have := HN.out; rwa [Nt.pow32] at this)
      have e0 : ((0 : Nat) : Int) - 1 = -1 := rfl
      rw [e0]
      clear hO
      go_wp2_with (go_at_call 57; refine (natTrim_any _ _).mono ?_; rintro e w1 ⟨rfl, rfl⟩)
      go_ret
      exact ⟨ret_str (by rw [hv.out]), hW⟩
    · rw [show ((i + 1 : Nat) : Int) - 1 = (i : Int) from by omega]
      have hil : i < (Nt.wds N k).length := by rw [Nt.wds_length]; omega
      have c1 : wr.cell? ⟨g, i, none⟩ = some (.int .u32 ((Nt.wd N i : Nat) : Int)) := (hW.cell (p := ⟨g, i, none⟩) hg).trans (by have := HC.out i hil; rwa [Nt.wds_get] at this)
      have hwd := Nt.wd_lt N i
      obtain ⟨x, hx⟩ : ∃ x, x = Nt.wd N i := ⟨_, rfl⟩
      rw [← hx] at c1 hwd
      have HX := Lib.hid hx
      clear hx
      obtain ⟨m, hm⟩ : ∃ m, 4 * (k - (i + 1)) = m := ⟨_, rfl⟩
      have hm4 : 4 * (k - i) = m + 4 := by omega
      rw [hm] at hO
      have HM := Lib.hid hm4
      have hk1 : m + 4 ≤ maxLen := by unfold maxLen; omega
      have hk2 : (m + 4) * 1 ≤ 140737488355328 := by omega
      clear hm hm4
      go_wp2_with (at_builtin; refine wpList_append_own _ rfl _ _ 94 rfl w.heap.size 5 i0 (.int .u8 0) 1 1 Tryz.underlying94 hi hz0 hz1 hz2 rfl (by decide) _ _ _ rfl (hO.alloc _) ⟨wr.heap.size, 0, none⟩ 4 4 [.int .u8 ((x : Int) / 16777216), .int .u8 ((x : Int) / 65536 % 256), .int .u8 ((x : Int) / 256 % 256), .int .u8 ((x : Int) % 256)] rfl rfl (cell_four_new _ _ _ _ _ _) (by simp [Value.oneCell']) hk1 hk2 (by have := hW.size; simp; omega) ?_; intro v1 w3 hown1 hgrow1 _)
      refine ⟨⟨i, by omega, by go_num, ?_, (hW.alloc hW.size _).grown hgrow1 (by have := hW.size; simp; omega) (fun j hj => (hO.lt j hj).1)⟩, by simp [intOf]⟩
      have e1 : N / 4294967296 ^ i / 4294967296 = N / 4294967296 ^ (i + 1) := by rw [Nat.pow_succ, Nat.div_div_eq_div_mul]
      rw [HM.out, Nt.digs_four, e1, ← w8s_append]
      have e2 : [Value.int .u8 ((x : Int) / 16777216), .int .u8 ((x : Int) / 65536 % 256), .int .u8 ((x : Int) / 256 % 256), .int .u8 ((x : Int) % 256)] = w8s [Nt.dig (N / 4294967296 ^ i) 3, Nt.dig (N / 4294967296 ^ i) 2, Nt.dig (N / 4294967296 ^ i) 1, Nt.dig (N / 4294967296 ^ i) 0] := by
        rw [HX.out]
        unfold Nt.wd Nt.dig
        generalize N / 4294967296 ^ i = y
        simp only [w8s, List.map_cons, List.map_nil, List.cons.injEq, Value.int.injEq, true_and, and_true]
        refine ⟨?_, ?_, ?_, ?_⟩ <;> simp <;> omega
      rw [← e2]
      exact hown1
set_option maxRecDepth 100000 in
set_option maxHeartbeats 2000000 in
theorem limbsText_nil (w : World) :
    Calls Tryz.prog 137 #[.slice none 0 0] w fun e w' => e = .returned (.string (Nt.E 0)) ∧ Below w.heap.size w w' := by
  have hmk : ∀ W : World, (Instr.makeSlice 94 (.int .i64 0) (.int .i64 0)).run Tryz.prog W = .ok (.slice (some ⟨W.heap.size, 0, none⟩) 0 0) (W.alloc (.cells (kV .u8 []) 5)) :=
    fun W => run_zeros (P := Tryz.prog) 94 5 .u8 1 Tryz.underlying94 Tryz.infoU8 0 (by omega) (by omega) W
  have hT := run_text (P := Tryz.prog) 94 9 5 Tryz.underlying94 Tryz.underlying5 Tryz.underlying9 w.heap.size 0 0 [] rfl (w.alloc (.cells (kV .u8 []) 5)) (Blk.new _ _ _)
  go_enter Tryz.func137, Tryz.ntmps137
  go_wp2
  go_loop [3, 4] (fun v i => v = .slice (some ⟨w.heap.size, 0, none⟩) 0 0 ∧ i = .int .i64 (-1)) (fun _ _ => 0)
  case atStart => exact ⟨rfl, rfl⟩
  case round =>
    obtain ⟨rfl, rfl⟩ := hrel
    go_wp2_with (go_at_call 57; refine (natTrim_any _ _).mono ?_; rintro e w' ⟨rfl, rfl⟩)
    go_ret
    exact ⟨rfl, (Below.refl _ _).alloc (Nat.le_refl _) _⟩
theorem limbsText_any (v : Value) (N : Nat) (w : World) (h : Lim w v N) (hs : (Nt.E N).size ≤ 2000) :
    Calls Tryz.prog 137 #[v] w fun e w' => e = .returned (.string (Nt.E N)) ∧ Below w.heap.size w w' := by
  rcases h with ⟨rfl, rfl⟩ | ⟨g, k, cap, rfl, h2, h3, h4, h5, h6⟩
  · exact limbsText_nil w
  · refine limbsText_some g k cap N w ?_ h3 h4 h5
    rcases h6 with rfl | h6
    · omega
    · have h7 := Nt.V_lt (Nt.E N)
      rw [Nt.V_E] at h7
      rw [Nt.pow32] at h6
      have h8 := (Nat.pow_lt_pow_iff_right (by omega : 1 < 256)).1 (Nat.lt_of_le_of_lt h6 h7)
      omega
end Go.Proofs.YtjbpipbmcicjiaaGreatDoor
