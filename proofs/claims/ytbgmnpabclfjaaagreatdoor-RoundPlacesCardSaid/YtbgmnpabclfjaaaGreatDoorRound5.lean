/-
  NUMBERS, ROUNDED TO PLACES: tens, the steps' closures, the program's rounded.
-/
import Derived.Test.YtbgmnpabclfjaaaGreatDoorRound4
namespace Go.Proofs.YtbgmnpabclfjaaaGreatDoor
open Go.RowKit Go.Shelf
set_option linter.unusedSimpArgs false
set_option linter.unusedVariables false

def tenN (n : Int) : Nat := 10 ^ n.toNat
theorem tenN_size {n : Int} (h : n ≤ 60) : (Nt.E (tenN n)).size ≤ 60 := by
  refine Nt.enc_length_le ?_
  have h1 : (10 : Nat) ^ n.toNat ≤ 256 ^ n.toNat := Nat.pow_le_pow_left (by omega) _
  have h2 : (256 : Nat) ^ n.toNat ≤ 256 ^ 60 := Nat.pow_le_pow_right (by omega) (by omega)
  have h3 : n.toNat ≤ 60 := by omega
  unfold tenN
  rcases Nat.eq_or_lt_of_le h3 with h4 | h4
  · rw [h4]; decide
  · exact Nat.lt_of_le_of_lt h1 ((Nat.pow_lt_pow_iff_right (by omega)).2 h4)
set_option maxRecDepth 100000 in
set_option maxHeartbeats 4000000 in
theorem ten_any (n : Int) (w : World) (h1 : -60 ≤ n) (h2 : n ≤ 60) :
    Calls Tryz.prog 92 #[.int .i64 n] w fun e w' => e = .returned (.string (Nt.E (tenN n))) ∧ Below w.heap.size w w' := by
  have ho := fun w => natOf_any 10 w (by omega)
  have hp := fun w => natPow_any (Nt.E 10) (max n 0) w (by decide) (by omega)
  rw [Nt.V_E, powOut, if_neg (by omega), show (10 : Nat) ^ (max n 0).toNat = tenN n from by unfold tenN; congr 1; omega, if_neg (by have := tenN_size h2; omega)] at hp
  generalize Nt.E (tenN n) = t at *
  generalize Nt.E 10 = t0 at *
  have HO := Lib.hid ho
  have HP := Lib.hid hp
  clear ho hp
  go_enter Tryz.func92, Tryz.ntmps92
  go_wp2_with fail
  refine (HO.out _).mono ?_; rintro e s1 ⟨rfl, hb⟩
  have hBo := hb
  skip
  go_wp2_with fail
  refine (HP.out _).mono ?_; rintro e s2 ⟨rfl, hb⟩
  replace hBo := hBo.trans (hb.mono hBo.size)
  clear hb
  all_goals go_wp2_with fail
  all_goals first | go_ret | go_ret2
  all_goals exact ⟨rfl, hBo⟩
/-- is a step to be put on? -/
abbrev Away := Nat → Nat → Bool
def awayDown : Away := fun _ _ => false
def awayUp : Away := fun l _ => decide (l ≠ 0)
def awayHalf : Away := fun l u => decide (u ≤ l + l)
set_option maxRecDepth 100000 in
theorem awayDown_any (l u : Nat) (w : World) (_ : (Nt.E l).size ≤ 1000) (_ : (Nt.E u).size ≤ 1000) :
    Calls Tryz.prog 61 #[.string (Nt.E l), .string (Nt.E u)] w fun e w' => e = .returned (.bool (awayDown l u)) ∧ Below w.heap.size w w' := by
  show Calls _ _ _ _ fun e w' => e = .returned (.bool false) ∧ _
  go_enter Tryz.func61, Tryz.ntmps61
  go_wp2
  go_ret
  exact ⟨rfl, Below.refl _ _⟩
theorem E_ne_nil {l : Nat} (h : l ≠ 0) : Nt.E l ≠ ⟨#[]⟩ := fun h2 => h (by
  have := Nt.V_E l
  rw [h2] at this
  exact this.symm.trans (by decide))
set_option maxRecDepth 100000 in
theorem awayUp_any (l u : Nat) (w : World) (_ : (Nt.E l).size ≤ 1000) (_ : (Nt.E u).size ≤ 1000) :
    Calls Tryz.prog 62 #[.string (Nt.E l), .string (Nt.E u)] w fun e w' => e = .returned (.bool (awayUp l u)) ∧ Below w.heap.size w w' := by
  generalize Nt.E u = tu at *
  unfold awayUp
  by_cases h : l = 0
  · rw [h, show Nt.E 0 = ⟨#[]⟩ from rfl, show decide (0 ≠ 0) = false from by decide]
    go_enter Tryz.func62, Tryz.ntmps62
    go_wp2
    go_ret
    exact ⟨rfl, Below.refl _ _⟩
  · obtain ⟨h1, h2⟩ := toList_ne (E_ne_nil h)
    rw [show decide (l ≠ 0) = true from decide_eq_true h]
    generalize Nt.E l = tl at *
    go_enter Tryz.func62, Tryz.ntmps62
    go_wp2
    go_ret
    exact ⟨rfl, Below.refl _ _⟩
theorem E_add_size {a b k : Nat} (ha : (Nt.E a).size ≤ k) (hb : (Nt.E b).size ≤ k) : (Nt.E (a + b)).size ≤ k + 1 :=
  E_le (add_lt (Nat.lt_of_lt_of_le (Nt.enc_lt a) (Nat.pow_le_pow_right (by omega) ha)) (Nat.lt_of_lt_of_le (Nt.enc_lt b) (Nat.pow_le_pow_right (by omega) hb)))
theorem E_mul_size (a b : Nat) : (Nt.E (a * b)).size ≤ (Nt.E a).size + (Nt.E b).size := E_le (mul_lt (Nt.enc_lt a) (Nt.enc_lt b))
set_option maxRecDepth 100000 in
theorem awayHalf_any (l u : Nat) (w : World) (hl : (Nt.E l).size ≤ 1000) (hu : (Nt.E u).size ≤ 1000) :
    Calls Tryz.prog 57 #[.string (Nt.E l), .string (Nt.E u)] w fun e w' => e = .returned (.bool (awayHalf l u)) ∧ Below w.heap.size w w' := by
  have ha := fun w => natAdd_any (Nt.E l) (Nt.E l) w (by omega) (by omega)
  rw [Nt.V_E] at ha
  have hs := E_add_size hl hl
  have hc := fun w => natCmp_any (Nt.E (l + l)) (Nt.E u) w (by omega) (by omega)
  rw [Nt.V_E, Nt.V_E] at hc
  unfold awayHalf
  have key : decide (0 ≤ Nt.cmpZ (l + l) u) = decide (u ≤ l + l) := by
    by_cases h : u ≤ l + l
    · rw [decide_eq_true h, decide_eq_true (cmpZ_ge h)]
    · rw [decide_eq_false h, decide_eq_false (by have := cmpZ_lt (a := l + l) (b := u) (by omega); omega)]
  rw [← key]
  generalize Nt.cmpZ (l + l) u = c at *
  generalize Nt.E (l + l) = tll at *
  generalize Nt.E l = tl at *
  generalize Nt.E u = tu at *
  have HA := Lib.hid ha
  have HC := Lib.hid hc
  clear ha hc hs hl hu key
  go_enter Tryz.func57, Tryz.ntmps57
  go_wp2_with fail
  refine (HA.out _).mono ?_; rintro e s3 ⟨rfl, hb⟩
  have hBo := hb
  skip
  go_wp2_with fail
  refine (HC.out _).mono ?_; rintro e s4 ⟨rfl, hb⟩
  replace hBo := hBo.trans (hb.mono hBo.size)
  clear hb
  all_goals go_wp2_with fail
  all_goals first | go_ret | go_ret2
  all_goals exact ⟨rfl, hBo⟩

/-- rounded to places, away from 0 where the step says so. -/
def rdS (P : Away) (q : Rt) (n : Int) : Nat :=
  q.num * tenN n / (q.den * tenN (-n)) + if P (q.num * tenN n % (q.den * tenN (-n))) (q.den * tenN (-n)) then 1 else 0
def rdX (P : Away) (q : Rt) (n : Int) : Int := sI q.neg (rdS P q n * tenN (-n))
def rdR (P : Away) (q : Rt) (n : Int) : Rt := if n < -60 ∨ 60 < n then ⟨false, 0, 0⟩ else mkR (rdX P q n) (tenN n)
def rdE (P : Away) (q : Rt) (n : Int) : Int := if n < -60 ∨ 60 < n then 2 else mkE (rdX P q n) (tenN n)
theorem tenN_pos (n : Int) : tenN n ≠ 0 := Nat.ne_of_gt (Nat.pow_pos (by omega))
set_option maxRecDepth 100000 in
set_option maxHeartbeats 16000000 in
theorem rounded_any (P : Away) (K : Nat) (HCF : ∀ (x y : Value) (w : World), (callFunc K #[x, y]).run Tryz.prog w = .ok (.enter K #[x, y]) w) (HA : ∀ (l u : Nat) (w : World), (Nt.E l).size ≤ 1000 → (Nt.E u).size ≤ 1000 → Calls Tryz.prog K #[.string (Nt.E l), .string (Nt.E u)] w fun e w' => e = .returned (.bool (P l u)) ∧ Below w.heap.size w w')
    (neg : Bool) (a d : ByteArray) (n : Int) (q : Rt) (c : Int) (w : World) (ha : a.size ≤ 140737488351232) (hd : d.size ≤ 140737488351232) (hq : rdR P (wl neg a d) n = q) (hc : rdE P (wl neg a d) n = c) :
    Calls Tryz.prog 56 #[.agg #[.bool neg, .string a, .string d], .int .i64 n, .func (.func K) #[] #[]] w fun e w' => e = .returned (.tuple #[.agg #[.bool (rb q), .string (rn q), .string (rd q)], .int .i64 c]) ∧ Below w.heap.size w w' := by
  unfold rdR at hq
  unfold rdE at hc
  by_cases hn : n < -60 ∨ 60 < n
  · rw [if_pos hn] at hq hc
    subst hq hc
    rw [rz.1, rz.2.1, rz.2.2]
    clear HA ha hd
    rcases hn with h | h
    · go_enter Tryz.func56, Tryz.ntmps56
      go_wp2_with fail
      refine bodyPost_ret (v := .tuple #[.agg #[.bool false, .string ⟨#[]⟩, .string ⟨#[]⟩], .int .i64 2]) (by simp [results, Tryz.results56, go_sem]) rfl ⟨rfl, ?_⟩
      exact ((Below.refl _ _).alloc (Nat.le_refl _) _).alloc (by simp) _
    · have h2 : ¬ n < -60 := by omega
      go_enter Tryz.func56, Tryz.ntmps56
      go_wp2_with fail
      refine bodyPost_ret (v := .tuple #[.agg #[.bool false, .string ⟨#[]⟩, .string ⟨#[]⟩], .int .i64 2]) (by simp [results, Tryz.results56, go_sem]) rfl ⟨rfl, ?_⟩
      exact ((Below.refl _ _).alloc (Nat.le_refl _) _).alloc (by simp) _
  rw [if_neg hn] at hq hc
  have hn1 : ¬ n < -60 := by omega
  have hn2 : ¬ 60 < n := by omega
  have HT1 := Lib.hid (fun w => ten_any n w (by omega) (by omega))
  have HT2 := Lib.hid (fun w => ten_any (-n) w (by omega) (by omega))
  have hok := wl_ok neg a d
  have hp := fun w => parts_any neg a d _ _ w ha hd rfl rfl
  rw [zb_top hok, zt_top, zb_low, zt_low] at hp
  generalize wl neg a d = Q at *
  have sN : (Nt.E Q.num).size ≤ 32 := rn_size hok
  have sD : (Nt.E Q.den).size ≤ 32 := rd_size hok
  have sU := tenN_size (n := n) (by omega)
  have sV := tenN_size (n := -n) (by omega)
  have hu0 : Q.den * tenN (-n) ≠ 0 := Nat.mul_ne_zero hok.1 (tenN_pos _)
  have m1 := fun w => natMul_any (Nt.E Q.den) (Nt.E (tenN (-n))) w (by omega) (by omega)
  have m2 := fun w => natMul_any (Nt.E Q.num) (Nt.E (tenN n)) w (by omega) (by omega)
  rw [Nt.V_E, Nt.V_E] at m1 m2
  rw [show Nt.E Q.den = rd Q from rfl] at m1
  rw [show Nt.E Q.num = rn Q from rfl] at m2
  have s1 := Nat.le_trans (E_mul_size Q.den (tenN (-n))) (by omega : _ ≤ 92)
  have s2 := Nat.le_trans (E_mul_size Q.num (tenN n)) (by omega : _ ≤ 92)
  have dm := fun w => divMod_ok (Nt.E (Q.num * tenN n)) (Nt.E (Q.den * tenN (-n))) w (by omega) (by omega)
  rw [Nt.V_E, Nt.V_E, divOut, if_neg hu0] at dm
  have s3 := Nat.le_trans (Nt.E_size_le (Nat.div_le_self (Q.num * tenN n) (Q.den * tenN (-n)))) s2
  have s4 := Nat.le_trans (Nt.E_size_le (Nat.mod_le (Q.num * tenN n) (Q.den * tenN (-n)))) s2
  have hA := fun w => HA (Q.num * tenN n % (Q.den * tenN (-n))) (Q.den * tenN (-n)) w (by omega) (by omega)
  have hx : rdX P Q n = sI Q.neg (rdS P Q n * tenN (-n)) := rfl
  have hS : rdS P Q n = Q.num * tenN n / (Q.den * tenN (-n)) + if P (Q.num * tenN n % (Q.den * tenN (-n))) (Q.den * tenN (-n)) then 1 else 0 := rfl
  generalize Q.num * tenN n / (Q.den * tenN (-n)) = st at *
  generalize Q.num * tenN n % (Q.den * tenN (-n)) = lf at *
  generalize Q.den * tenN (-n) = un at *
  generalize Q.num * tenN n = pr at *
  have HM : Hid (∀ (b : Bool) (t : ByteArray) (w : World), Calls Tryz.prog 64 #[.bool b, .string t] w fun e w' => e = .returned (.agg #[.bool (zb (sI b (Nt.V t))), .string (zt (sI b (Nt.V t)))]) ∧ Below w.heap.size w w') := fun b t w => wholeMake_z b t _ w rfl
  have ht0 : (tenN n : Int) = (tenN n : Int) := rfl
  generalize hX : rdX P Q n = X at *
  have sS : (Nt.E (rdS P Q n)).size ≤ 93 := by
    rw [hS]
    split
    · exact E_add_size s3 (by decide)
    · simpa using Nat.le_trans s3 (by omega)
  have sM := Nat.le_trans (E_mul_size (rdS P Q n) (tenN (-n))) (by omega : _ ≤ 153)
  have sX : (zt X).size ≤ 153 := by rw [hx]; unfold zt; rw [sI_abs]; exact sM
  have m3 := fun w => natMul_any (Nt.E (rdS P Q n)) (Nt.E (tenN (-n))) w (by omega) (by omega)
  rw [Nt.V_E, Nt.V_E] at m3
  have E1 : Hid (sI (rb Q) (Nt.V (Nt.E (rdS P Q n * tenN (-n)))) = X) := by rw [Hid, Nt.V_E, hx]; rfl
  have E2 : Hid (sI false (Nt.V (Nt.E (tenN n))) = (tenN n : Int)) := by rw [Hid, Nt.V_E]; rfl
  have HK := Lib.hid (fun w => ratMake_zz X (tenN n) q c w (by omega) (by rw [zt_cast]; omega) hq hc)
  generalize (tenN n : Int) = Tn at *
  generalize Nt.E (rdS P Q n * tenN (-n)) = tm at *
  generalize Nt.E (tenN n) = tU at *
  generalize Nt.E (tenN (-n)) = tV at *
  have ha1 := fun w => natAdd_any (Nt.E st) ⟨#[1]⟩ w (by omega) (by decide)
  rw [Nt.V_E, show Nt.V (⟨#[1]⟩ : ByteArray) = 1 from by decide] at ha1
  have HP := Lib.hid hp
  have M1 := Lib.hid m1
  have M2 := Lib.hid m2
  have DM := Lib.hid dm
  generalize rb Q = nb at *
  generalize rn Q = nn at *
  generalize rd Q = nd at *
  cases hb : P lf un with
  | false =>
    rw [hb] at hA hS
    have hS2 : rdS P Q n = st := by rw [hS]; rfl
    rw [hS2] at m3
    have M3 := Lib.hid m3
    have HA' := Lib.hid hA
    generalize Nt.E st = t1 at *
    generalize Nt.E lf = t2 at *
    generalize Nt.E un = t3 at *
    generalize Nt.E pr = t4 at *
    clear HA hp m1 m2 m3 dm hA hS hS2 hx ha1 ha hd hq hc hn hok sN sD sU sV hu0 s1 s2 s3 s4 ht0 sS sM sX hb hX
    go_enter Tryz.func56, Tryz.ntmps56
    go_wp2_with fail
    obtain ⟨s5, hws⟩ : ∃ s, s = ((w.alloc (.cells #[.bool neg, .string a, .string d] 23)).alloc (.cells #[.bool false, .string ⟨#[]⟩, .string ⟨#[]⟩] 23)) := ⟨_, rfl⟩
    have hBs : Below w.heap.size w s5 := by rw [hws]; exact (((Below.refl w.heap.size w).alloc (by simp) _).alloc (by simp) _)
    obtain ⟨A, hdA⟩ : ∃ b, b = w.heap.size := ⟨_, rfl⟩
    obtain ⟨C, hdC⟩ : ∃ b, b = w.heap.size + 1 := ⟨_, rfl⟩
    have hsz : s5.heap.size = w.heap.size + 1 + 1 := by rw [hws]; simp
    have dCA : C ≠ A := by omega
    have kA0 : s5.cell? ⟨A, 0, none⟩ = some (.bool neg) := by rw [hws]; simp [go_sem, hdA, hdC]
    have kA1 : s5.cell? ⟨A, 1, none⟩ = some (.string a) := by rw [hws]; simp [go_sem, hdA, hdC]
    have kA2 : s5.cell? ⟨A, 2, none⟩ = some (.string d) := by rw [hws]; simp [go_sem, hdA, hdC]
    have zA : A < s5.heap.size := by omega
    have lA : w.heap.size ≤ A := by have := Nat.le_refl w.heap.size; omega
    have kC0 : s5.cell? ⟨C, 0, none⟩ = some (.bool false) := by rw [hws]; simp [go_sem, hdA, hdC]
    have fC0 : s5.frozen? ⟨C, 0, none⟩ = false := by rw [hws]; simp [go_sem, hdA, hdC]
    have kC1 : s5.cell? ⟨C, 1, none⟩ = some (.string ⟨#[]⟩) := by rw [hws]; simp [go_sem, hdA, hdC]
    have fC1 : s5.frozen? ⟨C, 1, none⟩ = false := by rw [hws]; simp [go_sem, hdA, hdC]
    have kC2 : s5.cell? ⟨C, 2, none⟩ = some (.string ⟨#[]⟩) := by rw [hws]; simp [go_sem, hdA, hdC]
    have fC2 : s5.frozen? ⟨C, 2, none⟩ = false := by rw [hws]; simp [go_sem, hdA, hdC]
    have zC : C < s5.heap.size := by omega
    have lC : w.heap.size ≤ C := by have := Nat.le_refl w.heap.size; omega
    rw [← hws]
    try rw [← hdC]
    try rw [← hdA]
    clear hws hsz hdA hdC
    have hBo := hBs; clear hBs
    refine (HP.out _).mono ?_; rintro e s6 ⟨rfl, hb⟩
    replace kA0 := belK hb kA0 zA; replace kA1 := belK hb kA1 zA; replace kA2 := belK hb kA2 zA; replace zA := Nat.lt_of_lt_of_le zA hb.size
    replace kC0 := belK hb kC0 zC; replace fC0 := belF hb fC0 zC; replace kC1 := belK hb kC1 zC; replace fC1 := belF hb fC1 zC; replace kC2 := belK hb kC2 zC; replace fC2 := belF hb fC2 zC; replace zC := Nat.lt_of_lt_of_le zC hb.size
    replace hBo := hBo.trans (hb.mono hBo.size)
    clear hb
    go_wp2_with fail
    obtain ⟨s7, hws⟩ : ∃ s, s = ((s6.alloc (.cells #[.bool nb, .string nn] 44)).alloc (.cells #[.bool false, .string nd] 44)) := ⟨_, rfl⟩
    have hBs : Below w.heap.size w s7 := by rw [hws]; exact (((hBo).alloc (by exact hBo.size) _).alloc (by have := hBo.size; simp; omega) _)
    obtain ⟨X, hdX⟩ : ∃ b, b = s6.heap.size := ⟨_, rfl⟩
    obtain ⟨Y, hdY⟩ : ∃ b, b = s6.heap.size + 1 := ⟨_, rfl⟩
    have hsz : s7.heap.size = s6.heap.size + 1 + 1 := by rw [hws]; simp
    have dCX : C ≠ X := by omega
    have dCY : C ≠ Y := by omega
    have hQC : ∀ p v, s6.cell? p = some v → s7.cell? p = some v := fun p v h => by rw [hws]; exact (alK (alK h))
    have hQZ : ∀ b, b < s6.heap.size → b < s7.heap.size := fun b h => by omega
    have hQF : ∀ b j, b < s6.heap.size → s6.frozen? ⟨b, j, none⟩ = false → s7.frozen? ⟨b, j, none⟩ = false := fun b j z h => by rw [hws]; exact (alF (alZ z) (alF z h))
    replace kA0 := hQC _ _ kA0; replace kA1 := hQC _ _ kA1; replace kA2 := hQC _ _ kA2; replace zA := hQZ _ zA
    replace kC0 := hQC _ _ kC0; replace fC0 := hQF _ _ zC fC0; replace kC1 := hQC _ _ kC1; replace fC1 := hQF _ _ zC fC1; replace kC2 := hQC _ _ kC2; replace fC2 := hQF _ _ zC fC2; replace zC := hQZ _ zC
    clear hQC hQZ hQF
    have kX0 : s7.cell? ⟨X, 0, none⟩ = some (.bool nb) := by rw [hws]; simp [go_sem, hdX, hdY]
    have kX1 : s7.cell? ⟨X, 1, none⟩ = some (.string nn) := by rw [hws]; simp [go_sem, hdX, hdY]
    have zX : X < s7.heap.size := by omega
    have lX : w.heap.size ≤ X := by have := hBo.size; omega
    have kY0 : s7.cell? ⟨Y, 0, none⟩ = some (.bool false) := by rw [hws]; simp [go_sem, hdX, hdY]
    have kY1 : s7.cell? ⟨Y, 1, none⟩ = some (.string nd) := by rw [hws]; simp [go_sem, hdX, hdY]
    have zY : Y < s7.heap.size := by omega
    have lY : w.heap.size ≤ Y := by have := hBo.size; omega
    rw [← hws]
    try rw [← hdY]
    try rw [← hdX]
    clear hBo
    clear hws hsz hdX hdY
    have hBo := hBs; clear hBs
    refine (HT1.out _).mono ?_; rintro e s8 ⟨rfl, hb⟩
    replace kA0 := belK hb kA0 zA; replace kA1 := belK hb kA1 zA; replace kA2 := belK hb kA2 zA; replace zA := Nat.lt_of_lt_of_le zA hb.size
    replace kC0 := belK hb kC0 zC; replace fC0 := belF hb fC0 zC; replace kC1 := belK hb kC1 zC; replace fC1 := belF hb fC1 zC; replace kC2 := belK hb kC2 zC; replace fC2 := belF hb fC2 zC; replace zC := Nat.lt_of_lt_of_le zC hb.size
    replace kX0 := belK hb kX0 zX; replace kX1 := belK hb kX1 zX; replace zX := Nat.lt_of_lt_of_le zX hb.size
    replace kY0 := belK hb kY0 zY; replace kY1 := belK hb kY1 zY; replace zY := Nat.lt_of_lt_of_le zY hb.size
    replace hBo := hBo.trans (hb.mono hBo.size)
    clear hb
    go_wp2_with fail
    refine (HT2.out _).mono ?_; rintro e s9 ⟨rfl, hb⟩
    replace kA0 := belK hb kA0 zA; replace kA1 := belK hb kA1 zA; replace kA2 := belK hb kA2 zA; replace zA := Nat.lt_of_lt_of_le zA hb.size
    replace kC0 := belK hb kC0 zC; replace fC0 := belF hb fC0 zC; replace kC1 := belK hb kC1 zC; replace fC1 := belF hb fC1 zC; replace kC2 := belK hb kC2 zC; replace fC2 := belF hb fC2 zC; replace zC := Nat.lt_of_lt_of_le zC hb.size
    replace kX0 := belK hb kX0 zX; replace kX1 := belK hb kX1 zX; replace zX := Nat.lt_of_lt_of_le zX hb.size
    replace kY0 := belK hb kY0 zY; replace kY1 := belK hb kY1 zY; replace zY := Nat.lt_of_lt_of_le zY hb.size
    replace hBo := hBo.trans (hb.mono hBo.size)
    clear hb
    go_wp2_with fail
    refine (M1.out _).mono ?_; rintro e s10 ⟨rfl, hb⟩
    replace kA0 := belK hb kA0 zA; replace kA1 := belK hb kA1 zA; replace kA2 := belK hb kA2 zA; replace zA := Nat.lt_of_lt_of_le zA hb.size
    replace kC0 := belK hb kC0 zC; replace fC0 := belF hb fC0 zC; replace kC1 := belK hb kC1 zC; replace fC1 := belF hb fC1 zC; replace kC2 := belK hb kC2 zC; replace fC2 := belF hb fC2 zC; replace zC := Nat.lt_of_lt_of_le zC hb.size
    replace kX0 := belK hb kX0 zX; replace kX1 := belK hb kX1 zX; replace zX := Nat.lt_of_lt_of_le zX hb.size
    replace kY0 := belK hb kY0 zY; replace kY1 := belK hb kY1 zY; replace zY := Nat.lt_of_lt_of_le zY hb.size
    replace hBo := hBo.trans (hb.mono hBo.size)
    clear hb
    go_wp2_with fail
    refine (M2.out _).mono ?_; rintro e s11 ⟨rfl, hb⟩
    replace kA0 := belK hb kA0 zA; replace kA1 := belK hb kA1 zA; replace kA2 := belK hb kA2 zA; replace zA := Nat.lt_of_lt_of_le zA hb.size
    replace kC0 := belK hb kC0 zC; replace fC0 := belF hb fC0 zC; replace kC1 := belK hb kC1 zC; replace fC1 := belF hb fC1 zC; replace kC2 := belK hb kC2 zC; replace fC2 := belF hb fC2 zC; replace zC := Nat.lt_of_lt_of_le zC hb.size
    replace kX0 := belK hb kX0 zX; replace kX1 := belK hb kX1 zX; replace zX := Nat.lt_of_lt_of_le zX hb.size
    replace kY0 := belK hb kY0 zY; replace kY1 := belK hb kY1 zY; replace zY := Nat.lt_of_lt_of_le zY hb.size
    replace hBo := hBo.trans (hb.mono hBo.size)
    clear hb
    go_wp2_with fail
    refine (DM.out _).mono ?_; rintro e s12 ⟨rfl, hb⟩
    replace kA0 := belK hb kA0 zA; replace kA1 := belK hb kA1 zA; replace kA2 := belK hb kA2 zA; replace zA := Nat.lt_of_lt_of_le zA hb.size
    replace kC0 := belK hb kC0 zC; replace fC0 := belF hb fC0 zC; replace kC1 := belK hb kC1 zC; replace fC1 := belF hb fC1 zC; replace kC2 := belK hb kC2 zC; replace fC2 := belF hb fC2 zC; replace zC := Nat.lt_of_lt_of_le zC hb.size
    replace kX0 := belK hb kX0 zX; replace kX1 := belK hb kX1 zX; replace zX := Nat.lt_of_lt_of_le zX hb.size
    replace kY0 := belK hb kY0 zY; replace kY1 := belK hb kY1 zY; replace zY := Nat.lt_of_lt_of_le zY hb.size
    replace hBo := hBo.trans (hb.mono hBo.size)
    clear hb
    go_wp2_with fail
    refine (HA'.out _).mono ?_; rintro e s13 ⟨rfl, hb⟩
    replace kA0 := belK hb kA0 zA; replace kA1 := belK hb kA1 zA; replace kA2 := belK hb kA2 zA; replace zA := Nat.lt_of_lt_of_le zA hb.size
    replace kC0 := belK hb kC0 zC; replace fC0 := belF hb fC0 zC; replace kC1 := belK hb kC1 zC; replace fC1 := belF hb fC1 zC; replace kC2 := belK hb kC2 zC; replace fC2 := belF hb fC2 zC; replace zC := Nat.lt_of_lt_of_le zC hb.size
    replace kX0 := belK hb kX0 zX; replace kX1 := belK hb kX1 zX; replace zX := Nat.lt_of_lt_of_le zX hb.size
    replace kY0 := belK hb kY0 zY; replace kY1 := belK hb kY1 zY; replace zY := Nat.lt_of_lt_of_le zY hb.size
    replace hBo := hBo.trans (hb.mono hBo.size)
    clear hb
    go_wp2_with fail
    have HF : Hid (∀ W, Below s13.heap.size s13 W → Below w.heap.size w W) := fun W hW => hBo.trans (hW.mono hBo.size)
    clear hBo
    first | (go_region_held3 (fun w' => w'.cell? ⟨A, 0, none⟩ = some (.bool neg) ∧ w'.cell? ⟨A, 1, none⟩ = some (.string a) ∧ w'.cell? ⟨A, 2, none⟩ = some (.string d) ∧ w'.cell? ⟨X, 0, none⟩ = some (.bool nb) ∧ w'.cell? ⟨X, 1, none⟩ = some (.string nn) ∧ w'.cell? ⟨Y, 0, none⟩ = some (.bool false) ∧ w'.cell? ⟨Y, 1, none⟩ = some (.string nd))
      (go_keep) (first
      | (go_at_call 69; refine (M3.out _).mono ?_; rintro e x14 ⟨rfl, hbx⟩; have hTx : Below s13.heap.size s13 x14 := (by first | exact (Below.refl _ _).drew.trans hbx | exact Below.trans (by assumption) (hbx.mono (Below.size (by assumption))) | exact (Below.refl _ _).trans hbx); obtain ⟨hcx, hfx⟩ := bcell hTx)
      | (go_at_call 64; refine (HM.out _ _ _).mono ?_; rintro e x14 ⟨he, hbx⟩; (first | rw [E1.out] at he | rw [E2.out] at he); subst he; have hTx : Below s13.heap.size s13 x14 := (by first | exact (Below.refl _ _).drew.trans hbx | exact Below.trans (by assumption) (hbx.mono (Below.size (by assumption))) | exact (Below.refl _ _).trans hbx); obtain ⟨hcx, hfx⟩ := bcell hTx)
      | (go_at_call 42; refine (HK.out _).mono ?_; rintro e x14 ⟨rfl, hbx⟩; have hTx : Below s13.heap.size s13 x14 := (by first | exact (Below.refl _ _).drew.trans hbx | exact Below.trans (by assumption) (hbx.mono (Below.size (by assumption))) | exact (Below.refl _ _).trans hbx); obtain ⟨hcx, hfx⟩ := bcell hTx))) | fail
    all_goals go_wp2_with fail
    all_goals refine bodyPost_ret (v := .tuple #[.agg #[.bool (rb q), .string (rn q), .string (rd q)], .int .i64 c]) (by simp [results, Tryz.results56, go_sem, hcx, kC0, kC1, kC2, zC]) rfl ⟨rfl, ?_⟩
    all_goals exact ((((HF.out _ (by assumption)).setCell lC _).setCell lC _).setCell lC _)
  | true =>
    rw [hb] at hA hS
    have hS2 : rdS P Q n = st + 1 := by rw [hS]; rfl
    rw [hS2] at m3
    have M3 := Lib.hid m3
    have HA' := Lib.hid hA
    have HAD := Lib.hid ha1
    generalize Nt.E (st + 1) = t0 at *
    generalize Nt.E st = t1 at *
    generalize Nt.E lf = t2 at *
    generalize Nt.E un = t3 at *
    generalize Nt.E pr = t4 at *
    clear HA hp m1 m2 m3 dm hA hS hS2 hx ha1 ha hd hq hc hn hok sN sD sU sV hu0 s1 s2 s3 s4 ht0 sS sM sX hb hX
    go_enter Tryz.func56, Tryz.ntmps56
    go_wp2_with fail
    obtain ⟨s15, hws⟩ : ∃ s, s = ((w.alloc (.cells #[.bool neg, .string a, .string d] 23)).alloc (.cells #[.bool false, .string ⟨#[]⟩, .string ⟨#[]⟩] 23)) := ⟨_, rfl⟩
    have hBs : Below w.heap.size w s15 := by rw [hws]; exact (((Below.refl w.heap.size w).alloc (by simp) _).alloc (by simp) _)
    obtain ⟨A, hdA⟩ : ∃ b, b = w.heap.size := ⟨_, rfl⟩
    obtain ⟨C, hdC⟩ : ∃ b, b = w.heap.size + 1 := ⟨_, rfl⟩
    have hsz : s15.heap.size = w.heap.size + 1 + 1 := by rw [hws]; simp
    have dCA : C ≠ A := by omega
    have kA0 : s15.cell? ⟨A, 0, none⟩ = some (.bool neg) := by rw [hws]; simp [go_sem, hdA, hdC]
    have kA1 : s15.cell? ⟨A, 1, none⟩ = some (.string a) := by rw [hws]; simp [go_sem, hdA, hdC]
    have kA2 : s15.cell? ⟨A, 2, none⟩ = some (.string d) := by rw [hws]; simp [go_sem, hdA, hdC]
    have zA : A < s15.heap.size := by omega
    have lA : w.heap.size ≤ A := by have := Nat.le_refl w.heap.size; omega
    have kC0 : s15.cell? ⟨C, 0, none⟩ = some (.bool false) := by rw [hws]; simp [go_sem, hdA, hdC]
    have fC0 : s15.frozen? ⟨C, 0, none⟩ = false := by rw [hws]; simp [go_sem, hdA, hdC]
    have kC1 : s15.cell? ⟨C, 1, none⟩ = some (.string ⟨#[]⟩) := by rw [hws]; simp [go_sem, hdA, hdC]
    have fC1 : s15.frozen? ⟨C, 1, none⟩ = false := by rw [hws]; simp [go_sem, hdA, hdC]
    have kC2 : s15.cell? ⟨C, 2, none⟩ = some (.string ⟨#[]⟩) := by rw [hws]; simp [go_sem, hdA, hdC]
    have fC2 : s15.frozen? ⟨C, 2, none⟩ = false := by rw [hws]; simp [go_sem, hdA, hdC]
    have zC : C < s15.heap.size := by omega
    have lC : w.heap.size ≤ C := by have := Nat.le_refl w.heap.size; omega
    rw [← hws]
    try rw [← hdC]
    try rw [← hdA]
    clear hws hsz hdA hdC
    have hBo := hBs; clear hBs
    refine (HP.out _).mono ?_; rintro e s16 ⟨rfl, hb⟩
    replace kA0 := belK hb kA0 zA; replace kA1 := belK hb kA1 zA; replace kA2 := belK hb kA2 zA; replace zA := Nat.lt_of_lt_of_le zA hb.size
    replace kC0 := belK hb kC0 zC; replace fC0 := belF hb fC0 zC; replace kC1 := belK hb kC1 zC; replace fC1 := belF hb fC1 zC; replace kC2 := belK hb kC2 zC; replace fC2 := belF hb fC2 zC; replace zC := Nat.lt_of_lt_of_le zC hb.size
    replace hBo := hBo.trans (hb.mono hBo.size)
    clear hb
    go_wp2_with fail
    obtain ⟨s17, hws⟩ : ∃ s, s = ((s16.alloc (.cells #[.bool nb, .string nn] 44)).alloc (.cells #[.bool false, .string nd] 44)) := ⟨_, rfl⟩
    have hBs : Below w.heap.size w s17 := by rw [hws]; exact (((hBo).alloc (by exact hBo.size) _).alloc (by have := hBo.size; simp; omega) _)
    obtain ⟨X, hdX⟩ : ∃ b, b = s16.heap.size := ⟨_, rfl⟩
    obtain ⟨Y, hdY⟩ : ∃ b, b = s16.heap.size + 1 := ⟨_, rfl⟩
    have hsz : s17.heap.size = s16.heap.size + 1 + 1 := by rw [hws]; simp
    have dCX : C ≠ X := by omega
    have dCY : C ≠ Y := by omega
    have hQC : ∀ p v, s16.cell? p = some v → s17.cell? p = some v := fun p v h => by rw [hws]; exact (alK (alK h))
    have hQZ : ∀ b, b < s16.heap.size → b < s17.heap.size := fun b h => by omega
    have hQF : ∀ b j, b < s16.heap.size → s16.frozen? ⟨b, j, none⟩ = false → s17.frozen? ⟨b, j, none⟩ = false := fun b j z h => by rw [hws]; exact (alF (alZ z) (alF z h))
    replace kA0 := hQC _ _ kA0; replace kA1 := hQC _ _ kA1; replace kA2 := hQC _ _ kA2; replace zA := hQZ _ zA
    replace kC0 := hQC _ _ kC0; replace fC0 := hQF _ _ zC fC0; replace kC1 := hQC _ _ kC1; replace fC1 := hQF _ _ zC fC1; replace kC2 := hQC _ _ kC2; replace fC2 := hQF _ _ zC fC2; replace zC := hQZ _ zC
    clear hQC hQZ hQF
    have kX0 : s17.cell? ⟨X, 0, none⟩ = some (.bool nb) := by rw [hws]; simp [go_sem, hdX, hdY]
    have kX1 : s17.cell? ⟨X, 1, none⟩ = some (.string nn) := by rw [hws]; simp [go_sem, hdX, hdY]
    have zX : X < s17.heap.size := by omega
    have lX : w.heap.size ≤ X := by have := hBo.size; omega
    have kY0 : s17.cell? ⟨Y, 0, none⟩ = some (.bool false) := by rw [hws]; simp [go_sem, hdX, hdY]
    have kY1 : s17.cell? ⟨Y, 1, none⟩ = some (.string nd) := by rw [hws]; simp [go_sem, hdX, hdY]
    have zY : Y < s17.heap.size := by omega
    have lY : w.heap.size ≤ Y := by have := hBo.size; omega
    rw [← hws]
    try rw [← hdY]
    try rw [← hdX]
    clear hBo
    clear hws hsz hdX hdY
    have hBo := hBs; clear hBs
    refine (HT1.out _).mono ?_; rintro e s18 ⟨rfl, hb⟩
    replace kA0 := belK hb kA0 zA; replace kA1 := belK hb kA1 zA; replace kA2 := belK hb kA2 zA; replace zA := Nat.lt_of_lt_of_le zA hb.size
    replace kC0 := belK hb kC0 zC; replace fC0 := belF hb fC0 zC; replace kC1 := belK hb kC1 zC; replace fC1 := belF hb fC1 zC; replace kC2 := belK hb kC2 zC; replace fC2 := belF hb fC2 zC; replace zC := Nat.lt_of_lt_of_le zC hb.size
    replace kX0 := belK hb kX0 zX; replace kX1 := belK hb kX1 zX; replace zX := Nat.lt_of_lt_of_le zX hb.size
    replace kY0 := belK hb kY0 zY; replace kY1 := belK hb kY1 zY; replace zY := Nat.lt_of_lt_of_le zY hb.size
    replace hBo := hBo.trans (hb.mono hBo.size)
    clear hb
    go_wp2_with fail
    refine (HT2.out _).mono ?_; rintro e s19 ⟨rfl, hb⟩
    replace kA0 := belK hb kA0 zA; replace kA1 := belK hb kA1 zA; replace kA2 := belK hb kA2 zA; replace zA := Nat.lt_of_lt_of_le zA hb.size
    replace kC0 := belK hb kC0 zC; replace fC0 := belF hb fC0 zC; replace kC1 := belK hb kC1 zC; replace fC1 := belF hb fC1 zC; replace kC2 := belK hb kC2 zC; replace fC2 := belF hb fC2 zC; replace zC := Nat.lt_of_lt_of_le zC hb.size
    replace kX0 := belK hb kX0 zX; replace kX1 := belK hb kX1 zX; replace zX := Nat.lt_of_lt_of_le zX hb.size
    replace kY0 := belK hb kY0 zY; replace kY1 := belK hb kY1 zY; replace zY := Nat.lt_of_lt_of_le zY hb.size
    replace hBo := hBo.trans (hb.mono hBo.size)
    clear hb
    go_wp2_with fail
    refine (M1.out _).mono ?_; rintro e s20 ⟨rfl, hb⟩
    replace kA0 := belK hb kA0 zA; replace kA1 := belK hb kA1 zA; replace kA2 := belK hb kA2 zA; replace zA := Nat.lt_of_lt_of_le zA hb.size
    replace kC0 := belK hb kC0 zC; replace fC0 := belF hb fC0 zC; replace kC1 := belK hb kC1 zC; replace fC1 := belF hb fC1 zC; replace kC2 := belK hb kC2 zC; replace fC2 := belF hb fC2 zC; replace zC := Nat.lt_of_lt_of_le zC hb.size
    replace kX0 := belK hb kX0 zX; replace kX1 := belK hb kX1 zX; replace zX := Nat.lt_of_lt_of_le zX hb.size
    replace kY0 := belK hb kY0 zY; replace kY1 := belK hb kY1 zY; replace zY := Nat.lt_of_lt_of_le zY hb.size
    replace hBo := hBo.trans (hb.mono hBo.size)
    clear hb
    go_wp2_with fail
    refine (M2.out _).mono ?_; rintro e s21 ⟨rfl, hb⟩
    replace kA0 := belK hb kA0 zA; replace kA1 := belK hb kA1 zA; replace kA2 := belK hb kA2 zA; replace zA := Nat.lt_of_lt_of_le zA hb.size
    replace kC0 := belK hb kC0 zC; replace fC0 := belF hb fC0 zC; replace kC1 := belK hb kC1 zC; replace fC1 := belF hb fC1 zC; replace kC2 := belK hb kC2 zC; replace fC2 := belF hb fC2 zC; replace zC := Nat.lt_of_lt_of_le zC hb.size
    replace kX0 := belK hb kX0 zX; replace kX1 := belK hb kX1 zX; replace zX := Nat.lt_of_lt_of_le zX hb.size
    replace kY0 := belK hb kY0 zY; replace kY1 := belK hb kY1 zY; replace zY := Nat.lt_of_lt_of_le zY hb.size
    replace hBo := hBo.trans (hb.mono hBo.size)
    clear hb
    go_wp2_with fail
    refine (DM.out _).mono ?_; rintro e s22 ⟨rfl, hb⟩
    replace kA0 := belK hb kA0 zA; replace kA1 := belK hb kA1 zA; replace kA2 := belK hb kA2 zA; replace zA := Nat.lt_of_lt_of_le zA hb.size
    replace kC0 := belK hb kC0 zC; replace fC0 := belF hb fC0 zC; replace kC1 := belK hb kC1 zC; replace fC1 := belF hb fC1 zC; replace kC2 := belK hb kC2 zC; replace fC2 := belF hb fC2 zC; replace zC := Nat.lt_of_lt_of_le zC hb.size
    replace kX0 := belK hb kX0 zX; replace kX1 := belK hb kX1 zX; replace zX := Nat.lt_of_lt_of_le zX hb.size
    replace kY0 := belK hb kY0 zY; replace kY1 := belK hb kY1 zY; replace zY := Nat.lt_of_lt_of_le zY hb.size
    replace hBo := hBo.trans (hb.mono hBo.size)
    clear hb
    go_wp2_with fail
    refine (HA'.out _).mono ?_; rintro e s23 ⟨rfl, hb⟩
    replace kA0 := belK hb kA0 zA; replace kA1 := belK hb kA1 zA; replace kA2 := belK hb kA2 zA; replace zA := Nat.lt_of_lt_of_le zA hb.size
    replace kC0 := belK hb kC0 zC; replace fC0 := belF hb fC0 zC; replace kC1 := belK hb kC1 zC; replace fC1 := belF hb fC1 zC; replace kC2 := belK hb kC2 zC; replace fC2 := belF hb fC2 zC; replace zC := Nat.lt_of_lt_of_le zC hb.size
    replace kX0 := belK hb kX0 zX; replace kX1 := belK hb kX1 zX; replace zX := Nat.lt_of_lt_of_le zX hb.size
    replace kY0 := belK hb kY0 zY; replace kY1 := belK hb kY1 zY; replace zY := Nat.lt_of_lt_of_le zY hb.size
    replace hBo := hBo.trans (hb.mono hBo.size)
    clear hb
    go_wp2_with fail
    refine (HAD.out _).mono ?_; rintro e s24 ⟨rfl, hb⟩
    replace kA0 := belK hb kA0 zA; replace kA1 := belK hb kA1 zA; replace kA2 := belK hb kA2 zA; replace zA := Nat.lt_of_lt_of_le zA hb.size
    replace kC0 := belK hb kC0 zC; replace fC0 := belF hb fC0 zC; replace kC1 := belK hb kC1 zC; replace fC1 := belF hb fC1 zC; replace kC2 := belK hb kC2 zC; replace fC2 := belF hb fC2 zC; replace zC := Nat.lt_of_lt_of_le zC hb.size
    replace kX0 := belK hb kX0 zX; replace kX1 := belK hb kX1 zX; replace zX := Nat.lt_of_lt_of_le zX hb.size
    replace kY0 := belK hb kY0 zY; replace kY1 := belK hb kY1 zY; replace zY := Nat.lt_of_lt_of_le zY hb.size
    replace hBo := hBo.trans (hb.mono hBo.size)
    clear hb
    go_wp2_with fail
    have HF : Hid (∀ W, Below s24.heap.size s24 W → Below w.heap.size w W) := fun W hW => hBo.trans (hW.mono hBo.size)
    clear hBo
    first | (go_region_held3 (fun w' => w'.cell? ⟨A, 0, none⟩ = some (.bool neg) ∧ w'.cell? ⟨A, 1, none⟩ = some (.string a) ∧ w'.cell? ⟨A, 2, none⟩ = some (.string d) ∧ w'.cell? ⟨X, 0, none⟩ = some (.bool nb) ∧ w'.cell? ⟨X, 1, none⟩ = some (.string nn) ∧ w'.cell? ⟨Y, 0, none⟩ = some (.bool false) ∧ w'.cell? ⟨Y, 1, none⟩ = some (.string nd))
      (go_keep) (first
      | (go_at_call 69; refine (M3.out _).mono ?_; rintro e x25 ⟨rfl, hbx⟩; have hTx : Below s24.heap.size s24 x25 := (by first | exact (Below.refl _ _).drew.trans hbx | exact Below.trans (by assumption) (hbx.mono (Below.size (by assumption))) | exact (Below.refl _ _).trans hbx); obtain ⟨hcx, hfx⟩ := bcell hTx)
      | (go_at_call 64; refine (HM.out _ _ _).mono ?_; rintro e x25 ⟨he, hbx⟩; (first | rw [E1.out] at he | rw [E2.out] at he); subst he; have hTx : Below s24.heap.size s24 x25 := (by first | exact (Below.refl _ _).drew.trans hbx | exact Below.trans (by assumption) (hbx.mono (Below.size (by assumption))) | exact (Below.refl _ _).trans hbx); obtain ⟨hcx, hfx⟩ := bcell hTx)
      | (go_at_call 42; refine (HK.out _).mono ?_; rintro e x25 ⟨rfl, hbx⟩; have hTx : Below s24.heap.size s24 x25 := (by first | exact (Below.refl _ _).drew.trans hbx | exact Below.trans (by assumption) (hbx.mono (Below.size (by assumption))) | exact (Below.refl _ _).trans hbx); obtain ⟨hcx, hfx⟩ := bcell hTx))) | fail
    all_goals go_wp2_with fail
    all_goals refine bodyPost_ret (v := .tuple #[.agg #[.bool (rb q), .string (rn q), .string (rd q)], .int .i64 c]) (by simp [results, Tryz.results56, go_sem, hcx, kC0, kC1, kC2, zC]) rfl ⟨rfl, ?_⟩
    all_goals exact ((((HF.out _ (by assumption)).setCell lC _).setCell lC _).setCell lC _)

theorem cfDown (x y : Value) (w : World) : (callFunc 61 #[x, y]).run Tryz.prog w = .ok (.enter 61 #[x, y]) w := by kernel_rfl
theorem cfUp (x y : Value) (w : World) : (callFunc 62 #[x, y]).run Tryz.prog w = .ok (.enter 62 #[x, y]) w := by kernel_rfl
theorem cfHalf (x y : Value) (w : World) : (callFunc 57 #[x, y]).run Tryz.prog w = .ok (.enter 57 #[x, y]) w := by kernel_rfl

set_option maxRecDepth 100000 in
set_option maxHeartbeats 4000000 in
theorem roundDown_any (neg : Bool) (a d : ByteArray) (n : Int) (q : Rt) (c : Int) (w : World) (ha : a.size ≤ 140737488351232) (hd : d.size ≤ 140737488351232) (hq : rdR awayDown (wl neg a d) n = q) (hc : rdE awayDown (wl neg a d) n = c) :
    Calls Tryz.prog 24 #[.agg #[.bool neg, .string a, .string d], .int .i64 n] w fun e w' => e = .returned (.tuple #[.agg #[.bool (rb q), .string (rn q), .string (rd q)], .int .i64 c]) ∧ Below w.heap.size w w' := by
  have HR := Lib.hid (fun w => rounded_any awayDown 61 cfDown awayDown_any neg a d n q c w ha hd hq hc)
  clear hq hc ha hd
  go_enter Tryz.func24, Tryz.ntmps24
  go_wp2_with fail
  obtain ⟨s26, hws⟩ : ∃ s, s = ((w.alloc (.cells #[.bool neg, .string a, .string d] 23)).alloc (.cells #[.bool false, .string ⟨#[]⟩, .string ⟨#[]⟩] 23)) := ⟨_, rfl⟩
  have hBs : Below w.heap.size w s26 := by rw [hws]; exact (((Below.refl w.heap.size w).alloc (by simp) _).alloc (by simp) _)
  obtain ⟨A, hdA⟩ : ∃ b, b = w.heap.size := ⟨_, rfl⟩
  obtain ⟨C, hdC⟩ : ∃ b, b = w.heap.size + 1 := ⟨_, rfl⟩
  have hsz : s26.heap.size = w.heap.size + 1 + 1 := by rw [hws]; simp
  have dCA : C ≠ A := by omega
  have kA0 : s26.cell? ⟨A, 0, none⟩ = some (.bool neg) := by rw [hws]; simp [go_sem, hdA, hdC]
  have kA1 : s26.cell? ⟨A, 1, none⟩ = some (.string a) := by rw [hws]; simp [go_sem, hdA, hdC]
  have kA2 : s26.cell? ⟨A, 2, none⟩ = some (.string d) := by rw [hws]; simp [go_sem, hdA, hdC]
  have zA : A < s26.heap.size := by omega
  have lA : w.heap.size ≤ A := by have := Nat.le_refl w.heap.size; omega
  have kC0 : s26.cell? ⟨C, 0, none⟩ = some (.bool false) := by rw [hws]; simp [go_sem, hdA, hdC]
  have fC0 : s26.frozen? ⟨C, 0, none⟩ = false := by rw [hws]; simp [go_sem, hdA, hdC]
  have kC1 : s26.cell? ⟨C, 1, none⟩ = some (.string ⟨#[]⟩) := by rw [hws]; simp [go_sem, hdA, hdC]
  have fC1 : s26.frozen? ⟨C, 1, none⟩ = false := by rw [hws]; simp [go_sem, hdA, hdC]
  have kC2 : s26.cell? ⟨C, 2, none⟩ = some (.string ⟨#[]⟩) := by rw [hws]; simp [go_sem, hdA, hdC]
  have fC2 : s26.frozen? ⟨C, 2, none⟩ = false := by rw [hws]; simp [go_sem, hdA, hdC]
  have zC : C < s26.heap.size := by omega
  have lC : w.heap.size ≤ C := by have := Nat.le_refl w.heap.size; omega
  rw [← hws]
  try rw [← hdC]
  try rw [← hdA]
  clear hws hsz hdA hdC
  have hBo := hBs; clear hBs
  refine (HR.out _).mono ?_; rintro e s27 ⟨rfl, hb⟩
  replace kA0 := belK hb kA0 zA; replace kA1 := belK hb kA1 zA; replace kA2 := belK hb kA2 zA; replace zA := Nat.lt_of_lt_of_le zA hb.size
  replace kC0 := belK hb kC0 zC; replace fC0 := belF hb fC0 zC; replace kC1 := belK hb kC1 zC; replace fC1 := belF hb fC1 zC; replace kC2 := belK hb kC2 zC; replace fC2 := belF hb fC2 zC; replace zC := Nat.lt_of_lt_of_le zC hb.size
  replace hBo := hBo.trans (hb.mono hBo.size)
  clear hb
  all_goals go_wp2_with fail
  all_goals refine bodyPost_ret (v := .tuple #[.agg #[.bool (rb q), .string (rn q), .string (rd q)], .int .i64 c]) (by simp [results, Tryz.results24, go_sem, kC0, kC1, kC2, zC]) rfl ⟨rfl, ?_⟩
  all_goals exact (((hBo.setCell lC _).setCell lC _).setCell lC _)

set_option maxRecDepth 100000 in
set_option maxHeartbeats 4000000 in
theorem roundUp_any (neg : Bool) (a d : ByteArray) (n : Int) (q : Rt) (c : Int) (w : World) (ha : a.size ≤ 140737488351232) (hd : d.size ≤ 140737488351232) (hq : rdR awayUp (wl neg a d) n = q) (hc : rdE awayUp (wl neg a d) n = c) :
    Calls Tryz.prog 26 #[.agg #[.bool neg, .string a, .string d], .int .i64 n] w fun e w' => e = .returned (.tuple #[.agg #[.bool (rb q), .string (rn q), .string (rd q)], .int .i64 c]) ∧ Below w.heap.size w w' := by
  have HR := Lib.hid (fun w => rounded_any awayUp 62 cfUp awayUp_any neg a d n q c w ha hd hq hc)
  clear hq hc ha hd
  go_enter Tryz.func26, Tryz.ntmps26
  go_wp2_with fail
  obtain ⟨s28, hws⟩ : ∃ s, s = ((w.alloc (.cells #[.bool neg, .string a, .string d] 23)).alloc (.cells #[.bool false, .string ⟨#[]⟩, .string ⟨#[]⟩] 23)) := ⟨_, rfl⟩
  have hBs : Below w.heap.size w s28 := by rw [hws]; exact (((Below.refl w.heap.size w).alloc (by simp) _).alloc (by simp) _)
  obtain ⟨A, hdA⟩ : ∃ b, b = w.heap.size := ⟨_, rfl⟩
  obtain ⟨C, hdC⟩ : ∃ b, b = w.heap.size + 1 := ⟨_, rfl⟩
  have hsz : s28.heap.size = w.heap.size + 1 + 1 := by rw [hws]; simp
  have dCA : C ≠ A := by omega
  have kA0 : s28.cell? ⟨A, 0, none⟩ = some (.bool neg) := by rw [hws]; simp [go_sem, hdA, hdC]
  have kA1 : s28.cell? ⟨A, 1, none⟩ = some (.string a) := by rw [hws]; simp [go_sem, hdA, hdC]
  have kA2 : s28.cell? ⟨A, 2, none⟩ = some (.string d) := by rw [hws]; simp [go_sem, hdA, hdC]
  have zA : A < s28.heap.size := by omega
  have lA : w.heap.size ≤ A := by have := Nat.le_refl w.heap.size; omega
  have kC0 : s28.cell? ⟨C, 0, none⟩ = some (.bool false) := by rw [hws]; simp [go_sem, hdA, hdC]
  have fC0 : s28.frozen? ⟨C, 0, none⟩ = false := by rw [hws]; simp [go_sem, hdA, hdC]
  have kC1 : s28.cell? ⟨C, 1, none⟩ = some (.string ⟨#[]⟩) := by rw [hws]; simp [go_sem, hdA, hdC]
  have fC1 : s28.frozen? ⟨C, 1, none⟩ = false := by rw [hws]; simp [go_sem, hdA, hdC]
  have kC2 : s28.cell? ⟨C, 2, none⟩ = some (.string ⟨#[]⟩) := by rw [hws]; simp [go_sem, hdA, hdC]
  have fC2 : s28.frozen? ⟨C, 2, none⟩ = false := by rw [hws]; simp [go_sem, hdA, hdC]
  have zC : C < s28.heap.size := by omega
  have lC : w.heap.size ≤ C := by have := Nat.le_refl w.heap.size; omega
  rw [← hws]
  try rw [← hdC]
  try rw [← hdA]
  clear hws hsz hdA hdC
  have hBo := hBs; clear hBs
  refine (HR.out _).mono ?_; rintro e s29 ⟨rfl, hb⟩
  replace kA0 := belK hb kA0 zA; replace kA1 := belK hb kA1 zA; replace kA2 := belK hb kA2 zA; replace zA := Nat.lt_of_lt_of_le zA hb.size
  replace kC0 := belK hb kC0 zC; replace fC0 := belF hb fC0 zC; replace kC1 := belK hb kC1 zC; replace fC1 := belF hb fC1 zC; replace kC2 := belK hb kC2 zC; replace fC2 := belF hb fC2 zC; replace zC := Nat.lt_of_lt_of_le zC hb.size
  replace hBo := hBo.trans (hb.mono hBo.size)
  clear hb
  all_goals go_wp2_with fail
  all_goals refine bodyPost_ret (v := .tuple #[.agg #[.bool (rb q), .string (rn q), .string (rd q)], .int .i64 c]) (by simp [results, Tryz.results26, go_sem, kC0, kC1, kC2, zC]) rfl ⟨rfl, ?_⟩
  all_goals exact (((hBo.setCell lC _).setCell lC _).setCell lC _)

set_option maxRecDepth 100000 in
set_option maxHeartbeats 4000000 in
theorem roundHalf_any (neg : Bool) (a d : ByteArray) (n : Int) (q : Rt) (c : Int) (w : World) (ha : a.size ≤ 140737488351232) (hd : d.size ≤ 140737488351232) (hq : rdR awayHalf (wl neg a d) n = q) (hc : rdE awayHalf (wl neg a d) n = c) :
    Calls Tryz.prog 22 #[.agg #[.bool neg, .string a, .string d], .int .i64 n] w fun e w' => e = .returned (.tuple #[.agg #[.bool (rb q), .string (rn q), .string (rd q)], .int .i64 c]) ∧ Below w.heap.size w w' := by
  have HR := Lib.hid (fun w => rounded_any awayHalf 57 cfHalf awayHalf_any neg a d n q c w ha hd hq hc)
  clear hq hc ha hd
  go_enter Tryz.func22, Tryz.ntmps22
  go_wp2_with fail
  obtain ⟨s30, hws⟩ : ∃ s, s = ((w.alloc (.cells #[.bool neg, .string a, .string d] 23)).alloc (.cells #[.bool false, .string ⟨#[]⟩, .string ⟨#[]⟩] 23)) := ⟨_, rfl⟩
  have hBs : Below w.heap.size w s30 := by rw [hws]; exact (((Below.refl w.heap.size w).alloc (by simp) _).alloc (by simp) _)
  obtain ⟨A, hdA⟩ : ∃ b, b = w.heap.size := ⟨_, rfl⟩
  obtain ⟨C, hdC⟩ : ∃ b, b = w.heap.size + 1 := ⟨_, rfl⟩
  have hsz : s30.heap.size = w.heap.size + 1 + 1 := by rw [hws]; simp
  have dCA : C ≠ A := by omega
  have kA0 : s30.cell? ⟨A, 0, none⟩ = some (.bool neg) := by rw [hws]; simp [go_sem, hdA, hdC]
  have kA1 : s30.cell? ⟨A, 1, none⟩ = some (.string a) := by rw [hws]; simp [go_sem, hdA, hdC]
  have kA2 : s30.cell? ⟨A, 2, none⟩ = some (.string d) := by rw [hws]; simp [go_sem, hdA, hdC]
  have zA : A < s30.heap.size := by omega
  have lA : w.heap.size ≤ A := by have := Nat.le_refl w.heap.size; omega
  have kC0 : s30.cell? ⟨C, 0, none⟩ = some (.bool false) := by rw [hws]; simp [go_sem, hdA, hdC]
  have fC0 : s30.frozen? ⟨C, 0, none⟩ = false := by rw [hws]; simp [go_sem, hdA, hdC]
  have kC1 : s30.cell? ⟨C, 1, none⟩ = some (.string ⟨#[]⟩) := by rw [hws]; simp [go_sem, hdA, hdC]
  have fC1 : s30.frozen? ⟨C, 1, none⟩ = false := by rw [hws]; simp [go_sem, hdA, hdC]
  have kC2 : s30.cell? ⟨C, 2, none⟩ = some (.string ⟨#[]⟩) := by rw [hws]; simp [go_sem, hdA, hdC]
  have fC2 : s30.frozen? ⟨C, 2, none⟩ = false := by rw [hws]; simp [go_sem, hdA, hdC]
  have zC : C < s30.heap.size := by omega
  have lC : w.heap.size ≤ C := by have := Nat.le_refl w.heap.size; omega
  rw [← hws]
  try rw [← hdC]
  try rw [← hdA]
  clear hws hsz hdA hdC
  have hBo := hBs; clear hBs
  refine (HR.out _).mono ?_; rintro e s31 ⟨rfl, hb⟩
  replace kA0 := belK hb kA0 zA; replace kA1 := belK hb kA1 zA; replace kA2 := belK hb kA2 zA; replace zA := Nat.lt_of_lt_of_le zA hb.size
  replace kC0 := belK hb kC0 zC; replace fC0 := belF hb fC0 zC; replace kC1 := belK hb kC1 zC; replace fC1 := belF hb fC1 zC; replace kC2 := belK hb kC2 zC; replace fC2 := belF hb fC2 zC; replace zC := Nat.lt_of_lt_of_le zC hb.size
  replace hBo := hBo.trans (hb.mono hBo.size)
  clear hb
  all_goals go_wp2_with fail
  all_goals refine bodyPost_ret (v := .tuple #[.agg #[.bool (rb q), .string (rn q), .string (rd q)], .int .i64 c]) (by simp [results, Tryz.results22, go_sem, kC0, kC1, kC2, zC]) rfl ⟨rfl, ?_⟩
  all_goals exact (((hBo.setCell lC _).setCell lC _).setCell lC _)

set_option maxRecDepth 100000 in
set_option maxHeartbeats 4000000 in
theorem roundTrunc_any (neg : Bool) (a d : ByteArray) (q : Rt) (w : World) (ha : a.size ≤ 140737488351232) (hd : d.size ≤ 140737488351232) (hq : rdR awayDown (wl neg a d) 0 = q) :
    Calls Tryz.prog 16 #[.agg #[.bool neg, .string a, .string d]] w fun e w' => e = .returned (.agg #[.bool (rb q), .string (rn q), .string (rd q)]) ∧ Below w.heap.size w w' := by
  have HR := Lib.hid (fun w => roundDown_any neg a d 0 q _ w ha hd hq rfl)
  generalize rdE awayDown (wl neg a d) 0 = c at *
  generalize rb q = qb at *
  generalize rn q = qn at *
  generalize rd q = qd at *
  clear hq ha hd
  go_enter Tryz.func16, Tryz.ntmps16
  go_wp2_with fail
  obtain ⟨s32, hws⟩ : ∃ s, s = ((w.alloc (.cells #[.bool neg, .string a, .string d] 23)).alloc (.cells #[.bool false, .string ⟨#[]⟩, .string ⟨#[]⟩] 23)) := ⟨_, rfl⟩
  have hBs : Below w.heap.size w s32 := by rw [hws]; exact (((Below.refl w.heap.size w).alloc (by simp) _).alloc (by simp) _)
  obtain ⟨A, hdA⟩ : ∃ b, b = w.heap.size := ⟨_, rfl⟩
  obtain ⟨C, hdC⟩ : ∃ b, b = w.heap.size + 1 := ⟨_, rfl⟩
  have hsz : s32.heap.size = w.heap.size + 1 + 1 := by rw [hws]; simp
  have dCA : C ≠ A := by omega
  have kA0 : s32.cell? ⟨A, 0, none⟩ = some (.bool neg) := by rw [hws]; simp [go_sem, hdA, hdC]
  have kA1 : s32.cell? ⟨A, 1, none⟩ = some (.string a) := by rw [hws]; simp [go_sem, hdA, hdC]
  have kA2 : s32.cell? ⟨A, 2, none⟩ = some (.string d) := by rw [hws]; simp [go_sem, hdA, hdC]
  have zA : A < s32.heap.size := by omega
  have lA : w.heap.size ≤ A := by have := Nat.le_refl w.heap.size; omega
  have kC0 : s32.cell? ⟨C, 0, none⟩ = some (.bool false) := by rw [hws]; simp [go_sem, hdA, hdC]
  have fC0 : s32.frozen? ⟨C, 0, none⟩ = false := by rw [hws]; simp [go_sem, hdA, hdC]
  have kC1 : s32.cell? ⟨C, 1, none⟩ = some (.string ⟨#[]⟩) := by rw [hws]; simp [go_sem, hdA, hdC]
  have fC1 : s32.frozen? ⟨C, 1, none⟩ = false := by rw [hws]; simp [go_sem, hdA, hdC]
  have kC2 : s32.cell? ⟨C, 2, none⟩ = some (.string ⟨#[]⟩) := by rw [hws]; simp [go_sem, hdA, hdC]
  have fC2 : s32.frozen? ⟨C, 2, none⟩ = false := by rw [hws]; simp [go_sem, hdA, hdC]
  have zC : C < s32.heap.size := by omega
  have lC : w.heap.size ≤ C := by have := Nat.le_refl w.heap.size; omega
  rw [← hws]
  try rw [← hdC]
  try rw [← hdA]
  clear hws hsz hdA hdC
  have hBo := hBs; clear hBs
  refine (HR.out _).mono ?_; rintro e s33 ⟨rfl, hb⟩
  replace kA0 := belK hb kA0 zA; replace kA1 := belK hb kA1 zA; replace kA2 := belK hb kA2 zA; replace zA := Nat.lt_of_lt_of_le zA hb.size
  replace kC0 := belK hb kC0 zC; replace fC0 := belF hb fC0 zC; replace kC1 := belK hb kC1 zC; replace fC1 := belF hb fC1 zC; replace kC2 := belK hb kC2 zC; replace fC2 := belF hb fC2 zC; replace zC := Nat.lt_of_lt_of_le zC hb.size
  replace hBo := hBo.trans (hb.mono hBo.size)
  clear hb
  all_goals go_wp2_with fail
  all_goals refine bodyPost_ret (v := .agg #[.bool qb, .string qn, .string qd]) (by simp [results, Tryz.results16, go_sem, kC0, kC1, kC2, zC]) rfl ⟨rfl, ?_⟩
  all_goals exact ((((hBo.setCell lC _).setCell lC _).setCell lC _).alloc (by first | exact hBo.size | (have := hBo.size; simp; omega) | (have := (HF.out _ (by assumption)).size; simp; omega)) _)
end Go.Proofs.YtbgmnpabclfjaaaGreatDoor
