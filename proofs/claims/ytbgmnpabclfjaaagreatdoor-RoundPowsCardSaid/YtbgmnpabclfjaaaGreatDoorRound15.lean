/-
 POWERS OF NUMBERS, WALKED: the document's, where it multiplies.
-/
import Derived.Test.YtbgmnpabclfjaaaGreatDoorRound14
namespace Go.Proofs.YtbgmnpabclfjaaaGreatDoor
open Go.RowKit Go.Shelf
set_option linter.unusedSimpArgs false
set_option linter.unusedVariables false

def PwRel (w : World) (A C P : Nat) (Q : Rt) (t : Nat) (i : Value) (wr : World) : Prop :=
 ∃ j : Nat, j ≤ t ∧ i = .int .i64 (j : Int) ∧ RtOk (pwP Q j) ∧
   wr.cell? ⟨A, 0, none⟩ = some (.bool (rb Q)) ∧ wr.cell? ⟨A, 1, none⟩ = some (.string (rn Q)) ∧ wr.cell? ⟨A, 2, none⟩ = some (.string (rd Q)) ∧ A < wr.heap.size ∧
   wr.cell? ⟨C, 0, none⟩ = some (.bool false) ∧ wr.cell? ⟨C, 1, none⟩ = some (.string ⟨#[]⟩) ∧ wr.cell? ⟨C, 2, none⟩ = some (.string ⟨#[]⟩) ∧ C < wr.heap.size ∧
   wr.frozen? ⟨C, 0, none⟩ = false ∧ wr.frozen? ⟨C, 1, none⟩ = false ∧ wr.frozen? ⟨C, 2, none⟩ = false ∧
   wr.cell? ⟨P, 0, none⟩ = some (.bool (rb (pwP Q j))) ∧ wr.cell? ⟨P, 1, none⟩ = some (.string (rn (pwP Q j))) ∧ wr.cell? ⟨P, 2, none⟩ = some (.string (rd (pwP Q j))) ∧ P < wr.heap.size ∧
   wr.frozen? ⟨P, 0, none⟩ = false ∧ wr.frozen? ⟨P, 1, none⟩ = false ∧ wr.frozen? ⟨P, 2, none⟩ = false ∧
   wr.frozen? ⟨A, 0, none⟩ = false ∧ wr.frozen? ⟨A, 1, none⟩ = false ∧ wr.frozen? ⟨A, 2, none⟩ = false ∧ Below w.heap.size w wr
theorem pwP_zero (q : Rt) : rb (pwP q 0) = false ∧ rn (pwP q 0) = ⟨#[1]⟩ ∧ rd (pwP q 0) = ⟨#[1]⟩ := by
 refine ⟨?_, ?_, ?_⟩
 · show (q.neg && decide (0 % 2 = 1)) = false
   simp
 · show Nt.E (q.num ^ 0) = _
   rw [Nat.pow_zero, E_one]
 · show Nt.E (q.den ^ 0) = _
   rw [Nat.pow_zero, E_one]
theorem refMul_pw {Q : Rt} (hok : RtOk Q) {j : Nat} (hp : RtOk (pwP Q j)) (q : Rt) (c : Int) (hq : mkR (topI (pwP Q j) * topI Q) (lowI (pwP Q j) * lowI Q) = q) (hc : mkE (topI (pwP Q j) * topI Q) (lowI (pwP Q j) * lowI Q) = c) (w : World) :
   Calls Tryz.prog 36 #[.agg #[.bool (rb (pwP Q j)), .string (rn (pwP Q j)), .string (rd (pwP Q j))], .agg #[.bool (rb Q), .string (rn Q), .string (rd Q)]] w fun e w' => e = .returned (.tuple #[.agg #[.bool (rb q), .string (rn q), .string (rd q)], .int .i64 c]) ∧ Below w.heap.size w w' :=
 refMul5b_any _ _ _ _ _ _ q c w (by have := rn_size hp; omega) (by have := rd_size hp; omega) (by have := rn_size hok; omega) (by have := rd_size hok; omega) (by rw [wl_of_ok hp, wl_of_ok hok]; exact hq) (by rw [wl_of_ok hp, wl_of_ok hok]; exact hc)
theorem refDiv_pw {p : Rt} (hp : RtOk p) (q : Rt) (c : Int) (hq : mkR (1 * lowI p) (1 * topI p) = q) (hc : mkE (1 * lowI p) (1 * topI p) = c) (w : World) :
   Calls Tryz.prog 65 #[.agg #[.bool false, .string ⟨#[1]⟩, .string ⟨#[1]⟩], .agg #[.bool (rb p), .string (rn p), .string (rd p)]] w fun e w' => e = .returned (.tuple #[.agg #[.bool (rb q), .string (rn q), .string (rd q)], .int .i64 c]) ∧ Below w.heap.size w w' := by
 have h1 : wl false ⟨#[1]⟩ ⟨#[1]⟩ = ⟨false, 1, 1⟩ := wl_of_ok (q := ⟨false, 1, 1⟩) (by decide)
 exact refDiv5_any _ _ _ _ _ _ q c w (by decide) (by decide) (by have := rn_size hp; omega) (by have := rd_size hp; omega) (by rw [wl_of_ok hp, h1]; exact hq) (by rw [wl_of_ok hp, h1]; exact hc)

set_option maxRecDepth 100000 in
set_option maxHeartbeats 16000000 in
theorem refPow6_up (neg : Bool) (a d : ByteArray) (t : Nat) (q : Rt) (c : Int) (w : World) (ha : a.size ≤ 140737488351232) (hd : d.size ≤ 140737488351232)
   (h0 : (wl neg a d).num ≠ 0) (h1 : ¬ ((wl neg a d).num = 1 ∧ (wl neg a d).den = 1)) (ht0 : t ≠ 0) (ht : t ≤ 300) (hq : powR (wl neg a d) (t : Int) = q) (hc : powE (wl neg a d) (t : Int) = c) :
   Calls Tryz.prog 29 #[.agg #[.bool neg, .string a, .string d], .int .i64 (t : Int)] w fun e w' => e = .returned (.tuple #[.agg #[.bool (rb q), .string (rn q), .string (rd q)], .int .i64 c]) ∧ Below w.heap.size w w' := by
 have HW := Lib.hid (fun w => refWell5_any neg a d _ w ha hd rfl)
 have hok := wl_ok neg a d
 generalize wl neg a d = Q at *
 have sN : (rn Q).size ≤ 32 := rn_size hok
 have sD : (rd Q).size ≤ 32 := rd_size hok
 have hS := fun w => refSign5_any (rb Q) (rn Q) (rd Q) _ w (by omega) (by omega) rfl
 have hA := fun w => refAbs5_any (rb Q) (rn Q) (rd Q) _ w (by omega) (by omega) rfl
 rw [wl_of_ok hok] at hS hA
 have HA : Hid (∀ w, Calls Tryz.prog 33 #[.agg #[.bool (rb Q), .string (rn Q), .string (rd Q)]] w fun e w' => e = .returned (.agg #[.bool false, .string (rn Q), .string (rd Q)]) ∧ Below w.heap.size w w') := hA
 have hs0 := sign_ne h0
 have hs1 : (cmpI' (topI Q) 0 == 0) = false := by simpa using hs0
 have HO := Lib.hid refOf1
 have hn1 : ¬ (t : Int) = 0 := by omega
 have hn2 : ((t : Int) == 0) = false := by simpa using hn1
 have hn3 : ¬ (t : Int) < 0 := by omega
 have hn4 : ¬ 300 < (t : Int) := by omega
 have hn5 : ¬ (t : Int) < -300 := by omega
 have gn : rn Q ≠ ⟨#[1]⟩ ∨ rd Q ≠ ⟨#[1]⟩ := by
   rw [← E_one]
   by_cases h : Q.num = 1
   · exact .inr fun h2 => h1 ⟨h, Nt.E_inj h2⟩
   · exact .inl fun h2 => h (Nt.E_inj h2)
 have HM := Lib.hid (fun j => @refMul_pw Q hok j)
 have hml := Lib.hid (fun j => pwP_mul hok h0 j)
 have hpo := Lib.hid (fun j => @pwP_ok Q hok h0 j)
 have hbg := Lib.hid (@pow_big Q (t : Int))
 have hls := Lib.hid (fun a b => @pow_last Q hok h0 (t : Int) (by omega) a b)
 have hz := Lib.hid (pwP_zero Q)
 have hmo : Hid (∀ j, j < t → Nt.blen (Q.num ^ (j + 1)) ≤ Nt.blen (Q.num ^ t) ∧ Nt.blen (Q.den ^ (j + 1)) ≤ Nt.blen (Q.den ^ t)) := fun j hj => ⟨blen_mono (Nat.pow_le_pow_right (Nat.pos_of_ne_zero h0) hj), blen_mono (Nat.pow_le_pow_right (Nat.pos_of_ne_zero hok.1) hj)⟩
 have hqq := Lib.hid hq
 have hcc := Lib.hid hc
 generalize cmpI' (topI Q) 0 = sg at *
 have HS := Lib.hid hS
 clear hS hA hq hc h1 h0 hok sN sD ha hd
 rcases gn with gn | gn
 all_goals
   have hnb := toList_one gn
   clear gn
   go_enter Tryz.func29, Tryz.ntmps29
   go_wp2_with fail
   obtain ⟨s1, hws⟩ : ∃ s, s = ((w.alloc (.cells #[.bool neg, .string a, .string d] 23)).alloc (.cells #[.bool false, .string ⟨#[]⟩, .string ⟨#[]⟩] 23)) := ⟨_, rfl⟩
   have hBs : Below w.heap.size w s1 := by rw [hws]; exact (((Below.refl w.heap.size w).alloc (by simp) _).alloc (by simp) _)
   obtain ⟨A, hdA⟩ : ∃ b, b = w.heap.size := ⟨_, rfl⟩
   obtain ⟨C, hdC⟩ : ∃ b, b = w.heap.size + 1 := ⟨_, rfl⟩
   have hsz : s1.heap.size = w.heap.size + 1 + 1 := by rw [hws]; simp
   have dAC : A ≠ C := by omega
   have dCA : C ≠ A := by omega
   have kA0 : s1.cell? ⟨A, 0, none⟩ = some (.bool neg) := by rw [hws]; simp [go_sem, hdA, hdC]
   have fA0 : s1.frozen? ⟨A, 0, none⟩ = false := by rw [hws]; simp [go_sem, hdA, hdC]
   have kA1 : s1.cell? ⟨A, 1, none⟩ = some (.string a) := by rw [hws]; simp [go_sem, hdA, hdC]
   have fA1 : s1.frozen? ⟨A, 1, none⟩ = false := by rw [hws]; simp [go_sem, hdA, hdC]
   have kA2 : s1.cell? ⟨A, 2, none⟩ = some (.string d) := by rw [hws]; simp [go_sem, hdA, hdC]
   have fA2 : s1.frozen? ⟨A, 2, none⟩ = false := by rw [hws]; simp [go_sem, hdA, hdC]
   have zA : A < s1.heap.size := by omega
   have lA : w.heap.size ≤ A := by have := Nat.le_refl w.heap.size; omega
   have kC0 : s1.cell? ⟨C, 0, none⟩ = some (.bool false) := by rw [hws]; simp [go_sem, hdA, hdC]
   have fC0 : s1.frozen? ⟨C, 0, none⟩ = false := by rw [hws]; simp [go_sem, hdA, hdC]
   have kC1 : s1.cell? ⟨C, 1, none⟩ = some (.string ⟨#[]⟩) := by rw [hws]; simp [go_sem, hdA, hdC]
   have fC1 : s1.frozen? ⟨C, 1, none⟩ = false := by rw [hws]; simp [go_sem, hdA, hdC]
   have kC2 : s1.cell? ⟨C, 2, none⟩ = some (.string ⟨#[]⟩) := by rw [hws]; simp [go_sem, hdA, hdC]
   have fC2 : s1.frozen? ⟨C, 2, none⟩ = false := by rw [hws]; simp [go_sem, hdA, hdC]
   have zC : C < s1.heap.size := by omega
   have lC : w.heap.size ≤ C := by have := Nat.le_refl w.heap.size; omega
   rw [← hws]
   try rw [← hdC]
   try rw [← hdA]
   clear hws hsz hdA hdC
   have hBo := hBs; clear hBs
   refine (HW.out _).mono ?_; rintro e s2 ⟨rfl, hb⟩
   replace kA0 := belK hb kA0 zA; replace fA0 := belF hb fA0 zA; replace kA1 := belK hb kA1 zA; replace fA1 := belF hb fA1 zA; replace kA2 := belK hb kA2 zA; replace fA2 := belF hb fA2 zA; replace zA := belZ zA hb
   replace kC0 := belK hb kC0 zC; replace fC0 := belF hb fC0 zC; replace kC1 := belK hb kC1 zC; replace fC1 := belF hb fC1 zC; replace kC2 := belK hb kC2 zC; replace fC2 := belF hb fC2 zC; replace zC := belZ zC hb
   replace hBo := hBo.trans (hb.mono hBo.size)
   clear hb
   go_wp2_with fail
   obtain ⟨s3, hws⟩ : ∃ s, s = (((s2.setCell ⟨A, 0, none⟩ (.bool (rb Q))).setCell ⟨A, 1, none⟩ (.string (rn Q))).setCell ⟨A, 2, none⟩ (.string (rd Q))) := ⟨_, rfl⟩
   have hBs : Below w.heap.size w s3 := by rw [hws]; exact ((((hBo).setCell lA _).setCell lA _).setCell lA _)
   have hsz : s3.heap.size = s2.heap.size := by rw [hws]; simp
   have hQC : ∀ b j v, s2.cell? ⟨b, j, none⟩ = some v → A ≠ b → s3.cell? ⟨b, j, none⟩ = some v := fun b j v h dA => by rw [hws]; exact (stK (stK (stK h dA) dA) dA)
   replace kC0 := hQC _ _ _ kC0 dAC; replace kC1 := hQC _ _ _ kC1 dAC; replace kC2 := hQC _ _ _ kC2 dAC
   clear hQC
   have kA0_ : s3.cell? ⟨A, 0, none⟩ = some (.bool (rb Q)) := by rw [hws]; simp [go_sem, kA0, kA1, kA2, fA0, fA1, fA2]
   have kA1_ : s3.cell? ⟨A, 1, none⟩ = some (.string (rn Q)) := by rw [hws]; simp [go_sem, kA0, kA1, kA2, fA0, fA1, fA2]
   have kA2_ : s3.cell? ⟨A, 2, none⟩ = some (.string (rd Q)) := by rw [hws]; simp [go_sem, kA0, kA1, kA2, fA0, fA1, fA2]
   replace kA0 := kA0_; clear kA0_; replace kA1 := kA1_; clear kA1_; replace kA2 := kA2_; clear kA2_
   have hQF : ∀ p, s3.frozen? p = s2.frozen? p := fun p => by rw [hws]; simp [go_sem]
   replace fA0 := (hQF _).trans fA0; replace fA1 := (hQF _).trans fA1; replace fA2 := (hQF _).trans fA2
   replace fC0 := (hQF _).trans fC0; replace fC1 := (hQF _).trans fC1; replace fC2 := (hQF _).trans fC2
   clear hQF
   replace zA : A < s3.heap.size := by omega
   replace zC : C < s3.heap.size := by omega
   rw [← hws]
   clear hBo hws hsz
   have hBo := hBs; clear hBs
   refine (HS.out _).mono ?_; rintro e s4 ⟨rfl, hb⟩
   replace kA0 := belK hb kA0 zA; replace fA0 := belF hb fA0 zA; replace kA1 := belK hb kA1 zA; replace fA1 := belF hb fA1 zA; replace kA2 := belK hb kA2 zA; replace fA2 := belF hb fA2 zA; replace zA := belZ zA hb
   replace kC0 := belK hb kC0 zC; replace fC0 := belF hb fC0 zC; replace kC1 := belK hb kC1 zC; replace fC1 := belF hb fC1 zC; replace kC2 := belK hb kC2 zC; replace fC2 := belF hb fC2 zC; replace zC := belZ zC hb
   replace hBo := hBo.trans (hb.mono hBo.size)
   clear hb
   go_wp2_with fail
   refine (HS.out _).mono ?_; rintro e s5 ⟨rfl, hb⟩
   replace kA0 := belK hb kA0 zA; replace fA0 := belF hb fA0 zA; replace kA1 := belK hb kA1 zA; replace fA1 := belF hb fA1 zA; replace kA2 := belK hb kA2 zA; replace fA2 := belF hb fA2 zA; replace zA := belZ zA hb
   replace kC0 := belK hb kC0 zC; replace fC0 := belF hb fC0 zC; replace kC1 := belK hb kC1 zC; replace fC1 := belF hb fC1 zC; replace kC2 := belK hb kC2 zC; replace fC2 := belF hb fC2 zC; replace zC := belZ zC hb
   replace hBo := hBo.trans (hb.mono hBo.size)
   clear hb
   go_wp2_with fail
   refine (HA.out _).mono ?_; rintro e s6 ⟨rfl, hb⟩
   replace kA0 := belK hb kA0 zA; replace fA0 := belF hb fA0 zA; replace kA1 := belK hb kA1 zA; replace fA1 := belF hb fA1 zA; replace kA2 := belK hb kA2 zA; replace fA2 := belF hb fA2 zA; replace zA := belZ zA hb
   replace kC0 := belK hb kC0 zC; replace fC0 := belF hb fC0 zC; replace kC1 := belK hb kC1 zC; replace fC1 := belF hb fC1 zC; replace kC2 := belK hb kC2 zC; replace fC2 := belF hb fC2 zC; replace zC := belZ zC hb
   replace hBo := hBo.trans (hb.mono hBo.size)
   clear hb
   go_wp2_with fail
   refine (HO.out _).mono ?_; rintro e s7 ⟨rfl, hb⟩
   replace kA0 := belK hb kA0 zA; replace fA0 := belF hb fA0 zA; replace kA1 := belK hb kA1 zA; replace fA1 := belF hb fA1 zA; replace kA2 := belK hb kA2 zA; replace fA2 := belF hb fA2 zA; replace zA := belZ zA hb
   replace kC0 := belK hb kC0 zC; replace fC0 := belF hb fC0 zC; replace kC1 := belK hb kC1 zC; replace fC1 := belF hb fC1 zC; replace kC2 := belK hb kC2 zC; replace fC2 := belF hb fC2 zC; replace zC := belZ zC hb
   replace hBo := hBo.trans (hb.mono hBo.size)
   clear hb
   go_wp2_with fail
   refine (HO.out _).mono ?_; rintro e s8 ⟨rfl, hb⟩
   replace kA0 := belK hb kA0 zA; replace fA0 := belF hb fA0 zA; replace kA1 := belK hb kA1 zA; replace fA1 := belF hb fA1 zA; replace kA2 := belK hb kA2 zA; replace fA2 := belF hb fA2 zA; replace zA := belZ zA hb
   replace kC0 := belK hb kC0 zC; replace fC0 := belF hb fC0 zC; replace kC1 := belK hb kC1 zC; replace fC1 := belF hb fC1 zC; replace kC2 := belK hb kC2 zC; replace fC2 := belF hb fC2 zC; replace zC := belZ zC hb
   replace hBo := hBo.trans (hb.mono hBo.size)
   clear hb
   go_wp2_with fail
   obtain ⟨s9, hws⟩ : ∃ s, s = (s8.alloc (.cells #[.bool false, .string ⟨#[1]⟩, .string ⟨#[1]⟩] 23)) := ⟨_, rfl⟩
   have hBs : Below w.heap.size w s9 := by rw [hws]; exact ((hBo).alloc (by exact hBo.size) _)
   obtain ⟨P, hdP⟩ : ∃ b, b = s8.heap.size := ⟨_, rfl⟩
   have hsz : s9.heap.size = s8.heap.size + 1 := by rw [hws]; simp
   have dAP : A ≠ P := by omega
   have dCP : C ≠ P := by omega
   have dPA : P ≠ A := by omega
   have dPC : P ≠ C := by omega
   have hQC : ∀ p v, s8.cell? p = some v → s9.cell? p = some v := fun p v h => by rw [hws]; exact (alK h)
   have hQZ : ∀ b, b < s8.heap.size → b < s9.heap.size := fun b h => by omega
   have hQF : ∀ b j, b < s8.heap.size → s8.frozen? ⟨b, j, none⟩ = false → s9.frozen? ⟨b, j, none⟩ = false := fun b j z h => by rw [hws]; exact (alF z h)
   replace kA0 := hQC _ _ kA0; replace fA0 := hQF _ _ zA fA0; replace kA1 := hQC _ _ kA1; replace fA1 := hQF _ _ zA fA1; replace kA2 := hQC _ _ kA2; replace fA2 := hQF _ _ zA fA2; replace zA := hQZ _ zA
   replace kC0 := hQC _ _ kC0; replace fC0 := hQF _ _ zC fC0; replace kC1 := hQC _ _ kC1; replace fC1 := hQF _ _ zC fC1; replace kC2 := hQC _ _ kC2; replace fC2 := hQF _ _ zC fC2; replace zC := hQZ _ zC
   clear hQC hQZ hQF
   have kP0 : s9.cell? ⟨P, 0, none⟩ = some (.bool false) := by rw [hws]; simp [go_sem, hdP]
   have fP0 : s9.frozen? ⟨P, 0, none⟩ = false := by rw [hws]; simp [go_sem, hdP]
   have kP1 : s9.cell? ⟨P, 1, none⟩ = some (.string ⟨#[1]⟩) := by rw [hws]; simp [go_sem, hdP]
   have fP1 : s9.frozen? ⟨P, 1, none⟩ = false := by rw [hws]; simp [go_sem, hdP]
   have kP2 : s9.cell? ⟨P, 2, none⟩ = some (.string ⟨#[1]⟩) := by rw [hws]; simp [go_sem, hdP]
   have fP2 : s9.frozen? ⟨P, 2, none⟩ = false := by rw [hws]; simp [go_sem, hdP]
   have zP : P < s9.heap.size := by omega
   have lP : w.heap.size ≤ P := by have := hBo.size; omega
   rw [← hws]
   try rw [← hdP]
   clear hBo
   clear hws hsz hdP
   have hBo := hBs; clear hBs
   go_loopw [8] (fun i wr => PwRel w A C P Q t i wr) (fun i _ => t - (intOf i).toNat)
   case atStart =>
     obtain ⟨z1, z2, z3⟩ := hz.out
     exact ⟨0, by omega, rfl, hpo.out 0 (by rw [Nat.pow_zero]; decide) (by rw [Nat.pow_zero]; decide), kA0, kA1, kA2, zA, kC0, kC1, kC2, zC, fC0, fC1, fC2, by rw [z1]; exact kP0, by rw [z2]; exact kP1, by rw [z3]; exact kP2, zP, fP0, fP1, fP2, fA0, fA1, fA2, hBo⟩
   case round =>
     clear kA0 kA1 kA2 kC0 kC1 kC2 kP0 kP1 kP2 zA zC zP fA0 fA1 fA2 fC0 fC1 fC2 fP0 fP1 fP2 hBo
     obtain ⟨j, hj, rfl, hpj, kA0, kA1, kA2, zA, kC0, kC1, kC2, zC, fC0, fC1, fC2, kP0, kP1, kP2, zP, fP0, fP1, fP2, fA0, fA1, fA2, hBo⟩ := hrel
     by_cases hlt : j < t
     · have hlt2 : (j : Int) < (t : Int) := by omega
       obtain ⟨m1, m2⟩ := hml.out j
       obtain ⟨o1, o2⟩ := hmo.out j hlt
       by_cases hfit : Nt.blen (Q.num ^ (j + 1)) ≤ 256 ∧ Nt.blen (Q.den ^ (j + 1)) ≤ 256
       · obtain ⟨r1, r2⟩ := m1 hfit
         have HX := Lib.hid (HM.out j hpj _ _ r1 r2)
         have hpj2 := hpo.out (j + 1) hfit.1 hfit.2
         obtain ⟨p2, hp2⟩ : ∃ p2, p2 = pwP Q (j + 1) := ⟨_, rfl⟩
         rw [← hp2] at HX
         have HP2 := Lib.hid hp2
         have HJ2 := Lib.hid hpj2
         clear m1 m2 o1 o2 hfit r1 r2 hpj hp2 hpj2 HM hml hpo hbg hls hz hmo hqq hcc
         generalize pwP Q j = pj at *
         go_wp2_with fail
         refine (HX.out _).mono ?_; rintro e s10 ⟨rfl, hb⟩
         replace kA0 := belK hb kA0 zA; replace fA0 := belF hb fA0 zA; replace kA1 := belK hb kA1 zA; replace fA1 := belF hb fA1 zA; replace kA2 := belK hb kA2 zA; replace fA2 := belF hb fA2 zA; replace zA := belZ zA hb
         replace kC0 := belK hb kC0 zC; replace fC0 := belF hb fC0 zC; replace kC1 := belK hb kC1 zC; replace fC1 := belF hb fC1 zC; replace kC2 := belK hb kC2 zC; replace fC2 := belF hb fC2 zC; replace zC := belZ zC hb
         replace kP0 := belK hb kP0 zP; replace fP0 := belF hb fP0 zP; replace kP1 := belK hb kP1 zP; replace fP1 := belF hb fP1 zP; replace kP2 := belK hb kP2 zP; replace fP2 := belF hb fP2 zP; replace zP := belZ zP hb
         replace hBo := hBo.trans (hb.mono hBo.size)
         clear hb
         go_wp2_with fail
         obtain ⟨s11, hws⟩ : ∃ s, s = (((s10.setCell ⟨P, 0, none⟩ (.bool (rb p2))).setCell ⟨P, 1, none⟩ (.string (rn p2))).setCell ⟨P, 2, none⟩ (.string (rd p2))) := ⟨_, rfl⟩
         have hBs : Below w.heap.size w s11 := by rw [hws]; exact ((((hBo).setCell lP _).setCell lP _).setCell lP _)
         have hsz : s11.heap.size = s10.heap.size := by rw [hws]; simp
         have hQC : ∀ b j v, s10.cell? ⟨b, j, none⟩ = some v → P ≠ b → s11.cell? ⟨b, j, none⟩ = some v := fun b j v h dP => by rw [hws]; exact (stK (stK (stK h dP) dP) dP)
         replace kA0 := hQC _ _ _ kA0 dPA; replace kA1 := hQC _ _ _ kA1 dPA; replace kA2 := hQC _ _ _ kA2 dPA
         replace kC0 := hQC _ _ _ kC0 dPC; replace kC1 := hQC _ _ _ kC1 dPC; replace kC2 := hQC _ _ _ kC2 dPC
         clear hQC
         have kP0_ : s11.cell? ⟨P, 0, none⟩ = some (.bool (rb p2)) := by rw [hws]; simp [go_sem, kP0, kP1, kP2, fP0, fP1, fP2]
         have kP1_ : s11.cell? ⟨P, 1, none⟩ = some (.string (rn p2)) := by rw [hws]; simp [go_sem, kP0, kP1, kP2, fP0, fP1, fP2]
         have kP2_ : s11.cell? ⟨P, 2, none⟩ = some (.string (rd p2)) := by rw [hws]; simp [go_sem, kP0, kP1, kP2, fP0, fP1, fP2]
         replace kP0 := kP0_; clear kP0_; replace kP1 := kP1_; clear kP1_; replace kP2 := kP2_; clear kP2_
         have hQF : ∀ p, s11.frozen? p = s10.frozen? p := fun p => by rw [hws]; simp [go_sem]
         replace fA0 := (hQF _).trans fA0; replace fA1 := (hQF _).trans fA1; replace fA2 := (hQF _).trans fA2
         replace fC0 := (hQF _).trans fC0; replace fC1 := (hQF _).trans fC1; replace fC2 := (hQF _).trans fC2
         replace fP0 := (hQF _).trans fP0; replace fP1 := (hQF _).trans fP1; replace fP2 := (hQF _).trans fP2
         clear hQF
         replace zA : A < s11.heap.size := by omega
         replace zC : C < s11.heap.size := by omega
         replace zP : P < s11.heap.size := by omega
         rw [← hws]
         clear hBo hws hsz
         have hBo := hBs; clear hBs
         obtain ⟨s12, hws⟩ : ∃ s, s = (s11.alloc (.cells #[.bool (rb p2), .string (rn p2), .string (rd p2)] 23)) := ⟨_, rfl⟩
         have hBs : Below w.heap.size w s12 := by rw [hws]; exact ((hBo).alloc (by exact hBo.size) _)
         obtain ⟨X, hdX⟩ : ∃ b, b = s11.heap.size := ⟨_, rfl⟩
         have hsz : s12.heap.size = s11.heap.size + 1 := by rw [hws]; simp
         have dAX : A ≠ X := by omega
         have dCX : C ≠ X := by omega
         have dPX : P ≠ X := by omega
         have hQC : ∀ p v, s11.cell? p = some v → s12.cell? p = some v := fun p v h => by rw [hws]; exact (alK h)
         have hQZ : ∀ b, b < s11.heap.size → b < s12.heap.size := fun b h => by omega
         have hQF : ∀ b j, b < s11.heap.size → s11.frozen? ⟨b, j, none⟩ = false → s12.frozen? ⟨b, j, none⟩ = false := fun b j z h => by rw [hws]; exact (alF z h)
         replace kA0 := hQC _ _ kA0; replace fA0 := hQF _ _ zA fA0; replace kA1 := hQC _ _ kA1; replace fA1 := hQF _ _ zA fA1; replace kA2 := hQC _ _ kA2; replace fA2 := hQF _ _ zA fA2; replace zA := hQZ _ zA
         replace kC0 := hQC _ _ kC0; replace fC0 := hQF _ _ zC fC0; replace kC1 := hQC _ _ kC1; replace fC1 := hQF _ _ zC fC1; replace kC2 := hQC _ _ kC2; replace fC2 := hQF _ _ zC fC2; replace zC := hQZ _ zC
         replace kP0 := hQC _ _ kP0; replace fP0 := hQF _ _ zP fP0; replace kP1 := hQC _ _ kP1; replace fP1 := hQF _ _ zP fP1; replace kP2 := hQC _ _ kP2; replace fP2 := hQF _ _ zP fP2; replace zP := hQZ _ zP
         clear hQC hQZ hQF
         have kX0 : s12.cell? ⟨X, 0, none⟩ = some (.bool (rb p2)) := by rw [hws]; simp [go_sem, hdX]
         have kX1 : s12.cell? ⟨X, 1, none⟩ = some (.string (rn p2)) := by rw [hws]; simp [go_sem, hdX]
         have kX2 : s12.cell? ⟨X, 2, none⟩ = some (.string (rd p2)) := by rw [hws]; simp [go_sem, hdX]
         have zX : X < s12.heap.size := by omega
         have lX : w.heap.size ≤ X := by have := hBo.size; omega
         rw [← hws]
         try rw [← hdX]
         clear hBo
         clear hws hsz hdX
         have hBo := hBs; clear hBs
         go_roundw
         case rel => exact ⟨j + 1, by omega, by go_num, HJ2.out, kA0, kA1, kA2, zA, kC0, kC1, kC2, zC, fC0, fC1, fC2, by rw [← HP2.out]; exact kP0, by rw [← HP2.out]; exact kP1, by rw [← HP2.out]; exact kP2, zP, fP0, fP1, fP2, fA0, fA1, fA2, hBo⟩
         case measure => simp [intOf]; omega
       · obtain ⟨r1, r2⟩ := m2 (by omega)
         have HX := Lib.hid (HM.out j hpj _ _ r1 r2)
         obtain ⟨b1, b2⟩ := hbg.out (by rw [Int.natAbs_natCast]; omega)
         have hv : Ending.returned (.tuple #[.agg #[.bool false, .string ⟨#[]⟩, .string ⟨#[]⟩], .int .i64 4]) = Ending.returned (.tuple #[.agg #[.bool (rb q), .string (rn q), .string (rd q)], .int .i64 c]) := by
           rw [← hqq.out, ← hcc.out, b1, b2, rz.1, rz.2.1, rz.2.2]
         have hV := Lib.hid hv
         clear hv
         clear m1 m2 o1 o2 hfit r1 r2 hpj HM hml hpo hbg hls hz hmo hqq hcc b1 b2
         generalize pwP Q j = pj at *
         go_wp2_with fail
         refine (HX.out _).mono ?_; rintro e s13 ⟨rfl, hb⟩
         replace kA0 := belK hb kA0 zA; replace fA0 := belF hb fA0 zA; replace kA1 := belK hb kA1 zA; replace fA1 := belF hb fA1 zA; replace kA2 := belK hb kA2 zA; replace fA2 := belF hb fA2 zA; replace zA := belZ zA hb
         replace kC0 := belK hb kC0 zC; replace fC0 := belF hb fC0 zC; replace kC1 := belK hb kC1 zC; replace fC1 := belF hb fC1 zC; replace kC2 := belK hb kC2 zC; replace fC2 := belF hb fC2 zC; replace zC := belZ zC hb
         replace kP0 := belK hb kP0 zP; replace fP0 := belF hb fP0 zP; replace kP1 := belK hb kP1 zP; replace fP1 := belF hb fP1 zP; replace kP2 := belK hb kP2 zP; replace fP2 := belF hb fP2 zP; replace zP := belZ zP hb
         replace hBo := hBo.trans (hb.mono hBo.size)
         clear hb
         all_goals go_wp2_with fail
         all_goals refine bodyPost_ret (v := .tuple #[.agg #[.bool false, .string ⟨#[]⟩, .string ⟨#[]⟩], .int .i64 4]) (by simp [results, Tryz.results29, go_sem, kC0, kC1, kC2, zC]) rfl ⟨hV.out, ?_⟩
         all_goals exact ((((hBo.setCell lC _).setCell lC _).setCell lC _).alloc (by first | exact hBo.size | (have := hBo.size; simp; omega) | (have := (HF.out _ (by assumption)).size; simp; omega)) _)
     · have hjt : j = t := by omega
       subst hjt
       obtain ⟨b1, b2⟩ := hls.out (by rw [Int.natAbs_natCast]; exact hpj.2.2.1) (by rw [Int.natAbs_natCast]; exact hpj.2.2.2.1)
       have hv : Ending.returned (.tuple #[.agg #[.bool (rb (pwP Q j)), .string (rn (pwP Q j)), .string (rd (pwP Q j))], .int .i64 0]) = Ending.returned (.tuple #[.agg #[.bool (rb q), .string (rn q), .string (rd q)], .int .i64 c]) := by
         rw [← hqq.out, ← hcc.out, b1, b2, Int.natAbs_natCast]
       have hV := Lib.hid hv
       clear hv
       clear hpj HM hml hpo hbg hls hz hmo hqq hcc b1 b2
       generalize pwP Q j = pj at *
       all_goals go_wp2_with fail
       all_goals refine bodyPost_ret (v := .tuple #[.agg #[.bool (rb pj), .string (rn pj), .string (rd pj)], .int .i64 0]) (by simp [results, Tryz.results29, go_sem, kC0, kC1, kC2, zC]) rfl ⟨hV.out, ?_⟩
       all_goals exact (((hBo.setCell lC _).setCell lC _).setCell lC _)
end Go.Proofs.YtbgmnpabclfjaaaGreatDoor
