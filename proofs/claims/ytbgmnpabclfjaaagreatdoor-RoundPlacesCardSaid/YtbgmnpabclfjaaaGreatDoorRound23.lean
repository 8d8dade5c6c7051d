/-
  LAYER 6's STATEMENTS, WALKED: numbers rounded to places.
-/
import Derived.Test.YtbgmnpabclfjaaaGreatDoorRound18
import Derived.Test.YtbgmnpabclfjaaaGreatDoorRound17
import Derived.Test.YtbgmnpabclfjaaaGreatDoorRound7
namespace Go.Proofs.YtbgmnpabclfjaaaGreatDoor
open Go.RowKit Go.Shelf
set_option linter.unusedSimpArgs false
set_option linter.unusedVariables false

set_option maxRecDepth 100000 in
set_option maxHeartbeats 8000000 in
theorem roundPlaces_any (neg : Bool) (a d : ByteArray) (n : Int) (w : World) (ha : a.size ≤ 140737488351232) (hd : d.size ≤ 140737488351232) :
    Calls Tryz.prog 4 #[.agg #[.bool neg, .string a, .string d], .int .i64 n] w fun e w' => e = .returned (.bool true) ∧ Below w.heap.size w w' := by
  have HK := Lib.hid known6_any
  obtain ⟨q1, h1⟩ : ∃ q, rdR awayHalf (wl neg a d) n = q := ⟨_, rfl⟩
  obtain ⟨c1, g1⟩ : ∃ c, rdE awayHalf (wl neg a d) n = c := ⟨_, rfl⟩
  obtain ⟨q2, h2⟩ : ∃ q, rdR awayDown (wl neg a d) n = q := ⟨_, rfl⟩
  obtain ⟨c2, g2⟩ : ∃ c, rdE awayDown (wl neg a d) n = c := ⟨_, rfl⟩
  obtain ⟨q3, h3⟩ : ∃ q, rdR awayUp (wl neg a d) n = q := ⟨_, rfl⟩
  obtain ⟨c3, g3⟩ : ∃ c, rdE awayUp (wl neg a d) n = c := ⟨_, rfl⟩
  have H1 := Lib.hid (fun w => roundHalf_any neg a d n q1 c1 w ha hd h1 g1)
  have H2 := Lib.hid (fun w => refHalf6_any neg a d n q1 c1 w ha hd h1 g1)
  have H3 := Lib.hid (fun w => roundDown_any neg a d n q2 c2 w ha hd h2 g2)
  have H4 := Lib.hid (fun w => refDown6_any neg a d n q2 c2 w ha hd h2 g2)
  have H5 := Lib.hid (fun w => roundUp_any neg a d n q3 c3 w ha hd h3 g3)
  have H6 := Lib.hid (fun w => refUp6_any neg a d n q3 c3 w ha hd h3 g3)
  by_cases h0 : c2 = 0
  · subst h0
    obtain ⟨n1, n2⟩ := rdE_far g2
    obtain ⟨hok, st⟩ := rd_stays n1 n2 g2
    rw [h2] at hok st
    obtain ⟨d1, d2⟩ := st _ (.inl rfl)
    obtain ⟨u1, u2⟩ := st _ (.inr (.inl rfl))
    obtain ⟨t1, t2⟩ := st _ (.inr (.inr rfl))
    have sn := rn_size hok
    have sd := rd_size hok
    have H7 := Lib.hid (fun w => roundDown_any (rb q2) (rn q2) (rd q2) n q2 0 w (by omega) (by omega) (by rw [wl_of_ok hok]; exact d1) (by rw [wl_of_ok hok]; exact d2))
    have H8 := Lib.hid (fun w => roundHalf_any (rb q2) (rn q2) (rd q2) n q2 0 w (by omega) (by omega) (by rw [wl_of_ok hok]; exact t1) (by rw [wl_of_ok hok]; exact t2))
    have H9 := Lib.hid (fun w => roundUp_any (rb q2) (rn q2) (rd q2) n q2 0 w (by omega) (by omega) (by rw [wl_of_ok hok]; exact u1) (by rw [wl_of_ok hok]; exact u2))
    clear h1 g1 h2 g2 h3 g3 n1 n2 hok st d1 d2 u1 u2 t1 t2 sn sd ha hd
    go_enter Tryz.func4, Tryz.ntmps4
    go_wp2_with fail
    obtain ⟨s1, hws⟩ : ∃ s, s = (w.alloc (.cells #[.bool neg, .string a, .string d] 23)) := ⟨_, rfl⟩
    have hBs : Below w.heap.size w s1 := by rw [hws]; exact ((Below.refl w.heap.size w).alloc (by simp) _)
    obtain ⟨A, hdA⟩ : ∃ b, b = w.heap.size := ⟨_, rfl⟩
    have hsz : s1.heap.size = w.heap.size + 1 := by rw [hws]; simp
    have kA0 : s1.cell? ⟨A, 0, none⟩ = some (.bool neg) := by rw [hws]; simp [go_sem, hdA]
    have kA1 : s1.cell? ⟨A, 1, none⟩ = some (.string a) := by rw [hws]; simp [go_sem, hdA]
    have kA2 : s1.cell? ⟨A, 2, none⟩ = some (.string d) := by rw [hws]; simp [go_sem, hdA]
    have zA : A < s1.heap.size := by omega
    have lA : w.heap.size ≤ A := by have := Nat.le_refl w.heap.size; omega
    rw [← hws]
    try rw [← hdA]
    clear hws hsz hdA
    have hBo := hBs; clear hBs
    refine (H1.out _).mono ?_; rintro e s2 ⟨rfl, hb⟩
    replace kA0 := belK hb kA0 zA; replace kA1 := belK hb kA1 zA; replace kA2 := belK hb kA2 zA; replace zA := belZ zA hb
    replace hBo := hBo.trans (hb.mono hBo.size)
    clear hb
    go_wp2_with fail
    obtain ⟨s3, hws⟩ : ∃ s, s = (s2.alloc (.cells #[.bool (rb q1), .string (rn q1), .string (rd q1)] 23)) := ⟨_, rfl⟩
    have hBs : Below w.heap.size w s3 := by rw [hws]; exact ((hBo).alloc (by exact hBo.size) _)
    obtain ⟨B, hdB⟩ : ∃ b, b = s2.heap.size := ⟨_, rfl⟩
    have hsz : s3.heap.size = s2.heap.size + 1 := by rw [hws]; simp
    have hQC : ∀ p v, s2.cell? p = some v → s3.cell? p = some v := fun p v h => by rw [hws]; exact (alK h)
    have hQZ : ∀ b, b < s2.heap.size → b < s3.heap.size := fun b h => by omega
    replace kA0 := hQC _ _ kA0; replace kA1 := hQC _ _ kA1; replace kA2 := hQC _ _ kA2; replace zA := hQZ _ zA
    clear hQC hQZ
    have kB0 : s3.cell? ⟨B, 0, none⟩ = some (.bool (rb q1)) := by rw [hws]; simp [go_sem, hdB]
    have kB1 : s3.cell? ⟨B, 1, none⟩ = some (.string (rn q1)) := by rw [hws]; simp [go_sem, hdB]
    have kB2 : s3.cell? ⟨B, 2, none⟩ = some (.string (rd q1)) := by rw [hws]; simp [go_sem, hdB]
    have zB : B < s3.heap.size := by omega
    have lB : w.heap.size ≤ B := by have := hBo.size; omega
    rw [← hws]
    try rw [← hdB]
    clear hBo
    clear hws hsz hdB
    have hBo := hBs; clear hBs
    refine (H2.out _).mono ?_; rintro e s4 ⟨rfl, hb⟩
    replace kA0 := belK hb kA0 zA; replace kA1 := belK hb kA1 zA; replace kA2 := belK hb kA2 zA; replace zA := belZ zA hb
    replace kB0 := belK hb kB0 zB; replace kB1 := belK hb kB1 zB; replace kB2 := belK hb kB2 zB; replace zB := belZ zB hb
    replace hBo := hBo.trans (hb.mono hBo.size)
    clear hb
    go_wp2_with fail
    obtain ⟨s5, hws⟩ : ∃ s, s = (s4.alloc (.cells #[.bool (rb q1), .string (rn q1), .string (rd q1)] 23)) := ⟨_, rfl⟩
    have hBs : Below w.heap.size w s5 := by rw [hws]; exact ((hBo).alloc (by exact hBo.size) _)
    obtain ⟨C, hdC⟩ : ∃ b, b = s4.heap.size := ⟨_, rfl⟩
    have hsz : s5.heap.size = s4.heap.size + 1 := by rw [hws]; simp
    have hQC : ∀ p v, s4.cell? p = some v → s5.cell? p = some v := fun p v h => by rw [hws]; exact (alK h)
    have hQZ : ∀ b, b < s4.heap.size → b < s5.heap.size := fun b h => by omega
    replace kA0 := hQC _ _ kA0; replace kA1 := hQC _ _ kA1; replace kA2 := hQC _ _ kA2; replace zA := hQZ _ zA
    replace kB0 := hQC _ _ kB0; replace kB1 := hQC _ _ kB1; replace kB2 := hQC _ _ kB2; replace zB := hQZ _ zB
    clear hQC hQZ
    have kC0 : s5.cell? ⟨C, 0, none⟩ = some (.bool (rb q1)) := by rw [hws]; simp [go_sem, hdC]
    have kC1 : s5.cell? ⟨C, 1, none⟩ = some (.string (rn q1)) := by rw [hws]; simp [go_sem, hdC]
    have kC2 : s5.cell? ⟨C, 2, none⟩ = some (.string (rd q1)) := by rw [hws]; simp [go_sem, hdC]
    have zC : C < s5.heap.size := by omega
    have lC : w.heap.size ≤ C := by have := hBo.size; omega
    rw [← hws]
    try rw [← hdC]
    clear hBo
    clear hws hsz hdC
    have hBo := hBs; clear hBs
    refine (H3.out _).mono ?_; rintro e s6 ⟨rfl, hb⟩
    replace kA0 := belK hb kA0 zA; replace kA1 := belK hb kA1 zA; replace kA2 := belK hb kA2 zA; replace zA := belZ zA hb
    replace kB0 := belK hb kB0 zB; replace kB1 := belK hb kB1 zB; replace kB2 := belK hb kB2 zB; replace zB := belZ zB hb
    replace kC0 := belK hb kC0 zC; replace kC1 := belK hb kC1 zC; replace kC2 := belK hb kC2 zC; replace zC := belZ zC hb
    replace hBo := hBo.trans (hb.mono hBo.size)
    clear hb
    go_wp2_with fail
    obtain ⟨s7, hws⟩ : ∃ s, s = (s6.alloc (.cells #[.bool (rb q2), .string (rn q2), .string (rd q2)] 23)) := ⟨_, rfl⟩
    have hBs : Below w.heap.size w s7 := by rw [hws]; exact ((hBo).alloc (by exact hBo.size) _)
    obtain ⟨D, hdD⟩ : ∃ b, b = s6.heap.size := ⟨_, rfl⟩
    have hsz : s7.heap.size = s6.heap.size + 1 := by rw [hws]; simp
    have hQC : ∀ p v, s6.cell? p = some v → s7.cell? p = some v := fun p v h => by rw [hws]; exact (alK h)
    have hQZ : ∀ b, b < s6.heap.size → b < s7.heap.size := fun b h => by omega
    replace kA0 := hQC _ _ kA0; replace kA1 := hQC _ _ kA1; replace kA2 := hQC _ _ kA2; replace zA := hQZ _ zA
    replace kB0 := hQC _ _ kB0; replace kB1 := hQC _ _ kB1; replace kB2 := hQC _ _ kB2; replace zB := hQZ _ zB
    replace kC0 := hQC _ _ kC0; replace kC1 := hQC _ _ kC1; replace kC2 := hQC _ _ kC2; replace zC := hQZ _ zC
    clear hQC hQZ
    have kD0 : s7.cell? ⟨D, 0, none⟩ = some (.bool (rb q2)) := by rw [hws]; simp [go_sem, hdD]
    have kD1 : s7.cell? ⟨D, 1, none⟩ = some (.string (rn q2)) := by rw [hws]; simp [go_sem, hdD]
    have kD2 : s7.cell? ⟨D, 2, none⟩ = some (.string (rd q2)) := by rw [hws]; simp [go_sem, hdD]
    have zD : D < s7.heap.size := by omega
    have lD : w.heap.size ≤ D := by have := hBo.size; omega
    rw [← hws]
    try rw [← hdD]
    clear hBo
    clear hws hsz hdD
    have hBo := hBs; clear hBs
    refine (H4.out _).mono ?_; rintro e s8 ⟨rfl, hb⟩
    replace kA0 := belK hb kA0 zA; replace kA1 := belK hb kA1 zA; replace kA2 := belK hb kA2 zA; replace zA := belZ zA hb
    replace kB0 := belK hb kB0 zB; replace kB1 := belK hb kB1 zB; replace kB2 := belK hb kB2 zB; replace zB := belZ zB hb
    replace kC0 := belK hb kC0 zC; replace kC1 := belK hb kC1 zC; replace kC2 := belK hb kC2 zC; replace zC := belZ zC hb
    replace kD0 := belK hb kD0 zD; replace kD1 := belK hb kD1 zD; replace kD2 := belK hb kD2 zD; replace zD := belZ zD hb
    replace hBo := hBo.trans (hb.mono hBo.size)
    clear hb
    go_wp2_with fail
    obtain ⟨s9, hws⟩ : ∃ s, s = (s8.alloc (.cells #[.bool (rb q2), .string (rn q2), .string (rd q2)] 23)) := ⟨_, rfl⟩
    have hBs : Below w.heap.size w s9 := by rw [hws]; exact ((hBo).alloc (by exact hBo.size) _)
    obtain ⟨E, hdE⟩ : ∃ b, b = s8.heap.size := ⟨_, rfl⟩
    have hsz : s9.heap.size = s8.heap.size + 1 := by rw [hws]; simp
    have hQC : ∀ p v, s8.cell? p = some v → s9.cell? p = some v := fun p v h => by rw [hws]; exact (alK h)
    have hQZ : ∀ b, b < s8.heap.size → b < s9.heap.size := fun b h => by omega
    replace kA0 := hQC _ _ kA0; replace kA1 := hQC _ _ kA1; replace kA2 := hQC _ _ kA2; replace zA := hQZ _ zA
    replace kB0 := hQC _ _ kB0; replace kB1 := hQC _ _ kB1; replace kB2 := hQC _ _ kB2; replace zB := hQZ _ zB
    replace kC0 := hQC _ _ kC0; replace kC1 := hQC _ _ kC1; replace kC2 := hQC _ _ kC2; replace zC := hQZ _ zC
    replace kD0 := hQC _ _ kD0; replace kD1 := hQC _ _ kD1; replace kD2 := hQC _ _ kD2; replace zD := hQZ _ zD
    clear hQC hQZ
    have kE0 : s9.cell? ⟨E, 0, none⟩ = some (.bool (rb q2)) := by rw [hws]; simp [go_sem, hdE]
    have kE1 : s9.cell? ⟨E, 1, none⟩ = some (.string (rn q2)) := by rw [hws]; simp [go_sem, hdE]
    have kE2 : s9.cell? ⟨E, 2, none⟩ = some (.string (rd q2)) := by rw [hws]; simp [go_sem, hdE]
    have zE : E < s9.heap.size := by omega
    have lE : w.heap.size ≤ E := by have := hBo.size; omega
    rw [← hws]
    try rw [← hdE]
    clear hBo
    clear hws hsz hdE
    have hBo := hBs; clear hBs
    refine (H5.out _).mono ?_; rintro e s10 ⟨rfl, hb⟩
    replace kA0 := belK hb kA0 zA; replace kA1 := belK hb kA1 zA; replace kA2 := belK hb kA2 zA; replace zA := belZ zA hb
    replace kB0 := belK hb kB0 zB; replace kB1 := belK hb kB1 zB; replace kB2 := belK hb kB2 zB; replace zB := belZ zB hb
    replace kC0 := belK hb kC0 zC; replace kC1 := belK hb kC1 zC; replace kC2 := belK hb kC2 zC; replace zC := belZ zC hb
    replace kD0 := belK hb kD0 zD; replace kD1 := belK hb kD1 zD; replace kD2 := belK hb kD2 zD; replace zD := belZ zD hb
    replace kE0 := belK hb kE0 zE; replace kE1 := belK hb kE1 zE; replace kE2 := belK hb kE2 zE; replace zE := belZ zE hb
    replace hBo := hBo.trans (hb.mono hBo.size)
    clear hb
    go_wp2_with fail
    obtain ⟨s11, hws⟩ : ∃ s, s = (s10.alloc (.cells #[.bool (rb q3), .string (rn q3), .string (rd q3)] 23)) := ⟨_, rfl⟩
    have hBs : Below w.heap.size w s11 := by rw [hws]; exact ((hBo).alloc (by exact hBo.size) _)
    obtain ⟨F, hdF⟩ : ∃ b, b = s10.heap.size := ⟨_, rfl⟩
    have hsz : s11.heap.size = s10.heap.size + 1 := by rw [hws]; simp
    have hQC : ∀ p v, s10.cell? p = some v → s11.cell? p = some v := fun p v h => by rw [hws]; exact (alK h)
    have hQZ : ∀ b, b < s10.heap.size → b < s11.heap.size := fun b h => by omega
    replace kA0 := hQC _ _ kA0; replace kA1 := hQC _ _ kA1; replace kA2 := hQC _ _ kA2; replace zA := hQZ _ zA
    replace kB0 := hQC _ _ kB0; replace kB1 := hQC _ _ kB1; replace kB2 := hQC _ _ kB2; replace zB := hQZ _ zB
    replace kC0 := hQC _ _ kC0; replace kC1 := hQC _ _ kC1; replace kC2 := hQC _ _ kC2; replace zC := hQZ _ zC
    replace kD0 := hQC _ _ kD0; replace kD1 := hQC _ _ kD1; replace kD2 := hQC _ _ kD2; replace zD := hQZ _ zD
    replace kE0 := hQC _ _ kE0; replace kE1 := hQC _ _ kE1; replace kE2 := hQC _ _ kE2; replace zE := hQZ _ zE
    clear hQC hQZ
    have kF0 : s11.cell? ⟨F, 0, none⟩ = some (.bool (rb q3)) := by rw [hws]; simp [go_sem, hdF]
    have kF1 : s11.cell? ⟨F, 1, none⟩ = some (.string (rn q3)) := by rw [hws]; simp [go_sem, hdF]
    have kF2 : s11.cell? ⟨F, 2, none⟩ = some (.string (rd q3)) := by rw [hws]; simp [go_sem, hdF]
    have zF : F < s11.heap.size := by omega
    have lF : w.heap.size ≤ F := by have := hBo.size; omega
    rw [← hws]
    try rw [← hdF]
    clear hBo
    clear hws hsz hdF
    have hBo := hBs; clear hBs
    refine (H6.out _).mono ?_; rintro e s12 ⟨rfl, hb⟩
    replace kA0 := belK hb kA0 zA; replace kA1 := belK hb kA1 zA; replace kA2 := belK hb kA2 zA; replace zA := belZ zA hb
    replace kB0 := belK hb kB0 zB; replace kB1 := belK hb kB1 zB; replace kB2 := belK hb kB2 zB; replace zB := belZ zB hb
    replace kC0 := belK hb kC0 zC; replace kC1 := belK hb kC1 zC; replace kC2 := belK hb kC2 zC; replace zC := belZ zC hb
    replace kD0 := belK hb kD0 zD; replace kD1 := belK hb kD1 zD; replace kD2 := belK hb kD2 zD; replace zD := belZ zD hb
    replace kE0 := belK hb kE0 zE; replace kE1 := belK hb kE1 zE; replace kE2 := belK hb kE2 zE; replace zE := belZ zE hb
    replace kF0 := belK hb kF0 zF; replace kF1 := belK hb kF1 zF; replace kF2 := belK hb kF2 zF; replace zF := belZ zF hb
    replace hBo := hBo.trans (hb.mono hBo.size)
    clear hb
    go_wp2_with fail
    obtain ⟨s13, hws⟩ : ∃ s, s = (s12.alloc (.cells #[.bool (rb q3), .string (rn q3), .string (rd q3)] 23)) := ⟨_, rfl⟩
    have hBs : Below w.heap.size w s13 := by rw [hws]; exact ((hBo).alloc (by exact hBo.size) _)
    obtain ⟨G, hdG⟩ : ∃ b, b = s12.heap.size := ⟨_, rfl⟩
    have hsz : s13.heap.size = s12.heap.size + 1 := by rw [hws]; simp
    have hQC : ∀ p v, s12.cell? p = some v → s13.cell? p = some v := fun p v h => by rw [hws]; exact (alK h)
    have hQZ : ∀ b, b < s12.heap.size → b < s13.heap.size := fun b h => by omega
    replace kA0 := hQC _ _ kA0; replace kA1 := hQC _ _ kA1; replace kA2 := hQC _ _ kA2; replace zA := hQZ _ zA
    replace kB0 := hQC _ _ kB0; replace kB1 := hQC _ _ kB1; replace kB2 := hQC _ _ kB2; replace zB := hQZ _ zB
    replace kC0 := hQC _ _ kC0; replace kC1 := hQC _ _ kC1; replace kC2 := hQC _ _ kC2; replace zC := hQZ _ zC
    replace kD0 := hQC _ _ kD0; replace kD1 := hQC _ _ kD1; replace kD2 := hQC _ _ kD2; replace zD := hQZ _ zD
    replace kE0 := hQC _ _ kE0; replace kE1 := hQC _ _ kE1; replace kE2 := hQC _ _ kE2; replace zE := hQZ _ zE
    replace kF0 := hQC _ _ kF0; replace kF1 := hQC _ _ kF1; replace kF2 := hQC _ _ kF2; replace zF := hQZ _ zF
    clear hQC hQZ
    have kG0 : s13.cell? ⟨G, 0, none⟩ = some (.bool (rb q3)) := by rw [hws]; simp [go_sem, hdG]
    have kG1 : s13.cell? ⟨G, 1, none⟩ = some (.string (rn q3)) := by rw [hws]; simp [go_sem, hdG]
    have kG2 : s13.cell? ⟨G, 2, none⟩ = some (.string (rd q3)) := by rw [hws]; simp [go_sem, hdG]
    have zG : G < s13.heap.size := by omega
    have lG : w.heap.size ≤ G := by have := hBo.size; omega
    rw [← hws]
    try rw [← hdG]
    clear hBo
    clear hws hsz hdG
    have hBo := hBs; clear hBs
    refine (H7.out _).mono ?_; rintro e s14 ⟨rfl, hb⟩
    replace kA0 := belK hb kA0 zA; replace kA1 := belK hb kA1 zA; replace kA2 := belK hb kA2 zA; replace zA := belZ zA hb
    replace kB0 := belK hb kB0 zB; replace kB1 := belK hb kB1 zB; replace kB2 := belK hb kB2 zB; replace zB := belZ zB hb
    replace kC0 := belK hb kC0 zC; replace kC1 := belK hb kC1 zC; replace kC2 := belK hb kC2 zC; replace zC := belZ zC hb
    replace kD0 := belK hb kD0 zD; replace kD1 := belK hb kD1 zD; replace kD2 := belK hb kD2 zD; replace zD := belZ zD hb
    replace kE0 := belK hb kE0 zE; replace kE1 := belK hb kE1 zE; replace kE2 := belK hb kE2 zE; replace zE := belZ zE hb
    replace kF0 := belK hb kF0 zF; replace kF1 := belK hb kF1 zF; replace kF2 := belK hb kF2 zF; replace zF := belZ zF hb
    replace kG0 := belK hb kG0 zG; replace kG1 := belK hb kG1 zG; replace kG2 := belK hb kG2 zG; replace zG := belZ zG hb
    replace hBo := hBo.trans (hb.mono hBo.size)
    clear hb
    go_wp2_with fail
    obtain ⟨s15, hws⟩ : ∃ s, s = (s14.alloc (.cells #[.bool (rb q2), .string (rn q2), .string (rd q2)] 23)) := ⟨_, rfl⟩
    have hBs : Below w.heap.size w s15 := by rw [hws]; exact ((hBo).alloc (by exact hBo.size) _)
    obtain ⟨P, hdP⟩ : ∃ b, b = s14.heap.size := ⟨_, rfl⟩
    have hsz : s15.heap.size = s14.heap.size + 1 := by rw [hws]; simp
    have hQC : ∀ p v, s14.cell? p = some v → s15.cell? p = some v := fun p v h => by rw [hws]; exact (alK h)
    have hQZ : ∀ b, b < s14.heap.size → b < s15.heap.size := fun b h => by omega
    replace kA0 := hQC _ _ kA0; replace kA1 := hQC _ _ kA1; replace kA2 := hQC _ _ kA2; replace zA := hQZ _ zA
    replace kB0 := hQC _ _ kB0; replace kB1 := hQC _ _ kB1; replace kB2 := hQC _ _ kB2; replace zB := hQZ _ zB
    replace kC0 := hQC _ _ kC0; replace kC1 := hQC _ _ kC1; replace kC2 := hQC _ _ kC2; replace zC := hQZ _ zC
    replace kD0 := hQC _ _ kD0; replace kD1 := hQC _ _ kD1; replace kD2 := hQC _ _ kD2; replace zD := hQZ _ zD
    replace kE0 := hQC _ _ kE0; replace kE1 := hQC _ _ kE1; replace kE2 := hQC _ _ kE2; replace zE := hQZ _ zE
    replace kF0 := hQC _ _ kF0; replace kF1 := hQC _ _ kF1; replace kF2 := hQC _ _ kF2; replace zF := hQZ _ zF
    replace kG0 := hQC _ _ kG0; replace kG1 := hQC _ _ kG1; replace kG2 := hQC _ _ kG2; replace zG := hQZ _ zG
    clear hQC hQZ
    have kP0 : s15.cell? ⟨P, 0, none⟩ = some (.bool (rb q2)) := by rw [hws]; simp [go_sem, hdP]
    have kP1 : s15.cell? ⟨P, 1, none⟩ = some (.string (rn q2)) := by rw [hws]; simp [go_sem, hdP]
    have kP2 : s15.cell? ⟨P, 2, none⟩ = some (.string (rd q2)) := by rw [hws]; simp [go_sem, hdP]
    have zP : P < s15.heap.size := by omega
    have lP : w.heap.size ≤ P := by have := hBo.size; omega
    rw [← hws]
    try rw [← hdP]
    clear hBo
    clear hws hsz hdP
    have hBo := hBs; clear hBs
    refine (H8.out _).mono ?_; rintro e s16 ⟨rfl, hb⟩
    replace kA0 := belK hb kA0 zA; replace kA1 := belK hb kA1 zA; replace kA2 := belK hb kA2 zA; replace zA := belZ zA hb
    replace kB0 := belK hb kB0 zB; replace kB1 := belK hb kB1 zB; replace kB2 := belK hb kB2 zB; replace zB := belZ zB hb
    replace kC0 := belK hb kC0 zC; replace kC1 := belK hb kC1 zC; replace kC2 := belK hb kC2 zC; replace zC := belZ zC hb
    replace kD0 := belK hb kD0 zD; replace kD1 := belK hb kD1 zD; replace kD2 := belK hb kD2 zD; replace zD := belZ zD hb
    replace kE0 := belK hb kE0 zE; replace kE1 := belK hb kE1 zE; replace kE2 := belK hb kE2 zE; replace zE := belZ zE hb
    replace kF0 := belK hb kF0 zF; replace kF1 := belK hb kF1 zF; replace kF2 := belK hb kF2 zF; replace zF := belZ zF hb
    replace kG0 := belK hb kG0 zG; replace kG1 := belK hb kG1 zG; replace kG2 := belK hb kG2 zG; replace zG := belZ zG hb
    replace kP0 := belK hb kP0 zP; replace kP1 := belK hb kP1 zP; replace kP2 := belK hb kP2 zP; replace zP := belZ zP hb
    replace hBo := hBo.trans (hb.mono hBo.size)
    clear hb
    go_wp2_with fail
    obtain ⟨s17, hws⟩ : ∃ s, s = (s16.alloc (.cells #[.bool (rb q2), .string (rn q2), .string (rd q2)] 23)) := ⟨_, rfl⟩
    have hBs : Below w.heap.size w s17 := by rw [hws]; exact ((hBo).alloc (by exact hBo.size) _)
    obtain ⟨Q, hdQ⟩ : ∃ b, b = s16.heap.size := ⟨_, rfl⟩
    have hsz : s17.heap.size = s16.heap.size + 1 := by rw [hws]; simp
    have hQC : ∀ p v, s16.cell? p = some v → s17.cell? p = some v := fun p v h => by rw [hws]; exact (alK h)
    have hQZ : ∀ b, b < s16.heap.size → b < s17.heap.size := fun b h => by omega
    replace kA0 := hQC _ _ kA0; replace kA1 := hQC _ _ kA1; replace kA2 := hQC _ _ kA2; replace zA := hQZ _ zA
    replace kB0 := hQC _ _ kB0; replace kB1 := hQC _ _ kB1; replace kB2 := hQC _ _ kB2; replace zB := hQZ _ zB
    replace kC0 := hQC _ _ kC0; replace kC1 := hQC _ _ kC1; replace kC2 := hQC _ _ kC2; replace zC := hQZ _ zC
    replace kD0 := hQC _ _ kD0; replace kD1 := hQC _ _ kD1; replace kD2 := hQC _ _ kD2; replace zD := hQZ _ zD
    replace kE0 := hQC _ _ kE0; replace kE1 := hQC _ _ kE1; replace kE2 := hQC _ _ kE2; replace zE := hQZ _ zE
    replace kF0 := hQC _ _ kF0; replace kF1 := hQC _ _ kF1; replace kF2 := hQC _ _ kF2; replace zF := hQZ _ zF
    replace kG0 := hQC _ _ kG0; replace kG1 := hQC _ _ kG1; replace kG2 := hQC _ _ kG2; replace zG := hQZ _ zG
    replace kP0 := hQC _ _ kP0; replace kP1 := hQC _ _ kP1; replace kP2 := hQC _ _ kP2; replace zP := hQZ _ zP
    clear hQC hQZ
    have kQ0 : s17.cell? ⟨Q, 0, none⟩ = some (.bool (rb q2)) := by rw [hws]; simp [go_sem, hdQ]
    have kQ1 : s17.cell? ⟨Q, 1, none⟩ = some (.string (rn q2)) := by rw [hws]; simp [go_sem, hdQ]
    have kQ2 : s17.cell? ⟨Q, 2, none⟩ = some (.string (rd q2)) := by rw [hws]; simp [go_sem, hdQ]
    have zQ : Q < s17.heap.size := by omega
    have lQ : w.heap.size ≤ Q := by have := hBo.size; omega
    rw [← hws]
    try rw [← hdQ]
    clear hBo
    clear hws hsz hdQ
    have hBo := hBs; clear hBs
    refine (H9.out _).mono ?_; rintro e s18 ⟨rfl, hb⟩
    replace kA0 := belK hb kA0 zA; replace kA1 := belK hb kA1 zA; replace kA2 := belK hb kA2 zA; replace zA := belZ zA hb
    replace kB0 := belK hb kB0 zB; replace kB1 := belK hb kB1 zB; replace kB2 := belK hb kB2 zB; replace zB := belZ zB hb
    replace kC0 := belK hb kC0 zC; replace kC1 := belK hb kC1 zC; replace kC2 := belK hb kC2 zC; replace zC := belZ zC hb
    replace kD0 := belK hb kD0 zD; replace kD1 := belK hb kD1 zD; replace kD2 := belK hb kD2 zD; replace zD := belZ zD hb
    replace kE0 := belK hb kE0 zE; replace kE1 := belK hb kE1 zE; replace kE2 := belK hb kE2 zE; replace zE := belZ zE hb
    replace kF0 := belK hb kF0 zF; replace kF1 := belK hb kF1 zF; replace kF2 := belK hb kF2 zF; replace zF := belZ zF hb
    replace kG0 := belK hb kG0 zG; replace kG1 := belK hb kG1 zG; replace kG2 := belK hb kG2 zG; replace zG := belZ zG hb
    replace kP0 := belK hb kP0 zP; replace kP1 := belK hb kP1 zP; replace kP2 := belK hb kP2 zP; replace zP := belZ zP hb
    replace kQ0 := belK hb kQ0 zQ; replace kQ1 := belK hb kQ1 zQ; replace kQ2 := belK hb kQ2 zQ; replace zQ := belZ zQ hb
    replace hBo := hBo.trans (hb.mono hBo.size)
    clear hb
    go_wp2_with fail
    obtain ⟨s19, hws⟩ : ∃ s, s = (s18.alloc (.cells #[.bool (rb q2), .string (rn q2), .string (rd q2)] 23)) := ⟨_, rfl⟩
    have hBs : Below w.heap.size w s19 := by rw [hws]; exact ((hBo).alloc (by exact hBo.size) _)
    obtain ⟨S, hdS⟩ : ∃ b, b = s18.heap.size := ⟨_, rfl⟩
    have hsz : s19.heap.size = s18.heap.size + 1 := by rw [hws]; simp
    have hQC : ∀ p v, s18.cell? p = some v → s19.cell? p = some v := fun p v h => by rw [hws]; exact (alK h)
    have hQZ : ∀ b, b < s18.heap.size → b < s19.heap.size := fun b h => by omega
    replace kA0 := hQC _ _ kA0; replace kA1 := hQC _ _ kA1; replace kA2 := hQC _ _ kA2; replace zA := hQZ _ zA
    replace kB0 := hQC _ _ kB0; replace kB1 := hQC _ _ kB1; replace kB2 := hQC _ _ kB2; replace zB := hQZ _ zB
    replace kC0 := hQC _ _ kC0; replace kC1 := hQC _ _ kC1; replace kC2 := hQC _ _ kC2; replace zC := hQZ _ zC
    replace kD0 := hQC _ _ kD0; replace kD1 := hQC _ _ kD1; replace kD2 := hQC _ _ kD2; replace zD := hQZ _ zD
    replace kE0 := hQC _ _ kE0; replace kE1 := hQC _ _ kE1; replace kE2 := hQC _ _ kE2; replace zE := hQZ _ zE
    replace kF0 := hQC _ _ kF0; replace kF1 := hQC _ _ kF1; replace kF2 := hQC _ _ kF2; replace zF := hQZ _ zF
    replace kG0 := hQC _ _ kG0; replace kG1 := hQC _ _ kG1; replace kG2 := hQC _ _ kG2; replace zG := hQZ _ zG
    replace kP0 := hQC _ _ kP0; replace kP1 := hQC _ _ kP1; replace kP2 := hQC _ _ kP2; replace zP := hQZ _ zP
    replace kQ0 := hQC _ _ kQ0; replace kQ1 := hQC _ _ kQ1; replace kQ2 := hQC _ _ kQ2; replace zQ := hQZ _ zQ
    clear hQC hQZ
    have kS0 : s19.cell? ⟨S, 0, none⟩ = some (.bool (rb q2)) := by rw [hws]; simp [go_sem, hdS]
    have kS1 : s19.cell? ⟨S, 1, none⟩ = some (.string (rn q2)) := by rw [hws]; simp [go_sem, hdS]
    have kS2 : s19.cell? ⟨S, 2, none⟩ = some (.string (rd q2)) := by rw [hws]; simp [go_sem, hdS]
    have zS : S < s19.heap.size := by omega
    have lS : w.heap.size ≤ S := by have := hBo.size; omega
    rw [← hws]
    try rw [← hdS]
    clear hBo
    clear hws hsz hdS
    have hBo := hBs; clear hBs
    refine (HK.out _).mono ?_; rintro e s20 ⟨rfl, hb⟩
    replace kA0 := belK hb kA0 zA; replace kA1 := belK hb kA1 zA; replace kA2 := belK hb kA2 zA; replace zA := belZ zA hb
    replace kB0 := belK hb kB0 zB; replace kB1 := belK hb kB1 zB; replace kB2 := belK hb kB2 zB; replace zB := belZ zB hb
    replace kC0 := belK hb kC0 zC; replace kC1 := belK hb kC1 zC; replace kC2 := belK hb kC2 zC; replace zC := belZ zC hb
    replace kD0 := belK hb kD0 zD; replace kD1 := belK hb kD1 zD; replace kD2 := belK hb kD2 zD; replace zD := belZ zD hb
    replace kE0 := belK hb kE0 zE; replace kE1 := belK hb kE1 zE; replace kE2 := belK hb kE2 zE; replace zE := belZ zE hb
    replace kF0 := belK hb kF0 zF; replace kF1 := belK hb kF1 zF; replace kF2 := belK hb kF2 zF; replace zF := belZ zF hb
    replace kG0 := belK hb kG0 zG; replace kG1 := belK hb kG1 zG; replace kG2 := belK hb kG2 zG; replace zG := belZ zG hb
    replace kP0 := belK hb kP0 zP; replace kP1 := belK hb kP1 zP; replace kP2 := belK hb kP2 zP; replace zP := belZ zP hb
    replace kQ0 := belK hb kQ0 zQ; replace kQ1 := belK hb kQ1 zQ; replace kQ2 := belK hb kQ2 zQ; replace zQ := belZ zQ hb
    replace kS0 := belK hb kS0 zS; replace kS1 := belK hb kS1 zS; replace kS2 := belK hb kS2 zS; replace zS := belZ zS hb
    replace hBo := hBo.trans (hb.mono hBo.size)
    clear hb
    all_goals go_wp2_with fail
    all_goals first | go_ret | go_ret2
    all_goals exact ⟨rfl, hBo⟩
  · have h00 : (c2 == 0) = false := by simpa using h0
    clear h1 g1 h2 g2 h3 g3 ha hd
    go_enter Tryz.func4, Tryz.ntmps4
    go_wp2_with fail
    obtain ⟨s21, hws⟩ : ∃ s, s = (w.alloc (.cells #[.bool neg, .string a, .string d] 23)) := ⟨_, rfl⟩
    have hBs : Below w.heap.size w s21 := by rw [hws]; exact ((Below.refl w.heap.size w).alloc (by simp) _)
    obtain ⟨A, hdA⟩ : ∃ b, b = w.heap.size := ⟨_, rfl⟩
    have hsz : s21.heap.size = w.heap.size + 1 := by rw [hws]; simp
    have kA0 : s21.cell? ⟨A, 0, none⟩ = some (.bool neg) := by rw [hws]; simp [go_sem, hdA]
    have kA1 : s21.cell? ⟨A, 1, none⟩ = some (.string a) := by rw [hws]; simp [go_sem, hdA]
    have kA2 : s21.cell? ⟨A, 2, none⟩ = some (.string d) := by rw [hws]; simp [go_sem, hdA]
    have zA : A < s21.heap.size := by omega
    have lA : w.heap.size ≤ A := by have := Nat.le_refl w.heap.size; omega
    rw [← hws]
    try rw [← hdA]
    clear hws hsz hdA
    have hBo := hBs; clear hBs
    refine (H1.out _).mono ?_; rintro e s22 ⟨rfl, hb⟩
    replace kA0 := belK hb kA0 zA; replace kA1 := belK hb kA1 zA; replace kA2 := belK hb kA2 zA; replace zA := belZ zA hb
    replace hBo := hBo.trans (hb.mono hBo.size)
    clear hb
    go_wp2_with fail
    obtain ⟨s23, hws⟩ : ∃ s, s = (s22.alloc (.cells #[.bool (rb q1), .string (rn q1), .string (rd q1)] 23)) := ⟨_, rfl⟩
    have hBs : Below w.heap.size w s23 := by rw [hws]; exact ((hBo).alloc (by exact hBo.size) _)
    obtain ⟨B, hdB⟩ : ∃ b, b = s22.heap.size := ⟨_, rfl⟩
    have hsz : s23.heap.size = s22.heap.size + 1 := by rw [hws]; simp
    have hQC : ∀ p v, s22.cell? p = some v → s23.cell? p = some v := fun p v h => by rw [hws]; exact (alK h)
    have hQZ : ∀ b, b < s22.heap.size → b < s23.heap.size := fun b h => by omega
    replace kA0 := hQC _ _ kA0; replace kA1 := hQC _ _ kA1; replace kA2 := hQC _ _ kA2; replace zA := hQZ _ zA
    clear hQC hQZ
    have kB0 : s23.cell? ⟨B, 0, none⟩ = some (.bool (rb q1)) := by rw [hws]; simp [go_sem, hdB]
    have kB1 : s23.cell? ⟨B, 1, none⟩ = some (.string (rn q1)) := by rw [hws]; simp [go_sem, hdB]
    have kB2 : s23.cell? ⟨B, 2, none⟩ = some (.string (rd q1)) := by rw [hws]; simp [go_sem, hdB]
    have zB : B < s23.heap.size := by omega
    have lB : w.heap.size ≤ B := by have := hBo.size; omega
    rw [← hws]
    try rw [← hdB]
    clear hBo
    clear hws hsz hdB
    have hBo := hBs; clear hBs
    refine (H2.out _).mono ?_; rintro e s24 ⟨rfl, hb⟩
    replace kA0 := belK hb kA0 zA; replace kA1 := belK hb kA1 zA; replace kA2 := belK hb kA2 zA; replace zA := belZ zA hb
    replace kB0 := belK hb kB0 zB; replace kB1 := belK hb kB1 zB; replace kB2 := belK hb kB2 zB; replace zB := belZ zB hb
    replace hBo := hBo.trans (hb.mono hBo.size)
    clear hb
    go_wp2_with fail
    obtain ⟨s25, hws⟩ : ∃ s, s = (s24.alloc (.cells #[.bool (rb q1), .string (rn q1), .string (rd q1)] 23)) := ⟨_, rfl⟩
    have hBs : Below w.heap.size w s25 := by rw [hws]; exact ((hBo).alloc (by exact hBo.size) _)
    obtain ⟨C, hdC⟩ : ∃ b, b = s24.heap.size := ⟨_, rfl⟩
    have hsz : s25.heap.size = s24.heap.size + 1 := by rw [hws]; simp
    have hQC : ∀ p v, s24.cell? p = some v → s25.cell? p = some v := fun p v h => by rw [hws]; exact (alK h)
    have hQZ : ∀ b, b < s24.heap.size → b < s25.heap.size := fun b h => by omega
    replace kA0 := hQC _ _ kA0; replace kA1 := hQC _ _ kA1; replace kA2 := hQC _ _ kA2; replace zA := hQZ _ zA
    replace kB0 := hQC _ _ kB0; replace kB1 := hQC _ _ kB1; replace kB2 := hQC _ _ kB2; replace zB := hQZ _ zB
    clear hQC hQZ
    have kC0 : s25.cell? ⟨C, 0, none⟩ = some (.bool (rb q1)) := by rw [hws]; simp [go_sem, hdC]
    have kC1 : s25.cell? ⟨C, 1, none⟩ = some (.string (rn q1)) := by rw [hws]; simp [go_sem, hdC]
    have kC2 : s25.cell? ⟨C, 2, none⟩ = some (.string (rd q1)) := by rw [hws]; simp [go_sem, hdC]
    have zC : C < s25.heap.size := by omega
    have lC : w.heap.size ≤ C := by have := hBo.size; omega
    rw [← hws]
    try rw [← hdC]
    clear hBo
    clear hws hsz hdC
    have hBo := hBs; clear hBs
    refine (H3.out _).mono ?_; rintro e s26 ⟨rfl, hb⟩
    replace kA0 := belK hb kA0 zA; replace kA1 := belK hb kA1 zA; replace kA2 := belK hb kA2 zA; replace zA := belZ zA hb
    replace kB0 := belK hb kB0 zB; replace kB1 := belK hb kB1 zB; replace kB2 := belK hb kB2 zB; replace zB := belZ zB hb
    replace kC0 := belK hb kC0 zC; replace kC1 := belK hb kC1 zC; replace kC2 := belK hb kC2 zC; replace zC := belZ zC hb
    replace hBo := hBo.trans (hb.mono hBo.size)
    clear hb
    go_wp2_with fail
    obtain ⟨s27, hws⟩ : ∃ s, s = (s26.alloc (.cells #[.bool (rb q2), .string (rn q2), .string (rd q2)] 23)) := ⟨_, rfl⟩
    have hBs : Below w.heap.size w s27 := by rw [hws]; exact ((hBo).alloc (by exact hBo.size) _)
    obtain ⟨D, hdD⟩ : ∃ b, b = s26.heap.size := ⟨_, rfl⟩
    have hsz : s27.heap.size = s26.heap.size + 1 := by rw [hws]; simp
    have hQC : ∀ p v, s26.cell? p = some v → s27.cell? p = some v := fun p v h => by rw [hws]; exact (alK h)
    have hQZ : ∀ b, b < s26.heap.size → b < s27.heap.size := fun b h => by omega
    replace kA0 := hQC _ _ kA0; replace kA1 := hQC _ _ kA1; replace kA2 := hQC _ _ kA2; replace zA := hQZ _ zA
    replace kB0 := hQC _ _ kB0; replace kB1 := hQC _ _ kB1; replace kB2 := hQC _ _ kB2; replace zB := hQZ _ zB
    replace kC0 := hQC _ _ kC0; replace kC1 := hQC _ _ kC1; replace kC2 := hQC _ _ kC2; replace zC := hQZ _ zC
    clear hQC hQZ
    have kD0 : s27.cell? ⟨D, 0, none⟩ = some (.bool (rb q2)) := by rw [hws]; simp [go_sem, hdD]
    have kD1 : s27.cell? ⟨D, 1, none⟩ = some (.string (rn q2)) := by rw [hws]; simp [go_sem, hdD]
    have kD2 : s27.cell? ⟨D, 2, none⟩ = some (.string (rd q2)) := by rw [hws]; simp [go_sem, hdD]
    have zD : D < s27.heap.size := by omega
    have lD : w.heap.size ≤ D := by have := hBo.size; omega
    rw [← hws]
    try rw [← hdD]
    clear hBo
    clear hws hsz hdD
    have hBo := hBs; clear hBs
    refine (H4.out _).mono ?_; rintro e s28 ⟨rfl, hb⟩
    replace kA0 := belK hb kA0 zA; replace kA1 := belK hb kA1 zA; replace kA2 := belK hb kA2 zA; replace zA := belZ zA hb
    replace kB0 := belK hb kB0 zB; replace kB1 := belK hb kB1 zB; replace kB2 := belK hb kB2 zB; replace zB := belZ zB hb
    replace kC0 := belK hb kC0 zC; replace kC1 := belK hb kC1 zC; replace kC2 := belK hb kC2 zC; replace zC := belZ zC hb
    replace kD0 := belK hb kD0 zD; replace kD1 := belK hb kD1 zD; replace kD2 := belK hb kD2 zD; replace zD := belZ zD hb
    replace hBo := hBo.trans (hb.mono hBo.size)
    clear hb
    go_wp2_with fail
    obtain ⟨s29, hws⟩ : ∃ s, s = (s28.alloc (.cells #[.bool (rb q2), .string (rn q2), .string (rd q2)] 23)) := ⟨_, rfl⟩
    have hBs : Below w.heap.size w s29 := by rw [hws]; exact ((hBo).alloc (by exact hBo.size) _)
    obtain ⟨E, hdE⟩ : ∃ b, b = s28.heap.size := ⟨_, rfl⟩
    have hsz : s29.heap.size = s28.heap.size + 1 := by rw [hws]; simp
    have hQC : ∀ p v, s28.cell? p = some v → s29.cell? p = some v := fun p v h => by rw [hws]; exact (alK h)
    have hQZ : ∀ b, b < s28.heap.size → b < s29.heap.size := fun b h => by omega
    replace kA0 := hQC _ _ kA0; replace kA1 := hQC _ _ kA1; replace kA2 := hQC _ _ kA2; replace zA := hQZ _ zA
    replace kB0 := hQC _ _ kB0; replace kB1 := hQC _ _ kB1; replace kB2 := hQC _ _ kB2; replace zB := hQZ _ zB
    replace kC0 := hQC _ _ kC0; replace kC1 := hQC _ _ kC1; replace kC2 := hQC _ _ kC2; replace zC := hQZ _ zC
    replace kD0 := hQC _ _ kD0; replace kD1 := hQC _ _ kD1; replace kD2 := hQC _ _ kD2; replace zD := hQZ _ zD
    clear hQC hQZ
    have kE0 : s29.cell? ⟨E, 0, none⟩ = some (.bool (rb q2)) := by rw [hws]; simp [go_sem, hdE]
    have kE1 : s29.cell? ⟨E, 1, none⟩ = some (.string (rn q2)) := by rw [hws]; simp [go_sem, hdE]
    have kE2 : s29.cell? ⟨E, 2, none⟩ = some (.string (rd q2)) := by rw [hws]; simp [go_sem, hdE]
    have zE : E < s29.heap.size := by omega
    have lE : w.heap.size ≤ E := by have := hBo.size; omega
    rw [← hws]
    try rw [← hdE]
    clear hBo
    clear hws hsz hdE
    have hBo := hBs; clear hBs
    refine (H5.out _).mono ?_; rintro e s30 ⟨rfl, hb⟩
    replace kA0 := belK hb kA0 zA; replace kA1 := belK hb kA1 zA; replace kA2 := belK hb kA2 zA; replace zA := belZ zA hb
    replace kB0 := belK hb kB0 zB; replace kB1 := belK hb kB1 zB; replace kB2 := belK hb kB2 zB; replace zB := belZ zB hb
    replace kC0 := belK hb kC0 zC; replace kC1 := belK hb kC1 zC; replace kC2 := belK hb kC2 zC; replace zC := belZ zC hb
    replace kD0 := belK hb kD0 zD; replace kD1 := belK hb kD1 zD; replace kD2 := belK hb kD2 zD; replace zD := belZ zD hb
    replace kE0 := belK hb kE0 zE; replace kE1 := belK hb kE1 zE; replace kE2 := belK hb kE2 zE; replace zE := belZ zE hb
    replace hBo := hBo.trans (hb.mono hBo.size)
    clear hb
    go_wp2_with fail
    obtain ⟨s31, hws⟩ : ∃ s, s = (s30.alloc (.cells #[.bool (rb q3), .string (rn q3), .string (rd q3)] 23)) := ⟨_, rfl⟩
    have hBs : Below w.heap.size w s31 := by rw [hws]; exact ((hBo).alloc (by exact hBo.size) _)
    obtain ⟨F, hdF⟩ : ∃ b, b = s30.heap.size := ⟨_, rfl⟩
    have hsz : s31.heap.size = s30.heap.size + 1 := by rw [hws]; simp
    have hQC : ∀ p v, s30.cell? p = some v → s31.cell? p = some v := fun p v h => by rw [hws]; exact (alK h)
    have hQZ : ∀ b, b < s30.heap.size → b < s31.heap.size := fun b h => by omega
    replace kA0 := hQC _ _ kA0; replace kA1 := hQC _ _ kA1; replace kA2 := hQC _ _ kA2; replace zA := hQZ _ zA
    replace kB0 := hQC _ _ kB0; replace kB1 := hQC _ _ kB1; replace kB2 := hQC _ _ kB2; replace zB := hQZ _ zB
    replace kC0 := hQC _ _ kC0; replace kC1 := hQC _ _ kC1; replace kC2 := hQC _ _ kC2; replace zC := hQZ _ zC
    replace kD0 := hQC _ _ kD0; replace kD1 := hQC _ _ kD1; replace kD2 := hQC _ _ kD2; replace zD := hQZ _ zD
    replace kE0 := hQC _ _ kE0; replace kE1 := hQC _ _ kE1; replace kE2 := hQC _ _ kE2; replace zE := hQZ _ zE
    clear hQC hQZ
    have kF0 : s31.cell? ⟨F, 0, none⟩ = some (.bool (rb q3)) := by rw [hws]; simp [go_sem, hdF]
    have kF1 : s31.cell? ⟨F, 1, none⟩ = some (.string (rn q3)) := by rw [hws]; simp [go_sem, hdF]
    have kF2 : s31.cell? ⟨F, 2, none⟩ = some (.string (rd q3)) := by rw [hws]; simp [go_sem, hdF]
    have zF : F < s31.heap.size := by omega
    have lF : w.heap.size ≤ F := by have := hBo.size; omega
    rw [← hws]
    try rw [← hdF]
    clear hBo
    clear hws hsz hdF
    have hBo := hBs; clear hBs
    refine (H6.out _).mono ?_; rintro e s32 ⟨rfl, hb⟩
    replace kA0 := belK hb kA0 zA; replace kA1 := belK hb kA1 zA; replace kA2 := belK hb kA2 zA; replace zA := belZ zA hb
    replace kB0 := belK hb kB0 zB; replace kB1 := belK hb kB1 zB; replace kB2 := belK hb kB2 zB; replace zB := belZ zB hb
    replace kC0 := belK hb kC0 zC; replace kC1 := belK hb kC1 zC; replace kC2 := belK hb kC2 zC; replace zC := belZ zC hb
    replace kD0 := belK hb kD0 zD; replace kD1 := belK hb kD1 zD; replace kD2 := belK hb kD2 zD; replace zD := belZ zD hb
    replace kE0 := belK hb kE0 zE; replace kE1 := belK hb kE1 zE; replace kE2 := belK hb kE2 zE; replace zE := belZ zE hb
    replace kF0 := belK hb kF0 zF; replace kF1 := belK hb kF1 zF; replace kF2 := belK hb kF2 zF; replace zF := belZ zF hb
    replace hBo := hBo.trans (hb.mono hBo.size)
    clear hb
    go_wp2_with fail
    obtain ⟨s33, hws⟩ : ∃ s, s = (s32.alloc (.cells #[.bool (rb q3), .string (rn q3), .string (rd q3)] 23)) := ⟨_, rfl⟩
    have hBs : Below w.heap.size w s33 := by rw [hws]; exact ((hBo).alloc (by exact hBo.size) _)
    obtain ⟨G, hdG⟩ : ∃ b, b = s32.heap.size := ⟨_, rfl⟩
    have hsz : s33.heap.size = s32.heap.size + 1 := by rw [hws]; simp
    have hQC : ∀ p v, s32.cell? p = some v → s33.cell? p = some v := fun p v h => by rw [hws]; exact (alK h)
    have hQZ : ∀ b, b < s32.heap.size → b < s33.heap.size := fun b h => by omega
    replace kA0 := hQC _ _ kA0; replace kA1 := hQC _ _ kA1; replace kA2 := hQC _ _ kA2; replace zA := hQZ _ zA
    replace kB0 := hQC _ _ kB0; replace kB1 := hQC _ _ kB1; replace kB2 := hQC _ _ kB2; replace zB := hQZ _ zB
    replace kC0 := hQC _ _ kC0; replace kC1 := hQC _ _ kC1; replace kC2 := hQC _ _ kC2; replace zC := hQZ _ zC
    replace kD0 := hQC _ _ kD0; replace kD1 := hQC _ _ kD1; replace kD2 := hQC _ _ kD2; replace zD := hQZ _ zD
    replace kE0 := hQC _ _ kE0; replace kE1 := hQC _ _ kE1; replace kE2 := hQC _ _ kE2; replace zE := hQZ _ zE
    replace kF0 := hQC _ _ kF0; replace kF1 := hQC _ _ kF1; replace kF2 := hQC _ _ kF2; replace zF := hQZ _ zF
    clear hQC hQZ
    have kG0 : s33.cell? ⟨G, 0, none⟩ = some (.bool (rb q3)) := by rw [hws]; simp [go_sem, hdG]
    have kG1 : s33.cell? ⟨G, 1, none⟩ = some (.string (rn q3)) := by rw [hws]; simp [go_sem, hdG]
    have kG2 : s33.cell? ⟨G, 2, none⟩ = some (.string (rd q3)) := by rw [hws]; simp [go_sem, hdG]
    have zG : G < s33.heap.size := by omega
    have lG : w.heap.size ≤ G := by have := hBo.size; omega
    rw [← hws]
    try rw [← hdG]
    clear hBo
    clear hws hsz hdG
    have hBo := hBs; clear hBs
    refine (HK.out _).mono ?_; rintro e s34 ⟨rfl, hb⟩
    replace kA0 := belK hb kA0 zA; replace kA1 := belK hb kA1 zA; replace kA2 := belK hb kA2 zA; replace zA := belZ zA hb
    replace kB0 := belK hb kB0 zB; replace kB1 := belK hb kB1 zB; replace kB2 := belK hb kB2 zB; replace zB := belZ zB hb
    replace kC0 := belK hb kC0 zC; replace kC1 := belK hb kC1 zC; replace kC2 := belK hb kC2 zC; replace zC := belZ zC hb
    replace kD0 := belK hb kD0 zD; replace kD1 := belK hb kD1 zD; replace kD2 := belK hb kD2 zD; replace zD := belZ zD hb
    replace kE0 := belK hb kE0 zE; replace kE1 := belK hb kE1 zE; replace kE2 := belK hb kE2 zE; replace zE := belZ zE hb
    replace kF0 := belK hb kF0 zF; replace kF1 := belK hb kF1 zF; replace kF2 := belK hb kF2 zF; replace zF := belZ zF hb
    replace kG0 := belK hb kG0 zG; replace kG1 := belK hb kG1 zG; replace kG2 := belK hb kG2 zG; replace zG := belZ zG hb
    replace hBo := hBo.trans (hb.mono hBo.size)
    clear hb
    all_goals go_wp2_with fail
    all_goals first | go_ret | go_ret2
    all_goals exact ⟨rfl, hBo⟩
end Go.Proofs.YtbgmnpabclfjaaaGreatDoor
