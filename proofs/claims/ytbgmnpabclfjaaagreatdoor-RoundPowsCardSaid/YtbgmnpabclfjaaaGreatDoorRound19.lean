/-
 LAYER 6's STATEMENTS, WALKED: powers.
-/
import Derived.Test.YtbgmnpabclfjaaaGreatDoorRound18
import Derived.Test.YtbgmnpabclfjaaaGreatDoorRound22
namespace Go.Proofs.YtbgmnpabclfjaaaGreatDoor
open Go.RowKit Go.Shelf
set_option linter.unusedSimpArgs false
set_option linter.unusedVariables false

set_option maxRecDepth 100000 in
set_option maxHeartbeats 8000000 in
theorem roundPows_any (neg : Bool) (a d : ByteArray) (n : Int) (w : World) (ha : a.size ≤ 140737488351232) (hd : d.size ≤ 140737488351232) (hn1 : -9223372036854775808 ≤ n) (hn2 : n ≤ 9223372036854775807) :
   Calls Tryz.prog 5 #[.agg #[.bool neg, .string a, .string d], .int .i64 n] w fun e w' => e = .returned (.bool true) ∧ Below w.heap.size w w' := by
 have HK := Lib.hid known6_any
 obtain ⟨q, hq⟩ : ∃ q, powR (wl neg a d) n = q := ⟨_, rfl⟩
 obtain ⟨c, hc⟩ : ∃ c, powE (wl neg a d) n = c := ⟨_, rfl⟩
 have H1 := Lib.hid (fun w => roundPow_any neg a d n q c w ha hd hn1 hn2 hq hc)
 have H2 := Lib.hid (fun w => refPow6_any neg a d n q c w ha hd hq hc)
 generalize rb q = qb at *
 generalize rn q = qn at *
 generalize rd q = qd at *
 clear hq hc ha hd hn1 hn2
 go_enter Tryz.func5, Tryz.ntmps5
 go_wp2_with fail
 obtain ⟨s1, hws⟩ : ∃ s, s = (w.alloc (.cells #[.bool neg, .string a, .string d] 23)) := ⟨_, rfl⟩
 have hBs : Below w.heap.size w s1 := by rw [hws]; exact ((Below.refl w.heap.size w).alloc (by simp) _)
 obtain ⟨A, hdA⟩ : ∃ b, b = w.heap.size := ⟨_, rfl⟩
 have hsz : s1.heap.size = w.heap.size + 1 := by rw [hws]; simp
 have kA0 : s1.cell? ⟨A, 0, none⟩ = some (.bool neg) := by rw [hws]; simp [go_sem, hdA]
 have kA1 : s1.cell? ⟨A, 1, none⟩ = some (.string a) := by rw [hws]; simp [go_sem, hdA]
 have kA2 : s1.cell? ⟨A, 2, none⟩ = some (.string d) := by rw [hws]; simp [go_sem, hdA]
 have zA : A < s1.heap.size := by omega
 have lA : w.heap.size ≤ A := by have := Nat.le_refl w.heap.size; omega
 rw [← hws]
 try rw [← hdA]
 clear hws hsz hdA
 have hBo := hBs; clear hBs
 refine (H1.out _).mono ?_; rintro e s2 ⟨rfl, hb⟩
 replace kA0 := belK hb kA0 zA; replace kA1 := belK hb kA1 zA; replace kA2 := belK hb kA2 zA; replace zA := belZ zA hb
 replace hBo := hBo.trans (hb.mono hBo.size)
 clear hb
 go_wp2_with fail
 obtain ⟨s3, hws⟩ : ∃ s, s = (s2.alloc (.cells #[.bool qb, .string qn, .string qd] 23)) := ⟨_, rfl⟩
 have hBs : Below w.heap.size w s3 := by rw [hws]; exact ((hBo).alloc (by exact hBo.size) _)
 obtain ⟨X, hdX⟩ : ∃ b, b = s2.heap.size := ⟨_, rfl⟩
 have hsz : s3.heap.size = s2.heap.size + 1 := by rw [hws]; simp
 have hQC : ∀ p v, s2.cell? p = some v → s3.cell? p = some v := fun p v h => by rw [hws]; exact (alK h)
 have hQZ : ∀ b, b < s2.heap.size → b < s3.heap.size := fun b h => by omega
 replace kA0 := hQC _ _ kA0; replace kA1 := hQC _ _ kA1; replace kA2 := hQC _ _ kA2; replace zA := hQZ _ zA
 clear hQC hQZ
 have kX0 : s3.cell? ⟨X, 0, none⟩ = some (.bool qb) := by rw [hws]; simp [go_sem, hdX]
 have kX1 : s3.cell? ⟨X, 1, none⟩ = some (.string qn) := by rw [hws]; simp [go_sem, hdX]
 have kX2 : s3.cell? ⟨X, 2, none⟩ = some (.string qd) := by rw [hws]; simp [go_sem, hdX]
 have zX : X < s3.heap.size := by omega
 have lX : w.heap.size ≤ X := by have := hBo.size; omega
 rw [← hws]
 try rw [← hdX]
 clear hBo
 clear hws hsz hdX
 have hBo := hBs; clear hBs
 refine (H2.out _).mono ?_; rintro e s4 ⟨rfl, hb⟩
 replace kA0 := belK hb kA0 zA; replace kA1 := belK hb kA1 zA; replace kA2 := belK hb kA2 zA; replace zA := belZ zA hb
 replace kX0 := belK hb kX0 zX; replace kX1 := belK hb kX1 zX; replace kX2 := belK hb kX2 zX; replace zX := belZ zX hb
 replace hBo := hBo.trans (hb.mono hBo.size)
 clear hb
 go_wp2_with fail
 obtain ⟨s5, hws⟩ : ∃ s, s = (s4.alloc (.cells #[.bool qb, .string qn, .string qd] 23)) := ⟨_, rfl⟩
 have hBs : Below w.heap.size w s5 := by rw [hws]; exact ((hBo).alloc (by exact hBo.size) _)
 obtain ⟨Y, hdY⟩ : ∃ b, b = s4.heap.size := ⟨_, rfl⟩
 have hsz : s5.heap.size = s4.heap.size + 1 := by rw [hws]; simp
 have hQC : ∀ p v, s4.cell? p = some v → s5.cell? p = some v := fun p v h => by rw [hws]; exact (alK h)
 have hQZ : ∀ b, b < s4.heap.size → b < s5.heap.size := fun b h => by omega
 replace kA0 := hQC _ _ kA0; replace kA1 := hQC _ _ kA1; replace kA2 := hQC _ _ kA2; replace zA := hQZ _ zA
 replace kX0 := hQC _ _ kX0; replace kX1 := hQC _ _ kX1; replace kX2 := hQC _ _ kX2; replace zX := hQZ _ zX
 clear hQC hQZ
 have kY0 : s5.cell? ⟨Y, 0, none⟩ = some (.bool qb) := by rw [hws]; simp [go_sem, hdY]
 have kY1 : s5.cell? ⟨Y, 1, none⟩ = some (.string qn) := by rw [hws]; simp [go_sem, hdY]
 have kY2 : s5.cell? ⟨Y, 2, none⟩ = some (.string qd) := by rw [hws]; simp [go_sem, hdY]
 have zY : Y < s5.heap.size := by omega
 have lY : w.heap.size ≤ Y := by have := hBo.size; omega
 rw [← hws]
 try rw [← hdY]
 clear hBo
 clear hws hsz hdY
 have hBo := hBs; clear hBs
 refine (HK.out _).mono ?_; rintro e s6 ⟨rfl, hb⟩
 replace kA0 := belK hb kA0 zA; replace kA1 := belK hb kA1 zA; replace kA2 := belK hb kA2 zA; replace zA := belZ zA hb
 replace kX0 := belK hb kX0 zX; replace kX1 := belK hb kX1 zX; replace kX2 := belK hb kX2 zX; replace zX := belZ zX hb
 replace kY0 := belK hb kY0 zY; replace kY1 := belK hb kY1 zY; replace kY2 := belK hb kY2 zY; replace zY := belZ zY hb
 replace hBo := hBo.trans (hb.mono hBo.size)
 clear hb
 all_goals go_wp2_with fail
 all_goals first | go_ret | go_ret2
 all_goals exact ⟨rfl, hBo⟩

end Go.Proofs.YtbgmnpabclfjaaaGreatDoor
