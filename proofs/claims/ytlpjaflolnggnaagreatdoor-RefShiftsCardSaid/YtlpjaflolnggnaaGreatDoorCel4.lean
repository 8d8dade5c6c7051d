/-
  LAYER 11, REFERENCES: capital letters (the document's).
-/
import Derived.Test.YtlpjaflolnggnaaGreatDoorCel3
namespace Go.Proofs.YtlpjaflolnggnaaGreatDoor
set_option linter.unusedSimpArgs false
set_option linter.unusedVariables false
open Go.RowKit Go.Shelf

/-- the first n bytes are capital ones. -/
def mixU (l : List UInt8) (n : Nat) : List UInt8 := (l.take n).map Lib.upperB ++ l.drop n
theorem mixU_len (l : List UInt8) (n : Nat) (h : n ≤ l.length) : (mixU l n).length = l.length := by unfold mixU; simp; omega
theorem mixU_zero (l : List UInt8) : mixU l 0 = l := by unfold mixU; simp
theorem mixU_all (l : List UInt8) : mixU l l.length = Lib.toUpperA l := by unfold mixU Lib.toUpperA; simp
theorem mixU_at (l : List UInt8) (n : Nat) (h : n < l.length) : (mixU l n).getD n 0 = l[n] := by
  unfold mixU
  rw [List.getD_eq_getElem?_getD, List.getElem?_append_right (by simp; omega)]
  simp [Nat.min_eq_left (Nat.le_of_lt h), h]
theorem mixU_next (l : List UInt8) (n j : Nat) (h : n < l.length) : (mixU l (n + 1)).getD j 0 = if j = n then Lib.upperB l[n] else (mixU l n).getD j 0 := by
  unfold mixU
  rw [List.getD_eq_getElem?_getD, List.getD_eq_getElem?_getD]
  have hn1 : (List.map Lib.upperB (l.take (n + 1))).length = n + 1 := by simp; omega
  have hn0 : (List.map Lib.upperB (l.take n)).length = n := by simp; omega
  rcases Nat.lt_trichotomy j n with hj | hj | hj
  · rw [if_neg (by omega), List.getElem?_append_left (by omega), List.getElem?_append_left (by omega)]
    simp [List.getElem?_take, hj, Nat.lt_succ_of_lt hj]
  · subst hj
    rw [if_pos rfl, List.getElem?_append_left (by omega)]
    simp [List.getElem?_take, h]
  · rw [if_neg (by omega), List.getElem?_append_right (by omega), List.getElem?_append_right (by omega), hn1, hn0, List.getElem?_drop, List.getElem?_drop]
    congr 2; omega
/-- the bytes' row, of which the first n are capital ones. -/
structure UpAt (l : List UInt8) (g n : Nat) (W : World) : Prop where
  c : ∀ j, j < l.length → W.cell? ⟨g, j, none⟩ = some (.int .u8 (((mixU l n).getD j 0).toNat : Int))
  f : ∀ j, j < l.length → W.frozen? ⟨g, j, none⟩ = false
theorem UpAt.same {l : List UInt8} {g n : Nat} {W : World} (h : UpAt l g n W) (hn : n < l.length) (hx : Lib.upperB l[n] = l[n]) : UpAt l g (n + 1) W :=
  ⟨fun j hj => by
    rw [mixU_next l n j hn, h.c j hj]
    split
    · rename_i e; subst e; rw [mixU_at l j hn, hx]
    · rfl, h.f⟩
theorem UpAt.set {l : List UInt8} {g n : Nat} {W : World} (h : UpAt l g n W) (hn : n < l.length) {z : Int} (hz : z = ((Lib.upperB l[n]).toNat : Int)) : UpAt l g (n + 1) (W.setCell ⟨g, n, none⟩ (.int .u8 z)) :=
  ⟨fun j hj => by
    rw [mixU_next l n j hn]
    by_cases e : j = n
    · subst e
      rw [if_pos rfl, hz]
      have h1 := h.c j hn
      have h2 := h.f j hn
      simp [go_sem, h1, h2]
    · rw [if_neg e, ← h.c j hj]
      have h1 : (⟨g, n, Option.none⟩ : Addr) ≠ ⟨g, j, Option.none⟩ := fun h => e (by injection h with h1 h2; exact h2.symm)
      simp [go_sem, h1, e, Ne.symm e], fun j hj => by simpa [go_sem] using h.f j hj⟩
theorem bytesWorld_frozen (w : World) (e : TypeId) (s : ByteArray) (j : Nat) (hj : j < s.size) : (Lib.bytesWorld w e s).frozen? ⟨w.heap.size, j, none⟩ = false := by
  have hc : s.size ≤ (Lib.bytesCells w e s).size := by unfold Lib.bytesCells; simp
  simp [World.frozen?, Lib.bytesWorld_at_new]
  omega
def CapRel (s : ByteArray) (w : World) (i : Value) (wr : World) : Prop := ∃ n : Nat, i = .int .i64 n ∧ n ≤ s.size ∧ UpAt s.data.toList w.heap.size n wr ∧ Below w.heap.size w wr
theorem upper_yes {x : UInt8} (h1 : 97 ≤ x.toNat) (h2 : x.toNat ≤ 122) : IntKind.u8.wrap ((x.toNat : Int) - 32) = ((Lib.upperB x).toNat : Int) := by
  have h : ∀ n : Fin 256, 97 ≤ (UInt8.ofNat n.val).toNat → (UInt8.ofNat n.val).toNat ≤ 122 → IntKind.u8.wrap (((UInt8.ofNat n.val).toNat : Int) - 32) = ((Lib.upperB (UInt8.ofNat n.val)).toNat : Int) := by decide +kernel
  have := h ⟨x.toNat, UInt8.toNat_lt x⟩
  rw [show UInt8.ofNat (⟨x.toNat, UInt8.toNat_lt x⟩ : Fin 256).val = x from UInt8.ofNat_toNat] at this
  exact this h1 h2
theorem upper_no {x : UInt8} (h : x.toNat < 97 ∨ 122 < x.toNat) : Lib.upperB x = x := by
  have h2 : ∀ n : Fin 256, (UInt8.ofNat n.val).toNat < 97 ∨ 122 < (UInt8.ofNat n.val).toNat → Lib.upperB (UInt8.ofNat n.val) = (UInt8.ofNat n.val) := by decide +kernel
  have := h2 ⟨x.toNat, UInt8.toNat_lt x⟩
  rw [show UInt8.ofNat (⟨x.toNat, UInt8.toNat_lt x⟩ : Fin 256).val = x from UInt8.ofNat_toNat] at this
  exact this h
def upT (s : ByteArray) : ByteArray := ⟨(Lib.toUpperA s.data.toList).toArray⟩
set_option maxRecDepth 100000 in
set_option maxHeartbeats 1000000 in
theorem refUpper_any (s : ByteArray) (w : World) (hs : s.size ≤ maxLen) :
    Calls Tryz.prog 68 #[.string s] w fun e w' => e = .returned (.string (upT s)) ∧ Below w.heap.size w w' := by
  unfold maxLen at hs
  have hl : s.data.toList.length = s.size := by simp
  have hcv := Lib.run_convert_string_bytes (P := Tryz.prog) w 9 62 5 s (u := .string) Tryz.underlying9 Tryz.underlying62 Tryz.underlying5
  have hB0 := below_bytesWorld w 5 s
  have hU0 : UpAt s.data.toList w.heap.size 0 (Lib.bytesWorld w 5 s) := ⟨fun j hj => by rw [mixU_zero]; exact Lib.bytesWorld_cell w _ s j (by omega), fun j hj => bytesWorld_frozen w _ s j (by omega)⟩
  generalize grownCap w s.size 0 5 = cap at hcv
  generalize Lib.bytesWorld w 5 s = W1 at hcv hB0 hU0
  have HU0 := Lib.hid hU0
  have HB0 := Lib.hid hB0
  have HL := Lib.hid hl
  clear hl hU0 hB0
  go_enter Tryz.func68, Tryz.ntmps68
  go_wp2
  go_loopw [4] (CapRel s w) (fun i _ => s.size - (intOf i).toNat)
  case atStart => exact ⟨0, rfl, by omega, HU0.out, HB0.out⟩
  case round =>
    obtain ⟨n, rfl, hn, hU, hB⟩ := hrel
    have HU := Lib.hid hU
    have HB := Lib.hid hB
    by_cases hlt : n < s.size
    · have hg := get_list s n hlt
      have hc := hU.c n (by rw [HL.out]; exact hlt)
      have hf := hU.f n (by rw [HL.out]; exact hlt)
      rw [mixU_at _ _ (by rw [HL.out]; exact hlt)] at hc
      obtain ⟨x, hx⟩ : ∃ x : UInt8, x = s.data.toList[n]'(by rw [HL.out]; exact hlt) := ⟨_, rfl⟩
      rw [← hx] at hc
      have HX := Lib.hid hx
      clear hg hU hB hx
      by_cases h97 : 97 ≤ x.toNat
      · by_cases h122 : x.toNat ≤ 122
        · have hw := upper_yes h97 h122
          obtain ⟨z, hz⟩ : ∃ z : Int, z = ((Lib.upperB x).toNat : Int) := ⟨_, rfl⟩
          rw [← hz] at hw
          have HZ := Lib.hid hz
          clear hz
          go_wp2
          refine ⟨⟨n + 1, by go_num, by omega, HU.out.set (by rw [HL.out]; exact hlt) ?_, HB.out.setCell (Nat.le_refl _) _⟩, by simp [intOf]; omega⟩
          rw [← HX.out]; exact HZ.out
        · go_wp2
          refine ⟨⟨n + 1, by go_num, by omega, HU.out.same (by rw [HL.out]; exact hlt) ?_, HB.out⟩, by simp [intOf]; omega⟩
          rw [← HX.out]; exact upper_no (by omega)
      · go_wp2
        refine ⟨⟨n + 1, by go_num, by omega, HU.out.same (by rw [HL.out]; exact hlt) ?_, HB.out⟩, by simp [intOf]; omega⟩
        rw [← HX.out]; exact upper_no (by omega)
    · have hn' : n = s.size := by omega
      subst hn'
      have hcb := run_convert_bytes_back (P := Tryz.prog) wr 62 9 5 ⟨w.heap.size, 0, none⟩ cap (mixU s.data.toList s.size) Tryz.underlying62 Tryz.underlying5 Tryz.underlying9 (fun j hj => by
        rw [Lib.addr_add, Nat.zero_add, HU.out.c j (by rwa [mixU_len _ _ (by rw [HL.out]; exact Nat.le_refl _)] at hj), List.getD_eq_getElem?_getD, List.getElem?_eq_getElem hj]; rfl)
      rw [mixU_len _ _ (by rw [HL.out]; exact Nat.le_refl _), HL.out] at hcb
      go_wp2
      go_ret
      refine ⟨ret_str ?_, HB.out⟩
      unfold upT
      rw [← mixU_all, HL.out]
end Go.Proofs.YtlpjaflolnggnaaGreatDoor
