/-
  NUMBERS: which are right; the program's Right.
-/
import Derived.Test.YtbgmnpabclfjaaaGreatDoorRat4
namespace Go.Proofs.YtbgmnpabclfjaaaGreatDoor
open Go.RowKit Go.Shelf
set_option linter.unusedSimpArgs false
set_option linter.unusedVariables false

structure Rt where
  neg : Bool
  num : Nat
  den : Nat
def rb (r : Rt) : Bool := r.neg
def rn (r : Rt) : ByteArray := Nt.E r.num
def rd (r : Rt) : ByteArray := Nt.E r.den
def RtOk (r : Rt) : Prop := r.den ≠ 0 ∧ Nat.gcd r.num r.den = 1 ∧ Nt.blen r.num ≤ 256 ∧ Nt.blen r.den ≤ 256 ∧ (r.num = 0 → r.neg = false)
instance (r : Rt) : Decidable (RtOk r) := by unfold RtOk; infer_instance
def rightB (neg : Bool) (a d : ByteArray) : Bool := decide (Nt.E (Nt.V a) = a ∧ Nt.E (Nt.V d) = d ∧ RtOk ⟨neg, Nt.V a, Nt.V d⟩)
/-- the number that it counts as. -/
def wl (neg : Bool) (a d : ByteArray) : Rt := if rightB neg a d then ⟨neg, Nt.V a, Nt.V d⟩ else ⟨false, 0, 1⟩
theorem rightB_iff (neg : Bool) (a d : ByteArray) : rightB neg a d = true ↔ (Nt.E (Nt.V a) = a ∧ Nt.E (Nt.V d) = d ∧ RtOk ⟨neg, Nt.V a, Nt.V d⟩) := by unfold rightB; simp
theorem wl_ok (neg : Bool) (a d : ByteArray) : RtOk (wl neg a d) := by
  unfold wl
  by_cases h : rightB neg a d = true
  · rw [if_pos h]; exact ((rightB_iff _ _ _).1 h).2.2
  · rw [if_neg h]; decide
theorem wl_right {neg : Bool} {a d : ByteArray} (h : rightB neg a d = true) : rb (wl neg a d) = neg ∧ rn (wl neg a d) = a ∧ rd (wl neg a d) = d := by
  obtain ⟨h1, h2, _⟩ := (rightB_iff _ _ _).1 h
  unfold wl rb rn rd
  rw [if_pos h]
  exact ⟨rfl, h1, h2⟩
theorem wl_wrong {neg : Bool} {a d : ByteArray} (h : rightB neg a d = false) : rb (wl neg a d) = false ∧ rn (wl neg a d) = ⟨#[]⟩ ∧ rd (wl neg a d) = ⟨#[1]⟩ := by
  unfold wl rb rn rd
  rw [if_neg (by rw [h]; decide)]
  exact ⟨rfl, by decide, by decide⟩
theorem quietB {P : Program} {f : FuncId} {args : Array Value} {w : World} {r : Ending} (h : Calls P f args w fun e w' => e = r ∧ w = w') : Calls P f args w fun e w' => e = r ∧ Below w.heap.size w w' :=
  h.mono fun _ _ ⟨he, hw⟩ => ⟨he, hw ▸ Below.refl _ _⟩
theorem toList_beq {a b : ByteArray} (h : a ≠ b) : (a.toList == b.toList) = false := by
  cases hh : (a.toList == b.toList) with
  | false => rfl
  | true =>
    have e : a.toList = b.toList := by simpa using hh
    exact absurd (ba_ext a b (by rw [← ByteArray.toList_eq, ← ByteArray.toList_eq, e])) h
theorem blen_size {n : Nat} (h : Nt.blen n ≤ 256) : (Nt.E n).size ≤ 32 := by
  by_cases h0 : 0 < (Nt.E n).size
  · have ht := Nt.blen_top n h0
    have hh := Nt.E_head n h0
    have : 1 ≤ Nt.blen ((Nt.E n)[0]'h0).toNat := by
      unfold Nt.blen; rw [if_neg hh]; omega
    omega
  · omega
theorem toList_one {d : ByteArray} (h : d ≠ ⟨#[1]⟩) : (d.toList == [1]) = false := by
  have := toList_beq h
  rwa [show (⟨#[1]⟩ : ByteArray).toList = [1] from by rw [ByteArray.toList_eq]] at this
set_option maxRecDepth 100000 in
set_option maxHeartbeats 8000000 in
theorem ratRight_any (neg : Bool) (a d : ByteArray) (w : World) (ha : a.size ≤ 140737488351232) (hd : d.size ≤ 140737488351232) :
    Calls Tryz.prog 72 #[.agg #[.bool neg, .string a, .string d]] w fun e w' => e = .returned (.bool (rightB neg a d)) ∧ Below w.heap.size w w' := by
  have h1 := fun w => quietB (natTrim_any a w)
  have h2 := fun w => quietB (natTrim_any d w)
  by_cases ea : Nt.E (Nt.V a) = a
  case neg =>
    have hr : rightB neg a d = false := by
      cases hh : rightB neg a d with
      | false => rfl
      | true => exact absurd ((rightB_iff _ _ _).1 hh).1 ea
    rw [hr]
    have hn := toList_beq ea
    generalize Nt.E (Nt.V a) = t at *
    have H1 := Lib.hid h1
    clear hr h1 h2 ea ha hd
    go_enter Tryz.func72, Tryz.ntmps72
    go_wp2_with fail
    obtain ⟨s1, hws⟩ : ∃ s, s = (w.alloc (.cells #[.bool neg, .string a, .string d] 23)) := ⟨_, rfl⟩
    have hBs : Below w.heap.size w s1 := by rw [hws]; exact ((Below.refl w.heap.size w).alloc (by simp) _)
    obtain ⟨A, hdA⟩ : ∃ b, b = w.heap.size := ⟨_, rfl⟩
    have hsz : s1.heap.size = w.heap.size + 1 := by rw [hws]; simp
    have kA0 : s1.cell? ⟨A, 0, none⟩ = some (.bool neg) := by rw [hws]; simp [go_sem, hdA]
    have kA1 : s1.cell? ⟨A, 1, none⟩ = some (.string a) := by rw [hws]; simp [go_sem, hdA]
    have kA2 : s1.cell? ⟨A, 2, none⟩ = some (.string d) := by rw [hws]; simp [go_sem, hdA]
    have zA : A < s1.heap.size := by omega
    have lA : w.heap.size ≤ A := by have := Nat.le_refl w.heap.size; omega
    rw [← hws]
    try rw [← hdA]
    clear hws hsz hdA
    have hBo := hBs; clear hBs
    have HF : Hid (∀ W, Below s1.heap.size s1 W → Below w.heap.size w W) := fun W hW => hBo.trans (hW.mono hBo.size)
    clear hBo
    first | (go_region_held3 (fun w' => w'.cell? ⟨A, 0, none⟩ = some (.bool neg) ∧ w'.cell? ⟨A, 1, none⟩ = some (.string a) ∧ w'.cell? ⟨A, 2, none⟩ = some (.string d))
      (go_keep) (first
      | (go_at_call 93; refine (H1.out _).mono ?_; rintro e x2 ⟨rfl, hbx⟩; have hTx : Below s1.heap.size s1 x2 := (by first | exact (Below.refl _ _).drew.trans hbx | exact Below.trans (by assumption) (hbx.mono (Below.size (by assumption))) | exact (Below.refl _ _).trans hbx); obtain ⟨hcx, hfx⟩ := bcell hTx))) | fail
    all_goals go_wp2_with fail
    all_goals first | go_ret | go_ret2
    all_goals exact ⟨rfl, HF.out _ (by assumption)⟩
  rw [ea] at h1
  by_cases ed : Nt.E (Nt.V d) = d
  case neg =>
    have hr : rightB neg a d = false := by
      cases hh : rightB neg a d with
      | false => rfl
      | true => exact absurd ((rightB_iff _ _ _).1 hh).2.1 ed
    rw [hr]
    have hn := toList_beq ed
    generalize Nt.E (Nt.V d) = t at *
    have H1 := Lib.hid h1
    have H2 := Lib.hid h2
    clear hr h1 h2 ea ha hd ed
    go_enter Tryz.func72, Tryz.ntmps72
    go_wp2_with fail
    obtain ⟨s3, hws⟩ : ∃ s, s = (w.alloc (.cells #[.bool neg, .string a, .string d] 23)) := ⟨_, rfl⟩
    have hBs : Below w.heap.size w s3 := by rw [hws]; exact ((Below.refl w.heap.size w).alloc (by simp) _)
    obtain ⟨A, hdA⟩ : ∃ b, b = w.heap.size := ⟨_, rfl⟩
    have hsz : s3.heap.size = w.heap.size + 1 := by rw [hws]; simp
    have kA0 : s3.cell? ⟨A, 0, none⟩ = some (.bool neg) := by rw [hws]; simp [go_sem, hdA]
    have kA1 : s3.cell? ⟨A, 1, none⟩ = some (.string a) := by rw [hws]; simp [go_sem, hdA]
    have kA2 : s3.cell? ⟨A, 2, none⟩ = some (.string d) := by rw [hws]; simp [go_sem, hdA]
    have zA : A < s3.heap.size := by omega
    have lA : w.heap.size ≤ A := by have := Nat.le_refl w.heap.size; omega
    rw [← hws]
    try rw [← hdA]
    clear hws hsz hdA
    have hBo := hBs; clear hBs
    have HF : Hid (∀ W, Below s3.heap.size s3 W → Below w.heap.size w W) := fun W hW => hBo.trans (hW.mono hBo.size)
    clear hBo
    first | (go_region_held3 (fun w' => w'.cell? ⟨A, 0, none⟩ = some (.bool neg) ∧ w'.cell? ⟨A, 1, none⟩ = some (.string a) ∧ w'.cell? ⟨A, 2, none⟩ = some (.string d))
      (go_keep) (first
      | (go_at_call 93; refine (H1.out _).mono ?_; rintro e x4 ⟨rfl, hbx⟩; have hTx : Below s3.heap.size s3 x4 := (by first | exact (Below.refl _ _).drew.trans hbx | exact Below.trans (by assumption) (hbx.mono (Below.size (by assumption))) | exact (Below.refl _ _).trans hbx); obtain ⟨hcx, hfx⟩ := bcell hTx))) | fail
    go_wp2_with fail
    replace kA0 := (hcx A 0 zA).trans kA0
    replace kA1 := (hcx A 1 zA).trans kA1
    replace kA2 := (hcx A 2 zA).trans kA2
    replace zA := Nat.lt_of_lt_of_le zA hTx.size
    have hBo := HF.out _ hTx
    clear HF hcx hfx hTx
    have HF : Hid (∀ W, Below x4.heap.size x4 W → Below w.heap.size w W) := fun W hW => hBo.trans (hW.mono hBo.size)
    clear hBo
    first | (go_region_held3 (fun w' => w'.cell? ⟨A, 0, none⟩ = some (.bool neg) ∧ w'.cell? ⟨A, 1, none⟩ = some (.string a) ∧ w'.cell? ⟨A, 2, none⟩ = some (.string d))
      (go_keep) (first
      | (go_at_call 93; refine (H2.out _).mono ?_; rintro e x5 ⟨rfl, hbx⟩; have hTx : Below x4.heap.size x4 x5 := (by first | exact (Below.refl _ _).drew.trans hbx | exact Below.trans (by assumption) (hbx.mono (Below.size (by assumption))) | exact (Below.refl _ _).trans hbx); obtain ⟨hcx, hfx⟩ := bcell hTx))) | fail
    all_goals go_wp2_with fail
    all_goals first | go_ret | go_ret2
    all_goals exact ⟨rfl, HF.out _ (by assumption)⟩
  rw [ed] at h2
  have H1 := Lib.hid h1
  have H2 := Lib.hid h2
  obtain ⟨bl, hbl⟩ : ∃ bl : ByteArray → Int, bl = fun t => (Nt.blen (Nt.V t) : Int) := ⟨_, rfl⟩
  have HB : Hid (∀ (t : ByteArray) (w : World), t.size ≤ 140737488351232 → Calls Tryz.prog 80 #[.string t] w fun e w' => e = .returned (.int .i64 (bl t)) ∧ Below w.heap.size w w') := fun t w ht => by rw [hbl]; exact quietB (natBits_any t w ht)
  have ba : bl a = (Nt.blen (Nt.V a) : Int) := by rw [hbl]
  have bd : bl d = (Nt.blen (Nt.V d) : Int) := by rw [hbl]
  have hri : rightB neg a d = true ↔ RtOk ⟨neg, Nt.V a, Nt.V d⟩ := by rw [rightB_iff]; exact ⟨fun h => h.2.2, fun h => ⟨ea, ed, h⟩⟩
  clear h1 h2
  by_cases eb : Nt.blen (Nt.V a) ≤ 256 ∧ Nt.blen (Nt.V d) ≤ 256
  case neg =>
    have hr : rightB neg a d = false := by
      cases hh : rightB neg a d with
      | false => rfl
      | true => exact absurd ⟨(hri.1 hh).2.2.1, (hri.1 hh).2.2.2.1⟩ eb
    rw [hr]
    generalize Nt.blen (Nt.V a) = x at *
    generalize Nt.blen (Nt.V d) = y at *
    have hmx : 256 < max (bl a) (bl d) := by rw [ba, bd]; omega
    clear hri hr ea ed hbl ba bd eb
    go_enter Tryz.func72, Tryz.ntmps72
    go_wp2_with fail
    obtain ⟨s6, hws⟩ : ∃ s, s = (w.alloc (.cells #[.bool neg, .string a, .string d] 23)) := ⟨_, rfl⟩
    have hBs : Below w.heap.size w s6 := by rw [hws]; exact ((Below.refl w.heap.size w).alloc (by simp) _)
    obtain ⟨A, hdA⟩ : ∃ b, b = w.heap.size := ⟨_, rfl⟩
    have hsz : s6.heap.size = w.heap.size + 1 := by rw [hws]; simp
    have kA0 : s6.cell? ⟨A, 0, none⟩ = some (.bool neg) := by rw [hws]; simp [go_sem, hdA]
    have kA1 : s6.cell? ⟨A, 1, none⟩ = some (.string a) := by rw [hws]; simp [go_sem, hdA]
    have kA2 : s6.cell? ⟨A, 2, none⟩ = some (.string d) := by rw [hws]; simp [go_sem, hdA]
    have zA : A < s6.heap.size := by omega
    have lA : w.heap.size ≤ A := by have := Nat.le_refl w.heap.size; omega
    rw [← hws]
    try rw [← hdA]
    clear hws hsz hdA
    have hBo := hBs; clear hBs
    have HF : Hid (∀ W, Below s6.heap.size s6 W → Below w.heap.size w W) := fun W hW => hBo.trans (hW.mono hBo.size)
    clear hBo
    first | (go_region_held3 (fun w' => w'.cell? ⟨A, 0, none⟩ = some (.bool neg) ∧ w'.cell? ⟨A, 1, none⟩ = some (.string a) ∧ w'.cell? ⟨A, 2, none⟩ = some (.string d))
      (go_keep) (first
      | (go_at_call 93; refine (H1.out _).mono ?_; rintro e x7 ⟨rfl, hbx⟩; have hTx : Below s6.heap.size s6 x7 := (by first | exact (Below.refl _ _).drew.trans hbx | exact Below.trans (by assumption) (hbx.mono (Below.size (by assumption))) | exact (Below.refl _ _).trans hbx); obtain ⟨hcx, hfx⟩ := bcell hTx))) | fail
    go_wp2_with fail
    replace kA0 := (hcx A 0 zA).trans kA0
    replace kA1 := (hcx A 1 zA).trans kA1
    replace kA2 := (hcx A 2 zA).trans kA2
    replace zA := Nat.lt_of_lt_of_le zA hTx.size
    have hBo := HF.out _ hTx
    clear HF hcx hfx hTx
    have HF : Hid (∀ W, Below x7.heap.size x7 W → Below w.heap.size w W) := fun W hW => hBo.trans (hW.mono hBo.size)
    clear hBo
    first | (go_region_held3 (fun w' => w'.cell? ⟨A, 0, none⟩ = some (.bool neg) ∧ w'.cell? ⟨A, 1, none⟩ = some (.string a) ∧ w'.cell? ⟨A, 2, none⟩ = some (.string d))
      (go_keep) (first
      | (go_at_call 93; refine (H2.out _).mono ?_; rintro e x8 ⟨rfl, hbx⟩; have hTx : Below x7.heap.size x7 x8 := (by first | exact (Below.refl _ _).drew.trans hbx | exact Below.trans (by assumption) (hbx.mono (Below.size (by assumption))) | exact (Below.refl _ _).trans hbx); obtain ⟨hcx, hfx⟩ := bcell hTx))) | fail
    go_wp2_with fail
    replace kA0 := (hcx A 0 zA).trans kA0
    replace kA1 := (hcx A 1 zA).trans kA1
    replace kA2 := (hcx A 2 zA).trans kA2
    replace zA := Nat.lt_of_lt_of_le zA hTx.size
    have hBo := HF.out _ hTx
    clear HF hcx hfx hTx
    have HF : Hid (∀ W, Below x8.heap.size x8 W → Below w.heap.size w W) := fun W hW => hBo.trans (hW.mono hBo.size)
    clear hBo
    first | (go_region_held3 (fun w' => w'.cell? ⟨A, 0, none⟩ = some (.bool neg) ∧ w'.cell? ⟨A, 1, none⟩ = some (.string a) ∧ w'.cell? ⟨A, 2, none⟩ = some (.string d))
      (go_keep) (first
      | (go_at_call 80; refine (HB.out _ _ (by omega)).mono ?_; rintro e x9 ⟨rfl, hbx⟩; have hTx : Below x8.heap.size x8 x9 := (by first | exact (Below.refl _ _).drew.trans hbx | exact Below.trans (by assumption) (hbx.mono (Below.size (by assumption))) | exact (Below.refl _ _).trans hbx); obtain ⟨hcx, hfx⟩ := bcell hTx))) | fail
    all_goals go_wp2_with fail
    all_goals first | go_ret | go_ret2
    all_goals exact ⟨rfl, HF.out _ (by assumption)⟩
  obtain ⟨eb1, eb2⟩ := eb
  have hmx : ¬ 256 < max (bl a) (bl d) := by rw [ba, bd]; omega
  have hsa : a.size ≤ 32 := by rw [← ea]; exact blen_size eb1
  have hsd : d.size ≤ 32 := by rw [← ed]; exact blen_size eb2
  by_cases a0 : Nt.V a = 0
  case pos =>
    have hae : a = ⟨#[]⟩ := by rw [← ea, a0]; rfl
    have hr : rightB neg a d = (!neg && decide (d = ⟨#[1]⟩)) := by
      rw [Bool.eq_iff_iff, hri, a0]
      simp only [RtOk, Nat.gcd_zero_left, Bool.and_eq_true, Bool.not_eq_true', decide_eq_true_eq]
      constructor
      · rintro ⟨_, h1, _, _, h2⟩
        exact ⟨h2 trivial, by rw [← ed, h1]; decide⟩
      · rintro ⟨h1, h2⟩
        rw [h2]
        exact ⟨by decide, by decide, by decide, by decide, fun _ => h1⟩
    rw [hr]
    subst hae
    clear hri hr ea ed hbl ba bd eb1 eb2 a0 hsa hsd
    cases neg
    · by_cases hd1 : d = ⟨#[1]⟩
      · subst hd1
        go_enter Tryz.func72, Tryz.ntmps72
        go_wp2_with fail
        obtain ⟨s10, hws⟩ : ∃ s, s = (w.alloc (.cells #[.bool false, .string ⟨#[]⟩, .string ⟨#[1]⟩] 23)) := ⟨_, rfl⟩
        have hBs : Below w.heap.size w s10 := by rw [hws]; exact ((Below.refl w.heap.size w).alloc (by simp) _)
        obtain ⟨A, hdA⟩ : ∃ b, b = w.heap.size := ⟨_, rfl⟩
        have hsz : s10.heap.size = w.heap.size + 1 := by rw [hws]; simp
        have kA0 : s10.cell? ⟨A, 0, none⟩ = some (.bool false) := by rw [hws]; simp [go_sem, hdA]
        have kA1 : s10.cell? ⟨A, 1, none⟩ = some (.string ⟨#[]⟩) := by rw [hws]; simp [go_sem, hdA]
        have kA2 : s10.cell? ⟨A, 2, none⟩ = some (.string ⟨#[1]⟩) := by rw [hws]; simp [go_sem, hdA]
        have zA : A < s10.heap.size := by omega
        have lA : w.heap.size ≤ A := by have := Nat.le_refl w.heap.size; omega
        rw [← hws]
        try rw [← hdA]
        clear hws hsz hdA
        have hBo := hBs; clear hBs
        have HF : Hid (∀ W, Below s10.heap.size s10 W → Below w.heap.size w W) := fun W hW => hBo.trans (hW.mono hBo.size)
        clear hBo
        first | (go_region_held3 (fun w' => w'.cell? ⟨A, 0, none⟩ = some (.bool false) ∧ w'.cell? ⟨A, 1, none⟩ = some (.string ⟨#[]⟩) ∧ w'.cell? ⟨A, 2, none⟩ = some (.string ⟨#[1]⟩))
          (go_keep) (first
          | (go_at_call 93; refine (H1.out _).mono ?_; rintro e x11 ⟨rfl, hbx⟩; have hTx : Below s10.heap.size s10 x11 := (by first | exact (Below.refl _ _).drew.trans hbx | exact Below.trans (by assumption) (hbx.mono (Below.size (by assumption))) | exact (Below.refl _ _).trans hbx); obtain ⟨hcx, hfx⟩ := bcell hTx))) | fail
        go_wp2_with fail
        replace kA0 := (hcx A 0 zA).trans kA0
        replace kA1 := (hcx A 1 zA).trans kA1
        replace kA2 := (hcx A 2 zA).trans kA2
        replace zA := Nat.lt_of_lt_of_le zA hTx.size
        have hBo := HF.out _ hTx
        clear HF hcx hfx hTx
        have HF : Hid (∀ W, Below x11.heap.size x11 W → Below w.heap.size w W) := fun W hW => hBo.trans (hW.mono hBo.size)
        clear hBo
        first | (go_region_held3 (fun w' => w'.cell? ⟨A, 0, none⟩ = some (.bool false) ∧ w'.cell? ⟨A, 1, none⟩ = some (.string ⟨#[]⟩) ∧ w'.cell? ⟨A, 2, none⟩ = some (.string ⟨#[1]⟩))
          (go_keep) (first
          | (go_at_call 93; refine (H2.out _).mono ?_; rintro e x12 ⟨rfl, hbx⟩; have hTx : Below x11.heap.size x11 x12 := (by first | exact (Below.refl _ _).drew.trans hbx | exact Below.trans (by assumption) (hbx.mono (Below.size (by assumption))) | exact (Below.refl _ _).trans hbx); obtain ⟨hcx, hfx⟩ := bcell hTx))) | fail
        go_wp2_with fail
        replace kA0 := (hcx A 0 zA).trans kA0
        replace kA1 := (hcx A 1 zA).trans kA1
        replace kA2 := (hcx A 2 zA).trans kA2
        replace zA := Nat.lt_of_lt_of_le zA hTx.size
        have hBo := HF.out _ hTx
        clear HF hcx hfx hTx
        have HF : Hid (∀ W, Below x12.heap.size x12 W → Below w.heap.size w W) := fun W hW => hBo.trans (hW.mono hBo.size)
        clear hBo
        first | (go_region_held3 (fun w' => w'.cell? ⟨A, 0, none⟩ = some (.bool false) ∧ w'.cell? ⟨A, 1, none⟩ = some (.string ⟨#[]⟩) ∧ w'.cell? ⟨A, 2, none⟩ = some (.string ⟨#[1]⟩))
          (go_keep) (first
          | (go_at_call 80; refine (HB.out _ _ (by omega)).mono ?_; rintro e x13 ⟨rfl, hbx⟩; have hTx : Below x12.heap.size x12 x13 := (by first | exact (Below.refl _ _).drew.trans hbx | exact Below.trans (by assumption) (hbx.mono (Below.size (by assumption))) | exact (Below.refl _ _).trans hbx); obtain ⟨hcx, hfx⟩ := bcell hTx))) | fail
        all_goals go_wp2_with fail
        all_goals first | go_ret | go_ret2
        all_goals exact ⟨rfl, HF.out _ (by assumption)⟩
      · have hn := toList_one hd1
        have hdd := decide_eq_false hd1
        rw [hdd]
        simp only [Bool.and_false]
        clear hd1 hdd
        go_enter Tryz.func72, Tryz.ntmps72
        go_wp2_with fail
        obtain ⟨s14, hws⟩ : ∃ s, s = (w.alloc (.cells #[.bool false, .string ⟨#[]⟩, .string d] 23)) := ⟨_, rfl⟩
        have hBs : Below w.heap.size w s14 := by rw [hws]; exact ((Below.refl w.heap.size w).alloc (by simp) _)
        obtain ⟨A, hdA⟩ : ∃ b, b = w.heap.size := ⟨_, rfl⟩
        have hsz : s14.heap.size = w.heap.size + 1 := by rw [hws]; simp
        have kA0 : s14.cell? ⟨A, 0, none⟩ = some (.bool false) := by rw [hws]; simp [go_sem, hdA]
        have kA1 : s14.cell? ⟨A, 1, none⟩ = some (.string ⟨#[]⟩) := by rw [hws]; simp [go_sem, hdA]
        have kA2 : s14.cell? ⟨A, 2, none⟩ = some (.string d) := by rw [hws]; simp [go_sem, hdA]
        have zA : A < s14.heap.size := by omega
        have lA : w.heap.size ≤ A := by have := Nat.le_refl w.heap.size; omega
        rw [← hws]
        try rw [← hdA]
        clear hws hsz hdA
        have hBo := hBs; clear hBs
        have HF : Hid (∀ W, Below s14.heap.size s14 W → Below w.heap.size w W) := fun W hW => hBo.trans (hW.mono hBo.size)
        clear hBo
        first | (go_region_held3 (fun w' => w'.cell? ⟨A, 0, none⟩ = some (.bool false) ∧ w'.cell? ⟨A, 1, none⟩ = some (.string ⟨#[]⟩) ∧ w'.cell? ⟨A, 2, none⟩ = some (.string d))
          (go_keep) (first
          | (go_at_call 93; refine (H1.out _).mono ?_; rintro e x15 ⟨rfl, hbx⟩; have hTx : Below s14.heap.size s14 x15 := (by first | exact (Below.refl _ _).drew.trans hbx | exact Below.trans (by assumption) (hbx.mono (Below.size (by assumption))) | exact (Below.refl _ _).trans hbx); obtain ⟨hcx, hfx⟩ := bcell hTx))) | fail
        go_wp2_with fail
        replace kA0 := (hcx A 0 zA).trans kA0
        replace kA1 := (hcx A 1 zA).trans kA1
        replace kA2 := (hcx A 2 zA).trans kA2
        replace zA := Nat.lt_of_lt_of_le zA hTx.size
        have hBo := HF.out _ hTx
        clear HF hcx hfx hTx
        have HF : Hid (∀ W, Below x15.heap.size x15 W → Below w.heap.size w W) := fun W hW => hBo.trans (hW.mono hBo.size)
        clear hBo
        first | (go_region_held3 (fun w' => w'.cell? ⟨A, 0, none⟩ = some (.bool false) ∧ w'.cell? ⟨A, 1, none⟩ = some (.string ⟨#[]⟩) ∧ w'.cell? ⟨A, 2, none⟩ = some (.string d))
          (go_keep) (first
          | (go_at_call 93; refine (H2.out _).mono ?_; rintro e x16 ⟨rfl, hbx⟩; have hTx : Below x15.heap.size x15 x16 := (by first | exact (Below.refl _ _).drew.trans hbx | exact Below.trans (by assumption) (hbx.mono (Below.size (by assumption))) | exact (Below.refl _ _).trans hbx); obtain ⟨hcx, hfx⟩ := bcell hTx))) | fail
        go_wp2_with fail
        replace kA0 := (hcx A 0 zA).trans kA0
        replace kA1 := (hcx A 1 zA).trans kA1
        replace kA2 := (hcx A 2 zA).trans kA2
        replace zA := Nat.lt_of_lt_of_le zA hTx.size
        have hBo := HF.out _ hTx
        clear HF hcx hfx hTx
        have HF : Hid (∀ W, Below x16.heap.size x16 W → Below w.heap.size w W) := fun W hW => hBo.trans (hW.mono hBo.size)
        clear hBo
        first | (go_region_held3 (fun w' => w'.cell? ⟨A, 0, none⟩ = some (.bool false) ∧ w'.cell? ⟨A, 1, none⟩ = some (.string ⟨#[]⟩) ∧ w'.cell? ⟨A, 2, none⟩ = some (.string d))
          (go_keep) (first
          | (go_at_call 80; refine (HB.out _ _ (by omega)).mono ?_; rintro e x17 ⟨rfl, hbx⟩; have hTx : Below x16.heap.size x16 x17 := (by first | exact (Below.refl _ _).drew.trans hbx | exact Below.trans (by assumption) (hbx.mono (Below.size (by assumption))) | exact (Below.refl _ _).trans hbx); obtain ⟨hcx, hfx⟩ := bcell hTx))) | fail
        all_goals go_wp2_with fail
        all_goals first | go_ret | go_ret2
        all_goals exact ⟨rfl, HF.out _ (by assumption)⟩
    · simp only [Bool.not_true, Bool.false_and]
      go_enter Tryz.func72, Tryz.ntmps72
      go_wp2_with fail
      obtain ⟨s18, hws⟩ : ∃ s, s = (w.alloc (.cells #[.bool true, .string ⟨#[]⟩, .string d] 23)) := ⟨_, rfl⟩
      have hBs : Below w.heap.size w s18 := by rw [hws]; exact ((Below.refl w.heap.size w).alloc (by simp) _)
      obtain ⟨A, hdA⟩ : ∃ b, b = w.heap.size := ⟨_, rfl⟩
      have hsz : s18.heap.size = w.heap.size + 1 := by rw [hws]; simp
      have kA0 : s18.cell? ⟨A, 0, none⟩ = some (.bool true) := by rw [hws]; simp [go_sem, hdA]
      have kA1 : s18.cell? ⟨A, 1, none⟩ = some (.string ⟨#[]⟩) := by rw [hws]; simp [go_sem, hdA]
      have kA2 : s18.cell? ⟨A, 2, none⟩ = some (.string d) := by rw [hws]; simp [go_sem, hdA]
      have zA : A < s18.heap.size := by omega
      have lA : w.heap.size ≤ A := by have := Nat.le_refl w.heap.size; omega
      rw [← hws]
      try rw [← hdA]
      clear hws hsz hdA
      have hBo := hBs; clear hBs
      have HF : Hid (∀ W, Below s18.heap.size s18 W → Below w.heap.size w W) := fun W hW => hBo.trans (hW.mono hBo.size)
      clear hBo
      first | (go_region_held3 (fun w' => w'.cell? ⟨A, 0, none⟩ = some (.bool true) ∧ w'.cell? ⟨A, 1, none⟩ = some (.string ⟨#[]⟩) ∧ w'.cell? ⟨A, 2, none⟩ = some (.string d))
        (go_keep) (first
        | (go_at_call 93; refine (H1.out _).mono ?_; rintro e x19 ⟨rfl, hbx⟩; have hTx : Below s18.heap.size s18 x19 := (by first | exact (Below.refl _ _).drew.trans hbx | exact Below.trans (by assumption) (hbx.mono (Below.size (by assumption))) | exact (Below.refl _ _).trans hbx); obtain ⟨hcx, hfx⟩ := bcell hTx))) | fail
      go_wp2_with fail
      replace kA0 := (hcx A 0 zA).trans kA0
      replace kA1 := (hcx A 1 zA).trans kA1
      replace kA2 := (hcx A 2 zA).trans kA2
      replace zA := Nat.lt_of_lt_of_le zA hTx.size
      have hBo := HF.out _ hTx
      clear HF hcx hfx hTx
      have HF : Hid (∀ W, Below x19.heap.size x19 W → Below w.heap.size w W) := fun W hW => hBo.trans (hW.mono hBo.size)
      clear hBo
      first | (go_region_held3 (fun w' => w'.cell? ⟨A, 0, none⟩ = some (.bool true) ∧ w'.cell? ⟨A, 1, none⟩ = some (.string ⟨#[]⟩) ∧ w'.cell? ⟨A, 2, none⟩ = some (.string d))
        (go_keep) (first
        | (go_at_call 93; refine (H2.out _).mono ?_; rintro e x20 ⟨rfl, hbx⟩; have hTx : Below x19.heap.size x19 x20 := (by first | exact (Below.refl _ _).drew.trans hbx | exact Below.trans (by assumption) (hbx.mono (Below.size (by assumption))) | exact (Below.refl _ _).trans hbx); obtain ⟨hcx, hfx⟩ := bcell hTx))) | fail
      go_wp2_with fail
      replace kA0 := (hcx A 0 zA).trans kA0
      replace kA1 := (hcx A 1 zA).trans kA1
      replace kA2 := (hcx A 2 zA).trans kA2
      replace zA := Nat.lt_of_lt_of_le zA hTx.size
      have hBo := HF.out _ hTx
      clear HF hcx hfx hTx
      have HF : Hid (∀ W, Below x20.heap.size x20 W → Below w.heap.size w W) := fun W hW => hBo.trans (hW.mono hBo.size)
      clear hBo
      first | (go_region_held3 (fun w' => w'.cell? ⟨A, 0, none⟩ = some (.bool true) ∧ w'.cell? ⟨A, 1, none⟩ = some (.string ⟨#[]⟩) ∧ w'.cell? ⟨A, 2, none⟩ = some (.string d))
        (go_keep) (first
        | (go_at_call 80; refine (HB.out _ _ (by omega)).mono ?_; rintro e x21 ⟨rfl, hbx⟩; have hTx : Below x20.heap.size x20 x21 := (by first | exact (Below.refl _ _).drew.trans hbx | exact Below.trans (by assumption) (hbx.mono (Below.size (by assumption))) | exact (Below.refl _ _).trans hbx); obtain ⟨hcx, hfx⟩ := bcell hTx))) | fail
      all_goals go_wp2_with fail
      all_goals first | go_ret | go_ret2
      all_goals exact ⟨rfl, HF.out _ (by assumption)⟩
  have hna := E_toList_ne _ a0
  rw [ea] at hna
  have hna2 : a.toList.isEmpty = false := by simpa using hna
  by_cases d0 : Nt.V d = 0
  case pos =>
    have hde : d = ⟨#[]⟩ := by rw [← ed, d0]; rfl
    have hr : rightB neg a d = false := by
      cases hh : rightB neg a d with
      | false => rfl
      | true => exact absurd d0 (hri.1 hh).1
    rw [hr]
    subst hde
    clear hri hr ea ed hbl ba bd eb1 eb2 a0 hsa hsd d0
    go_enter Tryz.func72, Tryz.ntmps72
    go_wp2_with fail
    obtain ⟨s22, hws⟩ : ∃ s, s = (w.alloc (.cells #[.bool neg, .string a, .string ⟨#[]⟩] 23)) := ⟨_, rfl⟩
    have hBs : Below w.heap.size w s22 := by rw [hws]; exact ((Below.refl w.heap.size w).alloc (by simp) _)
    obtain ⟨A, hdA⟩ : ∃ b, b = w.heap.size := ⟨_, rfl⟩
    have hsz : s22.heap.size = w.heap.size + 1 := by rw [hws]; simp
    have kA0 : s22.cell? ⟨A, 0, none⟩ = some (.bool neg) := by rw [hws]; simp [go_sem, hdA]
    have kA1 : s22.cell? ⟨A, 1, none⟩ = some (.string a) := by rw [hws]; simp [go_sem, hdA]
    have kA2 : s22.cell? ⟨A, 2, none⟩ = some (.string ⟨#[]⟩) := by rw [hws]; simp [go_sem, hdA]
    have zA : A < s22.heap.size := by omega
    have lA : w.heap.size ≤ A := by have := Nat.le_refl w.heap.size; omega
    rw [← hws]
    try rw [← hdA]
    clear hws hsz hdA
    have hBo := hBs; clear hBs
    have HF : Hid (∀ W, Below s22.heap.size s22 W → Below w.heap.size w W) := fun W hW => hBo.trans (hW.mono hBo.size)
    clear hBo
    first | (go_region_held3 (fun w' => w'.cell? ⟨A, 0, none⟩ = some (.bool neg) ∧ w'.cell? ⟨A, 1, none⟩ = some (.string a) ∧ w'.cell? ⟨A, 2, none⟩ = some (.string ⟨#[]⟩))
      (go_keep) (first
      | (go_at_call 93; refine (H1.out _).mono ?_; rintro e x23 ⟨rfl, hbx⟩; have hTx : Below s22.heap.size s22 x23 := (by first | exact (Below.refl _ _).drew.trans hbx | exact Below.trans (by assumption) (hbx.mono (Below.size (by assumption))) | exact (Below.refl _ _).trans hbx); obtain ⟨hcx, hfx⟩ := bcell hTx))) | fail
    go_wp2_with fail
    replace kA0 := (hcx A 0 zA).trans kA0
    replace kA1 := (hcx A 1 zA).trans kA1
    replace kA2 := (hcx A 2 zA).trans kA2
    replace zA := Nat.lt_of_lt_of_le zA hTx.size
    have hBo := HF.out _ hTx
    clear HF hcx hfx hTx
    have HF : Hid (∀ W, Below x23.heap.size x23 W → Below w.heap.size w W) := fun W hW => hBo.trans (hW.mono hBo.size)
    clear hBo
    first | (go_region_held3 (fun w' => w'.cell? ⟨A, 0, none⟩ = some (.bool neg) ∧ w'.cell? ⟨A, 1, none⟩ = some (.string a) ∧ w'.cell? ⟨A, 2, none⟩ = some (.string ⟨#[]⟩))
      (go_keep) (first
      | (go_at_call 93; refine (H2.out _).mono ?_; rintro e x24 ⟨rfl, hbx⟩; have hTx : Below x23.heap.size x23 x24 := (by first | exact (Below.refl _ _).drew.trans hbx | exact Below.trans (by assumption) (hbx.mono (Below.size (by assumption))) | exact (Below.refl _ _).trans hbx); obtain ⟨hcx, hfx⟩ := bcell hTx))) | fail
    go_wp2_with fail
    replace kA0 := (hcx A 0 zA).trans kA0
    replace kA1 := (hcx A 1 zA).trans kA1
    replace kA2 := (hcx A 2 zA).trans kA2
    replace zA := Nat.lt_of_lt_of_le zA hTx.size
    have hBo := HF.out _ hTx
    clear HF hcx hfx hTx
    have HF : Hid (∀ W, Below x24.heap.size x24 W → Below w.heap.size w W) := fun W hW => hBo.trans (hW.mono hBo.size)
    clear hBo
    first | (go_region_held3 (fun w' => w'.cell? ⟨A, 0, none⟩ = some (.bool neg) ∧ w'.cell? ⟨A, 1, none⟩ = some (.string a) ∧ w'.cell? ⟨A, 2, none⟩ = some (.string ⟨#[]⟩))
      (go_keep) (first
      | (go_at_call 80; refine (HB.out _ _ (by omega)).mono ?_; rintro e x25 ⟨rfl, hbx⟩; have hTx : Below x24.heap.size x24 x25 := (by first | exact (Below.refl _ _).drew.trans hbx | exact Below.trans (by assumption) (hbx.mono (Below.size (by assumption))) | exact (Below.refl _ _).trans hbx); obtain ⟨hcx, hfx⟩ := bcell hTx))) | fail
    all_goals go_wp2_with fail
    all_goals first | go_ret | go_ret2
    all_goals exact ⟨rfl, HF.out _ (by assumption)⟩
  have hnd := E_toList_ne _ d0
  rw [ed] at hnd
  have hnd2 : d.toList.isEmpty = false := by simpa using hnd
  have hg := fun w => gcd_of limbsOk a d w (by omega) (by omega)
  have hr : rightB neg a d = decide (Nat.gcd (Nt.V a) (Nt.V d) = 1) := by
    rw [Bool.eq_iff_iff, hri]
    simp only [RtOk, decide_eq_true_eq]
    exact ⟨fun h => h.2.1, fun h => ⟨d0, h, eb1, eb2, fun h => absurd h a0⟩⟩
  rw [hr]
  by_cases g1 : Nat.gcd (Nt.V a) (Nt.V d) = 1
  case pos =>
    rw [g1, show Nt.E 1 = ⟨#[1]⟩ from by decide] at hg
    rw [decide_eq_true g1]
    have HG := Lib.hid hg
    clear hri hr ea ed hbl ba bd eb1 eb2 a0 hsa hsd d0 g1 hg
    go_enter Tryz.func72, Tryz.ntmps72
    go_wp2_with fail
    obtain ⟨s26, hws⟩ : ∃ s, s = (w.alloc (.cells #[.bool neg, .string a, .string d] 23)) := ⟨_, rfl⟩
    have hBs : Below w.heap.size w s26 := by rw [hws]; exact ((Below.refl w.heap.size w).alloc (by simp) _)
    obtain ⟨A, hdA⟩ : ∃ b, b = w.heap.size := ⟨_, rfl⟩
    have hsz : s26.heap.size = w.heap.size + 1 := by rw [hws]; simp
    have kA0 : s26.cell? ⟨A, 0, none⟩ = some (.bool neg) := by rw [hws]; simp [go_sem, hdA]
    have kA1 : s26.cell? ⟨A, 1, none⟩ = some (.string a) := by rw [hws]; simp [go_sem, hdA]
    have kA2 : s26.cell? ⟨A, 2, none⟩ = some (.string d) := by rw [hws]; simp [go_sem, hdA]
    have zA : A < s26.heap.size := by omega
    have lA : w.heap.size ≤ A := by have := Nat.le_refl w.heap.size; omega
    rw [← hws]
    try rw [← hdA]
    clear hws hsz hdA
    have hBo := hBs; clear hBs
    have HF : Hid (∀ W, Below s26.heap.size s26 W → Below w.heap.size w W) := fun W hW => hBo.trans (hW.mono hBo.size)
    clear hBo
    first | (go_region_held3 (fun w' => w'.cell? ⟨A, 0, none⟩ = some (.bool neg) ∧ w'.cell? ⟨A, 1, none⟩ = some (.string a) ∧ w'.cell? ⟨A, 2, none⟩ = some (.string d))
      (go_keep) (first
      | (go_at_call 93; refine (H1.out _).mono ?_; rintro e x27 ⟨rfl, hbx⟩; have hTx : Below s26.heap.size s26 x27 := (by first | exact (Below.refl _ _).drew.trans hbx | exact Below.trans (by assumption) (hbx.mono (Below.size (by assumption))) | exact (Below.refl _ _).trans hbx); obtain ⟨hcx, hfx⟩ := bcell hTx))) | fail
    go_wp2_with fail
    replace kA0 := (hcx A 0 zA).trans kA0
    replace kA1 := (hcx A 1 zA).trans kA1
    replace kA2 := (hcx A 2 zA).trans kA2
    replace zA := Nat.lt_of_lt_of_le zA hTx.size
    have hBo := HF.out _ hTx
    clear HF hcx hfx hTx
    have HF : Hid (∀ W, Below x27.heap.size x27 W → Below w.heap.size w W) := fun W hW => hBo.trans (hW.mono hBo.size)
    clear hBo
    first | (go_region_held3 (fun w' => w'.cell? ⟨A, 0, none⟩ = some (.bool neg) ∧ w'.cell? ⟨A, 1, none⟩ = some (.string a) ∧ w'.cell? ⟨A, 2, none⟩ = some (.string d))
      (go_keep) (first
      | (go_at_call 93; refine (H2.out _).mono ?_; rintro e x28 ⟨rfl, hbx⟩; have hTx : Below x27.heap.size x27 x28 := (by first | exact (Below.refl _ _).drew.trans hbx | exact Below.trans (by assumption) (hbx.mono (Below.size (by assumption))) | exact (Below.refl _ _).trans hbx); obtain ⟨hcx, hfx⟩ := bcell hTx))) | fail
    go_wp2_with fail
    replace kA0 := (hcx A 0 zA).trans kA0
    replace kA1 := (hcx A 1 zA).trans kA1
    replace kA2 := (hcx A 2 zA).trans kA2
    replace zA := Nat.lt_of_lt_of_le zA hTx.size
    have hBo := HF.out _ hTx
    clear HF hcx hfx hTx
    have HF : Hid (∀ W, Below x28.heap.size x28 W → Below w.heap.size w W) := fun W hW => hBo.trans (hW.mono hBo.size)
    clear hBo
    first | (go_region_held3 (fun w' => w'.cell? ⟨A, 0, none⟩ = some (.bool neg) ∧ w'.cell? ⟨A, 1, none⟩ = some (.string a) ∧ w'.cell? ⟨A, 2, none⟩ = some (.string d))
      (go_keep) (first
      | (go_at_call 80; refine (HB.out _ _ (by omega)).mono ?_; rintro e x29 ⟨rfl, hbx⟩; have hTx : Below x28.heap.size x28 x29 := (by first | exact (Below.refl _ _).drew.trans hbx | exact Below.trans (by assumption) (hbx.mono (Below.size (by assumption))) | exact (Below.refl _ _).trans hbx); obtain ⟨hcx, hfx⟩ := bcell hTx))) | fail
    go_wp2_with fail
    replace kA0 := (hcx A 0 zA).trans kA0
    replace kA1 := (hcx A 1 zA).trans kA1
    replace kA2 := (hcx A 2 zA).trans kA2
    replace zA := Nat.lt_of_lt_of_le zA hTx.size
    have hBo := HF.out _ hTx
    clear HF hcx hfx hTx
    refine (HG.out _).mono ?_; rintro e s30 ⟨rfl, hb⟩
    replace kA0 := belK hb kA0 zA; replace kA1 := belK hb kA1 zA; replace kA2 := belK hb kA2 zA; replace zA := Nat.lt_of_lt_of_le zA hb.size
    replace hBo := hBo.trans (hb.mono hBo.size)
    clear hb
    all_goals go_wp2_with fail
    all_goals first | go_ret | go_ret2
    all_goals exact ⟨rfl, hBo⟩
  · have hn1 : Nt.E (Nat.gcd (Nt.V a) (Nt.V d)) ≠ ⟨#[1]⟩ := fun h => g1 (by
      have := Nt.V_E (Nat.gcd (Nt.V a) (Nt.V d))
      rw [h] at this
      exact this.symm.trans (by decide))
    have hn := toList_one hn1
    rw [decide_eq_false g1]
    generalize Nt.E (Nat.gcd (Nt.V a) (Nt.V d)) = g at *
    have HG := Lib.hid hg
    clear hri hr ea ed hbl ba bd eb1 eb2 a0 hsa hsd d0 g1 hg hn1
    go_enter Tryz.func72, Tryz.ntmps72
    go_wp2_with fail
    obtain ⟨s31, hws⟩ : ∃ s, s = (w.alloc (.cells #[.bool neg, .string a, .string d] 23)) := ⟨_, rfl⟩
    have hBs : Below w.heap.size w s31 := by rw [hws]; exact ((Below.refl w.heap.size w).alloc (by simp) _)
    obtain ⟨A, hdA⟩ : ∃ b, b = w.heap.size := ⟨_, rfl⟩
    have hsz : s31.heap.size = w.heap.size + 1 := by rw [hws]; simp
    have kA0 : s31.cell? ⟨A, 0, none⟩ = some (.bool neg) := by rw [hws]; simp [go_sem, hdA]
    have kA1 : s31.cell? ⟨A, 1, none⟩ = some (.string a) := by rw [hws]; simp [go_sem, hdA]
    have kA2 : s31.cell? ⟨A, 2, none⟩ = some (.string d) := by rw [hws]; simp [go_sem, hdA]
    have zA : A < s31.heap.size := by omega
    have lA : w.heap.size ≤ A := by have := Nat.le_refl w.heap.size; omega
    rw [← hws]
    try rw [← hdA]
    clear hws hsz hdA
    have hBo := hBs; clear hBs
    have HF : Hid (∀ W, Below s31.heap.size s31 W → Below w.heap.size w W) := fun W hW => hBo.trans (hW.mono hBo.size)
    clear hBo
    first | (go_region_held3 (fun w' => w'.cell? ⟨A, 0, none⟩ = some (.bool neg) ∧ w'.cell? ⟨A, 1, none⟩ = some (.string a) ∧ w'.cell? ⟨A, 2, none⟩ = some (.string d))
      (go_keep) (first
      | (go_at_call 93; refine (H1.out _).mono ?_; rintro e x32 ⟨rfl, hbx⟩; have hTx : Below s31.heap.size s31 x32 := (by first | exact (Below.refl _ _).drew.trans hbx | exact Below.trans (by assumption) (hbx.mono (Below.size (by assumption))) | exact (Below.refl _ _).trans hbx); obtain ⟨hcx, hfx⟩ := bcell hTx))) | fail
    go_wp2_with fail
    replace kA0 := (hcx A 0 zA).trans kA0
    replace kA1 := (hcx A 1 zA).trans kA1
    replace kA2 := (hcx A 2 zA).trans kA2
    replace zA := Nat.lt_of_lt_of_le zA hTx.size
    have hBo := HF.out _ hTx
    clear HF hcx hfx hTx
    have HF : Hid (∀ W, Below x32.heap.size x32 W → Below w.heap.size w W) := fun W hW => hBo.trans (hW.mono hBo.size)
    clear hBo
    first | (go_region_held3 (fun w' => w'.cell? ⟨A, 0, none⟩ = some (.bool neg) ∧ w'.cell? ⟨A, 1, none⟩ = some (.string a) ∧ w'.cell? ⟨A, 2, none⟩ = some (.string d))
      (go_keep) (first
      | (go_at_call 93; refine (H2.out _).mono ?_; rintro e x33 ⟨rfl, hbx⟩; have hTx : Below x32.heap.size x32 x33 := (by first | exact (Below.refl _ _).drew.trans hbx | exact Below.trans (by assumption) (hbx.mono (Below.size (by assumption))) | exact (Below.refl _ _).trans hbx); obtain ⟨hcx, hfx⟩ := bcell hTx))) | fail
    go_wp2_with fail
    replace kA0 := (hcx A 0 zA).trans kA0
    replace kA1 := (hcx A 1 zA).trans kA1
    replace kA2 := (hcx A 2 zA).trans kA2
    replace zA := Nat.lt_of_lt_of_le zA hTx.size
    have hBo := HF.out _ hTx
    clear HF hcx hfx hTx
    have HF : Hid (∀ W, Below x33.heap.size x33 W → Below w.heap.size w W) := fun W hW => hBo.trans (hW.mono hBo.size)
    clear hBo
    first | (go_region_held3 (fun w' => w'.cell? ⟨A, 0, none⟩ = some (.bool neg) ∧ w'.cell? ⟨A, 1, none⟩ = some (.string a) ∧ w'.cell? ⟨A, 2, none⟩ = some (.string d))
      (go_keep) (first
      | (go_at_call 80; refine (HB.out _ _ (by omega)).mono ?_; rintro e x34 ⟨rfl, hbx⟩; have hTx : Below x33.heap.size x33 x34 := (by first | exact (Below.refl _ _).drew.trans hbx | exact Below.trans (by assumption) (hbx.mono (Below.size (by assumption))) | exact (Below.refl _ _).trans hbx); obtain ⟨hcx, hfx⟩ := bcell hTx))) | fail
    go_wp2_with fail
    replace kA0 := (hcx A 0 zA).trans kA0
    replace kA1 := (hcx A 1 zA).trans kA1
    replace kA2 := (hcx A 2 zA).trans kA2
    replace zA := Nat.lt_of_lt_of_le zA hTx.size
    have hBo := HF.out _ hTx
    clear HF hcx hfx hTx
    refine (HG.out _).mono ?_; rintro e s35 ⟨rfl, hb⟩
    replace kA0 := belK hb kA0 zA; replace kA1 := belK hb kA1 zA; replace kA2 := belK hb kA2 zA; replace zA := Nat.lt_of_lt_of_le zA hb.size
    replace hBo := hBo.trans (hb.mono hBo.size)
    clear hb
    all_goals go_wp2_with fail
    all_goals first | go_ret | go_ret2
    all_goals exact ⟨rfl, hBo⟩
end Go.Proofs.YtbgmnpabclfjaaaGreatDoor
