/-
  SUMS IN THE PROGRAM.
  DIFFERENCES IN THE PROGRAM.
-/
import Derived.Test.YtjbpipbmcicjiaaGreatDoorLaw
import Derived.Test.YtjbpipbmcicjiaaGreatDoorRef1
import Derived.Test.YtjbpipbmcicjiaaGreatDoorCmp
namespace Go.Proofs.YtjbpipbmcicjiaaGreatDoor
open Go.RowKit Go.Shelf
attribute [local go_sem] Oper.semAt_some

/-- one round of a sum: what is carried, and the bytes so far. -/
def addStep (x y : ByteArray) (s : Nat × List Nat) (i : Fin x.size) : Nat × List Nat :=
  ((s.1 + ((x[x.size - 1 - i.1]'(by omega)).toNat + Nt.dig (Nt.V y) i.1)) / 256, s.2.set (x.size - i.1) ((s.1 + ((x[x.size - 1 - i.1]'(by omega)).toNat + Nt.dig (Nt.V y) i.1)) % 256))

theorem addFold_ok (x y : ByteArray) (pre : List (Fin x.size)) : (pre.foldl (addStep x y) (0, List.replicate (x.size + 1) 0)).1 ≤ 1 ∧ (pre.foldl (addStep x y) (0, List.replicate (x.size + 1) 0)).2.length = x.size + 1 := by
  have h : ∀ (p : List (Fin x.size)) (s : Nat × List Nat), s.1 ≤ 1 → s.2.length = x.size + 1 → (p.foldl (addStep x y) s).1 ≤ 1 ∧ (p.foldl (addStep x y) s).2.length = x.size + 1 := by
    intro p
    induction p with
    | nil => intro s h1 h2; exact ⟨h1, h2⟩
    | cons i p ih =>
      intro s h1 h2
      refine ih _ ?_ (by simp [addStep, h2])
      have h3 := UInt8.toNat_lt (x[x.size - 1 - i.1]'(by omega))
      have h4 := Nt.dig_lt (Nt.V y) i.1
      show (s.1 + _) / 256 ≤ 1
      omega
  exact h pre _ (by simp) (by simp)
/-- what all the rounds of a sum make. -/
theorem addFold_all (x y : ByteArray) : (List.finRange x.size).foldl (addStep x y) (0, List.replicate (x.size + 1) 0) = (Nt.cy (Nt.V x) (Nt.V y) x.size, List.replicate 1 0 ++ Nt.digs (Nt.V x + Nt.V y) x.size) := by
  have h := foldl_fin x.size (addStep x y) (fun k => (Nt.cy (Nt.V x) (Nt.V y) k, List.replicate (x.size + 1 - k) 0 ++ Nt.digs (Nt.V x + Nt.V y) k)) (fun i => by
    have hi := i.2
    have h1 := Nt.cy_step (Nt.V x) (Nt.V y) i.1
    have h2 := Nt.dig_lt (Nt.V x + Nt.V y) i.1
    unfold addStep
    rw [Nt.V_dig x i.1 hi]
    dsimp only
    rw [Prod.mk.injEq]
    constructor
    · omega
    · rw [← Nt.zeros_set (Nt.V x + Nt.V y) i.1 (x.size + 1) _ (by omega) rfl]
      congr 1
      omega)
  simp only [Nt.cy_zero, Nat.sub_zero, Nt.digs, List.append_nil, show x.size + 1 - x.size = 1 from by omega] at h
  exact h
/-- the memory of a sum between two rounds. -/
structure AddMem (x y : ByteArray) (B : Nat) (s : Nat × List Nat) (W : World) : Prop where
  bx : Blk W B 9 #[.string x]
  by_ : Blk W (B + 1) 9 #[.string y]
  dat : Blk W (B + 1 + 1) 5 (kV .u8 s.2)
  sl : Blk W (B + 1 + 1 + 1) 94 #[.slice (some ⟨B + 1 + 1, 0, none⟩) (x.size + 1) (x.size + 1)]
  cr : Blk W (B + 1 + 1 + 1 + 1) 82 #[.int .u64 (s.1 : Int)]
theorem AddMem.own (x y : ByteArray) (B : Nat) (f : List (Fin x.size) → Nat × List Nat) : Own (fun pre W => AddMem x y B (f pre) W) :=
  fun _ _ _ _ hs hg hr => ⟨hs.bx.turned hg hr, hs.by_.turned hg hr, hs.dat.turned hg hr, hs.sl.turned hg hr, hs.cr.turned hg hr⟩

set_option maxRecDepth 100000 in
set_option maxHeartbeats 4000000 in
theorem natAdd_core (a b x y : ByteArray) (w : World) (h : (x = a ∧ y = b ∧ b.size ≤ a.size) ∨ (x = b ∧ y = a ∧ a.size < b.size)) (hx : x.size ≤ 100000) (hy : y.size ≤ 100000) :
    Calls Tryz.prog 83 #[.string a, .string b] w fun e w' => e = .returned (.string (Nt.E (Nt.V x + Nt.V y))) ∧ Below w.heap.size w w' := by
  have hmk := fun W => run_zeros (P := Tryz.prog) 94 5 .u8 1 Tryz.underlying94 Tryz.infoU8 (x.size + 1) (by omega) (by omega) W
  have e1 : ((x.size : Int) + 1) = ((x.size + 1 : Nat) : Int) := by omega
  rw [← e1] at hmk
  clear e1
  have hxm : x.size ≤ maxLen := by unfold maxLen; omega
  have hym : y.size ≤ maxLen := by unfold maxLen; omega
  rcases h with ⟨rfl, rfl, hsz⟩ | ⟨rfl, rfl, hsz⟩
  all_goals
    refine (callsIn_wide (n := 3)).1 ?_
    refine callsIn_of_wp_marks Tryz.func83 rfl trivial ?_ rfl
    simp only [Tryz.ntmps83, List.size_toArray, List.length_cons, List.length_nil, Nat.reduceAdd, Nat.reduceSub, Array.replicate_succ, Array.replicate_zero, List.push_toArray, List.append_toArray, List.nil_append, List.cons_append]
    gi_wp2_with (refine ⟨trivial, ?_⟩; gi_at_call 94; refine (fromBehind_in Fence.wide _ trivial rfl _ _).mono ?_; rintro e w' ⟨rfl, rfl⟩)
    obtain ⟨wA, hwA⟩ : ∃ wA, wA = w.alloc (.cells #[.string x] 9) := ⟨_, rfl⟩
    obtain ⟨wB, hwB⟩ : ∃ wB, wB = wA.alloc (.cells #[.string y] 9) := ⟨_, rfl⟩
    obtain ⟨wC, hwC⟩ : ∃ wC, wC = wB.alloc (.cells (kV .u8 (List.replicate (x.size + 1) 0)) 5) := ⟨_, rfl⟩
    obtain ⟨wD, hwD⟩ : ∃ wD, wD = wC.alloc (.cells #[.slice (some ⟨w.heap.size + 1 + 1, 0, none⟩) (x.size + 1) (x.size + 1)] 94) := ⟨_, rfl⟩
    obtain ⟨wE, hwE⟩ : ∃ wE, wE = wD.alloc (.cells #[.int .u64 0] 82) := ⟨_, rfl⟩
    have sA : wA.heap.size = w.heap.size + 1 := by rw [hwA, World.size_alloc]
    have sB : wB.heap.size = w.heap.size + 1 + 1 := by rw [hwB, World.size_alloc, sA]
    have sC : wC.heap.size = w.heap.size + 1 + 1 + 1 := by rw [hwC, World.size_alloc, sB]
    have sD : wD.heap.size = w.heap.size + 1 + 1 + 1 + 1 := by rw [hwD, World.size_alloc, sC]
    have sE : wE.heap.size = w.heap.size + 1 + 1 + 1 + 1 + 1 := by rw [hwE, World.size_alloc, sD]
    have kA := Blk.new w 9 #[.string x]
    rw [← hwA] at kA
    have kB := Blk.new wA 9 #[.string y]
    rw [← hwB, sA] at kB
    have kC := Blk.new wB 5 (kV .u8 (List.replicate (x.size + 1) 0))
    rw [← hwC, sB] at kC
    have kD := Blk.new wC 94 #[.slice (some ⟨w.heap.size + 1 + 1, 0, none⟩) (x.size + 1) (x.size + 1)]
    rw [← hwD, sC] at kD
    have kE := Blk.new wD 82 #[.int .u64 0]
    rw [← hwE, sD] at kE
    have kF := Blk.new wE 9 #[.string x]
    rw [sE] at kF
    have bA : Below w.heap.size w wA := by rw [hwA]; exact (Below.refl _ w).alloc (Nat.le_refl _) _
    have bB : Below w.heap.size w wB := by rw [hwB]; exact bA.alloc bA.size _
    have bC : Below w.heap.size w wC := by rw [hwC]; exact bB.alloc bB.size _
    have bD : Below w.heap.size w wD := by rw [hwD]; exact bC.alloc bC.size _
    have bE : Below w.heap.size w wE := by rw [hwE]; exact bD.alloc bD.size _
    have m0 : AddMem x y w.heap.size (0, List.replicate (x.size + 1) 0) (wE.alloc (.cells #[.string x] 9)) := by
      refine ⟨?_, ?_, ?_, ?_, kE.alloc _⟩
      · rw [hwE, hwD, hwC, hwB]; exact ((((kA.alloc _).alloc _).alloc _).alloc _).alloc _
      · rw [hwE, hwD, hwC]; exact (((kB.alloc _).alloc _).alloc _).alloc _
      · rw [hwE, hwD]; exact ((kC.alloc _).alloc _).alloc _
      · rw [hwE]; exact (kD.alloc _).alloc _
    rw [← hwA, ← hwB, ← hwC, ← hwD, ← hwE]
    refine wp_behind x (w.heap.size + 1 + 1 + 1 + 1 + 1) rfl hxm (by simp; omega) (kF.cell 0) rfl
      (fun pre W => AddMem x y w.heap.size (pre.foldl (addStep x y) (0, List.replicate (x.size + 1) 0)) W ∧ Below w.heap.size w W)
      (OwnFrom.and (Own.from (AddMem.own x y _ _) _) (ownFrom_below (Nat.le_refl _) (by simp; omega)))
      ⟨m0, bE.alloc bE.size _⟩ ?h ?done
    case h =>
      apply Exists.intro
      constructor
      · intro l i W K hK
        unfold dgs
        dsimp only
        gi_wp2
        exact hK
      · rintro l pre i W ⟨hM, hB⟩
        obtain ⟨k, hk⟩ := i
        have HRY0 := fun W => (natDigitAt_any y k W hym).mono fun _ _ hh => (show _ ∧ _ from ⟨hh.1, hh.2.symm⟩)
        obtain ⟨d, hd⟩ : ∃ d, d = (x[x.size - 1 - k]'(by omega)).toNat := ⟨_, rfl⟩
        obtain ⟨e, he⟩ : ∃ e, e = Nt.dig (Nt.V y) k := ⟨_, rfl⟩
        have hd256 : d < 256 := by rw [hd]; exact UInt8.toNat_lt _
        have he256 : e < 256 := by rw [he]; exact Nt.dig_lt _ _
        rw [← he] at HRY0
        have HRY := Lib.hid HRY0
        have hs1 : (pre ++ [(⟨k, hk⟩ : Fin x.size)]).foldl (addStep x y) (0, List.replicate (x.size + 1) 0) =
            (((pre.foldl (addStep x y) (0, List.replicate (x.size + 1) 0)).1 + (d + e)) / 256, (pre.foldl (addStep x y) (0, List.replicate (x.size + 1) 0)).2.set (x.size - k) (((pre.foldl (addStep x y) (0, List.replicate (x.size + 1) 0)).1 + (d + e)) % 256)) := by
          rw [List.foldl_append, hd, he]; rfl
        obtain ⟨hc1, hl1⟩ := addFold_ok x y pre
        generalize pre.foldl (addStep x y) (0, List.replicate (x.size + 1) 0) = st at hM hc1 hl1 hs1
        obtain ⟨c, ls⟩ := st
        dsimp only at hs1 hc1 hl1 ⊢
        rw [← hd]
        have HS := Lib.hid hs1
        clear hd he hs1 HRY0
        have b1 := (hM.bx.cell 0)
        have b2 := (hM.by_.cell 0)
        have b3 := (hM.sl.cell 0)
        have b4 := (hM.cr.cell 0)
        have f4 := hM.cr.frozen 0
        have hlen : x.size - k < ls.length := by omega
        have b5 := (hM.dat.cell (x.size - k)).trans (kV_get_lt _ _ _ hlen)
        have f5 := hM.dat.frozen (x.size - k)
        simp only [List.getElem?_toArray, List.getElem?_cons_zero] at b1 b2 b3 b4
        have w1 : IntKind.u64.wrap (d : Int) = d := by rw [IntKind.wrap_u64]; omega
        have w2 : IntKind.u64.wrap (e : Int) = e := by rw [IntKind.wrap_u64]; omega
        have w3 : IntKind.u64.wrap ((d : Int) + e) = (d : Int) + e := by rw [IntKind.wrap_u64]; omega
        have w4 : IntKind.u64.wrap ((c : Int) + ((d : Int) + e)) = (c : Int) + ((d : Int) + e) := by rw [IntKind.wrap_u64]; omega
        have hmx : Tryz.prog.follows .mixedOrders = true := by kernel_rfl
        gi_wp2
        refine wpIn_round_tail 9 hmx (by kernel_rfl) (by kernel_rfl) (fun ⟨_, _, hf⟩ => hf) ?_
        simp only [List.take_succ_cons, List.take_zero, List.drop_succ_cons, List.drop_zero]
        repeat still_step
        still_call (HRY.out _)
        repeat still_step
        refine wpStill_nil ?_
        go_wp2
        gi_wp2
        refine ⟨(((KeepsOthers.setCell _ _ _).trans (KeepsOthers.setCell _ _ _)).trans (KeepsOthers.setCell _ _ _)).trans (KeepsOthers.drew _), ((((KeepsBox.refl _ W).setCell (by simp) _).setCell (by simp) _).setCell (by simp) _).drew, ?_, (((hB.setCell (by simp <;> omega) _).setCell (by simp <;> omega) _).setCell (by simp <;> omega) _).drew⟩
        have q1 : ((c : Int) + ((d : Int) + e)) / 256 = (((c + (d + e)) / 256 : Nat) : Int) := by omega
        have q2 : ((c : Int) + ((d : Int) + e)) % 256 = (((c + (d + e)) % 256 : Nat) : Int) := by omega
        rw [HS.out, q1, q2]
        refine ⟨(((hM.bx.far (by simp <;> omega) _).far (by simp <;> omega) _).far (by simp <;> omega) _).drew, (((hM.by_.far (by simp <;> omega) _).far (by simp) _).far (by simp <;> omega) _).drew, ?_, (((hM.sl.far (by simp) _).far (by simp) _).far (by simp) _).drew, ?_⟩
        · have := (((hM.dat.far (p := ⟨w.heap.size + 1 + 1 + 1 + 1, 0, none⟩) (by simp <;> omega) (.int .u64 ((c : Int) + ((d : Int) + e)))).put (x.size - k) (.int .u8 (((c + (d + e)) % 256 : Nat) : Int))).far (p := ⟨w.heap.size + 1 + 1 + 1 + 1, 0, none⟩) (by simp <;> omega) (.int .u64 (((c + (d + e)) / 256 : Nat) : Int))).drew
          rwa [kV_set] at this
        · exact (((hM.cr.put 0 _).far (by simp <;> omega) _).put 0 _).drew
    case done =>
      rintro D W hD ⟨hM, hB⟩ hK
      rw [addFold_all] at hM
      have hcy := Nt.cy_le (Nt.V x) (Nt.V y) x.size
      have hcf : Hid (Nt.cy (Nt.V x) (Nt.V y) x.size = Nt.dig (Nt.V x + Nt.V y) x.size) := by
        have h2 : Nt.V y < 256 ^ x.size := Nat.lt_of_lt_of_le (Nt.V_lt y) (Nat.pow_le_pow_right (by omega) (by omega))
        have e1 := Nt.cy_full (Nt.V_lt x) h2
        rw [Hid, Nt.dig, ← e1]; omega
      generalize Nt.cy (Nt.V x) (Nt.V y) x.size = c at hM hcy hcf
      have b3 := (hM.sl.cell 0)
      have b4 := (hM.cr.cell 0)
      have b5 := (hM.dat.cell 0).trans (kV_get_lt _ _ _ (by simp))
      have f5 := hM.dat.frozen 0
      simp only [List.getElem?_toArray, List.getElem?_cons_zero] at b3 b4
      have hD2 := hM.dat.put 0 (.int .u8 (c : Int))
      rw [kV_set] at hD2
      have hlist : (List.replicate 1 0 ++ Nt.digs (Nt.V x + Nt.V y) x.size).set 0 c = Nt.digs (Nt.V x + Nt.V y) (x.size + 1) := by
        rw [hcf.out]; rfl
      rw [hlist] at hD2
      have hT := run_text (P := Tryz.prog) 94 9 5 Tryz.underlying94 Tryz.underlying5 Tryz.underlying9 (w.heap.size + 1 + 1) (x.size + 1) (x.size + 1) _ (Nt.digs_length _ _) _ hD2
      have hV : Hid (Nt.V ⟨((Nt.digs (Nt.V x + Nt.V y) (x.size + 1)).map UInt8.ofNat).toArray⟩ = Nt.V x + Nt.V y) := Nt.V_digs_lt (by
        have h1 := Nt.V_lt x
        have h2 : Nt.V y < 256 ^ x.size := Nat.lt_of_lt_of_le (Nt.V_lt y) (Nat.pow_le_pow_right (by omega) (by omega))
        rw [Nat.pow_succ]; omega)
      clear hlist hD2
      generalize (Nt.digs (Nt.V x + Nt.V y) (x.size + 1)).map UInt8.ofNat = bs at hT hV
      have hK' := (KeepsOthers.setCell W ⟨w.heap.size + 1 + 1, 0, none⟩ (.int .u8 (c : Int))).same D _ hK rfl
      gi_wp2_with (refine ⟨trivial, ?_⟩; gi_at_call 57; refine (callsIn_wide.2 (natTrim_any _ _)).mono ?_; rintro e w' ⟨rfl, rfl⟩)
      refine ⟨by simp, .inl ⟨_, _, rfl, run_takeDeferred hK', ?_⟩⟩
      exact ⟨_, results_tmp (t := 4) rfl _ _ _, ret_str (by rw [hV.out]), (hB.setCell (p := ⟨w.heap.size + 1 + 1, 0, none⟩) (by simp <;> omega) _).trans (belowK_b (w := w) (Nat.le_refl _) _ D _ _ (by simp at hD; omega) hK' rfl rfl)⟩
theorem natAdd_any (a b : ByteArray) (w : World) (ha : a.size ≤ 100000) (hb : b.size ≤ 100000) :
    Calls Tryz.prog 83 #[.string a, .string b] w fun e w' => e = .returned (.string (Nt.E (Nt.V a + Nt.V b))) ∧ Below w.heap.size w w' := by
  rcases Nat.lt_or_ge a.size b.size with h | h
  · rw [Nat.add_comm]
    exact natAdd_core a b b a w (.inr ⟨rfl, rfl, h⟩) hb ha
  · exact natAdd_core a b a b w (.inl ⟨rfl, rfl, h⟩) ha hb
end Go.Proofs.YtjbpipbmcicjiaaGreatDoor
namespace Go.Proofs.YtjbpipbmcicjiaaGreatDoor
open Go.RowKit Go.Shelf
attribute [local go_sem] Oper.semAt_some

/-- one round of a difference: what is owed, and the bytes so far. -/
def subStep (x y : ByteArray) (s : Nat × List Nat) (i : Fin x.size) : Nat × List Nat :=
  (if (x[x.size - 1 - i.1]'(by omega)).toNat < Nt.dig (Nt.V y) i.1 + s.1 then 1 else 0, s.2.set (x.size - 1 - i.1) (((x[x.size - 1 - i.1]'(by omega)).toNat + 512 - (Nt.dig (Nt.V y) i.1 + s.1)) % 256))
theorem subFold_ok (x y : ByteArray) (pre : List (Fin x.size)) : (pre.foldl (subStep x y) (0, List.replicate x.size 0)).1 ≤ 1 ∧ (pre.foldl (subStep x y) (0, List.replicate x.size 0)).2.length = x.size := by
  have h : ∀ (p : List (Fin x.size)) (s : Nat × List Nat), s.1 ≤ 1 → s.2.length = x.size → (p.foldl (subStep x y) s).1 ≤ 1 ∧ (p.foldl (subStep x y) s).2.length = x.size := by
    intro p
    induction p with
    | nil => intro s h1 h2; exact ⟨h1, h2⟩
    | cons i p ih =>
      intro s h1 h2
      refine ih _ ?_ (by simp [subStep, h2])
      show (if _ then 1 else 0) ≤ 1
      split <;> omega
  exact h pre _ (by simp) (by simp)
theorem subFold_all (x y : ByteArray) (hle : Nt.V y ≤ Nt.V x) : (List.finRange x.size).foldl (subStep x y) (0, List.replicate x.size 0) = (Nt.bw (Nt.V x) (Nt.V y) x.size, Nt.digs (Nt.V x - Nt.V y) x.size) := by
  have h := foldl_fin x.size (subStep x y) (fun k => (Nt.bw (Nt.V x) (Nt.V y) k, List.replicate (x.size - k) 0 ++ Nt.digs (Nt.V x - Nt.V y) k)) (fun i => by
    have hi := i.2
    have h1 := Nt.bw_step hle i.1
    have h2 := Nt.dig_lt (Nt.V x - Nt.V y) i.1
    have h3 := Nt.bw_le (Nt.V x) (Nt.V y) i.1
    have h4 := Nt.bw_le (Nt.V x) (Nt.V y) (i.1 + 1)
    have h5 := Nt.dig_lt (Nt.V x) i.1
    have h6 := Nt.dig_lt (Nt.V y) i.1
    unfold subStep
    rw [Nt.V_dig x i.1 hi]
    dsimp only
    rw [Prod.mk.injEq]
    constructor
    · split <;> omega
    · rw [← Nt.zeros_set (Nt.V x - Nt.V y) i.1 x.size _ hi rfl]
      congr 1
      omega)
  simp only [Nt.bw_zero, Nat.sub_zero, Nt.digs, List.append_nil, Nat.sub_self, List.replicate_zero, List.nil_append] at h
  exact h
structure SubMem (x y : ByteArray) (A B : Nat) (s : Nat × List Nat) (W : World) : Prop where
  bx : Blk W A 9 #[.string x]
  by_ : Blk W (A + 1) 9 #[.string y]
  dat : Blk W B 5 (kV .u8 s.2)
  sl : Blk W (B + 1) 94 #[.slice (some ⟨B, 0, none⟩) x.size x.size]
  br : Blk W (B + 1 + 1) 3 #[.int .i64 (s.1 : Int)]
theorem SubMem.own (x y : ByteArray) (A B : Nat) (f : List (Fin x.size) → Nat × List Nat) : Own (fun pre W => SubMem x y A B (f pre) W) :=
  fun _ _ _ _ hs hg hr => ⟨hs.bx.turned hg hr, hs.by_.turned hg hr, hs.dat.turned hg hr, hs.sl.turned hg hr, hs.br.turned hg hr⟩

set_option maxRecDepth 100000 in
set_option maxHeartbeats 4000000 in
theorem natSub_pos (x y : ByteArray) (w : World) (hlt : Nt.V y < Nt.V x) (hx : x.size ≤ 100000) (hy : y.size ≤ 100000) :
    Calls Tryz.prog 99 #[.string x, .string y] w fun e w' => e = .returned (.string (Nt.E (Nt.V x - Nt.V y))) ∧ Below w.heap.size w w' := by
  have hmk := fun W => run_zeros (P := Tryz.prog) 94 5 .u8 1 Tryz.underlying94 Tryz.infoU8 x.size (by omega) (by omega) W
  have hxm : x.size ≤ maxLen := by unfold maxLen; omega
  have hym : y.size ≤ maxLen := by unfold maxLen; omega
  have HC := Lib.hid (fun w => natCmp_any x y w (by omega) (by omega))
  have hz : 0 < Nt.cmpZ (Nt.V x) (Nt.V y) := by unfold Nt.cmpZ; rw [if_neg (by omega), if_neg (by omega)]; omega
  generalize Nt.cmpZ (Nt.V x) (Nt.V y) = z at *
  have HLT := Lib.hid hlt
  clear hlt
  refine (callsIn_wide (n := 3)).1 ?_
  refine callsIn_of_wp_marks Tryz.func99 rfl trivial ?_ rfl
  simp only [Tryz.ntmps99, List.size_toArray, List.length_cons, List.length_nil, Nat.reduceAdd, Nat.reduceSub, Array.replicate_succ, Array.replicate_zero, List.push_toArray, List.append_toArray, List.nil_append, List.cons_append]
  obtain ⟨wA, hwA⟩ : ∃ wA, wA = w.alloc (.cells #[.string x] 9) := ⟨_, rfl⟩
  obtain ⟨wB, hwB⟩ : ∃ wB, wB = wA.alloc (.cells #[.string y] 9) := ⟨_, rfl⟩
  have sA : wA.heap.size = w.heap.size + 1 := by rw [hwA, World.size_alloc]
  have sB : wB.heap.size = w.heap.size + 1 + 1 := by rw [hwB, World.size_alloc, sA]
  have kA := Blk.new w 9 #[.string x]
  rw [← hwA] at kA
  have kB := Blk.new wA 9 #[.string y]
  rw [← hwB, sA] at kB
  have bA : Below w.heap.size w wA := by rw [hwA]; exact (Below.refl _ w).alloc (Nat.le_refl _) _
  have bB : Below w.heap.size w wB := by rw [hwB]; exact bA.alloc bA.size _
  have kA2 := kA.alloc (.cells #[.string y] 9)
  rw [← hwB] at kA2
  have HW := Lib.hid (show wB = (w.alloc (.cells #[.string x] 9)).alloc (.cells #[.string y] 9) by rw [hwB, hwA])
  have HKA := Lib.hid kA2
  have HKB := Lib.hid kB
  have HSB := Lib.hid sB
  have HBB := Lib.hid bB
  clear hwA hwB sA sB kA kB bA bB kA2
  gi_wp2_with fail
  rw [← HW.out]
  refine ⟨trivial, (callsIn_wide.2 (HC.out _)).mono ?_⟩
  rintro e w1 ⟨rfl, hb1⟩
  have kA1 : Blk w1 w.heap.size 9 #[.string x] := HKA.out.below hb1 (by have := HSB.out; omega)
  have kB1 : Blk w1 (w.heap.size + 1) 9 #[.string y] := HKB.out.below hb1 (by have := HSB.out; omega)
  have hB1 : Below w.heap.size w w1 := HBB.out.trans (hb1.mono HBB.out.size)
  have hs1 : w.heap.size + 2 ≤ w1.heap.size := by have h1 := HSB.out; have h2 := hb1.size; omega
  clear hb1
  have c1 := kA1.cell 0
  simp only [List.getElem?_toArray, List.getElem?_cons_zero] at c1
  have z0 : w.heap.size < w1.heap.size := by omega
  have z1 : w.heap.size < w1.heap.size + 1 := by omega
  have z2 : w.heap.size < w1.heap.size + 1 + 1 := by omega
  have KA1 := Lib.hid kA1
  have KB1 := Lib.hid kB1
  clear kA1 kB1
  gi_wp2_with (refine ⟨trivial, ?_⟩; gi_at_call 94; refine (fromBehind_in Fence.wide _ trivial rfl _ _).mono ?_; rintro e w' ⟨rfl, rfl⟩)
  obtain ⟨B, hBq⟩ : ∃ B, B = w1.heap.size := ⟨_, rfl⟩
  rw [← hBq] at hs1 ⊢
  obtain ⟨wC, hwC⟩ : ∃ wC, wC = w1.alloc (.cells (kV .u8 (List.replicate x.size 0)) 5) := ⟨_, rfl⟩
  obtain ⟨wD, hwD⟩ : ∃ wD, wD = wC.alloc (.cells #[.slice (some ⟨B, 0, none⟩) x.size x.size] 94) := ⟨_, rfl⟩
  obtain ⟨wE, hwE⟩ : ∃ wE, wE = wD.alloc (.cells #[.int .i64 0] 3) := ⟨_, rfl⟩
  have sC : wC.heap.size = B + 1 := by rw [hwC, World.size_alloc, hBq]
  have sD : wD.heap.size = B + 1 + 1 := by rw [hwD, World.size_alloc, sC]
  have sE : wE.heap.size = B + 1 + 1 + 1 := by rw [hwE, World.size_alloc, sD]
  have kC := Blk.new w1 5 (kV .u8 (List.replicate x.size 0))
  rw [← hwC, ← hBq] at kC
  have kD := Blk.new wC 94 #[.slice (some ⟨B, 0, none⟩) x.size x.size]
  rw [← hwD, sC] at kD
  have kE := Blk.new wD 3 #[.int .i64 0]
  rw [← hwE, sD] at kE
  have kF := Blk.new wE 9 #[.string x]
  rw [sE] at kF
  have bC : Below w.heap.size w wC := by rw [hwC]; exact hB1.alloc hB1.size _
  have bD : Below w.heap.size w wD := by rw [hwD]; exact bC.alloc bC.size _
  have bE : Below w.heap.size w wE := by rw [hwE]; exact bD.alloc bD.size _
  have m0 : SubMem x y w.heap.size B (0, List.replicate x.size 0) (wE.alloc (.cells #[.string x] 9)) := by
    refine ⟨?_, ?_, ?_, ?_, kE.alloc _⟩
    · rw [hwE, hwD, hwC]; exact (((KA1.out.alloc _).alloc _).alloc _).alloc _
    · rw [hwE, hwD, hwC]; exact (((KB1.out.alloc _).alloc _).alloc _).alloc _
    · rw [hwE, hwD]; exact ((kC.alloc _).alloc _).alloc _
    · rw [hwE]; exact (kD.alloc _).alloc _
  rw [← hwC, ← hwD, ← hwE]
  refine wp_behind x (B + 1 + 1 + 1) rfl hxm (by simp; omega) (kF.cell 0) rfl
    (fun pre W => SubMem x y w.heap.size B (pre.foldl (subStep x y) (0, List.replicate x.size 0)) W ∧ Below w.heap.size w W)
    (OwnFrom.and (Own.from (SubMem.own x y _ _ _) _) (ownFrom_below (Nat.le_refl _) (by simp; omega)))
    ⟨m0, bE.alloc bE.size _⟩ ?h ?done
  case h =>
    clear m0 kF kE kD kC bC bD bE sC sD sE hwC hwD hwE z0 z1 z2 c1 hB1
    have HBq := Lib.hid hBq
    clear hBq
    apply Exists.intro
    constructor
    · intro l i W K hK
      unfold dgs
      dsimp only
      gi_wp2
      exact hK
    · rintro l pre i W ⟨hM, hB⟩
      obtain ⟨k, hk⟩ := i
      have HRY0 := fun W => (natDigitAt_any y k W hym).mono fun _ _ hh => (show _ ∧ _ from ⟨hh.1, hh.2.symm⟩)
      obtain ⟨d, hd⟩ : ∃ d, d = (x[x.size - 1 - k]'(by omega)).toNat := ⟨_, rfl⟩
      obtain ⟨e, he⟩ : ∃ e, e = Nt.dig (Nt.V y) k := ⟨_, rfl⟩
      have hd256 : d < 256 := by rw [hd]; exact UInt8.toNat_lt _
      have he256 : e < 256 := by rw [he]; exact Nt.dig_lt _ _
      rw [← he] at HRY0
      have HRY := Lib.hid HRY0
      have hs1 : (pre ++ [(⟨k, hk⟩ : Fin x.size)]).foldl (subStep x y) (0, List.replicate x.size 0) =
          (if d < e + (pre.foldl (subStep x y) (0, List.replicate x.size 0)).1 then 1 else 0, (pre.foldl (subStep x y) (0, List.replicate x.size 0)).2.set (x.size - 1 - k) ((d + 512 - (e + (pre.foldl (subStep x y) (0, List.replicate x.size 0)).1)) % 256)) := by
        rw [List.foldl_append, hd, he]; rfl
      obtain ⟨hc1, hl1⟩ := subFold_ok x y pre
      generalize pre.foldl (subStep x y) (0, List.replicate x.size 0) = st at hM hc1 hl1 hs1
      obtain ⟨c, ls⟩ := st
      dsimp only at hs1 hc1 hl1 ⊢
      rw [← hd]
      have HS := Lib.hid hs1
      clear hd he hs1 HRY0
      have b1 := (hM.bx.cell 0)
      have b2 := (hM.by_.cell 0)
      have b3 := (hM.sl.cell 0)
      have b4 := (hM.br.cell 0)
      have f4 := hM.br.frozen 0
      have hlen : x.size - 1 - k < ls.length := by omega
      have b5 := (hM.dat.cell (x.size - 1 - k)).trans (kV_get_lt _ _ _ hlen)
      have f5 := hM.dat.frozen (x.size - 1 - k)
      simp only [List.getElem?_toArray, List.getElem?_cons_zero] at b1 b2 b3 b4
      have w1 : IntKind.i64.wrap (d : Int) = d := IntWalk.i64_in _ (by omega)
      have w2 : IntKind.i64.wrap (e : Int) = e := IntWalk.i64_in _ (by omega)
      have w3 : IntKind.i64.wrap ((d : Int) - e) = (d : Int) - e := IntWalk.i64_in _ (by omega)
      have w4 : IntKind.i64.wrap ((d : Int) - e - c) = (d : Int) - e - c := IntWalk.i64_in _ (by omega)
      have hmx : Tryz.prog.follows .mixedOrders = true := by kernel_rfl
      have q2 : ((d : Int) - e - c) % 256 = (((d + 512 - (e + c)) % 256 : Nat) : Int) := by omega
      have Q2 := Lib.hid q2
      clear q2
      by_cases hneg : (d : Int) - e - c < 0
      · have hbq : (if d < e + c then 1 else 0) = 1 := if_pos (by omega)
        have HBQ := Lib.hid hbq
        clear hbq
        gi_wp2
        refine wpIn_round_tail 9 hmx (by kernel_rfl) (by kernel_rfl) (fun ⟨_, _, hf⟩ => hf) ?_
        simp only [List.take_succ_cons, List.take_zero, List.drop_succ_cons, List.drop_zero]
        repeat still_step
        still_call (HRY.out _)
        repeat still_step
        refine wpStill_nil ?_
        go_wp2
        gi_wp2
        refine ⟨(((KeepsOthers.setCell _ _ _).trans (KeepsOthers.setCell _ _ _)).trans (KeepsOthers.setCell _ _ _)).trans (KeepsOthers.drew _), ((((KeepsBox.refl _ W).setCell (by simp <;> omega) _).setCell (by simp <;> omega) _).setCell (by simp <;> omega) _).drew, ?_, (((hB.setCell (by simp <;> omega) _).setCell (by simp <;> omega) _).setCell (by simp <;> omega) _).drew⟩
        rw [HS.out, HBQ.out, Q2.out]
        refine ⟨(((hM.bx.far (by simp <;> omega) _).far (by simp <;> omega) _).far (by simp <;> omega) _).drew, (((hM.by_.far (by simp <;> omega) _).far (by simp <;> omega) _).far (by simp <;> omega) _).drew, ?_, (((hM.sl.far (by simp <;> omega) _).far (by simp <;> omega) _).far (by simp <;> omega) _).drew, ?_⟩
        · have := (((hM.dat.far (p := ⟨B + 1 + 1, 0, none⟩) (by simp <;> omega) (.int .i64 0)).far (p := ⟨B + 1 + 1, 0, none⟩) (by simp <;> omega) (.int .i64 1)).put (x.size - 1 - k) (.int .u8 (((d + 512 - (e + c)) % 256 : Nat) : Int))).drew
          rwa [kV_set] at this
        · exact (((hM.br.put 0 _).put 0 _).far (by simp <;> omega) _).drew
      · have hbq : (if d < e + c then 1 else 0) = 0 := if_neg (by omega)
        have HBQ := Lib.hid hbq
        clear hbq
        have Q3 := Lib.hid (show (d : Int) - e - c = (((d + 512 - (e + c)) % 256 : Nat) : Int) by omega)
        gi_wp2
        refine wpIn_round_tail 9 hmx (by kernel_rfl) (by kernel_rfl) (fun ⟨_, _, hf⟩ => hf) ?_
        simp only [List.take_succ_cons, List.take_zero, List.drop_succ_cons, List.drop_zero]
        repeat still_step
        still_call (HRY.out _)
        repeat still_step
        refine wpStill_nil ?_
        go_wp2
        gi_wp2
        refine ⟨((KeepsOthers.setCell _ _ _).trans (KeepsOthers.setCell _ _ _)).trans (KeepsOthers.drew _), (((KeepsBox.refl _ W).setCell (by simp <;> omega) _).setCell (by simp <;> omega) _).drew, ?_, ((hB.setCell (by simp <;> omega) _).setCell (by simp <;> omega) _).drew⟩
        rw [HS.out, HBQ.out, Q3.out]
        refine ⟨((hM.bx.far (by simp <;> omega) _).far (by simp <;> omega) _).drew, ((hM.by_.far (by simp <;> omega) _).far (by simp <;> omega) _).drew, ?_, ((hM.sl.far (by simp <;> omega) _).far (by simp <;> omega) _).drew, ?_⟩
        · have := ((hM.dat.far (p := ⟨B + 1 + 1, 0, none⟩) (by simp <;> omega) (.int .i64 0)).put (x.size - 1 - k) (.int .u8 (((d + 512 - (e + c)) % 256 : Nat) : Int))).drew
          rwa [kV_set] at this
        · exact ((hM.br.put 0 _).far (by simp <;> omega) _).drew
  case done =>
    rintro D W hD ⟨hM, hB⟩ hK
    rw [subFold_all x y (Nat.le_of_lt HLT.out)] at hM
    have hD' : w.heap.size ≤ D := by simp at hD; omega
    clear m0 kF kE kD kC bC bD bE sC sD sE hwC hwD hwE z0 z1 z2 c1 hB1 hD
    have HBq := Lib.hid hBq
    clear hBq
    have b3 := (hM.sl.cell 0)
    simp only [List.getElem?_toArray, List.getElem?_cons_zero] at b3
    have hT := run_text (P := Tryz.prog) 94 9 5 Tryz.underlying94 Tryz.underlying5 Tryz.underlying9 B x.size x.size _ (Nt.digs_length _ _) _ hM.dat
    have hV : Hid (Nt.V ⟨((Nt.digs (Nt.V x - Nt.V y) x.size).map UInt8.ofNat).toArray⟩ = Nt.V x - Nt.V y) := Nt.V_digs_lt (by have h1 := Nt.V_lt x; omega)
    generalize (Nt.digs (Nt.V x - Nt.V y) x.size).map UInt8.ofNat = bs at hT hV
    gi_wp2_with (refine ⟨trivial, ?_⟩; gi_at_call 57; refine (callsIn_wide.2 (natTrim_any _ _)).mono ?_; rintro e w' ⟨rfl, rfl⟩)
    refine ⟨by simp, .inl ⟨_, _, rfl, run_takeDeferred hK, ?_⟩⟩
    exact ⟨_, results_tmp (t := 4) rfl _ _ _, ret_str (by rw [hV.out]), hB.trans (belowK_b (w := w) (Nat.le_refl _) _ D _ _ hD' hK rfl rfl)⟩

set_option maxRecDepth 100000 in
set_option maxHeartbeats 1000000 in
theorem natSub_any (x y : ByteArray) (w : World) (hx : x.size ≤ 100000) (hy : y.size ≤ 100000) :
    Calls Tryz.prog 99 #[.string x, .string y] w fun e w' => e = .returned (.string (Nt.E (Nt.V x - Nt.V y))) ∧ Below w.heap.size w w' := by
  by_cases hlt : Nt.V y < Nt.V x
  · exact natSub_pos x y w hlt hx hy
  · have hr : Hid (Nt.E (Nt.V x - Nt.V y) = ⟨#[]⟩) := by rw [Hid, show Nt.V x - Nt.V y = 0 from by omega]; rfl
    have HC := Lib.hid (fun w => natCmp_any x y w (by omega) (by omega))
    have hz : Nt.cmpZ (Nt.V x) (Nt.V y) ≤ 0 := by unfold Nt.cmpZ; split; omega; rw [if_pos (by omega)]; omega
    generalize Nt.cmpZ (Nt.V x) (Nt.V y) = z at *
    clear hlt
    have hB : Below w.heap.size w ((w.alloc (.cells #[.string x] 9)).alloc (.cells #[.string y] 9)) := ((Below.refl _ w).alloc (Nat.le_refl _) _).alloc (by simp) _
    go_enter Tryz.func99, Tryz.ntmps99
    go_wp2_with (go_at_call 82; refine (HC.out _).mono ?_; rintro e w1 ⟨rfl, hb1⟩)
    go_ret
    exact ⟨ret_str hr.out.symm, hB.trans (hb1.mono hB.size)⟩
end Go.Proofs.YtjbpipbmcicjiaaGreatDoor
