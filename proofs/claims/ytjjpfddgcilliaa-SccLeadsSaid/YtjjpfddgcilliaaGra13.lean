/-
  LAYER 28: A GRAPH'S CALLS THAT TELL MANY: For, Cells; New.
-/
import Derived.Test.YtjjpfddgcilliaaGra12
set_option linter.unusedSimpArgs false
set_option linter.unusedVariables false
namespace Go.Proofs.Ytjjpfddgcilliaa
open Go.RowKit Go.Shelf Go.Sort Go.Lib Go.Maps
set_option maxRecDepth 100000

theorem stops_mono {gf n N N' : Nat} {lb : Array Value} {S S' Sp : List Ce → Prop} {w : World} (h : SeqStopsK Fence.wide n Try.prog gf lb (fun x : Ce => #[mkC x]) KeepsWalks S Sp N w) (hS : ∀ ys, S ys → S' ys) (hN : N ≤ N') : SeqStopsK Fence.wide n Try.prog gf lb (fun x : Ce => #[mkC x]) KeepsWalks S' Sp N' w :=
  fun l J Jx W hW hJ hJx hY h0 => (h l J Jx W hW hJ hJx (fun pre x W1 hj hl => hY pre x W1 hj (by omega)) h0).mono fun e w' ⟨he, hr⟩ => ⟨he, hr.imp (fun ⟨xs, h1, h2⟩ => ⟨xs, hS xs h1, h2⟩) id⟩
/-- cells that are one of those that p tells, each once. -/
def Those (p : Ce → Bool) (n : Nat) (ys : List Ce) : Prop := ys.Nodup ∧ (∀ z, z ∈ ys ↔ p z = true) ∧ ys.length ≤ n
/-- in order, each once. -/
def Told (p : Ce → Bool) (w : World) (e : Ending) (w' : World) : Prop := (∃ v l, e = .returned v ∧ CsNew w' w.heap.size v l ∧ Srt l ∧ ∀ z, z ∈ l ↔ p z = true) ∧ Below w.heap.size w w'
theorem keysL_any (mb : Option Nat) (w : World) : Calls Try.prog 63 #[.map mb] w fun e w' => e = .returned (.func (.func 83) #[] #[.pointer (some ⟨w.heap.size, 0, none⟩)]) ∧ w' = w.alloc (.cells #[.map mb] 62) := (callsIn_wide (n := 1)).1 (keysL_in 1 mb w)
theorem keysS_any (mb : Option Nat) (w : World) : Calls Try.prog 49 #[.map mb] w fun e w' => e = .returned (.func (.func 74) #[] #[.pointer (some ⟨w.heap.size, 0, none⟩)]) ∧ w' = w.alloc (.cells #[.map mb] 70) := (callsIn_wide (n := 1)).1 (keysS_in 1 mb w)
/-- all keys of a map that may not be there, as a list. -/
theorem collectS (mb : Option Nat) (n : Nat) (p : Ce → Bool) (w s : World) (hs : s = w.alloc (.cells #[.map mb] 70)) (hn : n * 24 ≤ 140737488355328) (h : (mb = none ∧ ∀ z, p z = false) ∨ ∃ b, mb = some b ∧ MapAt w b n (fun z => if p z then some unitV else none)) :
    Calls Try.prog 48 #[.func (.func 74) #[] #[.pointer (some ⟨w.heap.size, 0, none⟩)]] s (SeqPost s (Those p n)) := by
  have hc : s.cell? ⟨w.heap.size, 0, none⟩ = some (.map mb) := bx0 (l := [.map mb]) hs rfl 0 _ rfl
  have hz : w.heap.size < s.heap.size := by rw [hs]; simp
  refine collect_any _ _ _ (fun _ => True) n s hn (enters_of Try.func74 (by kernel_rfl) rfl) ?_
  rcases h with ⟨rfl, hp⟩ | ⟨b, rfl, hm⟩
  · exact stops_mono (keysS_none 2 w.heap.size s hz hc) (fun ys hy => by subst hy; exact ⟨List.nodup_nil, fun z => by rw [hp z]; simp, by simp⟩) (Nat.zero_le _)
  · have hm' : MapAt s b n (fun z => if p z then some unitV else none) := hm.below (by rw [hs]; exact (Below.refl _ w).alloc (Nat.le_refl _) _)
    refine stops_mono (keysS_stops 2 (by omega) w.heap.size b n _ s hz hc hm') (fun ys hy => ⟨hy.1.1, fun z => ?_, hy.2⟩) (Nat.le_refl _)
    rw [hy.1.2 z]
    cases hp : p z <;> simp [hp]
theorem collectL (b n : Nat) (f : Ce → Option Value) (w s : World) (hs : s = w.alloc (.cells #[.map (some b)] 62)) (hn : n * 24 ≤ 140737488355328) (hm : MapAt w b n f) :
    Calls Try.prog 48 #[.func (.func 83) #[] #[.pointer (some ⟨w.heap.size, 0, none⟩)]] s (SeqPost s (Those (fun z => (f z).isSome) n)) := by
  have hc : s.cell? ⟨w.heap.size, 0, none⟩ = some (.map (some b)) := bx0 (l := [.map (some b)]) hs rfl 0 _ rfl
  have hz : w.heap.size < s.heap.size := by rw [hs]; simp
  refine collect_any _ _ _ (fun _ => True) n s hn (enters_of Try.func83 (by kernel_rfl) rfl) ?_
  have hm' : MapAt s b n f := hm.below (by rw [hs]; exact (Below.refl _ w).alloc (Nat.le_refl _) _)
  exact stops_mono (keysL_stops 2 (by omega) w.heap.size b n f s hz hc hm') (fun ys hy => ⟨hy.1.1, hy.1.2, hy.2⟩) (Nat.le_refl _)
theorem onceT_any (v : Value) (ys : List Ce) (p : Ce → Bool) (n : Nat) (w : World) (h : CsAt w v ys) (hy : Those p n ys) (hn : n * 24 ≤ 140737488355328) : Calls Try.prog 43 #[v] w (Told p w) := by
  refine (onceC_any v ys w h (by have := hy.2.2; omega)).mono ?_
  rintro e w' ⟨⟨u, rfl, hu⟩, hb⟩
  exact ⟨⟨u, onc ys, rfl, hu, srt_onc ys, fun z => mem_onc.trans (hy.2.1 z)⟩, hb⟩
theorem UsrAt.look {W : World} {S : Nat → Prop} {bn bu n : Nat} {fu : Ce → Option Value} {E : Ce → Ce → Bool} (h : UsrAt W S bn bu n fu E) (y : Ce) : ∃ mb, (fu y).getD (.map none) = .map mb ∧ ((mb = none ∧ ∀ z, E y z = false) ∨ ∃ b, mb = some b ∧ MapAt W b n (fun z => if E y z then some unitV else none)) := by
  cases hy : fu y with
  | none => exact ⟨none, rfl, Or.inl ⟨rfl, h.no y hy⟩⟩
  | some v => obtain ⟨b, rfl, _, _, _, hm⟩ := h.yes y v hy; exact ⟨some b, rfl, Or.inr ⟨b, rfl, hm⟩⟩
set_option maxRecDepth 100000 in
set_option maxHeartbeats 4000000 in
theorem for_any (p n : Nat) (S : Nat → Prop) (G : Ce → Option (List Ce)) (x : Ce) (hx : okC x) (w : World) (h : GrAt w S p n G) (hn : n * 24 ≤ 140737488355328) : Calls Try.prog 17 #[.pointer (some ⟨p, 0, none⟩), mkC x] w (Told (edge G x) w) := by
  obtain ⟨bn, bu, fn, fu, h0, hp, hN, hU⟩ := h
  obtain ⟨mb, hu, hc⟩ := hU.look x
  have HM := Lib.hid hU.m
  have HX := Lib.hid hx
  have HU := Lib.hid hu
  have HC := Lib.hid hc
  have HN := Lib.hid hn
  obtain ⟨Po, hPo⟩ : ∃ Po, Po = Told (edge G x) w := ⟨_, rfl⟩
  rw [← hPo]
  have HPO := Lib.hid hPo
  clear hN hU hx hp hu hc hn hPo
  obtain ⟨a, b, c⟩ := x
  unfold mkC
  go_enter Try.func17, Try.ntmps17
  go_wp2_with fail
  obtain ⟨s, hs⟩ : ∃ s, s = w.alloc (.cells #[.int .i64 a, .int .i64 b, .int .i64 c] 32) := ⟨_, rfl⟩
  have hb : Below w.heap.size w s := by rw [hs]; exact (Below.refl _ w).alloc (Nat.le_refl _) _
  have hbx := box_at hs
  have hpc := two_cells ((hb.block p (Array.getElem?_eq_some_iff.1 h0).1).trans h0)
  have HB := Lib.hid hb
  have zA : w.heap.size < s.heap.size := by rw [hs]; simp
  have zp : p < s.heap.size := Nat.lt_of_lt_of_le (Array.getElem?_eq_some_iff.1 h0).1 hb.size
  rw [← hs]
  clear hs hb h0
  refine wrp (S := fun w' => Below s.heap.size s w' ∧ w'.cell? ⟨p, 1, none⟩ = some (.map (some bu)) ∧ w'.cell? ⟨w.heap.size, 0, none⟩ = some (.int .i64 a) ∧ w'.cell? ⟨w.heap.size, 1, none⟩ = some (.int .i64 b) ∧ w'.cell? ⟨w.heap.size, 2, none⟩ = some (.int .i64 c)) (by kernel_rfl) (fun w' hx => ⟨hx, belK hx hpc.2 zp, belK hx hbx.1 zA, belK hx hbx.2.1 zA, belK hx hbx.2.2 zA⟩) (fun HKP hHeld => ?_)
  refine tk 0 ?_
  refine tk 1 ?_
  refine tk 2 ?_
  refine tk 3 ?_
  refine tk 4 ?_
  refine tk 5 ?_ (hy := look1_y rfl rfl Try.underlying63 Try.zeroValue70 rfl rfl HX.out (fun w' hw => (HM.out.below HB.out).below hw.1) HU.out)
  refine rd1 6 (by kernel_rfl) rfl fun K hK => ?_
  go_simp
  (go_at_call 49; refine (keysS_any _ _).mono ?_; rintro e wx ⟨rfl, hwx⟩; have hB1 : Below s.heap.size s wx := (by rw [hwx]; exact (Below.refl _ s).drew.alloc (Nat.le_refl _) _); have HW := Lib.hid hwx; clear hwx)
  try (go_wp2_with fail)
  refine hK.out _ _ (HKP.out wx hB1) (fun hHeld => ?_)
  clear hK K
  try simp only [pz]
  refine rd1 7 (by kernel_rfl) rfl fun K hK => ?_
  go_simp
  (go_at_call 48; refine (collectS mb n _ s.drew wx HW.out HN.out (HC.out.imp id (fun ⟨b, h1, h2⟩ => ⟨b, h1, h2.below HB.out.drew⟩))).mono ?_; rintro e wy ⟨⟨v, ys, rfl, hys, hv⟩, hby⟩)
  try (go_wp2_with fail)
  refine hK.out _ _ (HKP.out wy (hB1.trans (hby.mono hB1.size))) (fun hHeld => ?_)
  clear hK K
  try simp only [pz]
  refine rd1 8 (by kernel_rfl) rfl fun K hK => ?_
  go_simp
  (go_at_call 43; refine (onceT_any _ ys _ n _ hv.1 hys HN.out).mono ?_; rintro e wz ⟨⟨u, l, rfl, hu, hl⟩, hbz⟩)
  try (go_wp2_with fail)
  refine hK.out _ _ (HKP.out wz ((hB1.trans (hby.mono hB1.size)).trans (hbz.mono (Nat.le_trans hB1.size hby.size)))) (fun hHeld => ?_)
  clear hK K
  try simp only [pz]
  refine tk 9 ?_
  refine wpAnyH_done (by kernel_rfl) ?_ _
  all_goals go_wp2_with fail
  show Po (.returned u) _
  rw [HPO.out]
  exact ⟨⟨u, l, rfl, hu.base (Nat.le_trans HB.out.size (Nat.le_trans hB1.size hby.size)), hl⟩, HB.out.trans (hHeld.1.mono HB.out.size)⟩
set_option maxRecDepth 100000 in
set_option maxHeartbeats 4000000 in
theorem cells_any (p n : Nat) (S : Nat → Prop) (G : Ce → Option (List Ce)) (w : World) (h : GrAt w S p n G) (hn : n * 24 ≤ 140737488355328) : Calls Try.prog 31 #[.pointer (some ⟨p, 0, none⟩)] w (Told (fun z => (G z).isSome) w) := by
  obtain ⟨bn, bu, fn, fu, h0, hp, hN, hU⟩ := h
  have hfG : (fun z => (G z).isSome) = fun z => (fn z).isSome := funext fun z => by
    cases hg : G z with
    | none => rw [hN.no z hg]; rfl
    | some l => obtain ⟨v, h1, _⟩ := hN.yes z l hg; rw [h1]; rfl
  rw [hfG]
  have HM := Lib.hid hN.m
  have HN := Lib.hid hn
  obtain ⟨Po, hPo⟩ : ∃ Po, Po = Told (fun z => (fn z).isSome) w := ⟨_, rfl⟩
  rw [← hPo]
  have HPO := Lib.hid hPo
  have hpc := two_cells h0
  have zp : p < w.heap.size := (Array.getElem?_eq_some_iff.1 h0).1
  clear hN hU hp hn hPo hfG h0
  obtain ⟨p0, p1⟩ := hpc
  go_enter Try.func31, Try.ntmps31
  go_wp2_with (first | (go_at_call 63; refine (keysL_any _ _).mono ?_; rintro e w1 ⟨rfl, hw1⟩; have HW := Lib.hid hw1; clear hw1) | (go_at_call 48; refine (collectL bn n fn w _ HW.out HN.out HM.out).mono ?_; rintro e w2 ⟨⟨v, ys, rfl, hys, hv⟩, hb2⟩; have HY := Lib.hid hys; have HV := Lib.hid hv; have HB2 := Lib.hid hb2; clear hys hv hb2) | (go_at_call 43; refine (onceT_any _ _ _ n _ HV.out.1 HY.out HN.out).mono ?_; rintro e w3 ⟨⟨u, l, rfl, hu, hl⟩, hb3⟩))
  show Po (.returned u) _
  rw [HPO.out]
  have hB1 : Below w.heap.size w w1 := by rw [HW.out]; exact (Below.refl _ w).alloc (Nat.le_refl _) _
  exact ⟨⟨u, l, rfl, hu.base (Nat.le_trans hB1.size HB2.out.size), hl⟩, (hB1.trans (HB2.out.mono hB1.size)).trans (hb3.mono (Nat.le_trans hB1.size HB2.out.size))⟩
set_option maxRecDepth 100000 in
set_option maxHeartbeats 4000000 in
theorem new_any (w : World) : Calls Try.prog 9 #[] w fun e w' => ∃ p, e = .returned (.pointer (some ⟨p, 0, none⟩)) ∧ GrAt w' (fun k => w.heap.size ≤ k) p 0 (fun _ => none) ∧ Below w.heap.size w w' := by
  have hmm := @run_makeMap Try.prog
  go_enter Try.func9, Try.ntmps9
  go_wp2
  go_ret
  have b1 : Below w.heap.size w (w.alloc (.map #[] 0)) := (Below.refl _ w).alloc (Nat.le_refl _) _
  have b2 : Below w.heap.size w ((w.alloc (.map #[] 0)).alloc (.map #[] 0)) := b1.alloc b1.size _
  have up : ∀ (W : World) (o : Obj), Below W.heap.size W (W.alloc o) := fun W o => (Below.refl _ W).alloc (Nat.le_refl _) _
  have m1 : MapAt (((w.alloc (.map #[] 0)).alloc (.map #[] 0)).alloc (.cells #[.map (some w.heap.size), .map (some (w.heap.size + 1))] 65)) w.heap.size 0 fun _ => none := ((MapAt.made w).below (up _ _)).below (up _ _)
  have m2 : MapAt (((w.alloc (.map #[] 0)).alloc (.map #[] 0)).alloc (.cells #[.map (some w.heap.size), .map (some (w.heap.size + 1))] 65)) (w.heap.size + 1) 0 fun _ => none := by
    have h := (MapAt.made (w.alloc (.map #[] 0))).below (up _ (.cells #[.map (some w.heap.size), .map (some (w.heap.size + 1))] 65))
    rwa [World.size_alloc] at h
  refine ⟨_, rfl, ⟨w.heap.size, w.heap.size + 1, fun _ => none, fun _ => none, ?_, ?_, ⟨m1, ?_, fun _ _ => rfl, fun x l h => (by cases h), fun x l h => (by cases h)⟩, ⟨m2, ?_, ?_, fun _ _ _ => rfl, fun y v h => (by cases h), fun y v h => (by cases h), fun y y' b h => (by cases h)⟩⟩, b2.alloc b2.size _⟩
  · have := World.alloc_heap_new ((w.alloc (.map #[] 0)).alloc (.map #[] 0)) (.cells #[.map (some w.heap.size), .map (some (w.heap.size + 1))] 65)
    simpa using this
  · show w.heap.size ≤ w.heap.size + 1 + 1; omega
  · show w.heap.size ≤ w.heap.size; omega
  · show w.heap.size ≤ w.heap.size + 1; omega
  · omega
end Go.Proofs.Ytjjpfddgcilliaa
