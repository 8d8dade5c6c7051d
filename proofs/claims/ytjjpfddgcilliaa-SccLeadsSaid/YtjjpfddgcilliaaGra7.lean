/-
  LAYER 27: LISTS OF CELLS IN ORDER, EACH ONCE: the program's Once.
-/
import Derived.Test.YtjjpfddgcilliaaGra6
set_option linter.unusedSimpArgs false
set_option linter.unusedVariables false
namespace Go.Proofs.Ytjjpfddgcilliaa
open Go.RowKit Go.Shelf Go.Sort Go.Lib
set_option maxRecDepth 100000

theorem Try.infoCe : (Try.prog.info? 32).map (fun i => (i.zero, i.size, i.bytes)) = some (some (.agg #[.int .i64 0, .int .i64 0, .int .i64 0]), 3, 24) := by kernel_rfl
/-- a list of one's own: in blocks from n on. -/
def CsNew (W : World) (n : Nat) (v : Value) (l : List Ce) : Prop := CsAt W v l ∧ ∀ b, blkOf v = some b → n ≤ b
theorem CsNew.of_owns {W : World} {v : Value} {l : List Ce} {base : Nat} {t : TypeId} (h : W.ownsRow base t 3 v l.length (flC l)) : CsNew W base v l := CsAt.of_owns h
theorem CsNew.base {W : World} {n m : Nat} {v : Value} {l : List Ce} (h : CsNew W n v l) (hm : m ≤ n) : CsNew W m v l := ⟨h.1, fun b hb => Nat.le_trans hm (h.2 b hb)⟩
theorem CsNew.below {W W' : World} {n : Nat} {v : Value} {l : List Ce} (h : CsNew W n v l) (hb : Below W.heap.size W W') : CsNew W' n v l := ⟨h.1.below hb, h.2⟩
/-- what is nowhere near the list's block leaves it. -/
theorem cell_list {W : World} {g cap : Nat} {cur : Array Value} {e : TypeId} {l : List Ce} (hb : W.heap[g]? = some (.cells cur e (0, 0))) (hs : cur.size = cap * 3) (hc : l.length ≤ cap) (ht : cur.toList.take (l.length * 3) = flC l) : HoldsK ec 3 W g 0 l.toArray := by
  intro j hj
  have hj' : j < l.length * 3 := by simpa using hj
  refine ⟨?_, by simp [World.frozen?, hb]⟩
  have h1 : (cur.toList.take (l.length * 3))[j]? = (flC l)[j]? := by rw [ht]
  rw [List.getElem?_take_of_lt hj'] at h1
  simp only [World.cell?, hb, Nat.zero_add]
  simp only [Option.isSome_none, Bool.false_eq_true, if_false]
  rw [← Array.getElem?_toList, h1]
  obtain ⟨k, c, hk, hc3, rfl⟩ : ∃ k c, k < l.length ∧ c < 3 ∧ j = k * 3 + c := ⟨j / 3, j % 3, by omega, by omega, by omega⟩
  have e1 : (k * 3 + c) / 3 = k := by omega
  have e2 : (k * 3 + c) % 3 = c := by omega
  have h2 := flC_get l k hk
  rw [get_flatK _ _ _ _ (by simpa using hj'), e1, e2]
  have e3 : l.toArray[k]! = l[k] := by rw [getElem!_pos l.toArray k (by simpa using hk)]; simp
  rw [e3]
  match c, hc3 with
  | 0, _ => rw [Nat.add_zero, h2.1]; rfl
  | 1, _ => rw [h2.2.1]; rfl
  | 2, _ => rw [h2.2.2]; rfl
theorem grownBy_sortK {w : World} {g n : Nat} {os : Array Obj} (d : Array Ce) : w.grownBy (sortWorldK ec 3 w g 0 n d os) (some g) := by
  unfold sortWorldK putRowK
  refine ⟨rfl, rfl, rfl, by simp, fun k hk hne => ?_⟩
  rw [heap_grow_old _ _ (by simpa using hk)]
  have : g ≠ k := fun e => hne (by rw [e])
  simp [putRow, mapBlock, Sort.ahead, Array.getElem?_modify, this]
theorem cmpLays_once (blk off size : Nat) (w : World) : CmpLays Try.prog 71 #[] ec 3 cfO blk off size w := fun _ _ _ _ x y => once1_any x y _
theorem sortC_any (g cap : Nat) (d : Array Ce) (w : World) (hH : HoldsK ec 3 w g 0 d) (hg : g < w.heap.size) (hsz : d.size < 4611686018427387904) :
    Calls Try.prog 70 #[.slice (some ⟨g, 0, none⟩) d.size cap, .func (.func 71) #[] #[]] w fun e w' =>
      e = .returned (.tuple #[]) ∧ ∃ d' : Array Ce, d'.size = d.size ∧ (∀ z, z ∈ d'.toList ↔ z ∈ d.toList) ∧ (∀ i j, i < j → j < d'.size → cLt d'[j]! d'[i]! = false) ∧ RowC w' g d' ∧ w.grownBy w' (some g) := by
  have eg : ∀ args w, (callFunc 71 args).run Try.prog w = .ok (.enter 71 args) w := enters_of Try.func71 (by kernel_rfl) rfl
  have hcon := AnyQ.slices_SortFunc Try.sortC 3 Try.isAgg32 Try.sizeOf32 ec (fun _ => rfl) (fun x v hv => by simp [ec] at hv; rcases hv with rfl | rfl | rfl <;> rfl) cfO swo_cfO 71 #[] g 0 cap d w eg (cmpLays_once g 0 d.size w) hH hg hsz
  change Calls Try.prog 70 _ _ _ at hcon
  refine hcon.mono ?_
  rintro e w' ⟨rfl, d', n, os, hp, hs, rfl⟩
  refine ⟨rfl, d', hp.1, fun z => ?_, fun i j hij hj => ?_, RowC.of_holds ?_, grownBy_sortK d'⟩
  · have h := hp.2.2
    rw [Array.extract_eq_self_of_le (by rw [hp.1]; exact Nat.le_refl _), Array.extract_size] at h
    exact h.mem_iff
  · have := hs i j (Nat.zero_le _) hij (by rw [← hp.1]; exact hj)
    rwa [ltOf_cfO] at this
  · unfold sortWorldK
    refine holdsK_grow _ _ _ _ _ _ _ ?_ (holdsK_putRowK _ _ _ _ _ d d' (holdsK_ahead _ _ _ n _ _ _ hH) hp.1)
    simpa [putRowK] using hg
set_option maxHeartbeats 1000000 in
theorem compact_nil (w : World) : Calls Try.prog 72 #[.slice none 0 0] w fun e w' => e = .returned (.slice none 0 0) ∧ w' = w := by
  go_enter Try.func72, Try.ntmps72
  go_wp2
  go_ret
  exact ⟨rfl, rfl⟩
theorem cloneC_nil (w : World) : Calls Try.prog 50 #[.slice none 0 0] w fun e w' => e = .returned (.slice none 0 0) ∧ w' = w := by
  have h := AnyE.slices_Clone_nil Try.cloneC 0 0 w
  exact h
theorem sortC_nil (w : World) (fv : Value) : Calls Try.prog 70 #[.slice none 0 0, fv] w fun e w' => e = .returned (.tuple #[]) ∧ w' = w := by
  have h := AnyF.slices_SortFunc_none Try.sortC none 0 fv w
  exact h
/-- a list's own copy. -/
theorem cloneC_any (g o cap : Nat) (l : List Ce) (w : World) (hc : ∀ j u, (flC l)[j]? = some u → w.cell? ⟨g, o + j, none⟩ = some u) (hn : l.length * 24 ≤ 140737488355328) :
    Calls Try.prog 50 #[.slice (some ⟨g, o, none⟩) l.length cap] w fun e w' => (∃ g' cap' cur, e = .returned (.slice (some ⟨g', 0, none⟩) l.length cap') ∧ w.heap.size ≤ g' ∧ w'.heap[g']? = some (.cells cur 32 (0, 0)) ∧ cur.size = cap' * 3 ∧ l.length ≤ cap' ∧ cur.toList.take (l.length * 3) = flC l) ∧ Below w.heap.size w w' := by
  obtain ⟨i0, hi, hz0, hz1, hz2⟩ := info_parts Try.infoCe
  have h := AnyE.slices_Clone Try.cloneC i0 _ 3 24 hi hz0 hz1 hz2 rfl (by decide) Try.sizeOf32 g o l.length cap (flC l) w (flC_length l) (by unfold maxLen; omega) hn hc (flC_one l)
  change Calls Try.prog 50 _ _ _ at h
  refine h.mono ?_
  rintro e w' ⟨v', rfl, hown, hne, hb⟩
  rcases hown.2 with ⟨h0, _⟩ | ⟨g', cap', cur, rfl, hbase, hgg, h1, h2, h3, h4⟩
  · exact absurd h0 hne
  · exact ⟨⟨g', cap', cur, rfl, hbase, hgg, h3, h1, h4⟩, hb⟩
theorem compactC_any (g cap n : Nat) (l : List Ce) (d : Array Ce) (w : World) (hR : RowC w g d) (hd : d.size = n) (hs : ∀ i j, i < j → j < d.size → cLt d[j]! d[i]! = false) (hm : ∀ z, z ∈ d.toList ↔ z ∈ l) (hcap : n ≤ cap) (hsz : n * 24 ≤ 140737488355328) :
    Calls Try.prog 72 #[.slice (some ⟨g, 0, none⟩) n cap] w fun e w' => e = .returned (.slice (some ⟨g, 0, none⟩) (onc l).length cap) ∧ CompPost w g (onc l) w' := by
  subst hd
  have h := compact_any g cap d w hR hcap hsz
  have hc := compact_srt d hs
  rw [onc_eq hc.1 fun z => (hc.2 z).trans (hm z)] at h
  exact h
theorem csAt_comp {w w' : World} {g cap : Nat} {l : List Ce} (h : CompPost w g l w') (hg : g < w.heap.size) : CsAt w' (.slice (some ⟨g, 0, none⟩) l.length cap) l := by
  refine Or.inr ⟨g, 0, cap, rfl, by rw [← h.2.1]; exact hg, fun j u hj => ?_⟩
  have hl : j < (flC l).length := (List.getElem?_eq_some_iff.1 hj).1
  rw [flC_length] at hl
  obtain ⟨k, c, hk, hc3, rfl⟩ : ∃ k c, k < l.length ∧ c < 3 ∧ j = k * 3 + c := ⟨j / 3, j % 3, by omega, by omega, by omega⟩
  obtain ⟨a0, a1, a2⟩ := flC_get l k hk
  obtain ⟨b0, b1, b2⟩ := h.2.2 k hk
  rw [Nat.zero_add]
  match c, hc3 with
  | 0, _ => rw [Nat.add_zero] at hj ⊢; rw [a0] at hj; rw [b0, hj]
  | 1, _ => rw [a1] at hj; rw [b1, hj]
  | 2, _ => rw [a2] at hj; rw [b2, hj]
/-- in order, each once: a list of one's own. -/
def OncePost (w : World) (l : List Ce) (e : Ending) (w' : World) : Prop := (∃ v, e = .returned v ∧ CsNew w' w.heap.size v (onc l)) ∧ Below w.heap.size w w'
set_option maxHeartbeats 1000000 in
/-- .. of whatever is copied as that list. -/
theorem once_of (v : Value) (l : List Ce) (w : World) (hn : l.length * 24 ≤ 140737488355328) (h : Calls Try.prog 50 #[v] w fun e w' => (∃ g' cap' cur, e = .returned (.slice (some ⟨g', 0, none⟩) l.length cap') ∧ w.heap.size ≤ g' ∧ w'.heap[g']? = some (.cells cur 32 (0, 0)) ∧ cur.size = cap' * 3 ∧ l.length ≤ cap' ∧ cur.toList.take (l.length * 3) = flC l) ∧ Below w.heap.size w w') : Calls Try.prog 43 #[v] w (OncePost w l) := by
  obtain ⟨Po, hPo⟩ : ∃ Po, Po = OncePost w l := ⟨_, rfl⟩
  rw [← hPo]
  have HPO := Lib.hid hPo
  clear hPo
  have HN := Lib.hid hn
  clear hn
  obtain ⟨n, hln⟩ : ∃ n, n = l.length := ⟨_, rfl⟩
  have HL := Lib.hid hln
  have H1 : Hid (Calls Try.prog 50 #[v] w fun e w' => (∃ g' cap' cur, e = .returned (.slice (some ⟨g', 0, none⟩) n cap') ∧ w.heap.size ≤ g' ∧ w'.heap[g']? = some (.cells cur 32 (0, 0)) ∧ cur.size = cap' * 3 ∧ n ≤ cap' ∧ cur.toList.take (n * 3) = flC l) ∧ Below w.heap.size w w') := Lib.hid (by rw [hln]; exact h)
  clear hln h
  go_enter Try.func43, Try.ntmps43
  go_wp2_with (go_at_call 50; refine H1.out.mono ?_; rintro e w1 ⟨⟨g1, c1, cur, rfl, hg1, hcur, hcs, hc1, htk⟩, hb1⟩)
  have hn1 : n = l.toArray.size := by rw [HL.out]; simp
  have hK : HoldsK ec 3 w1 g1 0 l.toArray := cell_list hcur hcs (by rw [← HL.out]; exact hc1) (by rw [← HL.out]; exact htk)
  have hgl : g1 < w1.heap.size := (Array.getElem?_eq_some_iff.1 hcur).1
  have H2 := Lib.hid (show Calls Try.prog _ #[.slice (some ⟨g1, 0, none⟩) n c1, _] w1 _ by have h := sortC_any g1 c1 l.toArray w1 hK hgl (by have := HN.out; simp; omega); rw [← hn1] at h; exact h)
  have HB1 := Lib.hid hb1
  have HGl := Lib.hid hgl
  have HG1 := Lib.hid hg1
  have HC1 := Lib.hid hc1
  clear hK hgl hb1 hg1 hc1 hcur hcs htk hn1
  go_wp2_with (go_at_call 70; refine H2.out.mono ?_; rintro e w2 ⟨rfl, d', hd1, hd2, hd3, hR, hg2⟩)
  have H3 := Lib.hid (compactC_any g1 c1 n l d' w2 hR hd1 hd3 (fun z => (hd2 z).trans (by simp)) HC1.out (by rw [HL.out]; exact HN.out))
  have HG2 := Lib.hid hg2
  have HGL := Lib.hid (Nat.lt_of_lt_of_le HGl.out hg2.size)
  clear hd1 hd2 hd3 hR hg2
  go_wp2_with (go_at_call 72; refine H3.out.mono ?_; rintro e w3 ⟨rfl, hcp⟩)
  show Po (.returned (.slice (some ⟨g1, 0, none⟩) (onc l).length c1)) w3
  rw [HPO.out]
  have hB2 : Below w.heap.size w w2 := HB1.out.grown HG2.out HB1.out.size (fun j hj => by cases hj; exact HG1.out)
  have hB3 : Below w.heap.size w w3 := hB2.grown hcp.1 hB2.size (fun j hj => by cases hj; exact HG1.out)
  exact ⟨⟨_, rfl, csAt_comp hcp HGL.out, fun b hb => by cases hb; exact HG1.out⟩, hB3⟩
set_option maxHeartbeats 1000000 in
theorem onceC_any (v : Value) (l : List Ce) (w : World) (h : CsAt w v l) (hn : l.length * 24 ≤ 140737488355328) : Calls Try.prog 43 #[v] w (OncePost w l) := by
  rcases h with ⟨rfl, rfl⟩ | ⟨g, o, cap, rfl, hg, hc⟩
  · obtain ⟨Po, hPo⟩ : ∃ Po, Po = OncePost w [] := ⟨_, rfl⟩
    rw [← hPo]
    have HPO := Lib.hid hPo
    clear hPo
    go_enter Try.func43, Try.ntmps43
    go_wp2_with (first | (go_at_call 50; refine (cloneC_nil _).mono ?_; rintro e w1 ⟨rfl, rfl⟩) | (go_at_call 70; refine (sortC_nil _ _).mono ?_; rintro e w1 ⟨rfl, rfl⟩) | (go_at_call 72; refine (compact_nil _).mono ?_; rintro e w1 ⟨rfl, rfl⟩))
    show Po (.returned (.slice none 0 0)) _
    rw [HPO.out]
    exact ⟨⟨_, rfl, Or.inl ⟨rfl, rfl⟩, fun b hb => by cases hb⟩, Below.refl _ _⟩
  · exact once_of _ l w hn (cloneC_any g o cap l w hc hn)
/-! a slice of nothing, wherever it points. -/
theorem cloneC_zero (a : Addr) (w : World) : Calls Try.prog 50 #[.slice (some a) 0 0] w fun e w' => (∃ g' cap' cur, e = .returned (.slice (some ⟨g', 0, none⟩) 0 cap') ∧ w.heap.size ≤ g' ∧ w'.heap[g']? = some (.cells cur 32 (0, 0)) ∧ cur.size = cap' * 3 ∧ 0 ≤ cap' ∧ cur.toList.take (0 * 3) = flC []) ∧ Below w.heap.size w w' := by
  obtain ⟨Po, hPo⟩ : ∃ Po : Ending → World → Prop, Po = fun e w' => (∃ g' cap' cur, e = .returned (.slice (some ⟨g', 0, none⟩) 0 cap') ∧ w.heap.size ≤ g' ∧ w'.heap[g']? = some (.cells cur 32 (0, 0)) ∧ cur.size = cap' * 3 ∧ 0 ≤ cap' ∧ cur.toList.take (0 * 3) = flC []) ∧ Below w.heap.size w w' := ⟨_, rfl⟩
  rw [← hPo]
  have HPO := Lib.hid hPo
  clear hPo
  obtain ⟨i0, hi, hz0, hz1, hz2⟩ := info_parts Try.infoCe
  have q22 : ∀ (w : World) (a : Option Addr) (n c n' c' : Nat), (binOp .eql 30 (.slice a n c) (.slice none n' c')).run Try.prog w = .ok (.bool a.isNone) w := fun w a n c n' c' => Lib.run_eql_slice_nil w _ _ a n c n' c' Try.underlying30
  go_enter Try.func50, Try.ntmps50
  go_wp2_with (at_builtin; refine wpList_append_own _ rfl _ _ 30 rfl w.heap.size 32 i0 (.agg #[.int .i64 0, .int .i64 0, .int .i64 0]) 3 24 Try.underlying30 hi hz0 hz1 hz2 rfl (by decide) _ _ _ rfl (World.ownsRow_made w #[] 0 (Nat.le_refl _) (Nat.zero_le _) rfl) a 0 0 [] rfl rfl (by intro j u hj; simp at hj) (by intro u hu; cases hu) (by unfold maxLen; omega) (by omega) (by simp) ?_; intro v' w1 hown hgrow hnil)
  have hne : v' ≠ .slice none 0 0 := fun e => absurd (hnil.1 e).1 (fun h => by cases h)
  rcases hown.2 with ⟨h0, _⟩ | ⟨g', cap', cur, rfl, hbase, hgg, h1, h2, h3, h4⟩
  · exact absurd h0 hne
  show Po (.returned (.slice (some ⟨g', 0, none⟩) 0 cap')) w1
  rw [HPO.out]
  exact ⟨⟨g', cap', cur, rfl, hbase, hgg, h3, h1, h4⟩, ((Below.refl _ w).alloc (Nat.le_refl _) _).grown hgrow (by simp) (by intro k hk; cases hk; exact Nat.le_refl _)⟩
theorem onceC_zero (a : Addr) (w : World) : Calls Try.prog 43 #[.slice (some a) 0 0] w (OncePost w []) := once_of _ [] w (by decide) (cloneC_zero a w)
end Go.Proofs.Ytjjpfddgcilliaa
