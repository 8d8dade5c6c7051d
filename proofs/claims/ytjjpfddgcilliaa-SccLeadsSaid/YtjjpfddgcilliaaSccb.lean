/-
  CIRCLES: the iterator over cells from behind (slices.Backward): its contract, for every loop body.
  CIRCLES: parts, put in order by their first cells: the function that compares two of them; the library's sort of them.
-/
import Derived.Test.YtjjpfddgcilliaaScc9
import Derived.RangeFuncNested
set_option linter.unusedSimpArgs false
set_option linter.unusedVariables false
namespace Go.Proofs.Ytjjpfddgcilliaa
open Go.RowKit Go.Shelf Go.Sort Go.Lib Go.Maps
set_option maxRecDepth 100000
attribute [local go_sem] Oper.semAt_some

theorem fin_take {N k : Nat} (h : k < N) : (List.finRange N).take (k + 1) = (List.finRange N).take k ++ [⟨k, h⟩] := by
  rw [List.take_add_one, List.getElem?_eq_getElem (by simpa using h)]
  simp
theorem fin_takeAll (N : Nat) : (List.finRange N).take N = List.finRange N := List.take_of_length_le (by simp)
/-- what a round is handed: the place, and the cell there, from behind. -/
def bkC (M : List Ce) (x : Fin M.length) : Array Value := #[.int .i64 ((M.length - 1 - x.1 : Nat) : Int), mkC (M[M.length - 1 - x.1]'(by have := x.2; omega))]
/-- what a round keeps: all that is old, but for T. -/
def KpT (b0 : Nat) (T : Nat → Prop) (A B : World) : Prop := ∀ k, k < b0 → ¬ T k → B.heap[k]? = A.heap[k]?
theorem KpT.refl (b0 : Nat) (T : Nat → Prop) (A : World) : KpT b0 T A A := fun _ _ _ => rfl
theorem KpT.trans {b0 : Nat} {T : Nat → Prop} {A B C : World} (h : KpT b0 T A B) (k : KpT b0 T B C) : KpT b0 T A C := fun j h1 h2 => (k j h1 h2).trans (h j h1 h2)
theorem KpT.cell {b0 : Nat} {T : Nat → Prop} {A B : World} (h : KpT b0 T A B) {p : Addr} {v : Value} (h1 : p.block < b0) (h2 : ¬ T p.block) (hv : A.cell? p = some v) : B.cell? p = some v := (World.cell?_of_block (h _ h1 h2)).trans hv
theorem kpT_b {b0 : Nat} {T : Nat → Prop} {w : World} (hb : b0 ≤ w.heap.size) (W : World) (l : Nat) (o o' : Obj) (h1 : w.heap.size ≤ l) (_ : W.heap[l]? = some o) (_ : o.isCells = false) (_ : o.isWalk = false) : KpT b0 T W (W.putObj l o') := fun k hk _ => by
  unfold World.putObj
  exact Array.getElem?_setIfInBounds_ne (by omega)
theorem backwardC_in (n : Nat) (bt : Option Addr) (L ct : Nat) (w : World) :
    CallsIn Fence.wide n Try.prog 51 #[.slice bt L ct] w fun e w' => e = .returned (.func (.func 75) #[] #[.pointer (some ⟨w.heap.size, 0, none⟩)]) ∧ w' = w.alloc (.cells #[.slice bt L ct] 30) := by
  refine callsIn_of_wp Try.func51 rfl trivial ?_ rfl
  simp only [Try.ntmps51, List.size_toArray, List.length_cons, List.length_nil, Nat.reduceAdd, Nat.reduceSub, Array.replicate_succ, Array.replicate_zero, List.push_toArray, List.append_toArray, List.nil_append, List.cons_append]
  gi_wp2
  go_ret
  exact ⟨rfl, rfl⟩
set_option maxHeartbeats 8000000 in
theorem backwardC1_in (n : Nat) (hn : 1 ≤ n) (l Bs b0 : Nat) (T : Nat → Prop) (M : List Ce) (bn : Option Addr) (cn : Nat) (hl : M.length ≤ 100000) (J Jx : List (Fin M.length) → World → Prop)
    (hY : ∀ pre x W, J pre W → pre.length < M.length → YieldAt Fence.wide (n - 1) Try.prog l (bkC M x) W fun e W' =>
      (e = .returned (.bool true) ∧ J (pre ++ [x]) W' ∧ KpT b0 T W W') ∨ (e = .returned (.bool false) ∧ Jx (pre ++ [x]) W'))
    (W : World) (hB1 : Bs < b0) (hB2 : ¬ T Bs) (hBs : W.cell? ⟨Bs, 0, none⟩ = some (.slice bn M.length cn))
    (hcs : CsAt W (.slice bn M.length cn) M) (hbn : ∀ j, blkOf (.slice bn M.length cn) = some j → j < b0 ∧ ¬ T j) (h0 : J [] W) :
    CallsIn Fence.wide n Try.prog 75 #[.func (.yield l) #[] #[], .pointer (some ⟨Bs, 0, none⟩)] W fun e W' => (∃ v, e = .returned v) ∧
      ((∃ ys, ys = List.finRange M.length ∧ J ys W') ∨ (∃ pre, (∃ k, k ≤ M.length ∧ pre = (List.finRange M.length).take k) ∧ Jx pre W')) := by
  have HCS : Hid (∀ k (hk : k < M.length) (wr : World), KpT b0 T W wr → ∃ (y : Ce) (g o : Nat), bkC M ⟨k, hk⟩ = #[.int .i64 ((M.length : Int) - 1 - (k : Int)), mkC y] ∧ bn = some ⟨g, o, none⟩ ∧ wr.cell? ⟨g, o + (M.length - 1 - k) * 3, none⟩ = some (.int .i64 y.1) ∧ wr.cell? ⟨g, o + (M.length - 1 - k) * 3 + 1, none⟩ = some (.int .i64 y.2.1) ∧ wr.cell? ⟨g, o + (M.length - 1 - k) * 3 + 2, none⟩ = some (.int .i64 y.2.2)) := Lib.hid fun k hk wr hw => by
    obtain ⟨g, o, h1, h2, c0, c1, c2⟩ := hcs.at (M.length - 1 - k) (by omega)
    obtain ⟨j1, j2⟩ := hbn g (by rw [h1]; rfl)
    exact ⟨M[M.length - 1 - k]'(by omega), g, o, by unfold bkC; dsimp only; rw [show ((M.length - 1 - k : Nat) : Int) = (M.length : Int) - 1 - (k : Int) by omega], h1, hw.cell (p := ⟨g, _, none⟩) j1 j2 c0, hw.cell (p := ⟨g, _, none⟩) j1 j2 c1, hw.cell (p := ⟨g, _, none⟩) j1 j2 c2⟩
  have HY := Lib.hid hY
  have HBS := Lib.hid hBs
  have HBW : Hid (∀ wr, KpT b0 T W wr → wr.cell? ⟨Bs, 0, none⟩ = some (.slice bn M.length cn)) := Lib.hid fun wr hw => hw.cell (p := ⟨Bs, 0, none⟩) hB1 hB2 hBs
  have HTK : Hid (∀ k (h : k < M.length), (List.finRange M.length).take (k + 1) = (List.finRange M.length).take k ++ [⟨k, h⟩]) := Lib.hid (fun k h => fin_take h)
  have HTA := Lib.hid (fin_takeAll M.length)
  have HLT : Hid (∀ k, k < M.length → ((List.finRange M.length).take k).length < M.length) := Lib.hid (fun k h => by simp; omega)
  clear hcs hbn hY hBs
  refine callsIn_of_wp Try.func75 rfl trivial ?_ rfl
  simp only [Try.ntmps75, List.size_toArray, List.length_cons, List.length_nil, Nat.reduceAdd, Nat.reduceSub, Array.replicate_succ, Array.replicate_zero, List.push_toArray, List.append_toArray, List.nil_append, List.cons_append]
  have hb0 := HBS.out
  gi_wp2
  clear hb0
  gi_loopw [3] (fun r wr => ∃ k : Nat, k ≤ M.length ∧ r = .int .i64 ((M.length : Int) - 1 - (k : Int)) ∧ J ((List.finRange M.length).take k) wr ∧ KpT b0 T W wr) (fun r _ => (intOf r + 1).toNat)
  case atStart => exact ⟨0, Nat.zero_le _, by simp, h0, KpT.refl _ _ _⟩
  case round =>
    obtain ⟨k, hk, rfl, hJs, hnx⟩ := hrel
    have hb0 := HBW.out wr hnx
    have HNX := Lib.hid hnx
    by_cases hlt : k < M.length
    · obtain ⟨⟨y1, y2, y3⟩, g, o, hen, rfl, c0, c1, c2⟩ := HCS.out k hlt wr hnx
      obtain ⟨fn, tmps, assign, body, hy, hR⟩ := HY.out _ ⟨k, hlt⟩ wr hJs (HLT.out k hlt)
      rw [hen] at hy
      unfold mkC at hy
      dsimp only at hy c0 c1 c2
      have hix : ((M.length : Int) - 1 - (k : Int)).toNat = M.length - 1 - k := by omega
      have HR := Lib.hid hR
      have HTKk := Lib.hid (HTK.out k hlt)
      have hge : 0 ≤ (M.length : Int) - 1 - (k : Int) := by omega
      clear hJs hnx hen hR HY HCS
      gi_wp2
      refine HR.out.mono ?_
      rintro e W3 (⟨rfl, hJ3, hk3⟩ | ⟨rfl, hJx3⟩)
      · gi_wp2
        go_roundw
        case rel => exact ⟨k + 1, by omega, congrArg (Value.int .i64) (by omega), by rw [HTKk.out]; exact hJ3, HNX.out.trans hk3⟩
        case measure => simp [intOf]; omega
      · gi_wp2
        refine bodyPost_ret (results_none rfl _ _ _) rfl ?_
        exact ⟨⟨_, rfl⟩, .inr ⟨_, ⟨k + 1, by omega, HTKk.out.symm⟩, hJx3⟩⟩
    · obtain rfl : k = M.length := by omega
      have hneg : ¬ 0 ≤ (M.length : Int) - 1 - (M.length : Int) := by omega
      clear hnx
      gi_wp2
      go_end0
      rw [HTA.out] at hJs
      exact ⟨⟨_, rfl⟩, .inl hJs⟩
theorem backwardC_stops (n : Nat) (hn : 1 ≤ n) (Bs b0 : Nat) (T : Nat → Prop) (M : List Ce) (bn : Option Addr) (cn : Nat) (hl : M.length ≤ 100000) (w : World) (hBs : Bs < w.heap.size) (hB1 : Bs < b0) (hB2 : ¬ T Bs)
    (hc : w.cell? ⟨Bs, 0, none⟩ = some (.slice bn M.length cn)) (hcs : CsAt w (.slice bn M.length cn) M) (hbn : ∀ j, blkOf (.slice bn M.length cn) = some j → j < b0 ∧ ¬ T j) :
    SeqStopsK Fence.wide n Try.prog 75 #[.pointer (some ⟨Bs, 0, none⟩)] (bkC M) (KpT b0 T) (fun ys => ys = List.finRange M.length)
      (fun pre => ∃ k, k ≤ M.length ∧ pre = (List.finRange M.length).take k) M.length w := fun l J Jx W hW _ _ hY h0 =>
  backwardC1_in n hn l Bs b0 T M bn cn hl J Jx hY W hB1 hB2 ((hW.cell (p := ⟨Bs, 0, none⟩) hBs).trans hc) (hcs.below hW) hbn h0
end Go.Proofs.Ytjjpfddgcilliaa
namespace Go.Proofs.Ytjjpfddgcilliaa
open Go.RowKit Go.Shelf Go.Sort Go.Lib Go.Maps
set_option maxRecDepth 100000

/-- two lists, by their first cells. -/
def cfH (x y : List Ce) : Int := if cLt (hdC x) (hdC y) = true then -1 else 1
set_option maxHeartbeats 4000000 in
theorem of1_any (v1 v2 : Value) (l1 l2 : List Ce) (w : World) (h1 : CsAt w v1 l1) (h2 : CsAt w v2 l2) (n1 : l1 ≠ []) (n2 : l2 ≠ []) :
    Calls Try.prog 56 #[v1, v2] w fun e w' => e = .returned (.int .i64 (cfH l1 l2)) ∧ ∃ q os', w' = grow (w.drewN q) os' := by
  obtain ⟨b1, c1, rfl, k1⟩ := h1.shape
  clear h1
  obtain ⟨b2, c2, rfl, k2⟩ := h2.shape
  clear h2
  cases l1 with
  | nil => exact absurd rfl n1
  | cons x r1 =>
  cases l2 with
  | nil => exact absurd rfl n2
  | cons y r2 =>
  obtain ⟨g1, o1, rfl, z1, a0, a1, a2⟩ := k1 0 (by simp)
  obtain ⟨g2, o2, rfl, z2, d0, d1, d2⟩ := k2 0 (by simp)
  have HC : Hid (cfH (x :: r1) (y :: r2) = if cLt x y then -1 else 1) := Lib.hid rfl
  have HL : Hid (∀ W, Calls Try.prog 57 #[mkC x, mkC y] W fun e w' => e = .returned (.bool (cLt x y)) ∧ ∃ q os', w' = grow (W.drewN q) os') := Lib.hid fun W => less_any x y W
  obtain ⟨R, hR⟩ : ∃ R, R = cfH (x :: r1) (y :: r2) := ⟨_, rfl⟩
  rw [← hR]
  have HR : Hid (R = if cLt x y then -1 else 1) := Lib.hid (hR.trans HC.out)
  clear hR HC
  have hp1 : 0 < (x :: r1).length := by simp
  have hp2 : 0 < (y :: r2).length := by simp
  clear k1 k2 n1 n2
  simp only [List.getElem_cons_zero, Nat.zero_mul, Nat.add_zero] at a0 a1 a2 d0 d1 d2
  generalize (x :: r1).length = m1 at *
  generalize (y :: r2).length = m2 at *
  obtain ⟨x1, x2, x3⟩ := x
  obtain ⟨y1, y2, y3⟩ := y
  unfold mkC at *
  dsimp only at HL a0 a1 a2 d0 d1 d2 HR ⊢
  generalize cLt (x1, x2, x3) (y1, y2, y3) = p at *
  have hq1 : (0 : Int) < (m1 : Int) := by omega
  have hq2 : (0 : Int) < (m2 : Int) := by omega
  cases p with
  | true =>
    have hr := HR.out
    simp only [if_true] at hr
    replace HR := Lib.hid hr
    clear hr
    go_enter Try.func56, Try.ntmps56
    go_wp2_with fail
    refine wp_region_held_drew (S := fun w' => w'.cell? ⟨g1, o1, none⟩ = some (.int .i64 x1) ∧ w'.cell? ⟨g1, o1 + 1, none⟩ = some (.int .i64 x2) ∧ w'.cell? ⟨g1, o1 + 2, none⟩ = some (.int .i64 x3) ∧ w'.cell? ⟨g2, o2, none⟩ = some (.int .i64 y1) ∧ w'.cell? ⟨g2, o2 + 1, none⟩ = some (.int .i64 y2) ∧ w'.cell? ⟨g2, o2 + 2, none⟩ = some (.int .i64 y3)) (by kernel_rfl) ⟨a0, a1, a2, d0, d1, d2⟩ (fun hHeld => ?_)
    refine tk 0 ?_
    refine tk 1 ?_
    refine tk 2 ?_
    refine tk 3 ?_
    refine tk 4 ?_
    refine tk 5 ?_
    refine rd1 6 (by kernel_rfl) rfl fun K hK => ?_
    go_simp
    (go_at_call 57; refine (HL.out _).mono ?_; rintro e w1 ⟨rfl, hg⟩)
    try (go_wp2_with fail)
    have hb := grow_below hg
    have HG := Lib.hid hg
    clear hg
    refine hK.out _ _ ⟨belK hb a0 z1, belK hb a1 z1, belK hb a2 z1, belK hb d0 z2, belK hb d1 z2, belK hb d2 z2⟩ (fun hHeld => ?_)
    clear hK K
    try simp only [pz]
    refine wpAnyH_done (by kernel_rfl) ?_ _
    all_goals go_wp2_with fail
    all_goals first | go_ret | go_ret2
    all_goals exact ⟨ret_int HR.out.symm, grow_tr (grow_drew (grow_rf w)) HG.out⟩
  | false =>
    have hr := HR.out
    simp only [Bool.false_eq_true, if_false] at hr
    replace HR := Lib.hid hr
    clear hr
    go_enter Try.func56, Try.ntmps56
    go_wp2_with fail
    refine wp_region_held_drew (S := fun w' => w'.cell? ⟨g1, o1, none⟩ = some (.int .i64 x1) ∧ w'.cell? ⟨g1, o1 + 1, none⟩ = some (.int .i64 x2) ∧ w'.cell? ⟨g1, o1 + 2, none⟩ = some (.int .i64 x3) ∧ w'.cell? ⟨g2, o2, none⟩ = some (.int .i64 y1) ∧ w'.cell? ⟨g2, o2 + 1, none⟩ = some (.int .i64 y2) ∧ w'.cell? ⟨g2, o2 + 2, none⟩ = some (.int .i64 y3)) (by kernel_rfl) ⟨a0, a1, a2, d0, d1, d2⟩ (fun hHeld => ?_)
    refine tk 0 ?_
    refine tk 1 ?_
    refine tk 2 ?_
    refine tk 3 ?_
    refine tk 4 ?_
    refine tk 5 ?_
    refine rd1 6 (by kernel_rfl) rfl fun K hK => ?_
    go_simp
    (go_at_call 57; refine (HL.out _).mono ?_; rintro e w1 ⟨rfl, hg⟩)
    try (go_wp2_with fail)
    have hb := grow_below hg
    have HG := Lib.hid hg
    clear hg
    refine hK.out _ _ ⟨belK hb a0 z1, belK hb a1 z1, belK hb a2 z1, belK hb d0 z2, belK hb d1 z2, belK hb d2 z2⟩ (fun hHeld => ?_)
    clear hK K
    try simp only [pz]
    refine wpAnyH_done (by kernel_rfl) ?_ _
    all_goals go_wp2_with fail
    all_goals first | go_ret | go_ret2
    all_goals exact ⟨ret_int HR.out.symm, grow_tr (grow_drew (grow_rf w)) HG.out⟩
/-- a list of lists, and each of them, in blocks from n on. -/
structure PsAt (W : World) (n : Nat) (v : Value) (Z : List (Value × List Ce)) : Prop where
  r : W.ownsRow n 30 1 v Z.length (Z.map Prod.fst)
  e : ∀ p ∈ Z, CsAt W p.1 p.2 ∧ p.2 ≠ [] ∧ p.1.oneCell' = true ∧ ∀ j, blkOf p.1 = some j → n ≤ j ∧ v.ownBlock ≠ some j
/-- lists, in memory, apart from block g. -/
abbrev Pt (w : World) (g : Nat) : Type := { p : Value × List Ce // CsAt w p.1 p.2 ∧ p.2 ≠ [] ∧ p.1.oneCell' = true ∧ blkOf p.1 ≠ some g }
def cfP {w : World} {g : Nat} (x y : Pt w g) : Int := cfH x.1.2 y.1.2
theorem ltOf_cfP {w : World} {g : Nat} (x y : Pt w g) : ltOf cfP x y = cLt (hdC x.1.2) (hdC y.1.2) := by
  unfold ltOf cfP cfH
  cases cLt (hdC x.1.2) (hdC y.1.2) <;> simp
theorem swo_cfP (w : World) (g : Nat) : SWO (ltOf (cfP (w := w) (g := g))) where
  irrefl x := by rw [ltOf_cfP]; exact cLt_irrefl _
  trans x y z h1 h2 := by rw [ltOf_cfP] at *; exact cLt_trans h1 h2
  ntrans x y z h1 h2 := by rw [ltOf_cfP] at *; rw [cLt_false] at *; omega
theorem sortW_kept {α : Type} [Inhabited α] (enc : α → Value) (w : World) (g n : Nat) (d : Array α) (os : Array Obj) : w.grownBy (sortWorld enc w g 0 n d os) (some g) := by
  unfold sortWorld
  refine ⟨rfl, rfl, rfl, by simp, fun k hk hne => ?_⟩
  rw [heap_grow_old _ _ (by simpa using hk)]
  have : g ≠ k := fun e => hne (by rw [e])
  simp [putRow, mapBlock, Sort.ahead, Array.getElem?_modify, this]
theorem sortW_block {α : Type} [Inhabited α] (enc : α → Value) {w : World} {g n : Nat} {cur : Array Value} {t : TypeId} (d : Array α) (os : Array Obj) (hg : w.heap[g]? = some (.cells cur t (0, 0))) : (sortWorld enc w g 0 n d os).heap[g]? = some (.cells (putCells enc 0 d cur) t (0, 0)) := by
  have hlt := (Array.getElem?_eq_some_iff.1 hg).1
  unfold sortWorld
  rw [heap_grow_old _ _ (by simpa [putRow, mapBlock, Sort.ahead] using hlt)]
  simp [putRow, mapBlock, Sort.ahead, Array.getElem?_modify, hg, onCells]
theorem take_put {α : Type} [Inhabited α] (enc : α → Value) (d : Array α) (cur : Array Value) (h : d.size ≤ cur.size) : (putCells enc 0 d cur).toList.take d.size = d.toList.map enc := by
  apply List.ext_getElem?
  intro j
  rw [List.getElem?_take]
  split
  · rename_i hj
    have hj2 : j < cur.size := by omega
    rw [Array.getElem?_toList]
    unfold putCells
    simp [hj, hj2]
  · rename_i hj
    rw [List.getElem?_eq_none (by simp; omega)]
theorem sortP_any (n g cap : Nat) (Z : List (Value × List Ce)) (w : World) (hZ : PsAt w n (.slice (some ⟨g, 0, none⟩) Z.length cap) Z) (h0 : Z ≠ []) (hsz : Z.length < 4611686018427387904) :
    Calls Try.prog 55 #[.slice (some ⟨g, 0, none⟩) Z.length cap, .func (.func 56) #[] #[]] w fun e w' =>
      e = .returned (.tuple #[]) ∧ ∃ Z', Z'.Perm Z ∧ PsAt w' n (.slice (some ⟨g, 0, none⟩) Z.length cap) Z' ∧ Z'.Pairwise (fun p q => cLt (hdC q.2) (hdC p.2) = false) ∧ w.grownBy w' (some g) := by
  obtain ⟨⟨hl, hr⟩, he⟩ := hZ
  rcases hr with ⟨h, _⟩ | ⟨g', cap', cur, hv, hng, hgg, hnc, hcm, hcs, htk⟩
  · cases h
  cases hv
  have hp : ∀ p ∈ Z, CsAt w p.1 p.2 ∧ p.2 ≠ [] ∧ p.1.oneCell' = true ∧ blkOf p.1 ≠ some g := fun p hp => by
    obtain ⟨a, b, c, d⟩ := he p hp
    exact ⟨a, b, c, fun e => (d g e).2 rfl⟩
  obtain ⟨p0, hp0⟩ := List.exists_mem_of_ne_nil Z h0
  letI : Inhabited (Pt w g) := ⟨⟨p0, hp p0 hp0⟩⟩
  obtain ⟨d, hd⟩ : ∃ d : Array (Pt w g), d.toList.map (fun x => x.1) = Z := by
    refine ⟨(Z.attach.map fun p => (⟨p.1, hp p.1 p.2⟩ : Pt w g)).toArray, ?_⟩
    rw [List.toList_toArray, List.map_map]
    exact List.attach_map_subtype_val Z
  have hds : d.size = Z.length := by rw [← hd]; simp
  have hen : d.toList.map (fun x : Pt w g => x.1.1) = Z.map Prod.fst := by rw [← hd, List.map_map]; rfl
  have hH : Holds (fun x : Pt w g => x.1.1) w g 0 d := fun j hj => by
    refine ⟨?_, by simp [World.frozen?, hgg]⟩
    have h1 : (cur.toList.take (Z.length * 1))[j]? = (d.toList.map (fun x : Pt w g => x.1.1))[j]? := by rw [htk, hen]
    rw [List.getElem?_take_of_lt (by omega), List.getElem?_map, Array.getElem?_toList, Array.getElem?_toList, Array.getElem?_eq_getElem hj] at h1
    simp only [World.cell?, hgg, Nat.zero_add, Option.isSome_none, Bool.false_eq_true, if_false]
    rw [h1, getElem!_pos d j hj]; rfl
  have eg : ∀ args w, (callFunc 56 args).run Try.prog w = .ok (.enter 56 args) w := enters_of Try.func56 (by kernel_rfl) rfl
  have hcmp : CmpLays1 Try.prog 56 #[] (fun x : Pt w g => x.1.1) cfP g 0 d.size w := fun m os dk _ x y =>
    of1_any x.1.1 y.1.1 x.1.2 y.1.2 _ (x.2.1.rowed (sortW_kept _ _ _ _ _ _) fun j hj e => x.2.2.2.2 (hj.trans e.symm)) (y.2.1.rowed (sortW_kept _ _ _ _ _ _) fun j hj e => y.2.2.2.2 (hj.trans e.symm)) x.2.2.1 y.2.2.1
  have hcon := Any.slices_SortFunc Try.sortP (fun x : Pt w g => x.1.1) (fun x => x.2.2.2.1) cfP (swo_cfP w g) 56 #[] g 0 cap d w eg hcmp hH (Array.getElem?_eq_some_iff.1 hgg).1 (by omega)
  change Calls Try.prog 55 _ _ _ at hcon
  rw [hds] at hcon
  refine hcon.mono ?_
  rintro e w' ⟨rfl, d', m, os, hperm, hs, rfl⟩
  have hz' : d'.size = Z.length := hperm.1.trans hds
  have hpm : (d'.toList.map (fun x => x.1)).Perm Z := by
    have h := hperm.2.2
    rw [Array.extract_eq_self_of_le (by omega), Array.extract_eq_self_of_le (by omega)] at h
    rw [← hd]
    exact h.map _
  refine ⟨rfl, d'.toList.map (fun x => x.1), hpm, ⟨⟨by rw [List.length_map, hpm.length_eq, Nat.mul_one], Or.inr ⟨g, cap, putCells (fun x : Pt w g => x.1.1) 0 d' cur, by simp [hz'], hng, sortW_block _ _ _ hgg, by simp [hz']; exact hnc, hcm, by simp [putCells]; omega, ?_⟩⟩, fun p hp' => ?_⟩, ?_, sortW_kept _ _ _ _ _ _⟩
  · rw [List.map_map, List.length_map, Array.length_toList, Nat.mul_one]
    exact take_put _ _ _ (by omega)
  · obtain ⟨a, b, c, e⟩ := he p (hpm.mem_iff.1 hp')
    exact ⟨a.rowed (sortW_kept _ _ _ _ _ _) fun j hj h => (e j hj).2 h, b, c, e⟩
  · rw [List.pairwise_map, List.pairwise_iff_getElem]
    intro i j hi hj hij
    have := hs i j (Nat.zero_le _) hij (by simpa [hz'] using hj)
    rw [ltOf_cfP, getElem!_pos d' j (by simpa using hj), getElem!_pos d' i (by simpa using hi)] at this
    simpa using this
end Go.Proofs.Ytjjpfddgcilliaa
