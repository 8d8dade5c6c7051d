/- Any reference, and both ends of any area, where some columns or rows were put in, or taken out, or that they are nowhere, are what the document says; what was put in and taken out again leaves a reference as it was: for any two references and any change (the tied card of RefShifts: of sheets' names longer than 200 bytes the statement asks the fixed calls alone; no condition but the form's own; the listed tables of the library are laid, and not read). -/
import Derived.Test.YtlpjaflolnggnaaGreatDoorCel30
import Derived.Test.YtlpjaflolnggnaaGreatDoorAggC
import Derived.Test.YtlpjaflolnggnaaGreatDoorCards
import Derived.Test.YtlpjaflolnggnaaGreatDoorTie
import Derived.ProofKit
import Derived.OpenShut
import Derived.LaidMore
import Derived.Lay
import Derived.SizedLaws
import Derived.SevenTiedAt
import Derived.Stop.Joined
namespace Go.Proofs.YtlpjaflolnggnaaGreatDoor
set_option linter.unusedSimpArgs false
set_option linter.unusedVariables false
open Go.ChangeShapes Go.WideShapes Go.ChangeAt Go.RowKit Go.ChangeMaps

namespace CardRefShifts
theorem own : ownKnob Tryz.prog.godebug = none := by kernel_rfl

set_option maxRecDepth 100000 in
theorem lifted (os : Os) (started : os.Started) (H : Type) (enc : TypeId × Value → H) :
    ReturnsInHanded {} Tryz.checked os 4 .any (fun w args => (Rows.refShiftsSpec.pre enc Tryz.prog Tryz.f4 Rows.refShiftsRow.domain false w args ∧ laidMetH Tryz.prog Rows.refShiftsRow.laid w) ∧ sizedMet enc Tryz.prog Tryz.f4 (OpenSpec.ofChange Rows.refShiftsSpec) false w args)
      (Rows.refShiftsSpec.post enc Tryz.prog Tryz.f4 false true false false) := by
  refine returnsInHanded_of_change_and (C := Tryz.checked) (X := fun w _ => laidMetH Tryz.prog Rows.refShiftsRow.laid w) (fun _ _ _ hh h => h.of_heap hh) own started (by kernel_rfl) Tryz.func4
    (ChangeSpec.witness_shaped (enc := enc) (C := Tryz.checked) (os := os) (X := fun w _ => laidMetH Tryz.prog Rows.refShiftsRow.laid w) false (World.laidAll Tryz.prog os Rows.refShiftsRow.laid) #[.agg #[.string ⟨#[]⟩, .int .i64 0, .int .i64 0, .bool false, .bool false], .agg #[.string ⟨#[]⟩, .int .i64 0, .int .i64 0, .bool false, .bool false], .agg #[.int .i64 0, .int .i64 0, .int .i64 0]] 8 (World.laidAll_os _ _ _)
      (World.shaped_of_ZipB (by kernel_rfl) (by kernel_rfl)) (by kernel_rfl) (by kernel_rfl) (by kernel_rfl)
      (by rw [MakeChecks.laidMetH_plain _ _ _ (by kernel_rfl)]; exact laidMet_laidAll _ (by kernel_rfl) (by kernel_rfl))) ?_
  intro W base args ds gs before hval0 hW _ _ _ _
  have hval : ∀ (j : Nat) t v, Tryz.f4.params[j]? = some t → args[j]? = some v → Value.okWide Tryz.prog W .any base t v := hval0
  have hW' := hW
  obtain ⟨p, q, hA0, hV, rfl, _, _⟩ := hW
  have hA : DataW.TrodAll enc Tryz.prog W 0 (fun _ => true) true Tryz.f4.params.toList args.toList ds p := hA0
  rw [Tryz.params4] at hA hval
  obtain ⟨v0, v1, v2, d0, d1, d2, p0, p1, p2, rfl, rfl, rfl, h0, h1, h2⟩ := trodAll_three hA
  obtain ⟨rfl, rfl⟩ := trodVars_none hV
  obtain ⟨a0, a1, a2, a3, a4, rfl, rfl, rfl, wa, wa1, wa2⟩ := open_ref (hval 0 23 v0 rfl rfl) h0
  obtain ⟨b0, b1, b2, b3, b4, rfl, rfl, rfl, wb, wb1, wb2⟩ := open_ref (hval 1 23 v1 rfl rfl) h1
  obtain ⟨c1, c2, c3, rfl, rfl, rfl, wc1, wc2, wc3⟩ := open_change (hval 2 29 v2 rfl rfl) h2

  simp only [List.append_nil] at hW'
  refine (refShifts_any ⟨a0, a1, a2, a3, a4⟩ ⟨b0, b1, b2, b3, b4⟩ c1 c2 c3 W wa wb).mono fun e W' ⟨he, hB⟩ => ?_
  subst he
  exact ⟨_, rfl, ⟨_, _, _, [], _, [], hW', trodAll_mk1 (shut_bool Tryz.underlying4 _), trodAll_mk3 (shut_ref a3 a4 wa wa1 wa2) (shut_ref b3 b4 wb wb1 wb2) (shut_change wc1 wc2 wc3), rfl, hB.frame _, fun h => by cases h⟩⟩

theorem said : Rows.RefShiftsSaid :=
  OpenClaim.holds_of_wide 4 Tryz.f4 rfl rfl rfl rfl rfl rfl rfl ⟨rfl, rfl, rfl, rfl, rfl⟩ rfl rfl rfl rfl rfl (by kernel_rfl) Tryz.func4 (by kernel_rfl)
    (of_decide_eq_true (by kernel_rfl)) (by unfold Func.isWrapper; first | (rw [if_pos (by decide +kernel)]; kernel_rfl) | (rw [if_neg (by decide +kernel)]; exact ⟨rfl, rfl⟩))
    (fun os started H enc _ => lifted os started H enc)
theorem plain (f : FuncId) (fn : Func) (hf : Tryz.pinned.checked.prog.funcNamed "abacist/abacistlaw11.RefShifts" = some f) (hfn : Tryz.pinned.checked.prog.funcs[f]? = some fn) :
    true = Tryz.pinned.checked.prog.looks [] ∧ ∀ (j : Nat) t, fn.params[j]? = some t → Tryz.pinned.checked.prog.wantsStandIn t = false := by
  obtain rfl : f = 4 := Option.some.inj ((show Tryz.prog.funcNamed "abacist/abacistlaw11.RefShifts" = some 4 by kernel_rfl).symm.trans hf) |>.symm
  obtain rfl : fn = Tryz.f4 := (Option.some.inj (Tryz.func4.symm.trans hfn)).symm
  refine ⟨by kernel_rfl, fun j t ht => ?_⟩
  rw [Tryz.params4] at ht
  have hm : t ∈ [23, 23, 29] := by simpa using Array.mem_of_getElem? ht
  have hall : ([23, 23, 29].all fun u => !Tryz.prog.wantsStandIn u) = true := by kernel_rfl
  exact (show Tryz.prog.wantsStandIn t = false by simpa using List.all_eq_true.1 hall t hm)
end CardRefShifts
theorem refShifts_card : Rows.RefShiftsCardSaid :=
  Claim7.holds_tied_plain_at .later [] _ _ _ _ CardRefShifts.said (fun _ h => by cases h) (by kernel_rfl) (fun _ h => by cases h) refShifts_row_tie rfl ⟨rfl, rfl⟩ (by kernel_rfl) rfl CardRefShifts.plain (by kernel_rfl)
end Go.Proofs.YtlpjaflolnggnaaGreatDoor
