/- What is left of any number by any other one, or why not, is what the document says; it is 0, or has the divisor's sign, and a lesser amount: of any number, also one that is not right, whose texts are as long as the form's own bound (the tied card of RoundMods: no condition but the form's own; the listed tables of the library are laid, and not read). -/
import Derived.Test.YtbgmnpabclfjaaaGreatDoorRound26
import Derived.Test.YtbgmnpabclfjaaaGreatDoorAggR
import Derived.Test.YtbgmnpabclfjaaaGreatDoorCards
import Derived.Test.YtbgmnpabclfjaaaGreatDoorTie
import Derived.ProofKit
import Derived.OpenShut
import Derived.LaidMore
import Derived.Lay
import Derived.SizedLaws
import Derived.SevenTiedAt
import Derived.Stop.Joined
namespace Go.Proofs.YtbgmnpabclfjaaaGreatDoor
open Go.ChangeShapes Go.WideShapes Go.ChangeAt Go.RowKit Go.ChangeMaps

namespace CardRoundMods
theorem own : ownKnob Tryz.prog.godebug = none := by kernel_rfl

set_option maxRecDepth 100000 in
theorem lifted (os : Os) (started : os.Started) (H : Type) (enc : TypeId × Value → H) :
    ReturnsInHanded {} Tryz.checked os 6 .any (fun w args => (Rows.roundModsSpec.pre enc Tryz.prog Tryz.f6 Rows.roundModsRow.domain false w args ∧ laidMetH Tryz.prog Rows.roundModsRow.laid w) ∧ sizedMet enc Tryz.prog Tryz.f6 (OpenSpec.ofChange Rows.roundModsSpec) false w args)
      (Rows.roundModsSpec.post enc Tryz.prog Tryz.f6 false true false false) := by
  refine returnsInHanded_of_change_and (C := Tryz.checked) (X := fun w _ => laidMetH Tryz.prog Rows.roundModsRow.laid w) (fun _ _ _ hh h => h.of_heap hh) own started (by kernel_rfl) Tryz.func6
    (ChangeSpec.witness_shaped (enc := enc) (C := Tryz.checked) (os := os) (X := fun w _ => laidMetH Tryz.prog Rows.roundModsRow.laid w) false (World.laidAll Tryz.prog os Rows.roundModsRow.laid) #[.agg #[.bool false, .string ⟨#[]⟩, .string ⟨#[]⟩], .agg #[.bool false, .string ⟨#[]⟩, .string ⟨#[]⟩]] 8 (World.laidAll_os _ _ _)
      (World.shaped_of_ZipB (by kernel_rfl) (by kernel_rfl)) (by kernel_rfl) (by kernel_rfl) (by kernel_rfl)
      (by rw [MakeChecks.laidMetH_plain _ _ _ (by kernel_rfl)]; exact laidMet_laidAll _ (by kernel_rfl) (by kernel_rfl))) ?_
  intro W base args ds gs before hval0 hW _ hsz _ _
  have hval : ∀ (j : Nat) t v, Tryz.f6.params[j]? = some t → args[j]? = some v → Value.okWide Tryz.prog W .any base t v := hval0
  have hW' := hW
  obtain ⟨p, q, hA0, hV, rfl, _, _⟩ := hW
  have hA : DataW.TrodAll enc Tryz.prog W 0 (fun _ => true) true Tryz.f6.params.toList args.toList ds p := hA0
  rw [Tryz.params6] at hA hval
  obtain ⟨v0, v1, d0, d1, p0, p1, rfl, rfl, rfl, h0, h1⟩ := trodAll_two hA
  obtain ⟨rfl, rfl⟩ := trodVars_none hV
  obtain ⟨an, am, ad, rfl, rfl, rfl, wa, wa'⟩ := open_rat (hval 0 23 v0 rfl rfl) h0
  obtain ⟨bn, bm, bd, rfl, rfl, rfl, wb, wb'⟩ := open_rat (hval 1 23 v1 rfl rfl) h1
  obtain ⟨has, hau⟩ := sized_rat hsz (j := 0) (b := an) (s := am) (u := ad) rfl rfl
  obtain ⟨hbs, hbu⟩ := sized_rat hsz (j := 1) (b := bn) (s := bm) (u := bd) rfl rfl
  simp only [List.append_nil] at hW'
  refine (roundMods_any an bn am ad bm bd W has hau hbs hbu).mono fun e W' ⟨he, hB⟩ => ?_
  subst he
  exact ⟨_, rfl, ⟨_, _, _, [], _, [], hW', trodAll_mk1 (shut_bool Tryz.underlying4 _), trodAll_mk2 (shut_rat an wa wa') (shut_rat bn wb wb'), rfl, hB.frame _, fun h => by cases h⟩⟩

theorem said : Rows.RoundModsSaid :=
  OpenClaim.holds_of_wide 6 Tryz.f6 rfl rfl rfl rfl rfl rfl rfl ⟨rfl, rfl, rfl, rfl, rfl⟩ rfl rfl rfl rfl rfl (by kernel_rfl) Tryz.func6 (by kernel_rfl)
    (of_decide_eq_true (by kernel_rfl)) (by unfold Func.isWrapper; first | (rw [if_pos (by decide +kernel)]; kernel_rfl) | (rw [if_neg (by decide +kernel)]; exact ⟨rfl, rfl⟩))
    (fun os started H enc _ => lifted os started H enc)
theorem plain (f : FuncId) (fn : Func) (hf : Tryz.pinned.checked.prog.funcNamed "abacist/abacistlaw06.RoundMods" = some f) (hfn : Tryz.pinned.checked.prog.funcs[f]? = some fn) :
    false = Tryz.pinned.checked.prog.looks [] ∧ ∀ (j : Nat) t, fn.params[j]? = some t → Tryz.pinned.checked.prog.wantsStandIn t = false := by
  obtain rfl : f = 6 := Option.some.inj ((show Tryz.prog.funcNamed "abacist/abacistlaw06.RoundMods" = some 6 by kernel_rfl).symm.trans hf) |>.symm
  obtain rfl : fn = Tryz.f6 := (Option.some.inj (Tryz.func6.symm.trans hfn)).symm
  refine ⟨by kernel_rfl, fun j t ht => ?_⟩
  rw [Tryz.params6] at ht
  have hm : t ∈ [23, 23] := by simpa using Array.mem_of_getElem? ht
  have hall : ([23, 23].all fun u => !Tryz.prog.wantsStandIn u) = true := by kernel_rfl
  exact (show Tryz.prog.wantsStandIn t = false by simpa using List.all_eq_true.1 hall t hm)
end CardRoundMods
theorem roundMods_card : Rows.RoundModsCardSaid :=
  Claim7.holds_tied_plain_at .later [] _ _ _ _ CardRoundMods.said (fun _ h => by cases h) (by kernel_rfl) (fun _ h => by cases h) roundMods_row_tie rfl ⟨rfl, rfl⟩ (by kernel_rfl) rfl CardRoundMods.plain (by kernel_rfl)
end Go.Proofs.YtbgmnpabclfjaaaGreatDoor
