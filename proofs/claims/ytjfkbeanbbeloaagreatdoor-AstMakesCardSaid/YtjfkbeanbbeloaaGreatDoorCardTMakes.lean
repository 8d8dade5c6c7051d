/- Formulas that are made one of another, and parts of them, or why there are none, are what the document says; whatever is told can be: for any list of acts (the tied card of AstMakes: of a list of more than 60 acts, and from an act on whose texts are longer than the statement looks at, it asks the fixed calls alone; no condition but the form's own; the program's variable of the faults' names, and the listed tables of the library, are laid). -/
import Derived.Test.YtjfkbeanbbeloaaGreatDoorAst80
import Derived.Test.YtjfkbeanbbeloaaGreatDoorCards
import Derived.Test.YtjfkbeanbbeloaaGreatDoorTie
import Derived.ProofKit
import Derived.LaidMore
import Derived.Lay
import Derived.SizedLaws
import Derived.SevenTiedAt
import Derived.Stop.Joined
set_option maxRecDepth 100000
set_option linter.unusedSimpArgs false
set_option linter.unusedVariables false
namespace Go.Proofs.YtjfkbeanbbeloaaGreatDoor
open Go.ChangeShapes Go.WideShapes Go.ChangeAt Go.RowKit Go.ChangeMaps
namespace CardAstMakes
theorem c0y:laidOutB Tryz.prog=true:=by kernel_rfl
theorem own:ownKnob Tryz.prog.godebug=none:=by kernel_rfl
theorem c7z (os:Os) (started:os.Started) (H:Type) (enc:TypeId × Value→H) :
  ReturnsInHanded {} Tryz.checked os 3 .any (fun w args => (Rows.astMakesSpec.pre enc Tryz.prog Tryz.f3 Rows.astMakesRow.domain false w args∧laidMetH Tryz.prog Rows.astMakesRow.laid w)∧sizedMet enc Tryz.prog Tryz.f3 (OpenSpec.ofChange Rows.astMakesSpec) false w args)
   (Rows.astMakesSpec.post enc Tryz.prog Tryz.f3 false true false false):=by
 refine returnsInHanded_of_change_and (C:=Tryz.checked) (X:=fun w _ => laidMetH Tryz.prog Rows.astMakesRow.laid w) (fun _ _ _ hh h => h.of_heap hh) own started (by kernel_rfl) Tryz.func3
  (ChangeSpec.witness_shaped (enc:=enc) (C:=Tryz.checked) (os:=os) (X:=fun w _ => laidMetH Tryz.prog Rows.astMakesRow.laid w) false (World.laidAll Tryz.prog os Rows.astMakesRow.laid) #[.slice none 0 0] 8 (World.laidAll_os _ _ _)
   (World.shaped_of_ZipB (by kernel_rfl) (by kernel_rfl)) (by kernel_rfl) (by kernel_rfl) (by kernel_rfl)
   (by rw [MakeChecks.laidMetH_plain _ _ _ (by kernel_rfl)];exact laidMet_laidAll _ (by kernel_rfl) (by kernel_rfl))) ?_
 intro W base args ds gs before hval0 hW _ _ hL0 _;have hval:∀ (j:Nat) t v,Tryz.f3.params[j]?=some t→args[j]?=some v→Value.okWide Tryz.prog W .any base t v:=hval0;have hW':=hW;obtain ⟨p,q,hA0,hV,rfl,_,_⟩:=hW;have hA:DataW.TrodAll enc Tryz.prog W 0 (fun _ => true) true Tryz.f3.params.toList args.toList ds p:=hA0;rw [Tryz.params3] at hA hval;obtain ⟨v0,d0,rfl,rfl,h0⟩:=trodAll_one hA;obtain ⟨rfl,rfl⟩:=trodVars_none hV;have hk0:=h0;obtain ⟨aN,an⟩:=d3y (hval 0 22 v0 rfl rfl) h0;have hlt0:∀ x ∈ p,x.block < W.heap.size:=fun x hx => by simpa using hW'.lt x (by simp [hx])
 have hL:=hL0;rw [MakeChecks.laidMetH_plain _ _ _ (by kernel_rfl)] at hL;have hnm:NamesAt W:=c2p (d:=(List.range 8).map fun i => .lit (.string (c2o i).data.toList)) rfl (Lib.laidMet.reads hL (.tail _ (.head _)));simp only [List.append_nil] at hW';refine (d2z v0 aN W an hnm).mono fun e W' ⟨he,hB⟩ => ?_
 subst he;exact ⟨_,rfl,⟨_,_,_,[],_,[],hW',trodAll_mk1 (shut_bool Tryz.underlying4 _),trodAll_mk1 (Below.trod c0y (by kernel_rfl) (of_decide_eq_true (by kernel_rfl)) hk0 hB hlt0),rfl,hB.frame _,fun h => by cases h⟩⟩
theorem said:Rows.AstMakesSaid :=
 OpenClaim.holds_of_wide 3 Tryz.f3 rfl rfl rfl rfl rfl rfl rfl ⟨rfl,rfl,rfl,rfl,rfl⟩ rfl rfl rfl rfl rfl (by kernel_rfl) Tryz.func3 (by kernel_rfl)
  (of_decide_eq_true (by kernel_rfl)) (by unfold Func.isWrapper;first | (rw [if_pos (by decide +kernel)];kernel_rfl) | (rw [if_neg (by decide +kernel)];exact ⟨rfl,rfl⟩))
  (fun os started H enc _ => c7z os started H enc)
theorem plain (f : FuncId) (fn : Func) (hf : Tryz.pinned.checked.prog.funcNamed "abacist/abacistlaw13.AstMakes" = some f) (hfn : Tryz.pinned.checked.prog.funcs[f]? = some fn) :
  false=Tryz.pinned.checked.prog.looks []∧∀ (j:Nat) t,fn.params[j]?=some t→Tryz.pinned.checked.prog.wantsStandIn t=false:=by
 obtain rfl : f = 3 := Option.some.inj ((show Tryz.prog.funcNamed "abacist/abacistlaw13.AstMakes" = some 3 by kernel_rfl).symm.trans hf) |>.symm
 obtain rfl:fn=Tryz.f3:=(Option.some.inj (Tryz.func3.symm.trans hfn)).symm;refine ⟨by kernel_rfl,fun j t ht => ?_⟩
 rw [Tryz.params3] at ht;have hm:t ∈ [22]:=by simpa using Array.mem_of_getElem? ht
 have hall:([22].all fun u => !Tryz.prog.wantsStandIn u)=true:=by kernel_rfl
 exact (show Tryz.prog.wantsStandIn t=false by simpa using List.all_eq_true.1 hall t hm)
end CardAstMakes
theorem astMakes_card:Rows.AstMakesCardSaid :=
 Claim7.holds_tied_plain_at .later [] _ _ _ _ CardAstMakes.said (fun _ h => by cases h) (by kernel_rfl) (fun _ h => by cases h) astMakes_row_tie rfl ⟨rfl,rfl⟩ (by kernel_rfl) rfl CardAstMakes.plain (by kernel_rfl)
end Go.Proofs.YtjfkbeanbbeloaaGreatDoor
