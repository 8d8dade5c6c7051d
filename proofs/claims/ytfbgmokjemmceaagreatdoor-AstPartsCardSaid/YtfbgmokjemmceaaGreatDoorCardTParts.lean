/- Parts of two formulas with an operator between are these two; so are those of a call its arguments: for any two formulas, any number of an operator and any name (the tied card of AstParts: of a formula of more than 320 nodes, or 400 arguments, or with texts longer than 500 bytes, or of a name longer than 100 bytes, the statement asks the fixed calls alone; no condition but the form's own; the program's variable of the faults' names, and the listed tables of the library, are laid). -/
import Derived.Test.YtfbgmokjemmceaaGreatDoorAst57
import Derived.Test.YtfbgmokjemmceaaGreatDoorAggC
import Derived.Test.YtfbgmokjemmceaaGreatDoorCards
import Derived.Test.YtfbgmokjemmceaaGreatDoorTie
import Derived.ProofKit
import Derived.LaidMore
import Derived.Lay
import Derived.SizedLaws
import Derived.SevenTiedAt
import Derived.Stop.Joined
set_option maxRecDepth 100000
set_option linter.unusedSimpArgs false
set_option linter.unusedVariables false
namespace Go.Proofs.YtfbgmokjemmceaaGreatDoor
open Go.ChangeShapes Go.WideShapes Go.ChangeAt Go.RowKit Go.ChangeMaps
namespace CardAstParts
theorem c0y:laidOutB Tryz.prog=true:=by kernel_rfl
theorem own:ownKnob Tryz.prog.godebug=none:=by kernel_rfl
theorem c7z (os:Os) (started:os.Started) (H:Type) (enc:TypeId × Value→H) :
  ReturnsInHanded {} Tryz.checked os 5 .any (fun w args => (Rows.astPartsSpec.pre enc Tryz.prog Tryz.f5 Rows.astPartsRow.domain false w args∧laidMetH Tryz.prog Rows.astPartsRow.laid w)∧sizedMet enc Tryz.prog Tryz.f5 (OpenSpec.ofChange Rows.astPartsSpec) false w args)
   (Rows.astPartsSpec.post enc Tryz.prog Tryz.f5 false true false false):=by
 refine returnsInHanded_of_change_and (C:=Tryz.checked) (X:=fun w _ => laidMetH Tryz.prog Rows.astPartsRow.laid w) (fun _ _ _ hh h => h.of_heap hh) own started (by kernel_rfl) Tryz.func5
  (ChangeSpec.witness_shaped (enc:=enc) (C:=Tryz.checked) (os:=os) (X:=fun w _ => laidMetH Tryz.prog Rows.astPartsRow.laid w) false (World.laidAll Tryz.prog os Rows.astPartsRow.laid) #[.agg #[.slice none 0 0,.slice none 0 0],.agg #[.slice none 0 0,.slice none 0 0],.int .i64 0,.string ⟨#[]⟩] 8 (World.laidAll_os _ _ _)
   (World.shaped_of_ZipB (by kernel_rfl) (by kernel_rfl)) (by kernel_rfl) (by kernel_rfl) (by kernel_rfl)
   (by rw [MakeChecks.laidMetH_plain _ _ _ (by kernel_rfl)];exact laidMet_laidAll _ (by kernel_rfl) (by kernel_rfl))) ?_
 intro W base args ds gs before hval0 hW _ _ hL0 _;have hval:∀ (j:Nat) t v,Tryz.f5.params[j]?=some t→args[j]?=some v→Value.okWide Tryz.prog W .any base t v:=hval0;have hW':=hW;obtain ⟨p,q,hA0,hV,rfl,_,_⟩:=hW;have hA:DataW.TrodAll enc Tryz.prog W 0 (fun _ => true) true Tryz.f5.params.toList args.toList ds p:=hA0;rw [Tryz.params5] at hA hval;obtain ⟨v0,v1,v2,v3,d0,d1,d2,d3,p0,p1,p2,p3,rfl,rfl,rfl,h0,h1,h2,h3⟩:=trodAll_four hA;obtain ⟨rfl,rfl⟩:=trodVars_none hV;have hk0:=h0;obtain ⟨au,av,aN,aA,rfl,an,aa⟩:=b1j (hval 0 25 v0 rfl rfl) h0;have hlt0:∀ x ∈ p0,x.block < W.heap.size:=fun x hx => by simpa using hW'.lt x (by simp [hx])
 have hk1:=h1;obtain ⟨bu,bv,bN,bA,rfl,bn,ba⟩:=b1j (hval 1 25 v1 rfl rfl) h1;have hlt1:∀ x ∈ p1,x.block < W.heap.size:=fun x hx => by simpa using hW'.lt x (by simp [hx])
 obtain ⟨c,rfl,rfl,rfl,wc⟩:=open_int Tryz.underlying3 (hval 2 3 v2 rfl rfl) h2;obtain ⟨d,rfl,rfl,rfl,wd⟩:=open_string Tryz.underlying9 (hval 3 9 v3 rfl rfl) h3;have hL:=hL0;rw [MakeChecks.laidMetH_plain _ _ _ (by kernel_rfl)] at hL;have hnm:NamesAt W:=c2p (d:=(List.range 8).map fun i => .lit (.string (c2o i).data.toList)) rfl (Lib.laidMet.reads hL (.tail _ (.head _)));simp only [List.append_nil] at hW';refine (d0m au av bu bv aN bN aA bA c d W an aa bn ba hnm).mono fun e W' ⟨he,hB⟩ => ?_
 subst he;exact ⟨_,rfl,⟨_,_,_,[],_,[],hW',trodAll_mk1 (shut_bool Tryz.underlying4 _),trodAll_mk4 (Below.trod c0y (by kernel_rfl) (of_decide_eq_true (by kernel_rfl)) hk0 hB hlt0) (Below.trod c0y (by kernel_rfl) (of_decide_eq_true (by kernel_rfl)) hk1 hB hlt1) (shut_int Tryz.underlying3 wc) (shut_string Tryz.underlying9 wd),rfl,hB.frame _,fun h => by cases h⟩⟩
theorem said:Rows.AstPartsSaid :=
 OpenClaim.holds_of_wide 5 Tryz.f5 rfl rfl rfl rfl rfl rfl rfl ⟨rfl,rfl,rfl,rfl,rfl⟩ rfl rfl rfl rfl rfl (by kernel_rfl) Tryz.func5 (by kernel_rfl)
  (of_decide_eq_true (by kernel_rfl)) (by unfold Func.isWrapper;first | (rw [if_pos (by decide +kernel)];kernel_rfl) | (rw [if_neg (by decide +kernel)];exact ⟨rfl,rfl⟩))
  (fun os started H enc _ => c7z os started H enc)
theorem plain (f : FuncId) (fn : Func) (hf : Tryz.pinned.checked.prog.funcNamed "abacist/abacistlaw13.AstParts" = some f) (hfn : Tryz.pinned.checked.prog.funcs[f]? = some fn) :
  false=Tryz.pinned.checked.prog.looks []∧∀ (j:Nat) t,fn.params[j]?=some t→Tryz.pinned.checked.prog.wantsStandIn t=false:=by
 obtain rfl : f = 5 := Option.some.inj ((show Tryz.prog.funcNamed "abacist/abacistlaw13.AstParts" = some 5 by kernel_rfl).symm.trans hf) |>.symm
 obtain rfl:fn=Tryz.f5:=(Option.some.inj (Tryz.func5.symm.trans hfn)).symm;refine ⟨by kernel_rfl,fun j t ht => ?_⟩
 rw [Tryz.params5] at ht;have hm:t ∈ [25,25,3,9]:=by simpa using Array.mem_of_getElem? ht
 have hall:([25,25,3,9].all fun u => !Tryz.prog.wantsStandIn u)=true:=by kernel_rfl
 exact (show Tryz.prog.wantsStandIn t=false by simpa using List.all_eq_true.1 hall t hm)
end CardAstParts
theorem astParts_card:Rows.AstPartsCardSaid :=
 Claim7.holds_tied_plain_at .later [] _ _ _ _ CardAstParts.said (fun _ h => by cases h) (by kernel_rfl) (fun _ h => by cases h) astParts_row_tie rfl ⟨rfl,rfl⟩ (by kernel_rfl) rfl CardAstParts.plain (by kernel_rfl)
end Go.Proofs.YtfbgmokjemmceaaGreatDoor
