/- Any text's formula, as in a cell any columns and rows away, is what the document says; by none it is as it was: for any text and any two numbers (the tied card of RewriteMoves: no condition but the form's own; the program's variable of the faults' names, and the listed tables of the library, are laid). -/
import Derived.Test.YtibiacmbljgmhaaGreatDoorKno1
import Derived.Test.YtibiacmbljgmhaaGreatDoorCards
import Derived.Test.YtibiacmbljgmhaaGreatDoorTie
import Derived.ProofKit
import Derived.LaidMore
import Derived.Lay
import Derived.SizedLaws
import Derived.SevenTiedAt
import Derived.Stop.Joined
set_option maxRecDepth 100000
set_option linter.all false
namespace Go.Proofs.YtibiacmbljgmhaaGreatDoor
open Go.ChangeShapes Go.WideShapes Go.ChangeAt Go.RowKit Go.ChangeMaps
namespace CardRewriteMoves
theorem c0y:laidOutB Tryz.prog=true:=by kernel_rfl
theorem own:ownKnob Tryz.prog.godebug=none:=by kernel_rfl
theorem c7z (os:Os) (started:os.Started) (H:Type) (enc:TypeId × Value->H) :
  ReturnsInHanded {} Tryz.checked os 3 .any (fun w args=>(Rows.rewriteMovesSpec.pre enc Tryz.prog Tryz.f3 Rows.rewriteMovesRow.domain false w args/\laidMetH Tryz.prog Rows.rewriteMovesRow.laid w)/\sizedMet enc Tryz.prog Tryz.f3 (OpenSpec.ofChange Rows.rewriteMovesSpec) false w args)
   (Rows.rewriteMovesSpec.post enc Tryz.prog Tryz.f3 false true false false):=by
 refine returnsInHanded_of_change_and (C:=Tryz.checked) (X:=fun w _=>laidMetH Tryz.prog Rows.rewriteMovesRow.laid w) (fun _ _ _ hh h=>h.of_heap hh) own started (by kernel_rfl) Tryz.func3
  (ChangeSpec.witness_shaped (enc:=enc) (C:=Tryz.checked) (os:=os) (X:=fun w _=>laidMetH Tryz.prog Rows.rewriteMovesRow.laid w) false (World.laidAll Tryz.prog os Rows.rewriteMovesRow.laid) #[.string ⟨#[]⟩,.int .i64 0,.int .i64 0] 8 (World.laidAll_os _ _ _)
   (World.shaped_of_ZipB (by kernel_rfl) (by kernel_rfl)) (by kernel_rfl) (by kernel_rfl) (by kernel_rfl)
   (by rw[MakeChecks.laidMetH_plain _ _ _ (by kernel_rfl)];exact laidMet_laidAll _ (by kernel_rfl) (by kernel_rfl))) ?_
 intro W base args ds gs before hval0 hW _ _ hL0 _;have hval:∀ (j:Nat) t v,Tryz.f3.params[j]?=some t->args[j]?=some v->Value.okWide Tryz.prog W .any base t v:=hval0;have hW':=hW;obtain⟨p,q,hA0,hV,rfl,_,_⟩:=hW;have hA:DataW.TrodAll enc Tryz.prog W 0 (fun _=>true) true Tryz.f3.params.toList args.toList ds p:=hA0;rw[Tryz.params3] at hA hval;obtain⟨v0,v1,v2,d0,d1,d2,p0,p1,p2,rfl,rfl,rfl,h0,h1,h2⟩:=trodAll_three hA;obtain⟨rfl,rfl⟩:=trodVars_none hV;obtain⟨a,rfl,rfl,rfl,wa⟩:=open_string Tryz.underlying9 (hval 0 9 v0 rfl rfl) h0;obtain⟨b,rfl,rfl,rfl,wb⟩:=open_int Tryz.underlying3 (hval 1 3 v1 rfl rfl) h1;obtain⟨c,rfl,rfl,rfl,wc⟩:=open_int Tryz.underlying3 (hval 2 3 v2 rfl rfl) h2
 have hc1 : -9223372036854775808<=b/\b<=9223372036854775807:=by
  simp[Lit.wf,IntKind.min,IntKind.max,IntKind.signed,IntKind.bits] at wb;omega
 have hc2 : -9223372036854775808<=c/\c<=9223372036854775807:=by
  simp[Lit.wf,IntKind.min,IntKind.max,IntKind.signed,IntKind.bits] at wc;omega
 have hL:=hL0;rw[MakeChecks.laidMetH_plain _ _ _ (by kernel_rfl)] at hL;have hnm:NamesAt W:=c2p (d:=(List.range 8).map fun i=>.lit (.string (c2o i).data.toList)) rfl (Lib.laidMet.reads hL (.tail _ (.head _)));simp only[List.append_nil] at hW';refine(f7q a b c W hnm wa hc1.1 hc1.2 hc2.1 hc2.2).mono fun e W' ⟨he,hB⟩=>?_
 subst he;exact⟨_,rfl,⟨_,_,_,[],_,[],hW',trodAll_mk1 (shut_bool Tryz.underlying4 _),trodAll_mk3 (shut_string Tryz.underlying9 wa) (shut_int Tryz.underlying3 wb) (shut_int Tryz.underlying3 wc),rfl,hB.frame _,fun h=>by cases h⟩⟩
theorem said:Rows.RewriteMovesSaid :=
 OpenClaim.holds_of_wide 3 Tryz.f3 rfl rfl rfl rfl rfl rfl rfl ⟨rfl,rfl,rfl,rfl,rfl⟩ rfl rfl rfl rfl rfl (by kernel_rfl) Tryz.func3 (by kernel_rfl)
  (of_decide_eq_true (by kernel_rfl)) (by unfold Func.isWrapper;first | (rw[if_pos (by decide +kernel)];kernel_rfl) | (rw[if_neg (by decide +kernel)];exact⟨rfl,rfl⟩))
  (fun os started H enc _=>c7z os started H enc)
theorem plain (f : FuncId) (fn : Func) (hf : Tryz.pinned.checked.prog.funcNamed "abacist/abacistlaw16.RewriteMoves" = some f) (hfn : Tryz.pinned.checked.prog.funcs[f]? = some fn) :
  false=Tryz.pinned.checked.prog.looks []/\∀ (j:Nat) t,fn.params[j]?=some t->Tryz.pinned.checked.prog.wantsStandIn t=false:=by
 obtain rfl : f = 3 := Option.some.inj ((show Tryz.prog.funcNamed "abacist/abacistlaw16.RewriteMoves" = some 3 by kernel_rfl).symm.trans hf) |>.symm
 obtain rfl:fn=Tryz.f3:=(Option.some.inj (Tryz.func3.symm.trans hfn)).symm;refine⟨by kernel_rfl,fun j t ht=>?_⟩
 rw[Tryz.params3] at ht;have hm:t ∈ [9,3,3]:=by simpa using Array.mem_of_getElem? ht
 have hall:([9,3,3].all fun u=>!Tryz.prog.wantsStandIn u)=true:=by kernel_rfl
 exact(show Tryz.prog.wantsStandIn t=false by simpa using List.all_eq_true.1 hall t hm)
end CardRewriteMoves
theorem rewriteMoves_card:Rows.RewriteMovesCardSaid :=
 Claim7.holds_tied_plain_at .later [] _ _ _ _ CardRewriteMoves.said (fun _ h=>by cases h) (by kernel_rfl) (fun _ h=>by cases h) rewriteMoves_row_tie rfl ⟨rfl,rfl⟩ (by kernel_rfl) rfl CardRewriteMoves.plain (by kernel_rfl)
end Go.Proofs.YtibiacmbljgmhaaGreatDoor
