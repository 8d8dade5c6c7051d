import Derived.Test.YtibiacmbljgmhaaGreatDoorCel8
import Derived.Test.YtibiacmbljgmhaaGreatDoorAst37
import Derived.Test.YtibiacmbljgmhaaGreatDoorCards
import Derived.Test.YtibiacmbljgmhaaGreatDoorTie
import Derived.ProofKit
import Derived.LaidMore
import Derived.Lay
import Derived.SizedLaws
import Derived.SevenTiedAt
import Derived.Stop.Joined
import Derived.Lib.SmallJoins
import Derived.OpenShut
import Derived.Deep.Slices
import Derived.Lib.LaidU8
set_option maxRecDepth 100000
set_option linter.all false
namespace Go.Proofs.YtibiacmbljgmhaaGreatDoor
open Go.RowKit Go.Shelf
section
open Go.ChangeShapes Go.WideShapes Go.ChangeAt Go.ChangeMaps Go.Joins Go.Deep
theorem c2p {W : World} {d : List (DataW Unit)} (hd : d = (List.range 8).map fun i => .lit (.string (XQ i).data.toList)) (h : Lib.VarReads Tryz.prog W "abacist/value.names" (.agg d)) : NamesAt W := by
 obtain⟨g,t,cs,fuel,p,hg,ht,hv,htr⟩:=h
 obtain rfl : 4 = g := jA ((show Tryz.prog.globalNamed "abacist/value.names" = some 4 by kernel_rfl).symm.trans hg)
 obtain rfl : 246=t:=jA ((show (Tryz.prog.globals[4]?).map (·.type)=some 246 by kernel_rfl).symm.trans ht);have k1 : Tryz.prog.cellsOf 9=1:=by kernel_rfl
 have hgn : Tryz.prog.globalNamed "abacist/value.names" = some 4 := by kernel_rfl
 simp only[World.var?,hgn,Option.bind_some] at hv
 cases hh:W.heap[4]? with
 | none=>rw[hh] at hv;cases hv
 | some o =>
  rw[hh] at hv;have hlt : 4 < W.heap.size:=(Array.getElem?_eq_some_iff.1 hh).1
  cases o with
  | cells row ty fr =>
   obtain rfl:row=cs:=by simpa using hv
   refine⟨hlt,fun j hj=>?_⟩
   obtain⟨fuel',dj,q,hdj,htj⟩:=Lib.array_elem Tryz.underlying246 htr j hj;rw[k1,Nat.mul_one] at htj;obtain⟨s,hs,hx,_⟩:=DataW.trod_string Tryz.underlying9 htj;rw[hd,List.getElem?_map,List.getElem?_range hj] at hdj;have hdd:(DataW.lit (.string (XQ j).data.toList):DataW Unit)=dj:=by simpa using hdj
   have hsb:s.data.toList=(XQ j).data.toList:=by
    rw[<-hdd] at hx;simp at hx;rw[<-hx.1]
   have hse:s=XQ j:=by
    cases s with
    | mk sd =>
     cases hf:XQ j with
     | mk fd =>
      rw[hf] at hsb
      congr 1
      exact Array.toList_inj.1 hsb
   rw[cell_of_row W 4 j row ty fr hh]
   have h4:row.toList[j]?=some (Sg s):=by
    have:=congrArg (·[0]?) hs;simpa [List.getElem?_take,List.getElem?_drop] using this
   rw[<-hse];simpa using h4
  | _=>simp at hv
section
variable {H:Type} {enc:TypeId × Value->H} {W:World} {base:Nat} {spare:Nat->Bool} {held:Bool}
theorem b8n {α:Type} {l:List α} (h:l.length=5):∃ a b c d e,l=[a,b,c,d,e]:=by
 match l,h with
 | [a,b,c,d,e],_=>exact⟨a,b,c,d,e,rfl⟩
theorem a1u {n:Nat} {t:TypeId} {c:Value} {y:DataW H × List MemPlace} (ht : Tryz.prog.underlying t=some (.int .i64)) (h:DataW.trod enc Tryz.prog W base spare held n t [c]=some y):∃ k:Int,c=.int .i64 k/\y=(.lit (.int .i64 k),[])/\(Lit.int .i64 k).wf=true:=by
 obtain⟨k,h1,hx,hw⟩:=DataW.trod_int ht h;simp at h1;exact⟨k,h1,hx,hw⟩
theorem a2l {n:Nat} {t:TypeId} {c:Value} {y:DataW H × List MemPlace} (ht : Tryz.prog.underlying t=some .string) (h:DataW.trod enc Tryz.prog W base spare held n t [c]=some y):∃ s:jW,c=.string s/\y=(.lit (.string s.data.toList),[])/\s.size<=maxLen:=by
 obtain⟨s,h1,hx,hs⟩:=DataW.trod_string ht h;simp at h1;exact⟨s,h1,hx,hs⟩
end
section
variable {H:Type} {enc:TypeId × Value->H} {W:World} {base:Nat} {spare:Nat->Bool} {held:Bool}
theorem f5a : Tryz.prog.cellsOf 36=5:=by kernel_rfl
theorem f5r {r:Reach} {b0:Nat} {v:Value} {d:DataW H} {p:List MemPlace} (hv:Value.okWide Tryz.prog W r b0 36 v) (h:DataW.Trod enc Tryz.prog W base spare held 36 v d p) :
  ∃ (s t:jW) (x y z:Int),v=.agg #[.string s,.string t,.int .i64 x,.int .i64 y,.int .i64 z]/\d=.agg [.lit (.string s.data.toList),.lit (.string t.data.toList),.lit (.int .i64 x),.lit (.int .i64 y),.lit (.int .i64 z)]/\p=[]/\s.size<=maxLen/\t.size<=maxLen/\(Lit.int .i64 x).wf=true/\(Lit.int .i64 y).wf=true/\(Lit.int .i64 z).wf=true:=by
 obtain⟨cs,rfl,j8⟩:=okWide_struct Tryz.underlying36 hv;obtain⟨cl⟩:=cs;obtain⟨c0,c1,c2,c3,c4,rfl⟩:=b8n (l:=cl) (j8.trans f5a);obtain⟨fuel,hf⟩:=h;obtain⟨xs,n,_,hx,_,hlen,hg⟩:=DataW.trod_struct Tryz.underlying36 hf;obtain⟨y0,y1,y2,y3,y4,rfl⟩:=b8n (l:=xs) hlen;have k1 : Tryz.prog.cellsOf 9=1:=by kernel_rfl
 have k2 : Tryz.prog.cellsOf 3=1:=by kernel_rfl
 have g0:=hg 0 _ rfl;have g1:=hg 1 _ rfl;have g2:=hg 2 _ rfl;have g3:=hg 3 _ rfl;have g4:=hg 4 _ rfl;simp[Value.cells,k1,k2] at g0 g1 g2 g3 g4;obtain⟨s,rfl,rfl,hs⟩:=a2l Tryz.underlying9 g0;obtain⟨t,rfl,rfl,ht⟩:=a2l Tryz.underlying9 g1;obtain⟨x,rfl,rfl,hx1⟩:=a1u Tryz.underlying3 g2;obtain⟨y,rfl,rfl,hy1⟩:=a1u Tryz.underlying3 g3;obtain⟨z,rfl,rfl,hz1⟩:=a1u Tryz.underlying3 g4;simp at hx;exact⟨s,t,x,y,z,rfl,hx.1,hx.2,hs,ht,hx1,hy1,hz1⟩
theorem f5s {s t:jW} {x y z:Int} (hs:s.size<=maxLen) (ht:t.size<=maxLen) (hx:(Lit.int .i64 x).wf=true) (hy:(Lit.int .i64 y).wf=true) (hz:(Lit.int .i64 z).wf=true) :
  DataW.Trod enc Tryz.prog W base spare held 36 (.agg #[.string s,.string t,.int .i64 x,.int .i64 y,.int .i64 z]) (.agg [.lit (.string s.data.toList),.lit (.string t.data.toList),.lit (.int .i64 x),.lit (.int .i64 y),.lit (.int .i64 z)]) []:=by
 have k1 : Tryz.prog.cellsOf 9=1:=by kernel_rfl
 have k2 : Tryz.prog.cellsOf 3=1:=by kernel_rfl
 have ti:∀ x:Int,(Lit.int .i64 x).wf=true->DataW.trod enc Tryz.prog W base spare held 1 3 [.int .i64 x]=some (.lit (.int .i64 x),[]):=fun x h=>by simp[DataW.trod,Tryz.underlying3,h]
 have tt:∀ s:jW,s.size<=maxLen->DataW.trod enc Tryz.prog W base spare held 1 9 [.string s]=some (.lit (.string s.data.toList),[]):=fun s h=>by simp[DataW.trod,Tryz.underlying9,h]
 have ts:=trod_struct_mk (enc:=enc) (w:=W) (base:=base) (spare:=spare) (held:=held) (n:=1) (cs:=[Sg s,Sg t,I6 x,I6 y,I6 z])
  (xs:=[(.lit (.string s.data.toList),[]),(.lit (.string t.data.toList),[]),(.lit (.int .i64 x),[]),(.lit (.int .i64 y),[]),(.lit (.int .i64 z),[])]) Tryz.underlying36 (by simp[f5a]) (by simp[k1,k2,tt s hs,tt t ht,ti x hx,ti y hy,ti z hz])
 exact⟨_,by simpa [Value.cells] using ts⟩
end
end
def LawT:Prop:=∀ (s own sheet:ByteArray) (way a c:Int) (w:World),NamesAt w->s.size<=maxLen->Ca 4 #[.string s,.agg #[.string own,.string sheet,.int .i64 way,.int .i64 a,.int .i64 c]] w (.bool true)
open Go.ChangeShapes Go.WideShapes Go.ChangeAt Go.RowKit Go.ChangeMaps
namespace CardRewriteChanges
theorem c0y:laidOutB Tryz.prog=true:=by kernel_rfl
theorem own:ownKnob Tryz.prog.godebug=none:=by kernel_rfl
theorem c7z (HH:LawT) (os:Os) (started:os.Started) (H:Type) (enc:TypeId × Value->H) :
  ReturnsInHanded {} Tryz.checked os 4 .any (fun w args=>(Rows.rewriteChangesSpec.pre enc Tryz.prog Tryz.f4 Rows.rewriteChangesRow.domain false w args/\laidMetH Tryz.prog Rows.rewriteChangesRow.laid w)/\sizedMet enc Tryz.prog Tryz.f4 (OpenSpec.ofChange Rows.rewriteChangesSpec) false w args)
   (Rows.rewriteChangesSpec.post enc Tryz.prog Tryz.f4 false true false false):=by
 refine returnsInHanded_of_change_and (C:=Tryz.checked) (X:=fun w _=>laidMetH Tryz.prog Rows.rewriteChangesRow.laid w) (fun _ _ _ hh h=>h.of_heap hh) own started (by kernel_rfl) Tryz.func4
  (ChangeSpec.witness_shaped (enc:=enc) (C:=Tryz.checked) (os:=os) (X:=fun w _=>laidMetH Tryz.prog Rows.rewriteChangesRow.laid w) false (World.laidAll Tryz.prog os Rows.rewriteChangesRow.laid) #[.string ⟨#[]⟩,.agg #[.string ⟨#[]⟩,.string ⟨#[]⟩,.int .i64 0,.int .i64 0,.int .i64 0]] 8 (World.laidAll_os _ _ _)
   (World.shaped_of_ZipB (by kernel_rfl) (by kernel_rfl)) (by kernel_rfl) (by kernel_rfl) (by kernel_rfl)
   (by rw[MakeChecks.laidMetH_plain _ _ _ (by kernel_rfl)];exact laidMet_laidAll _ (by kernel_rfl) (by kernel_rfl))) ?_
 intro W base args ds gs before hval0 hW _ _ hL0 _;have hval:∀ (j:Nat) t v,Tryz.f4.params[j]?=some t->args[j]?=some v->Value.okWide Tryz.prog W .any base t v:=hval0;have hW':=hW;obtain⟨p,q,hA0,hV,rfl,_,_⟩:=hW;have hA:DataW.TrodAll enc Tryz.prog W 0 (fun _=>true) true Tryz.f4.params.toList args.toList ds p:=hA0;rw[Tryz.params4] at hA hval;obtain⟨v0,v1,d0,d1,p0,p1,rfl,rfl,rfl,h0,h1⟩:=trodAll_two hA;obtain⟨rfl,rfl⟩:=trodVars_none hV;obtain⟨a,rfl,rfl,rfl,wa⟩:=open_string Tryz.underlying9 (hval 0 9 v0 rfl rfl) h0;obtain⟨b1,b2,b3,b4,b5,rfl,rfl,rfl,wb1,wb2,wb3,wb4,wb5⟩:=f5r (hval 1 36 v1 rfl rfl) h1;have hL:=hL0;rw[MakeChecks.laidMetH_plain _ _ _ (by kernel_rfl)] at hL;have hnm:NamesAt W:=c2p (d:=(List.range 8).map fun i=>.lit (.string (XQ i).data.toList)) rfl (Lib.laidMet.reads hL (.tail _ (.head _)));simp only[List.append_nil] at hW';refine(HH a b1 b2 b3 b4 b5 W hnm wa).mono fun e W' ⟨he,hB⟩=>?_
 subst he;exact⟨_,rfl,⟨_,_,_,[],_,[],hW',trodAll_mk1 (shut_bool Tryz.underlying4 _),trodAll_mk2 (shut_string Tryz.underlying9 wa) (f5s wb1 wb2 wb3 wb4 wb5),rfl,hB.frame _,fun h=>by cases h⟩⟩
theorem said (HH:LawT):Rows.RewriteChangesSaid :=
 OpenClaim.holds_of_wide 4 Tryz.f4 rfl rfl rfl rfl rfl rfl rfl ⟨rfl,rfl,rfl,rfl,rfl⟩ rfl rfl rfl rfl rfl (by kernel_rfl) Tryz.func4 (by kernel_rfl)
  (of_decide_eq_true (by kernel_rfl)) (by unfold Func.isWrapper;first | (rw[if_pos (by decide +kernel)];kernel_rfl) | (rw[if_neg (by decide +kernel)];exact⟨rfl,rfl⟩))
  (fun os started H enc _=>c7z HH os started H enc)
theorem plain (f : FuncId) (fn : Func) (hf : Tryz.pinned.checked.prog.funcNamed "abacist/abacistlaw16.RewriteChanges" = some f) (hfn : Tryz.pinned.checked.prog.funcs[f]? = some fn) :
  false=Tryz.pinned.checked.prog.looks []/\∀ (j:Nat) t,fn.params[j]?=some t->Tryz.pinned.checked.prog.wantsStandIn t=false:=by
 obtain rfl : f = 4 := Option.some.inj ((show Tryz.prog.funcNamed "abacist/abacistlaw16.RewriteChanges" = some 4 by kernel_rfl).symm.trans hf) |>.symm
 obtain rfl:fn=Tryz.f4:=(Option.some.inj (Tryz.func4.symm.trans hfn)).symm;refine⟨by kernel_rfl,fun j t ht=>?_⟩
 rw[Tryz.params4] at ht;have hm:t ∈ [9,36]:=by simpa using Array.mem_of_getElem? ht
 have hall:([9,36].all fun u=>!Tryz.prog.wantsStandIn u)=true:=by kernel_rfl
 exact(show Tryz.prog.wantsStandIn t=false by simpa using List.all_eq_true.1 hall t hm)
end CardRewriteChanges
theorem cardV (HH:LawT):Rows.RewriteChangesCardSaid :=
 Claim7.holds_tied_plain_at .later [] _ _ _ _ (CardRewriteChanges.said HH) (fun _ h=>by cases h) (by kernel_rfl) (fun _ h=>by cases h) rewriteChanges_row_tie rfl ⟨rfl,rfl⟩ (by kernel_rfl) rfl CardRewriteChanges.plain (by kernel_rfl)
