import Derived.Test.YtfbgmokjemmceaaGreatDoorAst34
import Derived.Test.YtfbgmokjemmceaaGreatDoorAst40
import Derived.Laws.ByValue
set_option maxHeartbeats 8000000
set_option maxRecDepth 100000
namespace Go.Proofs.YtfbgmokjemmceaaGreatDoor
open Go.RowKit Go.Shelf
set_option linter.unusedSimpArgs false
set_option linter.unusedVariables false
def FormsAt (W:World) (v:Value) (l:List (List Nd × List Int)):Prop :=
 (v=.slice none 0 0∧l=[]) ∨ ∃ g o cap:Nat,v=.slice (some ⟨g,o,none⟩) l.length cap∧l.length≤cap∧cap≤maxLen ∧
  ∀ (k:Nat) (f:List Nd × List Int),l[k]?=some f→∃ us vs,W.cell? ⟨g,o+k * 2,none⟩=some us∧W.cell? ⟨g,o+k * 2+1,none⟩=some vs∧NodesAt W us f.1∧IntsAt W vs f.2
theorem FormsAt.below {W W':World} {v:Value} {l:List (List Nd × List Int)} (h:FormsAt W v l) (hb:Below W.heap.size W W'):FormsAt W' v l:=by
 rcases h with h | ⟨g,o,cap,hv,h1,h2,hc⟩
 ·
  exact Or.inl h
 ·
  refine Or.inr ⟨g,o,cap,hv,h1,h2,fun k f hk => ?_⟩
  obtain ⟨us,vs,c1,c2,c3,c4⟩:=hc k f hk;exact ⟨us,vs,a0f hb c1 (a0j c1),a0f hb c2 (a0j c2),c3.below hb,c4.below hb⟩
theorem FormsAt.slice {W:World} {v:Value} {l:List (List Nd × List Int)} (h:FormsAt W v l):∃ bt ct,v=.slice bt l.length ct∧∀ (k:Nat) (f:List Nd × List Int),l[k]?=some f→∃ g o us vs,bt=some ⟨g,o,none⟩∧W.cell? ⟨g,o+k * 2,none⟩=some us∧W.cell? ⟨g,o+k * 2+1,none⟩=some vs∧NodesAt W us f.1∧IntsAt W vs f.2:=by
 rcases h with ⟨rfl,rfl⟩ | ⟨g,o,cap,rfl,h1,h2,hc⟩
 ·
  exact ⟨none,0,rfl,fun k f h => by simp at h⟩
 ·
  exact ⟨_,_,rfl,fun k f h => by
   obtain ⟨us,vs,c⟩:=hc k f h
   exact ⟨g,o,us,vs,rfl,c⟩⟩
def Small (l:List (List Nd × List Int)):Prop:=∀ g ∈ l,(∀ n ∈ g.1,a2b n)∧g.1.length≤1000∧g.2.length≤1000
def c0g (l:List (List Nd × List Int)):Bool:=l.all fun g => a0w g.1 g.2
theorem allR_iff {l:List (List Nd × List Int)} : c0g l=true ↔ ∀ g ∈ l,a0w g.1 g.2=true:=by unfold c0g;rw [List.all_eq_true]
theorem c9e (x y:Value) (w:World):(callFunc 86 #[x,y]).run Tryz.prog w=.ok (.enter 86 #[x,y]) w:=by kernel_rfl
theorem c5w (x:Value) (w:World):(callFunc 8 #[x]).run Tryz.prog w=.ok (.enter 8 #[x]) w:=by kernel_rfl
theorem c3f (F:Nat) (HCF:∀ (x:Value) (w:World),(callFunc F #[x]).run Tryz.prog w=.ok (.enter F #[x]) w) (P:Nat) (u v:Value) (b:Bool) (w:World) (hP:w.cell? ⟨P,0,none⟩=some (.func (.func F) #[] #[]))
  (HR:∀ W,Below w.heap.size w W→Calls Tryz.prog F #[.agg #[u,v]] W fun e w' => e=.returned (.bool b)∧Below W.heap.size W w') :
  Calls Tryz.prog 86 #[.agg #[u,v],.pointer (some ⟨P,0,none⟩)] w fun e w' => e=.returned (.bool (!b))∧Below w.heap.size w w':=by
 have hud:undef=Value.tuple #[]:=rfl;have HRR:=Lib.hid HR;have zP:=a0j hP;clear HR;go_enter Tryz.func86,Tryz.ntmps86
 go_upto_region 1 with (fail)
 obtain ⟨s1,hws⟩:∃ s,s=(w.alloc (.cells #[u,v] 25)):=⟨_,rfl⟩;have hBs:=bs1 (Below.refl w.heap.size w) hws;obtain ⟨X,hdX⟩:∃ b,b=w.heap.size:=⟨_,rfl⟩;have hsz:s1.heap.size=w.heap.size+1:=by rw [hws];simp
 have hN:=bx0 (b:=X) hws hdX;have kX0:=hN 0 _ rfl;have kX1:=hN 1 _ rfl;clear hN;have zX:X < s1.heap.size:=by omega
 have lX:w.heap.size≤X:=by omega
 rw [← hws];try rw [← hdX]
 clear hws hsz hdX;have hBo:=hBs;clear hBs;have hP2:s1.cell? ⟨P,0,none⟩=some (.func (.func F) #[] #[]):=a0f hBo hP zP;go_wp2_with fail;refine (HRR.out _ hBo).mono ?_;rintro e w5 ⟨rfl,hb⟩;replace kX0:=a0f hb kX0 zX;replace kX1:=a0f hb kX1 zX;replace zX:=zHl hb zX;replace hBo:=hBo.trans (hb.mono hBo.size);clear hb;go_wp2_with fail
 go_ret
 exact ⟨rfl,hBo⟩
def c7w (t0:World) (l:List (List Nd × List Int)) (r:Value) (wr:World):Prop:=∃ k:Nat,k≤l.length∧r=.int .i64 k∧(∀ g ∈ l.take k,a0w g.1 g.2=true)∧Below t0.heap.size t0 wr
def b4i (l:List (List Nd × List Int)) (w:World) (e:Ending) (w':World):Prop:=∃ r:Int,e=.returned (.int .i64 r)∧-1≤r∧r≤1000000∧decide (0≤r)=(!c0g l)∧Below w.heap.size w w'
theorem c0h (P:Nat) (v:Value) (l:List (List Nd × List Int)) (w:World) (hP:w.cell? ⟨P,0,none⟩=some (.func (.func 8) #[] #[])) (hv:FormsAt w v l) (hs:Small l) (hnm:NamesAt w) (hl:l.length≤100000) :
  Calls Tryz.prog 108 #[v,.func (.func 86) #[] #[.pointer (some ⟨P,0,none⟩)]] w (b4i l w):=by
 obtain ⟨Po,hPo⟩:∃ Po,Po=b4i l w:=⟨_,rfl⟩;rw [← hPo];have HPO:=Lib.hid hPo;have zP:=a0j hP
 have HA:=Lib.hid (fun (g:List Nd × List Int) (hg:g ∈ l) (us vs:Value) (W:World) (hW:Below w.heap.size w W) (h1:NodesAt W us g.1) (h2:IntsAt W vs g.2) =>
  c3f 8 c5w P us vs (a0w g.1 g.2) W (a0f hW hP zP) (fun W' hW' => a3y us vs g.1 g.2 W' (h1.below hW') (h2.below hW') (hs g hg).1 ((hnm.below hW).below hW') (hs g hg).2.2 (hs g hg).2.1))
 obtain ⟨bt,ct,rfl,hcs⟩:=hv.slice;have HCS:=Lib.hid hcs;have HGE:Hid (∀ k,k < l.length→∃ g,l[k]?=some g):=fun k h => ⟨_,List.getElem?_eq_getElem h⟩
 obtain ⟨L,hL⟩:∃ L,L=l.length:=⟨_,rfl⟩;rw [← hL] at HGE hl ⊢;have HLL:=Lib.hid hL;obtain ⟨FA,hFA⟩:∃ FA,FA=86:=⟨_,rfl⟩;have HCF:∀ x y w,(callFunc FA #[x,y]).run Tryz.prog w=.ok (.enter FA #[x,y]) w:=by rw [hFA];exact c9e
 rw [← hFA] at HA ⊢;have hBo:=Below.refl w.heap.size w;clear hPo hP hv hs hnm hcs hL hFA;go_enter Tryz.func108,Tryz.ntmps108;go_wp2_with fail;obtain ⟨t0,ht0⟩:∃ t,t=w:=⟨_,rfl⟩;subst ht0;clear hBo
 go_loopw [8] (c7w t0 l) (fun r _ => L - (intOf r).toNat)
 case atStart => exact ⟨0,Nat.zero_le _,rfl,fun g h => by simp at h,Below.refl _ _⟩
 case round =>
  obtain ⟨k,hk,rfl,hR,hBo⟩:=hrel;rw [← HLL.out] at hk;have HRT:=Lib.hid hR;clear hR;by_cases hlt:k < L
  ·
   obtain ⟨g,hg⟩:=HGE.out k hlt;obtain ⟨gg,oo,us,vs,rfl,c1,c2,c3,c4⟩:=HCS.out k g hg;have HCL:=Lib.hid (HA.out g (List.mem_of_getElem? hg) us vs wr hBo (c3.below hBo) (c4.below hBo));have c1':=a0f hBo c1 (a0j c1);have c2':=a0f hBo c2 (a0j c2);have HG:=Lib.hid hg;have hkm:(k:Int)≤100000:=by omega
   have HBO:=Lib.hid hBo;clear c1 c2 c3 c4 hg;go_wp2_with fail;refine HCL.out.mono ?_;rintro e w5 ⟨rfl,hb⟩;have HB5:=Lib.hid (HBO.out.trans (hb.mono HBO.out.size));clear hb c1' c2' hBo
   cases hx:a0w g.1 g.2 with
   | true =>
    have HX:=Lib.hid hx;clear hx;go_wp2_with fail
    go_roundw
    case rel =>
     refine ⟨k+1,by rw [← HLL.out];omega,by go_num,?_,HB5.out⟩;intro g2 hg2;rw [List.take_add_one,HG.out,Option.toList_some] at hg2
     rcases List.mem_append.1 hg2 with h | h
     ·
      exact HRT.out g2 h
     ·
      rw [List.mem_singleton.1 h];exact HX.out
    case measure => simp [intOf];omega
   | false =>
    have HX:=Lib.hid hx;clear hx;go_wp2_with fail;show Po _ _;rw [HPO.out];refine ⟨k,rfl,by omega,by omega,?_,HB5.out⟩
    have:c0g l=false:=by
     cases h:c0g l with
     | false => rfl
     | true => rw [allR_iff.1 h g (List.mem_of_getElem? HG.out)] at HX;cases HX.out
    rw [this];simp
  ·
   obtain rfl:k=L:=by omega
   have HBO:=Lib.hid hBo;clear hBo;go_wp2_with fail;show Po _ _;rw [HPO.out];refine ⟨-1,rfl,by omega,by omega,?_,HBO.out⟩;have:c0g l=true:=allR_iff.2 fun g hg => HRT.out g (by rw [HLL.out,List.take_length];exact hg)
   rw [this];simp
theorem b2c (P:Nat) (v:Value) (l:List (List Nd × List Int)) (w:World) (hP:w.cell? ⟨P,0,none⟩=some (.func (.func 8) #[] #[])) (hv:FormsAt w v l) (hs:Small l) (hnm:NamesAt w) (hl:l.length≤100000) :
  Calls Tryz.prog 85 #[v,.func (.func 86) #[] #[.pointer (some ⟨P,0,none⟩)]] w fun e w' => e=.returned (.bool (!c0g l))∧Below w.heap.size w w':=by
 have hi:=c0h P v l w hP hv hs hnm hl;unfold b4i at hi;have HI:=Lib.hid hi;clear hi;obtain ⟨cv,hcv⟩:∃ z,z=Value.func (.func 86) #[] #[.pointer (some ⟨P,0,none⟩)]:=⟨_,rfl⟩;rw [← hcv] at HI ⊢;clear hP hv hs hnm hl hcv;generalize c0g l=b at *;go_enter Tryz.func85,Tryz.ntmps85;go_wp2_with fail;refine HI.out.mono ?_;rintro e w5 ⟨r,rfl,r1,r2,hr,hb⟩
 cases b with
 | true =>
  have hr':r=-1:=by have:=of_decide_eq_false hr;omega
  subst hr';clear hr r1 r2;go_wp2_with fail
  go_ret
  exact ⟨rfl,hb⟩
 | false =>
  have hr':0≤r:=of_decide_eq_true hr;clear hr r1 r2;go_wp2_with fail
  go_ret
  exact ⟨a0d (by simp),hb⟩
theorem c5x (v:Value) (l:List (List Nd × List Int)) (w:World) (hv:FormsAt w v l) (hs:Small l) (hnm:NamesAt w) (hl:l.length≤100000) :
  Calls Tryz.prog 61 #[v,.func (.func 8) #[] #[]] w fun e w' => e=.returned (.bool (c0g l))∧Below w.heap.size w w':=by
 have HI:=Lib.hid (fun P W hP hW => b2c P v l W hP (hv.below hW) hs (hnm.below hW) hl);clear hv hs hnm hl;generalize c0g l=b at *;obtain ⟨FR,hFR⟩:∃ z,z=8:=⟨_,rfl⟩;rw [← hFR] at HI ⊢;clear hFR;go_enter Tryz.func61,Tryz.ntmps61
 go_upto_region 1 with (fail)
 obtain ⟨s2,hws⟩:∃ s,s=(w.alloc (.cells #[.func (.func FR) #[] #[]] 26)):=⟨_,rfl⟩;have hBs:=bs1 (Below.refl w.heap.size w) hws;obtain ⟨X,hdX⟩:∃ b,b=w.heap.size:=⟨_,rfl⟩;have hsz:s2.heap.size=w.heap.size+1:=by rw [hws];simp
 have hN:=bx0 (b:=X) hws hdX;have kX0:=hN 0 _ rfl;clear hN;have zX:X < s2.heap.size:=by omega
 have lX:w.heap.size≤X:=by omega
 rw [← hws];try rw [← hdX]
 clear hws hsz hdX;have hBo:=hBs;clear hBs;go_wp2_with fail;refine (HI.out _ _ kX0 hBo).mono ?_;rintro e w5 ⟨rfl,hb⟩;replace kX0:=a0f hb kX0 zX;replace zX:=zHl hb zX;replace hBo:=hBo.trans (hb.mono hBo.size);clear hb;go_wp2_with fail
 go_ret
 exact ⟨by cases b <;> rfl,hBo⟩
end Go.Proofs.YtfbgmokjemmceaaGreatDoor
