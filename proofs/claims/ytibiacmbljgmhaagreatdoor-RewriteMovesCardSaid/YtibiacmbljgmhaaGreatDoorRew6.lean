/-
  
  
  
  
-/
import Derived.Test.YtibiacmbljgmhaaGreatDoorRew4
import Derived.Test.YtibiacmbljgmhaaGreatDoorAst34
set_option maxHeartbeats 8000000
set_option maxRecDepth 100000
namespace Go.Proofs.YtibiacmbljgmhaaGreatDoor
open Go.RowKit Go.Shelf
set_option linter.all false
theorem e9u (K:Nat) (V:Value) (HCF:∀ (x y:Value) (w:World),(callFunc K #[x,y]).run Tryz.prog w=.ok (.enter K #[x,y]) w) (a b c d:Rf) (p q:Bool) (w:World)
  (h1:∀ w,Calls Tryz.prog K #[V,.agg #[Sg a.sh,I6 a.c,I6 a.r,Bv a.fc,Bv a.fr]] w fun e w'=>e=.returned (.tuple #[.agg #[Sg c.sh,I6 c.c,I6 c.r,Bv c.fc,Bv c.fr],Value.bool p])/\Bl w w') (h2:∀ w,Calls Tryz.prog K #[V,.agg #[Sg b.sh,I6 b.c,I6 b.r,Bv b.fc,Bv b.fr]] w fun e w'=>e=.returned (.tuple #[.agg #[Sg d.sh,I6 d.c,I6 d.r,Bv d.fc,Bv d.fr],Value.bool q])/\Bl w w') :
  Calls Tryz.prog 28 #[.func (.func K) #[V] #[],.agg #[Sg a.sh,I6 a.c,I6 a.r,Bv a.fc,Bv a.fr],.agg #[Sg b.sh,I6 b.c,I6 b.r,Bv b.fc,Bv b.fr]] w fun e w'=>e=.returned (.tuple #[.agg #[Sg c.sh,I6 c.c,I6 c.r,Bv c.fc,Bv c.fr],.agg #[Sg d.sh,I6 d.c,I6 d.r,Bv d.fc,Bv d.fr],Value.bool (p&&q)])/\Bl w w':=by
 have hud:=hUd;have HK1:=zh h1;have HK2:=zh h2;obtain⟨an,ac,ar,af,ag⟩:=a;obtain⟨bn,bc,br,bf,bg⟩:=b;obtain⟨cn,cc,cr,cf,cg⟩:=c;obtain⟨dn,dc,dr,df,dg⟩:=d;clear h1 h2;dsimp only at HK1 HK2 |-
 cases p with
 | false =>
  rw[Bool.false_and];go_enter Tryz.func28,Tryz.ntmps28
  go_upto_region 1 with fail
  obtain⟨s1,A,B,C,D,hws,hdA,hdB,hdC,hdD,hsz,zA,zB,zC,zD⟩:=nm4 w (.cells #[Sg an,I6 ac,I6 ar,Bv af,Bv ag] 67) (.cells #[Sg bn,I6 bc,I6 br,Bv bf,Bv bg] 67) (.cells #[S0,I6 0,I6 0,Bv false,Bv false] 67) (.cells #[S0,I6 0,I6 0,Bv false,Bv false] 67);have dAB:A≠B:=by omega
  have dAC:A≠C:=by omega
  have dAD:A≠D:=by omega
  have dBA:B≠A:=by omega
  have dBC:B≠C:=by omega
  have dBD:B≠D:=by omega
  have dCA:C≠A:=by omega
  have dCB:C≠B:=by omega
  have dCD:C≠D:=by omega
  have dDA:D≠A:=by omega
  have dDB:D≠B:=by omega
  have dDC:D≠C:=by omega
  have yA:=by3 (b:=A) hws hdA;have fA:=bf3 (b:=A) hws hdA;have lA:w.heap.size<=A:=by omega
  have yB:=by2 (b:=B) hws (by simp[hdB]);have fB:=bf2 (b:=B) hws (by simp[hdB]);have lB:w.heap.size<=B:=by omega
  have yC:=by1 (b:=C) hws (by simp[hdC]);have fC:=bf1 (b:=C) hws (by simp[hdC]);have lC:w.heap.size<=C:=by omega
  have yD:=by0 (b:=D) hws (by simp[hdD]);have fD:=bf0 (b:=D) hws (by simp[hdD]);have lD:w.heap.size<=D:=by omega
  have hBo:=bs4 bR hws;rw[<-hws];try rw[<-hdD]
  try rw[<-hdC]
  try rw[<-hdB]
  try rw[<-hdA]
  clear hws hsz hdA hdB hdC hdD;go_wp2_with fail;refine cAn (HK1.out _) fun w5 hb=>?_
  replace yA:=eqB hb yA zA;replace fA:=fun j=>a0g hb (fA j) zA;replace zA:=zHl hb zA
  replace yB:=eqB hb yB zB;replace fB:=fun j=>a0g hb (fB j) zB;replace zB:=zHl hb zB
  replace yC:=eqB hb yC zC;replace fC:=fun j=>a0g hb (fC j) zC;replace zC:=zHl hb zC
  replace yD:=eqB hb yD zD;replace fD:=fun j=>a0g hb (fD j) zD;replace zD:=zHl hb zD
  replace hBo:=f4s hBo hb;clear hb
  go_upto_region 2 with fail
  obtain⟨s2,hws⟩:∃ s,s=(((((w5.setCell ⟨A,0,none⟩ (Sg cn)).setCell ⟨A,1,none⟩ (I6 cc)).setCell ⟨A,2,none⟩ (I6 cr)).setCell ⟨A,3,none⟩ (Bv cf)).setCell ⟨A,4,none⟩ (Bv cg)):=⟨_,rfl⟩;have hBs:Bl w s2:=by rw[hws];exact(sc5 (hBo) lA)
  have hsz:=ss5 hws;replace yB:=eqE hws (eqS (eqS (eqS (eqS (eqS yB dAB) dAB) dAB) dAB) dAB);replace yC:=eqE hws (eqS (eqS (eqS (eqS (eqS yC dAC) dAC) dAC) dAC) dAC);replace yD:=eqE hws (eqS (eqS (eqS (eqS (eqS yD dAD) dAD) dAD) dAD) dAD);have hq:∀ {p v},(((((w5.setCell ⟨A,0,none⟩ (Sg cn)).setCell ⟨A,1,none⟩ (I6 cc)).setCell ⟨A,2,none⟩ (I6 cr)).setCell ⟨A,3,none⟩ (Bv cf)).setCell ⟨A,4,none⟩ (Bv cg)).cell? p=some v->s2.cell? p=some v:=fun h=>by rw[hws];exact h
  replace yA:∀ j,s2.cell? ⟨A,j,none⟩=([Sg cn,I6 cc,I6 cr,Bv cf,Bv cg]:List Value)[j]?:=eqE hws (eqI (eqI (eqI (eqI (eqI yA (jB rfl)) (jB rfl)) (jB rfl)) (jB rfl)) (jB rfl));clear hq;have hQF:=@fz5 _ _ _ _ _ _ _ _ _ _ _ _  hws;replace fB:=fun j=>hQF (fB j)
  replace fC:=fun j=>hQF (fC j)
  replace fD:=fun j=>hQF (fD j)
  clear hQF;replace zA:=szH hsz zA;replace zB:=szH hsz zB;replace zC:=szH hsz zC;replace zD:=szH hsz zD;rw[<-hws];clear hBo hws hsz;have hBo:=hBs;clear hBs;go_wp2_with fail;refine cAn (HK2.out _) fun w6 hb=>?_
  replace yA:=eqB hb yA zA;replace yB:=eqB hb yB zB;replace fB:=fun j=>a0g hb (fB j) zB
  replace yC:=eqB hb yC zC;replace fC:=fun j=>a0g hb (fC j) zC
  replace yD:=eqB hb yD zD;replace fD:=fun j=>a0g hb (fD j) zD
  replace hBo:=f4s hBo hb;clear hb
  go_upto_region 3 with fail
  obtain⟨s3,hws⟩:∃ s,s=(((((w6.setCell ⟨B,0,none⟩ (Sg dn)).setCell ⟨B,1,none⟩ (I6 dc)).setCell ⟨B,2,none⟩ (I6 dr)).setCell ⟨B,3,none⟩ (Bv df)).setCell ⟨B,4,none⟩ (Bv dg)):=⟨_,rfl⟩;have hBs:Bl w s3:=by rw[hws];exact(sc5 (hBo) lB)
  have hsz:=ss5 hws;replace yA:=eqE hws (eqS (eqS (eqS (eqS (eqS yA dBA) dBA) dBA) dBA) dBA);replace yC:=eqE hws (eqS (eqS (eqS (eqS (eqS yC dBC) dBC) dBC) dBC) dBC);replace yD:=eqE hws (eqS (eqS (eqS (eqS (eqS yD dBD) dBD) dBD) dBD) dBD);have hq:∀ {p v},(((((w6.setCell ⟨B,0,none⟩ (Sg dn)).setCell ⟨B,1,none⟩ (I6 dc)).setCell ⟨B,2,none⟩ (I6 dr)).setCell ⟨B,3,none⟩ (Bv df)).setCell ⟨B,4,none⟩ (Bv dg)).cell? p=some v->s3.cell? p=some v:=fun h=>by rw[hws];exact h
  replace yB:∀ j,s3.cell? ⟨B,j,none⟩=([Sg dn,I6 dc,I6 dr,Bv df,Bv dg]:List Value)[j]?:=eqE hws (eqI (eqI (eqI (eqI (eqI yB (jB rfl)) (jB rfl)) (jB rfl)) (jB rfl)) (jB rfl));clear hq;have hQF:=@fz5 _ _ _ _ _ _ _ _ _ _ _ _  hws;replace fC:=fun j=>hQF (fC j)
  replace fD:=fun j=>hQF (fD j)
  clear hQF;rw[<-hws];clear hBo hws hsz;have hBo:=hBs;clear hBs
  go_region
  all_goals go_wp2_with fail
  all_goals refine jU (v:=.tuple #[.agg #[Sg cn,I6 cc,I6 cr,Bv cf,Bv cg],.agg #[Sg dn,I6 dc,I6 dr,Bv df,Bv dg],Value.bool false]) (by simp[results,Tryz.results28,go_sem,yC,yD,zC,zD]) rfl ⟨rfl,?_⟩
  all_goals exact(Below.drew (sc5 (sc5 hBo lC) lD))
 | true =>
  rw[Bool.true_and];go_enter Tryz.func28,Tryz.ntmps28
  go_upto_region 1 with fail
  obtain⟨s4,A,B,C,D,hws,hdA,hdB,hdC,hdD,hsz,zA,zB,zC,zD⟩:=nm4 w (.cells #[Sg an,I6 ac,I6 ar,Bv af,Bv ag] 67) (.cells #[Sg bn,I6 bc,I6 br,Bv bf,Bv bg] 67) (.cells #[S0,I6 0,I6 0,Bv false,Bv false] 67) (.cells #[S0,I6 0,I6 0,Bv false,Bv false] 67);have dAB:A≠B:=by omega
  have dAC:A≠C:=by omega
  have dAD:A≠D:=by omega
  have dBA:B≠A:=by omega
  have dBC:B≠C:=by omega
  have dBD:B≠D:=by omega
  have dCA:C≠A:=by omega
  have dCB:C≠B:=by omega
  have dCD:C≠D:=by omega
  have dDA:D≠A:=by omega
  have dDB:D≠B:=by omega
  have dDC:D≠C:=by omega
  have yA:=by3 (b:=A) hws hdA;have fA:=bf3 (b:=A) hws hdA;have lA:w.heap.size<=A:=by omega
  have yB:=by2 (b:=B) hws (by simp[hdB]);have fB:=bf2 (b:=B) hws (by simp[hdB]);have lB:w.heap.size<=B:=by omega
  have yC:=by1 (b:=C) hws (by simp[hdC]);have fC:=bf1 (b:=C) hws (by simp[hdC]);have lC:w.heap.size<=C:=by omega
  have yD:=by0 (b:=D) hws (by simp[hdD]);have fD:=bf0 (b:=D) hws (by simp[hdD]);have lD:w.heap.size<=D:=by omega
  have hBo:=bs4 bR hws;rw[<-hws];try rw[<-hdD]
  try rw[<-hdC]
  try rw[<-hdB]
  try rw[<-hdA]
  clear hws hsz hdA hdB hdC hdD;go_wp2_with fail;refine cAn (HK1.out _) fun w5 hb=>?_
  replace yA:=eqB hb yA zA;replace fA:=fun j=>a0g hb (fA j) zA;replace zA:=zHl hb zA
  replace yB:=eqB hb yB zB;replace fB:=fun j=>a0g hb (fB j) zB;replace zB:=zHl hb zB
  replace yC:=eqB hb yC zC;replace fC:=fun j=>a0g hb (fC j) zC;replace zC:=zHl hb zC
  replace yD:=eqB hb yD zD;replace fD:=fun j=>a0g hb (fD j) zD;replace zD:=zHl hb zD
  replace hBo:=f4s hBo hb;clear hb
  go_upto_region 2 with fail
  obtain⟨s5,hws⟩:∃ s,s=(((((w5.setCell ⟨A,0,none⟩ (Sg cn)).setCell ⟨A,1,none⟩ (I6 cc)).setCell ⟨A,2,none⟩ (I6 cr)).setCell ⟨A,3,none⟩ (Bv cf)).setCell ⟨A,4,none⟩ (Bv cg)):=⟨_,rfl⟩;have hBs:Bl w s5:=by rw[hws];exact(sc5 (hBo) lA)
  have hsz:=ss5 hws;replace yB:=eqE hws (eqS (eqS (eqS (eqS (eqS yB dAB) dAB) dAB) dAB) dAB);replace yC:=eqE hws (eqS (eqS (eqS (eqS (eqS yC dAC) dAC) dAC) dAC) dAC);replace yD:=eqE hws (eqS (eqS (eqS (eqS (eqS yD dAD) dAD) dAD) dAD) dAD);have hq:∀ {p v},(((((w5.setCell ⟨A,0,none⟩ (Sg cn)).setCell ⟨A,1,none⟩ (I6 cc)).setCell ⟨A,2,none⟩ (I6 cr)).setCell ⟨A,3,none⟩ (Bv cf)).setCell ⟨A,4,none⟩ (Bv cg)).cell? p=some v->s5.cell? p=some v:=fun h=>by rw[hws];exact h
  replace yA:∀ j,s5.cell? ⟨A,j,none⟩=([Sg cn,I6 cc,I6 cr,Bv cf,Bv cg]:List Value)[j]?:=eqE hws (eqI (eqI (eqI (eqI (eqI yA (jB rfl)) (jB rfl)) (jB rfl)) (jB rfl)) (jB rfl));clear hq;have hQF:=@fz5 _ _ _ _ _ _ _ _ _ _ _ _  hws;replace fB:=fun j=>hQF (fB j)
  replace fC:=fun j=>hQF (fC j)
  replace fD:=fun j=>hQF (fD j)
  clear hQF;replace zA:=szH hsz zA;replace zB:=szH hsz zB;replace zC:=szH hsz zC;replace zD:=szH hsz zD;rw[<-hws];clear hBo hws hsz;have hBo:=hBs;clear hBs;go_wp2_with fail;refine cAn (HK2.out _) fun w6 hb=>?_
  replace yA:=eqB hb yA zA;replace yB:=eqB hb yB zB;replace fB:=fun j=>a0g hb (fB j) zB
  replace yC:=eqB hb yC zC;replace fC:=fun j=>a0g hb (fC j) zC
  replace yD:=eqB hb yD zD;replace fD:=fun j=>a0g hb (fD j) zD
  replace hBo:=f4s hBo hb;clear hb
  go_upto_region 3 with fail
  obtain⟨s6,hws⟩:∃ s,s=(((((w6.setCell ⟨B,0,none⟩ (Sg dn)).setCell ⟨B,1,none⟩ (I6 dc)).setCell ⟨B,2,none⟩ (I6 dr)).setCell ⟨B,3,none⟩ (Bv df)).setCell ⟨B,4,none⟩ (Bv dg)):=⟨_,rfl⟩;have hBs:Bl w s6:=by rw[hws];exact(sc5 (hBo) lB)
  have hsz:=ss5 hws;replace yA:=eqE hws (eqS (eqS (eqS (eqS (eqS yA dBA) dBA) dBA) dBA) dBA);replace yC:=eqE hws (eqS (eqS (eqS (eqS (eqS yC dBC) dBC) dBC) dBC) dBC);replace yD:=eqE hws (eqS (eqS (eqS (eqS (eqS yD dBD) dBD) dBD) dBD) dBD);have hq:∀ {p v},(((((w6.setCell ⟨B,0,none⟩ (Sg dn)).setCell ⟨B,1,none⟩ (I6 dc)).setCell ⟨B,2,none⟩ (I6 dr)).setCell ⟨B,3,none⟩ (Bv df)).setCell ⟨B,4,none⟩ (Bv dg)).cell? p=some v->s6.cell? p=some v:=fun h=>by rw[hws];exact h
  replace yB:∀ j,s6.cell? ⟨B,j,none⟩=([Sg dn,I6 dc,I6 dr,Bv df,Bv dg]:List Value)[j]?:=eqE hws (eqI (eqI (eqI (eqI (eqI yB (jB rfl)) (jB rfl)) (jB rfl)) (jB rfl)) (jB rfl));clear hq;have hQF:=@fz5 _ _ _ _ _ _ _ _ _ _ _ _  hws;replace fC:=fun j=>hQF (fC j)
  replace fD:=fun j=>hQF (fD j)
  clear hQF;rw[<-hws];clear hBo hws hsz;have hBo:=hBs;clear hBs
  go_region
  all_goals go_wp2_with fail
  all_goals refine jU (v:=.tuple #[.agg #[Sg cn,I6 cc,I6 cr,Bv cf,Bv cg],.agg #[Sg dn,I6 dc,I6 dr,Bv df,Bv dg],Value.bool q]) (by simp[results,Tryz.results28,go_sem,yC,yD,zC,zD]) rfl ⟨rfl,?_⟩
  all_goals exact(Below.drew (sc5 (sc5 hBo lC) lD))
def e4u (N:List Nd) (w:World) (e:Ending) (w':World):Prop:=(∃ us,e=.returned us/\w'.ownsRow w.heap.size 69 19 us N.length (nodeL N))/\Bl w w'
theorem e1f (w:World) (e:TypeId) (size:Nat) (cs:Array Value) (hc:cs.size=0):(w.alloc (.cells cs e)).ownsRow w.heap.size e size (.slice (some ⟨w.heap.size,0,none⟩) 0 0) 0 [] :=
 ⟨by simp,Or.inr ⟨w.heap.size,0,cs,rfl,jC _,by rw[<-World.alloc_eq];show (w.heap.push _)[w.heap.size]?=_;simp,jC _,by decide,by rw[hc];omega,by simp⟩⟩
theorem e6h (u:Value) (N:List Nd) (w:World) (hN:NodesAt w u N) (hl:N.length<=90000):Calls Tryz.prog 58 #[u] w (e4u N w):=by
 have hud:=hUd;obtain⟨Po,hPo⟩:=nM (e4u N w);rw[<-hPo];have HPO:=zh hPo;have HN:=zh hN;have HNB:=zh (show N.length<=100000 by omega);obtain⟨bn,cn,rfl,_⟩:=hN.slice;obtain⟨LN,hLN⟩:=nM N.length;rw[<-hLN] at HN hl |-
 have HLN:=zh hLN;clear hN hPo hLN
 cases bn with
 | none =>
  have hq:Sem.run Tryz.prog (binOp .eql 22 (.slice none LN cn) (.slice none 0 0)) w=.ok (Bv true) w:=by first | rfl | kernel_rfl | simp[go_sem]
  have hz:N=[]:=by
   rcases HN.out with ⟨_,rfl⟩ | ⟨g,o,cap,hv,_⟩
   ·
    rfl
   ·
    cases hv
  subst hz;go_enter Tryz.func58,Tryz.ntmps58;go_wp2_with fail;show Po (.returned (.slice none 0 0)) w;rw[HPO.out];exact⟨⟨_,rfl,World.ownsRow_nil _ _ _ _⟩,Below.refl _ _⟩
 | some a =>
  have hq:Sem.run Tryz.prog (binOp .eql 22 (.slice (some a) LN cn) (.slice none 0 0)) w=.ok (Bv false) w:=by first | rfl | kernel_rfl | simp[go_sem]
  go_enter Tryz.func58,Tryz.ntmps58;go_wp2_with (at_builtin;refine a1k rfl _ _ rfl (base:=w.heap.size) (N:=[]) (M:=N) (by rfl) (e1f w _ _ _ (by rfl)) (by rfl) (HN.out.below ((Below.refl _ _).alloc (jC _) _)) (by simp) HNB.out (by simp) ?_;intro v2 wb hown2 hgrow2 hnear2);show Po (.returned v2) wb;rw[HPO.out];rw[List.nil_append] at hown2;exact⟨⟨_,rfl,hown2⟩,a3m ((Below.refl _ w).alloc (jC _) _) (e1f w 69 19 #[] rfl) (jC _) (by simp) hgrow2⟩
def f1f (A:List Int) (w:World) (e:Ending) (w':World):Prop:=(∃ vs,e=.returned vs/\w'.ownsRow w.heap.size 3 1 vs A.length (intL A))/\Bl w w'
theorem e6i (v:Value) (A:List Int) (w:World) (h:IntsAt w v A) (hl:A.length<=1000):Calls Tryz.prog 59 #[v] w (f1f A w):=by
 rcases h with ⟨rfl,rfl⟩ | ⟨g,o,cap,rfl,h1,h2,hc⟩
 ·
  refine(Tryz.slices_Clone_int_nil 0 0 w).mono ?_;rintro e w' ⟨rfl,rfl⟩;exact⟨⟨_,rfl,World.ownsRow_nil _ _ _ _⟩,Below.refl _ _⟩
 ·
  refine(Tryz.slices_Clone_int g o A.length cap A w (jC _) (by omega) hc).mono ?_;rintro e w' ⟨v',rfl,ho,_,hb⟩;rw[List.take_length] at ho;exact⟨⟨_,rfl,ho⟩,hb⟩
set_option maxHeartbeats 4000000
def e6j (own sheet:jW) (r:Rf):Bool:=(r.sh.toList==sheet.toList) || (r.sh.toList.isEmpty&&(own.toList==sheet.toList))
def f1l (own sheet:jW) (n:Nd):Bool:=((n.k==5) || (n.k==6))&&e6j own sheet n.r
theorem d8h (own sheet:jW) (r:Rf) (w:World):Calls Tryz.prog 89 #[.agg #[Sg own,Sg sheet],.agg #[Sg r.sh,I6 r.c,I6 r.r,Bv r.fc,Bv r.fr]] w fun e w'=>e=.returned (Bv (e6j own sheet r))/\Bl w w':=by
 have hud:=hUd;obtain⟨sh,c,rr,fc,fr⟩:=r;obtain⟨R,hR⟩:∃ R,R=e6j own sheet ⟨sh,c,rr,fc,fr⟩:=⟨_,rfl⟩;rw[<-hR];unfold e6j at hR;dsimp only at hR |-
 cases h1:(sh.toList==sheet.toList)<;>cases h2:sh.toList.isEmpty<;>cases h3:(own.toList==sheet.toList)
 all_goals
  rw[h1,h2,h3] at hR;have HR:=zh hR;clear hR;go_enter Tryz.func89,Tryz.ntmps89
  go_upto_region 1 with fail
  obtain⟨s1,P,A,hws,hdP,hdA,hsz,zP,zA⟩:=nm2 w (.cells #[Sg own,Sg sheet] 78) (.cells #[Sg sh,I6 c,I6 rr,Bv fc,Bv fr] 67);have hN:=bx1 (b:=P) hws hdP;have kP0:=hN 0 _ rfl;have kP1:=hN 1 _ rfl;clear hN;have yA:=by0 (b:=A) hws (by simp[hdA]);have hBo:=bs2 bR hws;rw[<-hws];try rw[<-hdA]
  try rw[<-hdP]
  clear hws hsz hdP hdA;go_wp2_with fail
  go_ret
  exact⟨a0d HR.out.symm,hBo⟩
theorem e1x (own sheet:jW) (n:Nd) (w:World):Calls Tryz.prog 48 #[.agg #[Sg own,Sg sheet],ndV n] w fun e w'=>e=.returned (Bv (f1l own sheet n))/\Bl w w':=by
 have hud:=hUd;obtain⟨K19,hz19,HK19⟩:=a0q;have HH:=zh (fun w=>d8h own sheet n.r w);obtain⟨R,hR⟩:=nM (f1l own sheet n);rw[<-hR];unfold f1l at hR;generalize e6j own sheet n.r=q at *;obtain⟨k,o,a,b,qn,qa,qd,x,tr,r,t⟩:=n;dsimp only at hR HH |-
 cases h1:(k==5)<;>cases h2:(k==6)
 all_goals
  rw[h1,h2] at hR;have HR:=zh hR;clear hR;go_enter Tryz.func48,Tryz.ntmps48
  go_upto_region 1 with fail
  obtain⟨s2,P,A,hws,hdP,hdA,hsz,zP,zA⟩:=nm2 w (.cells #[Sg own,Sg sheet] 78) (.cells #[I6 k,I6 o,I6 a,I6 b,Bv qn,Sg qa,Sg qd,Sg x,Bv tr,Sg r.sh,I6 r.c,I6 r.r,Bv r.fc,Bv r.fr,Sg t.sh,I6 t.c,I6 t.r,Bv t.fc,Bv t.fr] 69);have hN:=bx1 (b:=P) hws hdP;have kP0:=hN 0 _ rfl;have kP1:=hN 1 _ rfl;clear hN;have yA:=by0 (b:=A) hws (by simp[hdA]);have hBo:=bs2 bR hws;rw[<-hws];try rw[<-hdA]
  try rw[<-hdP]
  clear hws hsz hdP hdA;go_wp2_with fail
  try
   refine cAn (HH.out _) fun w5 hb=>?_
   replace hBo:=bT hBo hb;go_wp2_with fail
  go_ret
  exact⟨a0d HR.out.symm,hBo⟩
set_option maxHeartbeats 8000000
theorem f3b (x y:Value) (w:World):(callFunc 48 #[x,y]).run Tryz.prog w=.ok (.enter 48 #[x,y]) w:=by kernel_rfl
def e0q (own sheet:jW) (N:List Nd):Bool:=N.any (f1l own sheet)
def f3c (t0:World) (own sheet:jW) (N:List Nd) (r:Value) (wr:World):Prop:=∃ k:Nat,k<=N.length/\r=I6 k/\(∀ n ∈ N.take k,f1l own sheet n=false)/\Bl t0 wr
def e4a (own sheet:jW) (N:List Nd) (w:World) (e:Ending) (w':World):Prop:=∃ r:Int,e=.returned (I6 r)/\-1<=r/\r<=1000000/\decide (0<=r)=e0q own sheet N/\Bl w w'
theorem e6k (own sheet:jW) (v:Value) (N:List Nd) (w:World) (hv:NodesAt w v N) (hl:N.length<=100000) :
  Calls Tryz.prog 88 #[v,.func (.func 48) #[.agg #[Sg own,Sg sheet]] #[]] w (e4a own sheet N w):=by
 obtain⟨K19,hz19,HK19⟩:=a0q;obtain⟨Po,hPo⟩:=nM (e4a own sheet N w);rw[<-hPo];have HPO:=zh hPo;have HA:=zh (fun n W=>e1x own sheet n W);obtain⟨bt,ct,rfl,hcs⟩:=hv.slice;have HCS:=zh hcs;have HGE:Hid (∀ k,k<N.length->∃ g,N[k]?=some g):=fun k h=>⟨_,jH h⟩
 obtain⟨L,hL⟩:=nM N.length;rw[<-hL] at HGE hl |-
 have HLL:=zh hL;obtain⟨FA,hFA⟩:=nM (48);have HCF:∀ x y w,(callFunc FA #[x,y]).run Tryz.prog w=.ok (.enter FA #[x,y]) w:=by rw[hFA];exact f3b
 rw[<-hFA] at HA |-
 clear hPo hv hcs hL hFA;go_enter Tryz.func88,Tryz.ntmps88;go_wp2_with fail;obtain⟨t0,ht0⟩:=nM w;subst ht0
 go_loopw [8] (f3c t0 own sheet N) (fun r _=>L-(intOf r).toNat)
 case atStart=>exact⟨0,Nat.zero_le _,rfl,fun g h=>by simp at h,Below.refl _ _⟩
 case round =>
  obtain⟨k,hk,rfl,hR,hBo⟩:=hrel;rw[<-HLL.out] at hk;have HRT:=zh hR;clear hR;by_cases hlt:k<L
  ·
   obtain⟨n,hn⟩:=HGE.out k hlt;obtain⟨gg,oo,rfl,hcn⟩:=HCS.out k n hn;have LN0:=a0p wr gg (oo+k*K19) HK19 n (fun j u hu=>by rw[HK19.out];exact a0f hBo (hcn j u hu) (a0j (hcn j u hu)));have HG:=zh hn;have hkm:(k:Int)<=100000:=by omega
   have HBO:=zh hBo;have HCL:=zh (HA.out n wr);clear hn hcn hBo;go_wp2_with fail;refine HCL.out.mono ?_;rintro e w5 ⟨rfl,hb⟩;have HB5:=zh (HBO.out.trans (hb.mono HBO.out.size));clear hb LN0
   cases hx:f1l own sheet n with
   | false =>
    have HX:=zh hx;clear hx;go_wp2_with fail
    go_roundw
    case rel =>
     refine⟨k+1,by rw[<-HLL.out];omega,by go_num,?_,HB5.out⟩;intro g2 hg2;rw[List.take_add_one,HG.out,Option.toList_some] at hg2
     rcases List.mem_append.1 hg2 with h | h
     ·
      exact HRT.out g2 h
     ·
      rw[List.mem_singleton.1 h];exact HX.out
    case measure=>simp[intOf];omega
   | true =>
    have HX:=zh hx;clear hx;go_wp2_with fail;show Po _ _;rw[HPO.out];refine⟨k,rfl,by omega,by omega,?_,HB5.out⟩;have:e0q own sheet N=true:=List.any_eq_true.2 ⟨n,List.mem_of_getElem? HG.out,HX.out⟩;rw[this];simp
  ·
   obtain rfl:k=L:=by omega
   have HBO:=zh hBo;clear hBo;go_wp2_with fail;show Po _ _;rw[HPO.out];refine⟨-1,rfl,by omega,by omega,?_,HBO.out⟩
   have:e0q own sheet N=false:=by
    rw[e0q,List.any_eq_false];intro x hx;rw[HRT.out x (by rw[HLL.out,List.take_length];exact hx)];simp
   rw[this];simp
theorem e1y (own sheet:jW) (v:Value) (N:List Nd) (w:World) (hv:NodesAt w v N) (hl:N.length<=100000) :
  Calls Tryz.prog 47 #[v,.func (.func 48) #[.agg #[Sg own,Sg sheet]] #[]] w fun e w'=>e=.returned (Bv (e0q own sheet N))/\Bl w w':=by
 have hi:=e6k own sheet v N w hv hl;unfold e4a at hi;have HI:=zh hi;clear hi;obtain⟨cv,hcv⟩:=nM (Value.func (.func 48) #[.agg #[Sg own,Sg sheet]] #[]);rw[<-hcv] at HI |-
 clear hv hl hcv;generalize e0q own sheet N=b at *;go_enter Tryz.func47,Tryz.ntmps47;go_wp2_with fail;refine HI.out.mono ?_;rintro e w5 ⟨r,rfl,r1,r2,hr,hb⟩
 cases b with
 | false =>
  have hr':r=-1:=by have:=of_decide_eq_false hr;omega
  subst hr';clear hr r1 r2;go_wp2_with fail
  go_ret
  exact⟨rfl,hb⟩
 | true =>
  have hr':0<=r:=jB hr;clear hr r1 r2;go_wp2_with fail
  go_ret
  exact⟨a0d (by simp),hb⟩
theorem e9v (u v:Value) (N:List Nd) (A:List Int) (own sheet:jW) (w:World) (hN:NodesAt w u N) (hA:IntsAt w v A) (hf:∀ n ∈ N,Fits n) (hnm:NamesAt w) (hl:A.length<=1000) (hl2:N.length<=1000) :
  Calls Tryz.prog 16 #[.agg #[u,v],Sg own,Sg sheet] w fun e w'=>e=.returned (Bv (a0w N A&&e0q own sheet N))/\Bl w w':=by
 have hud:=hUd;have hr:=fun W h1 h2 h3=>a3y u v N A W h1 h2 hf h3 hl hl2
 have HC:=zh (fun W h1=>e1y own sheet u N W h1 (by omega));have HN:=zh hN;have HA:=zh hA;have HM:=zh hnm;obtain⟨R,hR⟩:=nM ((a0w N A&&e0q own sheet N));rw[<-hR];generalize e0q own sheet N=q at *
 cases h:a0w N A
 all_goals
  rw[h] at hr hR;have HRT:=zh hr;have HR:=zh hR
 all_goals
  clear hr hR hN hA hnm hf h;go_enter Tryz.func16,Tryz.ntmps16
  go_upto_region 1 with fail
  obtain⟨s1,F,hws,hdF,hsz,zF⟩:=nm1 w (.cells #[u,v] 25);have hN:=bx0 (b:=F) hws hdF;have kF0:=hN 0 _ rfl;have kF1:=hN 1 _ rfl;clear hN;have hBo:=bs1 bR hws;rw[<-hws];try rw[<-hdF]
  clear hws hsz hdF;go_wp2_with fail;refine cAn (HRT.out _ (HN.out.below hBo) (HA.out.below hBo) (HM.out.below hBo)) fun w5 hb=>?_
  replace kF0:=a0f hb kF0 zF;replace hBo:=f4s hBo hb;clear hb;go_wp2_with fail
  try
   refine cAn (HC.out _ (HN.out.below hBo)) fun w6 hb=>?_
   replace hBo:=bT hBo hb;go_wp2_with fail
  go_ret
  exact⟨a0d HR.out.symm,hBo⟩
end Go.Proofs.YtibiacmbljgmhaaGreatDoor
