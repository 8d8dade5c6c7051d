import Derived.Test.YtibiacmbljgmhaaGreatDoorRdr5
set_option maxHeartbeats 16000000
set_option maxRecDepth 100000
namespace Go.Proofs.YtibiacmbljgmhaaGreatDoor
open Go.RowKit Go.Shelf
set_option linter.all false
theorem e0z (a b:Rf) (w:World) :
  Calls Tryz.prog 65 #[.agg #[Sg a.sh,I6 a.c,I6 a.r,Bv a.fc,Bv a.fr],.agg #[Sg b.sh,I6 b.c,I6 b.r,Bv b.fc,Bv b.fr]] w fun e w'=>e=.returned (.tuple #[.agg #[Sg ((d7o a b).1).sh,I6 ((d7o a b).1).c,I6 ((d7o a b).1).r,Bv ((d7o a b).1).fc,Bv ((d7o a b).1).fr],.agg #[Sg ((d7o a b).2).sh,I6 ((d7o a b).2).c,I6 ((d7o a b).2).r,Bv ((d7o a b).2).fc,Bv ((d7o a b).2).fr],I6 (a8z (d7o a b).1.c (d7o a b).1.r (d7o a b).2.c (d7o a b).2.r)])/\Bl w w':=by
 obtain⟨o,ho⟩:=nM (d7o a b);rw[<-ho];unfold d7o at ho;dsimp only at ho;obtain⟨an,ac,ar,af,ag⟩:=a;obtain⟨bn,bc,br,bf,bg⟩:=b;unfold e0m at ho;dsimp only at ho;obtain⟨x,y⟩:=o;have HBX:=zh (fun w=>c5g x y w);have HNR:=zh (fun w=>b3l x.c x.r y.c y.r w);obtain⟨n1,n2,n3,n4,hv⟩:=b5d x.c x.r y.c y.r;rw[hv] at HNR;generalize a8z x.c x.r y.c y.r=ne at *;clear hv;by_cases hc:ac > bc
 ·
  rw[if_pos hc] at ho;unfold e0n at ho;dsimp only at ho;by_cases hr:ar > br
  ·
   rw[if_pos hr] at ho;obtain⟨rfl,rfl⟩:=Prod.mk.inj ho;clear ho;dsimp only at HBX HNR |-
   have hc2:bc<ac:=hc;have hr2:br<ar:=hr;clear hc hr;go_enter Tryz.func65,Tryz.ntmps65
   go_upto_region 1 with fail
   obtain⟨s1,A,B,C,D,hws,hdA,hdB,hdC,hdD,hsz,zA,zB,zC,zD⟩:=nm4 w (.cells #[Sg an,I6 ac,I6 ar,Bv af,Bv ag] 67) (.cells #[Sg bn,I6 bc,I6 br,Bv bf,Bv bg] 67) (.cells #[S0,I6 0,I6 0,Bv false,Bv false] 67) (.cells #[S0,I6 0,I6 0,Bv false,Bv false] 67);have dCA:C≠A:=by omega
   have dCB:C≠B:=by omega
   have dCD:C≠D:=by omega
   have dDA:D≠A:=by omega
   have dDB:D≠B:=by omega
   have dDC:D≠C:=by omega
   have yA:=by3 (b:=A) hws hdA;have yB:=by2 (b:=B) hws (by simp[hdB]);have yC:=by1 (b:=C) hws (by simp[hdC]);have fC:=bf1 (b:=C) hws (by simp[hdC]);have lC:w.heap.size<=C:=by omega
   have yD:=by0 (b:=D) hws (by simp[hdD]);have fD:=bf0 (b:=D) hws (by simp[hdD]);have lD:w.heap.size<=D:=by omega
   have hBo:=bs4 bR hws;rw[<-hws];try rw[<-hdD]
   try rw[<-hdC]
   try rw[<-hdB]
   try rw[<-hdA]
   clear hws hsz hdA hdB hdC hdD
   go_upto_region 3 with fail
   obtain⟨s2,X,Y,hws,hdX,hdY,hsz,zX,zY⟩:=nm2 s1 (.cells #[Sg an,I6 ac,I6 ar,Bv af,Bv ag] 67) (.cells #[Sg bn,I6 bc,I6 br,Bv bf,Bv bg] 67);have hUp:=up2 hws;have dCX:C≠X:=by omega
   have dCY:C≠Y:=by omega
   have dDX:D≠X:=by omega
   have dDY:D≠Y:=by omega
   have dXA:X≠A:=by omega
   have dXB:X≠B:=by omega
   have dXC:X≠C:=by omega
   have dXD:X≠D:=by omega
   have dXY:X≠Y:=by omega
   have dYA:Y≠A:=by omega
   have dYB:Y≠B:=by omega
   have dYC:Y≠C:=by omega
   have dYD:Y≠D:=by omega
   have dYX:Y≠X:=by omega
   replace yA:=eqB hUp yA zA;replace yB:=eqB hUp yB zB;replace yC:=eqB hUp yC zC;replace fC:=fun j=>a0g hUp (fC j) zC;replace zC:=zHl hUp zC
   replace yD:=eqB hUp yD zD;replace fD:=fun j=>a0g hUp (fD j) zD;replace zD:=zHl hUp zD
   clear hUp;have yX:=by1 (b:=X) hws hdX;have fX:=bf1 (b:=X) hws hdX;have lX:w.heap.size<=X:=by have:=hBo.size;omega
   have yY:=by0 (b:=Y) hws (by simp[hdY]);have fY:=bf0 (b:=Y) hws (by simp[hdY]);have lY:w.heap.size<=Y:=by have:=hBo.size;omega
   replace hBo:=bs2 hBo hws;rw[<-hws];try rw[<-hdY]
   try rw[<-hdX]
   clear hws hsz hdX hdY
   go_upto_region 8 with fail
   obtain⟨s3,hws⟩:∃ s,s=((((s2.setCell ⟨X,1,none⟩ (I6 bc)).setCell ⟨X,3,none⟩ (Bv bf)).setCell ⟨Y,1,none⟩ (I6 ac)).setCell ⟨Y,3,none⟩ (Bv af)):=⟨_,rfl⟩;have hBs:Bl w s3:=by rw[hws];exact(sc2 (sc2 (hBo) lX) lY)
   have hsz:=ss4 hws;replace yA:=eqE hws (eqS (eqS (eqS (eqS yA dXA) dXA) dYA) dYA);replace yB:=eqE hws (eqS (eqS (eqS (eqS yB dXB) dXB) dYB) dYB);replace yC:=eqE hws (eqS (eqS (eqS (eqS yC dXC) dXC) dYC) dYC);replace yD:=eqE hws (eqS (eqS (eqS (eqS yD dXD) dXD) dYD) dYD);have hq:∀ {p v},((((s2.setCell ⟨X,1,none⟩ (I6 bc)).setCell ⟨X,3,none⟩ (Bv bf)).setCell ⟨Y,1,none⟩ (I6 ac)).setCell ⟨Y,3,none⟩ (Bv af)).cell? p=some v->s3.cell? p=some v:=fun h=>by rw[hws];exact h
   replace yX:∀ j,s3.cell? ⟨X,j,none⟩=([Sg an,I6 bc,I6 ar,Bv bf,Bv ag]:List Value)[j]?:=eqE hws (eqS (eqS (eqI (eqI yX (jB rfl)) (jB rfl)) dYX) dYX);replace yY:∀ j,s3.cell? ⟨Y,j,none⟩=([Sg bn,I6 ac,I6 br,Bv af,Bv bg]:List Value)[j]?:=eqE hws (eqI (eqI (eqS (eqS yY dXY) dXY) (jB rfl)) (jB rfl));clear hq;have hQF:=@fz4 _ _ _ _ _ _ _ _ _ _  hws;replace fC:=fun j=>hQF (fC j)
   replace fD:=fun j=>hQF (fD j)
   replace fX:=fun j=>hQF (fX j)
   replace fY:=fun j=>hQF (fY j)
   clear hQF;replace zC:=szH hsz zC;replace zD:=szH hsz zD;replace zX:=szH hsz zX;replace zY:=szH hsz zY;rw[<-hws];clear hBo hws hsz;have hBo:=hBs;clear hBs
   go_upto_region 13 with fail
   obtain⟨s4,hws⟩:∃ s,s=((((s3.setCell ⟨X,2,none⟩ (I6 br)).setCell ⟨X,4,none⟩ (Bv bg)).setCell ⟨Y,2,none⟩ (I6 ar)).setCell ⟨Y,4,none⟩ (Bv ag)):=⟨_,rfl⟩;have hBs:Bl w s4:=by rw[hws];exact(sc2 (sc2 (hBo) lX) lY)
   have hsz:=ss4 hws;replace yC:=eqE hws (eqS (eqS (eqS (eqS yC dXC) dXC) dYC) dYC);replace yD:=eqE hws (eqS (eqS (eqS (eqS yD dXD) dXD) dYD) dYD);have hq:∀ {p v},((((s3.setCell ⟨X,2,none⟩ (I6 br)).setCell ⟨X,4,none⟩ (Bv bg)).setCell ⟨Y,2,none⟩ (I6 ar)).setCell ⟨Y,4,none⟩ (Bv ag)).cell? p=some v->s4.cell? p=some v:=fun h=>by rw[hws];exact h
   replace yX:∀ j,s4.cell? ⟨X,j,none⟩=([Sg an,I6 bc,I6 br,Bv bf,Bv bg]:List Value)[j]?:=eqE hws (eqS (eqS (eqI (eqI yX (jB rfl)) (jB rfl)) dYX) dYX);replace yY:∀ j,s4.cell? ⟨Y,j,none⟩=([Sg bn,I6 ac,I6 ar,Bv af,Bv ag]:List Value)[j]?:=eqE hws (eqI (eqI (eqS (eqS yY dXY) dXY) (jB rfl)) (jB rfl));clear hq;have hQF:=@fz4 _ _ _ _ _ _ _ _ _ _  hws;replace fC:=fun j=>hQF (fC j)
   replace fD:=fun j=>hQF (fD j)
   clear hQF;replace zC:=szH hsz zC;replace zD:=szH hsz zD;replace zX:=szH hsz zX;replace zY:=szH hsz zY;rw[<-hws];clear hBo hws hsz;have hBo:=hBs;clear hBs;go_wp2_with fail;refine cAn (HBX.out _) fun s5 hb=>?_
   replace yC:=eqB hb yC zC;replace fC:=fun j=>a0g hb (fC j) zC;replace zC:=zHl hb zC
   replace yD:=eqB hb yD zD;replace fD:=fun j=>a0g hb (fD j) zD;replace zD:=zHl hb zD
   replace yX:=eqB hb yX zX;replace zX:=zHl hb zX;replace yY:=eqB hb yY zY;replace zY:=zHl hb zY;replace hBo:=bT hBo hb;clear hb;go_wp2_with fail;refine cAn (HNR.out _) fun s6 hb=>?_
   replace yC:=eqB hb yC zC;replace fC:=fun j=>a0g hb (fC j) zC;replace zC:=zHl hb zC
   replace yD:=eqB hb yD zD;replace fD:=fun j=>a0g hb (fD j) zD;replace zD:=zHl hb zD
   replace yX:=eqB hb yX zX;replace zX:=zHl hb zX;replace yY:=eqB hb yY zY;replace zY:=zHl hb zY;replace hBo:=bT hBo hb;clear hb
   go_upto_region 14 with fail
   obtain⟨s7,Z,hws,hdZ,hsz,zZ⟩:=nm1 s6 (.cells #[I6 n1,I6 n2,I6 n3,I6 n4] 108);have hUp:=up1 hws;have dCZ:C≠Z:=by omega
   have dDZ:D≠Z:=by omega
   have dXZ:X≠Z:=by omega
   have dYZ:Y≠Z:=by omega
   replace yC:=eqB hUp yC zC;replace fC:=fun j=>a0g hUp (fC j) zC
   replace yD:=eqB hUp yD zD;replace fD:=fun j=>a0g hUp (fD j) zD
   replace yX:=eqB hUp yX zX;replace yY:=eqB hUp yY zY;clear hUp;replace hBo:=bs1 hBo hws;rw[<-hws];try rw[<-hdZ]
   clear hws hsz hdZ
   go_region
   all_goals go_wp2_with fail
   all_goals refine jU (v:=.tuple #[.agg #[Sg an,I6 bc,I6 br,Bv bf,Bv bg],.agg #[Sg bn,I6 ac,I6 ar,Bv af,Bv ag],I6 ne]) (by simp[results,Tryz.results65,go_sem,yC,yD,zC,zD]) rfl ⟨rfl,?_⟩
   all_goals exact(Below.drew (sc5 (sc5 hBo lC) lD))
  ·
   rw[if_neg hr] at ho;obtain⟨rfl,rfl⟩:=Prod.mk.inj ho;clear ho;dsimp only at HBX HNR |-
   have hc2:bc<ac:=hc;have hr2 : ¬ br<ar:=hr;clear hc hr;go_enter Tryz.func65,Tryz.ntmps65
   go_upto_region 1 with fail
   obtain⟨s8,A,B,C,D,hws,hdA,hdB,hdC,hdD,hsz,zA,zB,zC,zD⟩:=nm4 w (.cells #[Sg an,I6 ac,I6 ar,Bv af,Bv ag] 67) (.cells #[Sg bn,I6 bc,I6 br,Bv bf,Bv bg] 67) (.cells #[S0,I6 0,I6 0,Bv false,Bv false] 67) (.cells #[S0,I6 0,I6 0,Bv false,Bv false] 67);have dCA:C≠A:=by omega
   have dCB:C≠B:=by omega
   have dCD:C≠D:=by omega
   have dDA:D≠A:=by omega
   have dDB:D≠B:=by omega
   have dDC:D≠C:=by omega
   have yA:=by3 (b:=A) hws hdA;have yB:=by2 (b:=B) hws (by simp[hdB]);have yC:=by1 (b:=C) hws (by simp[hdC]);have fC:=bf1 (b:=C) hws (by simp[hdC]);have lC:w.heap.size<=C:=by omega
   have yD:=by0 (b:=D) hws (by simp[hdD]);have fD:=bf0 (b:=D) hws (by simp[hdD]);have lD:w.heap.size<=D:=by omega
   have hBo:=bs4 bR hws;rw[<-hws];try rw[<-hdD]
   try rw[<-hdC]
   try rw[<-hdB]
   try rw[<-hdA]
   clear hws hsz hdA hdB hdC hdD
   go_upto_region 3 with fail
   obtain⟨s9,X,Y,hws,hdX,hdY,hsz,zX,zY⟩:=nm2 s8 (.cells #[Sg an,I6 ac,I6 ar,Bv af,Bv ag] 67) (.cells #[Sg bn,I6 bc,I6 br,Bv bf,Bv bg] 67);have hUp:=up2 hws;have dCX:C≠X:=by omega
   have dCY:C≠Y:=by omega
   have dDX:D≠X:=by omega
   have dDY:D≠Y:=by omega
   have dXA:X≠A:=by omega
   have dXB:X≠B:=by omega
   have dXC:X≠C:=by omega
   have dXD:X≠D:=by omega
   have dXY:X≠Y:=by omega
   have dYA:Y≠A:=by omega
   have dYB:Y≠B:=by omega
   have dYC:Y≠C:=by omega
   have dYD:Y≠D:=by omega
   have dYX:Y≠X:=by omega
   replace yA:=eqB hUp yA zA;replace yB:=eqB hUp yB zB;replace yC:=eqB hUp yC zC;replace fC:=fun j=>a0g hUp (fC j) zC;replace zC:=zHl hUp zC
   replace yD:=eqB hUp yD zD;replace fD:=fun j=>a0g hUp (fD j) zD;replace zD:=zHl hUp zD
   clear hUp;have yX:=by1 (b:=X) hws hdX;have fX:=bf1 (b:=X) hws hdX;have lX:w.heap.size<=X:=by have:=hBo.size;omega
   have yY:=by0 (b:=Y) hws (by simp[hdY]);have fY:=bf0 (b:=Y) hws (by simp[hdY]);have lY:w.heap.size<=Y:=by have:=hBo.size;omega
   replace hBo:=bs2 hBo hws;rw[<-hws];try rw[<-hdY]
   try rw[<-hdX]
   clear hws hsz hdX hdY
   go_upto_region 8 with fail
   obtain⟨s10,hws⟩:∃ s,s=((((s9.setCell ⟨X,1,none⟩ (I6 bc)).setCell ⟨X,3,none⟩ (Bv bf)).setCell ⟨Y,1,none⟩ (I6 ac)).setCell ⟨Y,3,none⟩ (Bv af)):=⟨_,rfl⟩;have hBs:Bl w s10:=by rw[hws];exact(sc2 (sc2 (hBo) lX) lY)
   have hsz:=ss4 hws;replace yA:=eqE hws (eqS (eqS (eqS (eqS yA dXA) dXA) dYA) dYA);replace yB:=eqE hws (eqS (eqS (eqS (eqS yB dXB) dXB) dYB) dYB);replace yC:=eqE hws (eqS (eqS (eqS (eqS yC dXC) dXC) dYC) dYC);replace yD:=eqE hws (eqS (eqS (eqS (eqS yD dXD) dXD) dYD) dYD);have hq:∀ {p v},((((s9.setCell ⟨X,1,none⟩ (I6 bc)).setCell ⟨X,3,none⟩ (Bv bf)).setCell ⟨Y,1,none⟩ (I6 ac)).setCell ⟨Y,3,none⟩ (Bv af)).cell? p=some v->s10.cell? p=some v:=fun h=>by rw[hws];exact h
   replace yX:∀ j,s10.cell? ⟨X,j,none⟩=([Sg an,I6 bc,I6 ar,Bv bf,Bv ag]:List Value)[j]?:=eqE hws (eqS (eqS (eqI (eqI yX (jB rfl)) (jB rfl)) dYX) dYX);replace yY:∀ j,s10.cell? ⟨Y,j,none⟩=([Sg bn,I6 ac,I6 br,Bv af,Bv bg]:List Value)[j]?:=eqE hws (eqI (eqI (eqS (eqS yY dXY) dXY) (jB rfl)) (jB rfl));clear hq;have hQF:=@fz4 _ _ _ _ _ _ _ _ _ _  hws;replace fC:=fun j=>hQF (fC j)
   replace fD:=fun j=>hQF (fD j)
   clear hQF;replace zC:=szH hsz zC;replace zD:=szH hsz zD;replace zX:=szH hsz zX;replace zY:=szH hsz zY;rw[<-hws];clear hBo hws hsz;have hBo:=hBs;clear hBs
   go_upto_region 13 with fail
   go_wp2_with fail;refine cAn (HBX.out _) fun s11 hb=>?_
   replace yC:=eqB hb yC zC;replace fC:=fun j=>a0g hb (fC j) zC;replace zC:=zHl hb zC
   replace yD:=eqB hb yD zD;replace fD:=fun j=>a0g hb (fD j) zD;replace zD:=zHl hb zD
   replace yX:=eqB hb yX zX;replace zX:=zHl hb zX;replace yY:=eqB hb yY zY;replace zY:=zHl hb zY;replace hBo:=bT hBo hb;clear hb;go_wp2_with fail;refine cAn (HNR.out _) fun s12 hb=>?_
   replace yC:=eqB hb yC zC;replace fC:=fun j=>a0g hb (fC j) zC;replace zC:=zHl hb zC
   replace yD:=eqB hb yD zD;replace fD:=fun j=>a0g hb (fD j) zD;replace zD:=zHl hb zD
   replace yX:=eqB hb yX zX;replace zX:=zHl hb zX;replace yY:=eqB hb yY zY;replace zY:=zHl hb zY;replace hBo:=bT hBo hb;clear hb
   go_upto_region 14 with fail
   obtain⟨s13,Z,hws,hdZ,hsz,zZ⟩:=nm1 s12 (.cells #[I6 n1,I6 n2,I6 n3,I6 n4] 108);have hUp:=up1 hws;have dCZ:C≠Z:=by omega
   have dDZ:D≠Z:=by omega
   have dXZ:X≠Z:=by omega
   have dYZ:Y≠Z:=by omega
   replace yC:=eqB hUp yC zC;replace fC:=fun j=>a0g hUp (fC j) zC
   replace yD:=eqB hUp yD zD;replace fD:=fun j=>a0g hUp (fD j) zD
   replace yX:=eqB hUp yX zX;replace yY:=eqB hUp yY zY;clear hUp;replace hBo:=bs1 hBo hws;rw[<-hws];try rw[<-hdZ]
   clear hws hsz hdZ
   go_region
   all_goals go_wp2_with fail
   all_goals refine jU (v:=.tuple #[.agg #[Sg an,I6 bc,I6 ar,Bv bf,Bv ag],.agg #[Sg bn,I6 ac,I6 br,Bv af,Bv bg],I6 ne]) (by simp[results,Tryz.results65,go_sem,yC,yD,zC,zD]) rfl ⟨rfl,?_⟩
   all_goals exact(Below.drew (sc5 (sc5 hBo lC) lD))
 ·
  rw[if_neg hc] at ho;unfold e0n at ho;dsimp only at ho;by_cases hr:ar > br
  ·
   rw[if_pos hr] at ho;obtain⟨rfl,rfl⟩:=Prod.mk.inj ho;clear ho;dsimp only at HBX HNR |-
   have hc2 : ¬ bc<ac:=hc;have hr2:br<ar:=hr;clear hc hr;go_enter Tryz.func65,Tryz.ntmps65
   go_upto_region 1 with fail
   obtain⟨s14,A,B,C,D,hws,hdA,hdB,hdC,hdD,hsz,zA,zB,zC,zD⟩:=nm4 w (.cells #[Sg an,I6 ac,I6 ar,Bv af,Bv ag] 67) (.cells #[Sg bn,I6 bc,I6 br,Bv bf,Bv bg] 67) (.cells #[S0,I6 0,I6 0,Bv false,Bv false] 67) (.cells #[S0,I6 0,I6 0,Bv false,Bv false] 67);have dCA:C≠A:=by omega
   have dCB:C≠B:=by omega
   have dCD:C≠D:=by omega
   have dDA:D≠A:=by omega
   have dDB:D≠B:=by omega
   have dDC:D≠C:=by omega
   have yA:=by3 (b:=A) hws hdA;have yB:=by2 (b:=B) hws (by simp[hdB]);have yC:=by1 (b:=C) hws (by simp[hdC]);have fC:=bf1 (b:=C) hws (by simp[hdC]);have lC:w.heap.size<=C:=by omega
   have yD:=by0 (b:=D) hws (by simp[hdD]);have fD:=bf0 (b:=D) hws (by simp[hdD]);have lD:w.heap.size<=D:=by omega
   have hBo:=bs4 bR hws;rw[<-hws];try rw[<-hdD]
   try rw[<-hdC]
   try rw[<-hdB]
   try rw[<-hdA]
   clear hws hsz hdA hdB hdC hdD
   go_upto_region 3 with fail
   obtain⟨s15,X,Y,hws,hdX,hdY,hsz,zX,zY⟩:=nm2 s14 (.cells #[Sg an,I6 ac,I6 ar,Bv af,Bv ag] 67) (.cells #[Sg bn,I6 bc,I6 br,Bv bf,Bv bg] 67);have hUp:=up2 hws;have dCX:C≠X:=by omega
   have dCY:C≠Y:=by omega
   have dDX:D≠X:=by omega
   have dDY:D≠Y:=by omega
   have dXA:X≠A:=by omega
   have dXB:X≠B:=by omega
   have dXC:X≠C:=by omega
   have dXD:X≠D:=by omega
   have dXY:X≠Y:=by omega
   have dYA:Y≠A:=by omega
   have dYB:Y≠B:=by omega
   have dYC:Y≠C:=by omega
   have dYD:Y≠D:=by omega
   have dYX:Y≠X:=by omega
   replace yA:=eqB hUp yA zA;replace yB:=eqB hUp yB zB;replace yC:=eqB hUp yC zC;replace fC:=fun j=>a0g hUp (fC j) zC;replace zC:=zHl hUp zC
   replace yD:=eqB hUp yD zD;replace fD:=fun j=>a0g hUp (fD j) zD;replace zD:=zHl hUp zD
   clear hUp;have yX:=by1 (b:=X) hws hdX;have fX:=bf1 (b:=X) hws hdX;have lX:w.heap.size<=X:=by have:=hBo.size;omega
   have yY:=by0 (b:=Y) hws (by simp[hdY]);have fY:=bf0 (b:=Y) hws (by simp[hdY]);have lY:w.heap.size<=Y:=by have:=hBo.size;omega
   replace hBo:=bs2 hBo hws;rw[<-hws];try rw[<-hdY]
   try rw[<-hdX]
   clear hws hsz hdX hdY
   go_upto_region 13 with fail
   obtain⟨s16,hws⟩:∃ s,s=((((s15.setCell ⟨X,2,none⟩ (I6 br)).setCell ⟨X,4,none⟩ (Bv bg)).setCell ⟨Y,2,none⟩ (I6 ar)).setCell ⟨Y,4,none⟩ (Bv ag)):=⟨_,rfl⟩;have hBs:Bl w s16:=by rw[hws];exact(sc2 (sc2 (hBo) lX) lY)
   have hsz:=ss4 hws;replace yC:=eqE hws (eqS (eqS (eqS (eqS yC dXC) dXC) dYC) dYC);replace yD:=eqE hws (eqS (eqS (eqS (eqS yD dXD) dXD) dYD) dYD);have hq:∀ {p v},((((s15.setCell ⟨X,2,none⟩ (I6 br)).setCell ⟨X,4,none⟩ (Bv bg)).setCell ⟨Y,2,none⟩ (I6 ar)).setCell ⟨Y,4,none⟩ (Bv ag)).cell? p=some v->s16.cell? p=some v:=fun h=>by rw[hws];exact h
   replace yX:∀ j,s16.cell? ⟨X,j,none⟩=([Sg an,I6 ac,I6 br,Bv af,Bv bg]:List Value)[j]?:=eqE hws (eqS (eqS (eqI (eqI yX (jB rfl)) (jB rfl)) dYX) dYX);replace yY:∀ j,s16.cell? ⟨Y,j,none⟩=([Sg bn,I6 bc,I6 ar,Bv bf,Bv ag]:List Value)[j]?:=eqE hws (eqI (eqI (eqS (eqS yY dXY) dXY) (jB rfl)) (jB rfl));clear hq;have hQF:=@fz4 _ _ _ _ _ _ _ _ _ _  hws;replace fC:=fun j=>hQF (fC j)
   replace fD:=fun j=>hQF (fD j)
   clear hQF;replace zC:=szH hsz zC;replace zD:=szH hsz zD;replace zX:=szH hsz zX;replace zY:=szH hsz zY;rw[<-hws];clear hBo hws hsz;have hBo:=hBs;clear hBs;go_wp2_with fail;refine cAn (HBX.out _) fun s17 hb=>?_
   replace yC:=eqB hb yC zC;replace fC:=fun j=>a0g hb (fC j) zC;replace zC:=zHl hb zC
   replace yD:=eqB hb yD zD;replace fD:=fun j=>a0g hb (fD j) zD;replace zD:=zHl hb zD
   replace yX:=eqB hb yX zX;replace zX:=zHl hb zX;replace yY:=eqB hb yY zY;replace zY:=zHl hb zY;replace hBo:=bT hBo hb;clear hb;go_wp2_with fail;refine cAn (HNR.out _) fun s18 hb=>?_
   replace yC:=eqB hb yC zC;replace fC:=fun j=>a0g hb (fC j) zC;replace zC:=zHl hb zC
   replace yD:=eqB hb yD zD;replace fD:=fun j=>a0g hb (fD j) zD;replace zD:=zHl hb zD
   replace yX:=eqB hb yX zX;replace zX:=zHl hb zX;replace yY:=eqB hb yY zY;replace zY:=zHl hb zY;replace hBo:=bT hBo hb;clear hb
   go_upto_region 14 with fail
   obtain⟨s19,Z,hws,hdZ,hsz,zZ⟩:=nm1 s18 (.cells #[I6 n1,I6 n2,I6 n3,I6 n4] 108);have hUp:=up1 hws;have dCZ:C≠Z:=by omega
   have dDZ:D≠Z:=by omega
   have dXZ:X≠Z:=by omega
   have dYZ:Y≠Z:=by omega
   replace yC:=eqB hUp yC zC;replace fC:=fun j=>a0g hUp (fC j) zC
   replace yD:=eqB hUp yD zD;replace fD:=fun j=>a0g hUp (fD j) zD
   replace yX:=eqB hUp yX zX;replace yY:=eqB hUp yY zY;clear hUp;replace hBo:=bs1 hBo hws;rw[<-hws];try rw[<-hdZ]
   clear hws hsz hdZ
   go_region
   all_goals go_wp2_with fail
   all_goals refine jU (v:=.tuple #[.agg #[Sg an,I6 ac,I6 br,Bv af,Bv bg],.agg #[Sg bn,I6 bc,I6 ar,Bv bf,Bv ag],I6 ne]) (by simp[results,Tryz.results65,go_sem,yC,yD,zC,zD]) rfl ⟨rfl,?_⟩
   all_goals exact(Below.drew (sc5 (sc5 hBo lC) lD))
  ·
   rw[if_neg hr] at ho;obtain⟨rfl,rfl⟩:=Prod.mk.inj ho;clear ho;dsimp only at HBX HNR |-
   have hc2 : ¬ bc<ac:=hc;have hr2 : ¬ br<ar:=hr;clear hc hr;go_enter Tryz.func65,Tryz.ntmps65
   go_upto_region 1 with fail
   obtain⟨s20,A,B,C,D,hws,hdA,hdB,hdC,hdD,hsz,zA,zB,zC,zD⟩:=nm4 w (.cells #[Sg an,I6 ac,I6 ar,Bv af,Bv ag] 67) (.cells #[Sg bn,I6 bc,I6 br,Bv bf,Bv bg] 67) (.cells #[S0,I6 0,I6 0,Bv false,Bv false] 67) (.cells #[S0,I6 0,I6 0,Bv false,Bv false] 67);have dCA:C≠A:=by omega
   have dCB:C≠B:=by omega
   have dCD:C≠D:=by omega
   have dDA:D≠A:=by omega
   have dDB:D≠B:=by omega
   have dDC:D≠C:=by omega
   have yA:=by3 (b:=A) hws hdA;have yB:=by2 (b:=B) hws (by simp[hdB]);have yC:=by1 (b:=C) hws (by simp[hdC]);have fC:=bf1 (b:=C) hws (by simp[hdC]);have lC:w.heap.size<=C:=by omega
   have yD:=by0 (b:=D) hws (by simp[hdD]);have fD:=bf0 (b:=D) hws (by simp[hdD]);have lD:w.heap.size<=D:=by omega
   have hBo:=bs4 bR hws;rw[<-hws];try rw[<-hdD]
   try rw[<-hdC]
   try rw[<-hdB]
   try rw[<-hdA]
   clear hws hsz hdA hdB hdC hdD
   go_upto_region 3 with fail
   obtain⟨s21,X,Y,hws,hdX,hdY,hsz,zX,zY⟩:=nm2 s20 (.cells #[Sg an,I6 ac,I6 ar,Bv af,Bv ag] 67) (.cells #[Sg bn,I6 bc,I6 br,Bv bf,Bv bg] 67);have hUp:=up2 hws;have dCX:C≠X:=by omega
   have dCY:C≠Y:=by omega
   have dDX:D≠X:=by omega
   have dDY:D≠Y:=by omega
   replace yA:=eqB hUp yA zA;replace yB:=eqB hUp yB zB;replace yC:=eqB hUp yC zC;replace fC:=fun j=>a0g hUp (fC j) zC;replace zC:=zHl hUp zC
   replace yD:=eqB hUp yD zD;replace fD:=fun j=>a0g hUp (fD j) zD;replace zD:=zHl hUp zD
   clear hUp;have yX:=by1 (b:=X) hws hdX;have yY:=by0 (b:=Y) hws (by simp[hdY]);replace hBo:=bs2 hBo hws;rw[<-hws];try rw[<-hdY]
   try rw[<-hdX]
   clear hws hsz hdX hdY
   go_upto_region 13 with fail
   go_wp2_with fail;refine cAn (HBX.out _) fun s22 hb=>?_
   replace yC:=eqB hb yC zC;replace fC:=fun j=>a0g hb (fC j) zC;replace zC:=zHl hb zC
   replace yD:=eqB hb yD zD;replace fD:=fun j=>a0g hb (fD j) zD;replace zD:=zHl hb zD
   replace yX:=eqB hb yX zX;replace zX:=zHl hb zX;replace yY:=eqB hb yY zY;replace zY:=zHl hb zY;replace hBo:=bT hBo hb;clear hb;go_wp2_with fail;refine cAn (HNR.out _) fun s23 hb=>?_
   replace yC:=eqB hb yC zC;replace fC:=fun j=>a0g hb (fC j) zC;replace zC:=zHl hb zC
   replace yD:=eqB hb yD zD;replace fD:=fun j=>a0g hb (fD j) zD;replace zD:=zHl hb zD
   replace yX:=eqB hb yX zX;replace zX:=zHl hb zX;replace yY:=eqB hb yY zY;replace zY:=zHl hb zY;replace hBo:=bT hBo hb;clear hb
   go_upto_region 14 with fail
   obtain⟨s24,Z,hws,hdZ,hsz,zZ⟩:=nm1 s23 (.cells #[I6 n1,I6 n2,I6 n3,I6 n4] 108);have hUp:=up1 hws;have dCZ:C≠Z:=by omega
   have dDZ:D≠Z:=by omega
   replace yC:=eqB hUp yC zC;replace fC:=fun j=>a0g hUp (fC j) zC
   replace yD:=eqB hUp yD zD;replace fD:=fun j=>a0g hUp (fD j) zD
   replace yX:=eqB hUp yX zX;replace yY:=eqB hUp yY zY;clear hUp;replace hBo:=bs1 hBo hws;rw[<-hws];try rw[<-hdZ]
   clear hws hsz hdZ
   go_region
   all_goals go_wp2_with fail
   all_goals refine jU (v:=.tuple #[.agg #[Sg an,I6 ac,I6 ar,Bv af,Bv ag],.agg #[Sg bn,I6 bc,I6 br,Bv bf,Bv bg],I6 ne]) (by simp[results,Tryz.results65,go_sem,yC,yD,zC,zD]) rfl ⟨rfl,?_⟩
   all_goals exact(Below.drew (sc5 (sc5 hBo lC) lD))
end Go.Proofs.YtibiacmbljgmhaaGreatDoor
