import Derived.Test.YtibiacmbljgmhaaGreatDoorRat9
import Derived.Test.YtibiacmbljgmhaaGreatDoorRdr1
set_option maxHeartbeats 16000000
set_option maxRecDepth 100000
namespace Go.Proofs.YtibiacmbljgmhaaGreatDoor
open Go.RowKit Go.Shelf
set_option linter.all false
theorem e0z (a b:Rf) (w:World) :
  Ca 65 #[.agg #[Sg a.sh,I6 a.c,I6 a.r,Bv a.fc,Bv a.fr],.agg #[Sg b.sh,I6 b.c,I6 b.r,Bv b.fc,Bv b.fr]] w (.tuple #[.agg #[Sg ((X5 a b).1).sh,I6 ((X5 a b).1).c,I6 ((X5 a b).1).r,Bv ((X5 a b).1).fc,Bv ((X5 a b).1).fr],.agg #[Sg ((X5 a b).2).sh,I6 ((X5 a b).2).c,I6 ((X5 a b).2).r,Bv ((X5 a b).2).fc,Bv ((X5 a b).2).fr],I6 (a8z (X5 a b).1.c (X5 a b).1.r (X5 a b).2.c (X5 a b).2.r)]):=by
 obtain⟨o,ho⟩:=nM (X5 a b);rw[<-ho];unfold X5 at ho;dsimp only at ho;obtain⟨an,ac,ar,af,ag⟩:=a;obtain⟨bn,bc,br,bf,bg⟩:=b;unfold e0m at ho;dsimp only at ho;obtain⟨x,y⟩:=o;have HBX:=zh (fun w=>c5g x y w);have HNR:=zh (fun w=>b3l x.c x.r y.c y.r w);obtain⟨n1,n2,n3,n4,hv⟩:=b5d x.c x.r y.c y.r;rw[hv] at HNR;generalize a8z x.c x.r y.c y.r=ne at *;clear hv;by_cases hc:ac > bc
 ·
  rw[if_pos hc] at ho;unfold e0n at ho;dsimp only at ho;by_cases hr:ar > br
  ·
   rw[if_pos hr] at ho;obtain⟨rfl,rfl⟩:=Prod.mk.inj ho;clear ho;dsimp only at HBX HNR |-
   have hc2:bc<ac:=hc;have hr2:br<ar:=hr;clear hc hr;go_enter Tryz.func65,Tryz.ntmps65
   go_upto_region 1 with fail
   obtain⟨s1,A,B,C,D,j6,jz,J7,qq,XV,j8,zA,zB,zC,zD⟩:=nm4 w (.cells #[Sg an,I6 ac,I6 ar,Bv af,Bv ag] 67) (.cells #[Sg bn,I6 bc,I6 br,Bv bf,Bv bg] 67) (.cells #[S0,I6 0,I6 0,Bv false,Bv false] 67) (.cells #[S0,I6 0,I6 0,Bv false,Bv false] 67);have dCA:C≠A:=by omega
   have dCB:C≠B:=by omega
   have dCD:C≠D:=by omega
   have dDA:D≠A:=by omega
   have dDB:D≠B:=by omega
   have dDC:D≠C:=by omega
   have yA:=by3 (b:=A) j6 jz;have yB:=by2 (b:=B) j6 (by simp[J7]);have yC:=Y4 (b:=C) j6 (by simp[qq]);have fC:=bf1 (b:=C) j6 (by simp[qq]);have lC:w.heap.size<=C:=by omega
   have yD:=qZ (b:=D) j6 (by simp[XV]);have fD:=Qq (b:=D) j6 (by simp[XV]);have lD:w.heap.size<=D:=by omega
   have j7:=bs4 bR j6;rw[<-j6];try rw[<-XV]
   try rw[<-qq]
   try rw[<-J7]
   try rw[<-jz]
   clear j6 j8 jz J7 qq XV
   go_upto_region 3 with fail
   obtain⟨s2,X,Y,j6,qw,Qy,j8,zX,zY⟩:=YJ s1 (.cells #[Sg an,I6 ac,I6 ar,Bv af,Bv ag] 67) (.cells #[Sg bn,I6 bc,I6 br,Bv bf,Bv bg] 67);have j9:=up2 j6;have dCX:C≠X:=by omega
   have dCY:C≠Y:=by omega
   have dDX:D≠X:=by omega
   have dDY:D≠Y:=by omega
   have dXA:X≠A:=by omega
   have dXB:X≠B:=by omega
   have dXC:X≠C:=by omega
   have dXD:X≠D:=by omega
   have dXY:X≠Y:=by omega
   have dYA:Y≠A:=by omega
   have dYB:Y≠B:=by omega
   have dYC:Y≠C:=by omega
   have dYD:Y≠D:=by omega
   have dYX:Y≠X:=by omega
   replace yA:=jv j9 yA zA;replace yB:=jv j9 yB zB;replace yC:=jv j9 yC zC;replace fC:=qv j9 fC zC;replace zC:=jw j9 zC
   replace yD:=jv j9 yD zD;replace fD:=qv j9 fD zD;replace zD:=jw j9 zD
   clear j9;have yX:=Y4 (b:=X) j6 qw;have fX:=bf1 (b:=X) j6 qw;have lX:w.heap.size<=X:=by have:=j7.size;omega
   have yY:=qZ (b:=Y) j6 (by simp[Qy]);have fY:=Qq (b:=Y) j6 (by simp[Qy]);have lY:w.heap.size<=Y:=by have:=j7.size;omega
   replace j7:=Yz j7 j6;rw[<-j6];try rw[<-Qy]
   try rw[<-qw]
   clear j6 j8 qw Qy
   go_upto_region 8 with fail
   obtain⟨s3,j6⟩:∃ s,s=((((s2.setCell ⟨X,1,none⟩ (I6 bc)).setCell ⟨X,3,none⟩ (Bv bf)).setCell ⟨Y,1,none⟩ (I6 ac)).setCell ⟨Y,3,none⟩ (Bv af)):=⟨_,rfl⟩;have qJ:Bl w s3:=by rw[j6];exact(sc2 (sc2 (j7) lX) lY)
   have j8:=ss4 j6;replace yA:=Jv j6 (qz (qz (qz (qz yA dXA) dXA) dYA) dYA);replace yB:=Jv j6 (qz (qz (qz (qz yB dXB) dXB) dYB) dYB);replace yC:=Jv j6 (qz (qz (qz (qz yC dXC) dXC) dYC) dYC);replace yD:=Jv j6 (qz (qz (qz (qz yD dXD) dXD) dYD) dYD);have hq:∀ {p v},((((s2.setCell ⟨X,1,none⟩ (I6 bc)).setCell ⟨X,3,none⟩ (Bv bf)).setCell ⟨Y,1,none⟩ (I6 ac)).setCell ⟨Y,3,none⟩ (Bv af)).cell? p=some v->s3.cell? p=some v:=fun h=>by rw[j6];exact h
   replace yX:∀ j,s3.cell? ⟨X,j,none⟩=([Sg an,I6 bc,I6 ar,Bv bf,Bv ag]:List Value)[j]?:=Jv j6 (qz (qz (JX (JX yX (jB rfl)) (jB rfl)) dYX) dYX);replace yY:∀ j,s3.cell? ⟨Y,j,none⟩=([Sg bn,I6 ac,I6 br,Bv af,Bv bg]:List Value)[j]?:=Jv j6 (JX (JX (qz (qz yY dXY) dXY) (jB rfl)) (jB rfl));clear hq;have J9:=@fz4 _ _ _ _ _ _ _ _ _ _  j6;replace fC:=fun j=>J9 (fC j)
   replace fD:=fun j=>J9 (fD j)
   replace fX:=fun j=>J9 (fX j)
   replace fY:=fun j=>J9 (fY j)
   clear J9;replace zC:=Xy j8 zC;replace zD:=Xy j8 zD;replace zX:=Xy j8 zX;replace zY:=Xy j8 zY;rw[<-j6];clear j7 j6 j8;have j7:=qJ;clear qJ
   go_upto_region 13 with fail
   obtain⟨s4,j6⟩:∃ s,s=((((s3.setCell ⟨X,2,none⟩ (I6 br)).setCell ⟨X,4,none⟩ (Bv bg)).setCell ⟨Y,2,none⟩ (I6 ar)).setCell ⟨Y,4,none⟩ (Bv ag)):=⟨_,rfl⟩;have qJ:Bl w s4:=by rw[j6];exact(sc2 (sc2 (j7) lX) lY)
   have j8:=ss4 j6;replace yC:=Jv j6 (qz (qz (qz (qz yC dXC) dXC) dYC) dYC);replace yD:=Jv j6 (qz (qz (qz (qz yD dXD) dXD) dYD) dYD);have hq:∀ {p v},((((s3.setCell ⟨X,2,none⟩ (I6 br)).setCell ⟨X,4,none⟩ (Bv bg)).setCell ⟨Y,2,none⟩ (I6 ar)).setCell ⟨Y,4,none⟩ (Bv ag)).cell? p=some v->s4.cell? p=some v:=fun h=>by rw[j6];exact h
   replace yX:∀ j,s4.cell? ⟨X,j,none⟩=([Sg an,I6 bc,I6 br,Bv bf,Bv bg]:List Value)[j]?:=Jv j6 (qz (qz (JX (JX yX (jB rfl)) (jB rfl)) dYX) dYX);replace yY:∀ j,s4.cell? ⟨Y,j,none⟩=([Sg bn,I6 ac,I6 ar,Bv af,Bv ag]:List Value)[j]?:=Jv j6 (JX (JX (qz (qz yY dXY) dXY) (jB rfl)) (jB rfl));clear hq;have J9:=@fz4 _ _ _ _ _ _ _ _ _ _  j6;replace fC:=fun j=>J9 (fC j)
   replace fD:=fun j=>J9 (fD j)
   clear J9;replace zC:=Xy j8 zC;replace zD:=Xy j8 zD;replace zX:=Xy j8 zX;replace zY:=Xy j8 zY;rw[<-j6];clear j7 j6 j8;have j7:=qJ;clear qJ;go_wp2_with fail;refine jy (HBX.out _) fun s5 hb=>?_
   replace yC:=jv hb yC zC;replace fC:=qv hb fC zC;replace zC:=jw hb zC
   replace yD:=jv hb yD zD;replace fD:=qv hb fD zD;replace zD:=jw hb zD
   replace yX:=jv hb yX zX;replace zX:=jw hb zX;replace yY:=jv hb yY zY;replace zY:=jw hb zY;replace j7:=bT j7 hb;clear hb;go_wp2_with fail;refine jy (HNR.out _) fun s6 hb=>?_
   replace yC:=jv hb yC zC;replace fC:=qv hb fC zC;replace zC:=jw hb zC
   replace yD:=jv hb yD zD;replace fD:=qv hb fD zD;replace zD:=jw hb zD
   replace yX:=jv hb yX zX;replace zX:=jw hb zX;replace yY:=jv hb yY zY;replace zY:=jw hb zY;replace j7:=bT j7 hb;clear hb
   go_upto_region 14 with fail
   obtain⟨s7,Z,j6,hdZ,j8,zZ⟩:=qy s6 (.cells #[I6 n1,I6 n2,I6 n3,I6 n4] 108);have j9:=JW j6;have dCZ:C≠Z:=by omega
   have dDZ:D≠Z:=by omega
   have dXZ:X≠Z:=by omega
   have dYZ:Y≠Z:=by omega
   replace yC:=jv j9 yC zC;replace fC:=qv j9 fC zC
   replace yD:=jv j9 yD zD;replace fD:=qv j9 fD zD
   replace yX:=jv j9 yX zX;replace yY:=jv j9 yY zY;clear j9;replace j7:=qQ j7 j6;rw[<-j6];try rw[<-hdZ]
   clear j6 j8 hdZ
   go_region
   all_goals go_wp2
   all_goals refine jU (v:=.tuple #[.agg #[Sg an,I6 bc,I6 br,Bv bf,Bv bg],.agg #[Sg bn,I6 ac,I6 ar,Bv af,Bv ag],I6 ne]) (by simp[results,Tryz.results65,go_sem,yC,yD,zC,zD]) rfl ⟨rfl,?_⟩
   all_goals exact(Below.drew (Q8 (Q8 j7 lC) lD))
  ·
   rw[if_neg hr] at ho;obtain⟨rfl,rfl⟩:=Prod.mk.inj ho;clear ho;dsimp only at HBX HNR |-
   have hc2:bc<ac:=hc;have hr2 : ¬ br<ar:=hr;clear hc hr;go_enter Tryz.func65,Tryz.ntmps65
   go_upto_region 1 with fail
   obtain⟨s8,A,B,C,D,j6,jz,J7,qq,XV,j8,zA,zB,zC,zD⟩:=nm4 w (.cells #[Sg an,I6 ac,I6 ar,Bv af,Bv ag] 67) (.cells #[Sg bn,I6 bc,I6 br,Bv bf,Bv bg] 67) (.cells #[S0,I6 0,I6 0,Bv false,Bv false] 67) (.cells #[S0,I6 0,I6 0,Bv false,Bv false] 67);have dCA:C≠A:=by omega
   have dCB:C≠B:=by omega
   have dCD:C≠D:=by omega
   have dDA:D≠A:=by omega
   have dDB:D≠B:=by omega
   have dDC:D≠C:=by omega
   have yA:=by3 (b:=A) j6 jz;have yB:=by2 (b:=B) j6 (by simp[J7]);have yC:=Y4 (b:=C) j6 (by simp[qq]);have fC:=bf1 (b:=C) j6 (by simp[qq]);have lC:w.heap.size<=C:=by omega
   have yD:=qZ (b:=D) j6 (by simp[XV]);have fD:=Qq (b:=D) j6 (by simp[XV]);have lD:w.heap.size<=D:=by omega
   have j7:=bs4 bR j6;rw[<-j6];try rw[<-XV]
   try rw[<-qq]
   try rw[<-J7]
   try rw[<-jz]
   clear j6 j8 jz J7 qq XV
   go_upto_region 3 with fail
   obtain⟨s9,X,Y,j6,qw,Qy,j8,zX,zY⟩:=YJ s8 (.cells #[Sg an,I6 ac,I6 ar,Bv af,Bv ag] 67) (.cells #[Sg bn,I6 bc,I6 br,Bv bf,Bv bg] 67);have j9:=up2 j6;have dCX:C≠X:=by omega
   have dCY:C≠Y:=by omega
   have dDX:D≠X:=by omega
   have dDY:D≠Y:=by omega
   have dXA:X≠A:=by omega
   have dXB:X≠B:=by omega
   have dXC:X≠C:=by omega
   have dXD:X≠D:=by omega
   have dXY:X≠Y:=by omega
   have dYA:Y≠A:=by omega
   have dYB:Y≠B:=by omega
   have dYC:Y≠C:=by omega
   have dYD:Y≠D:=by omega
   have dYX:Y≠X:=by omega
   replace yA:=jv j9 yA zA;replace yB:=jv j9 yB zB;replace yC:=jv j9 yC zC;replace fC:=qv j9 fC zC;replace zC:=jw j9 zC
   replace yD:=jv j9 yD zD;replace fD:=qv j9 fD zD;replace zD:=jw j9 zD
   clear j9;have yX:=Y4 (b:=X) j6 qw;have fX:=bf1 (b:=X) j6 qw;have lX:w.heap.size<=X:=by have:=j7.size;omega
   have yY:=qZ (b:=Y) j6 (by simp[Qy]);have fY:=Qq (b:=Y) j6 (by simp[Qy]);have lY:w.heap.size<=Y:=by have:=j7.size;omega
   replace j7:=Yz j7 j6;rw[<-j6];try rw[<-Qy]
   try rw[<-qw]
   clear j6 j8 qw Qy
   go_upto_region 8 with fail
   obtain⟨s10,j6⟩:∃ s,s=((((s9.setCell ⟨X,1,none⟩ (I6 bc)).setCell ⟨X,3,none⟩ (Bv bf)).setCell ⟨Y,1,none⟩ (I6 ac)).setCell ⟨Y,3,none⟩ (Bv af)):=⟨_,rfl⟩;have qJ:Bl w s10:=by rw[j6];exact(sc2 (sc2 (j7) lX) lY)
   have j8:=ss4 j6;replace yA:=Jv j6 (qz (qz (qz (qz yA dXA) dXA) dYA) dYA);replace yB:=Jv j6 (qz (qz (qz (qz yB dXB) dXB) dYB) dYB);replace yC:=Jv j6 (qz (qz (qz (qz yC dXC) dXC) dYC) dYC);replace yD:=Jv j6 (qz (qz (qz (qz yD dXD) dXD) dYD) dYD);have hq:∀ {p v},((((s9.setCell ⟨X,1,none⟩ (I6 bc)).setCell ⟨X,3,none⟩ (Bv bf)).setCell ⟨Y,1,none⟩ (I6 ac)).setCell ⟨Y,3,none⟩ (Bv af)).cell? p=some v->s10.cell? p=some v:=fun h=>by rw[j6];exact h
   replace yX:∀ j,s10.cell? ⟨X,j,none⟩=([Sg an,I6 bc,I6 ar,Bv bf,Bv ag]:List Value)[j]?:=Jv j6 (qz (qz (JX (JX yX (jB rfl)) (jB rfl)) dYX) dYX);replace yY:∀ j,s10.cell? ⟨Y,j,none⟩=([Sg bn,I6 ac,I6 br,Bv af,Bv bg]:List Value)[j]?:=Jv j6 (JX (JX (qz (qz yY dXY) dXY) (jB rfl)) (jB rfl));clear hq;have J9:=@fz4 _ _ _ _ _ _ _ _ _ _  j6;replace fC:=fun j=>J9 (fC j)
   replace fD:=fun j=>J9 (fD j)
   clear J9;replace zC:=Xy j8 zC;replace zD:=Xy j8 zD;replace zX:=Xy j8 zX;replace zY:=Xy j8 zY;rw[<-j6];clear j7 j6 j8;have j7:=qJ;clear qJ
   go_upto_region 13 with fail
   go_wp2_with fail;refine jy (HBX.out _) fun s11 hb=>?_
   replace yC:=jv hb yC zC;replace fC:=qv hb fC zC;replace zC:=jw hb zC
   replace yD:=jv hb yD zD;replace fD:=qv hb fD zD;replace zD:=jw hb zD
   replace yX:=jv hb yX zX;replace zX:=jw hb zX;replace yY:=jv hb yY zY;replace zY:=jw hb zY;replace j7:=bT j7 hb;clear hb;go_wp2_with fail;refine jy (HNR.out _) fun s12 hb=>?_
   replace yC:=jv hb yC zC;replace fC:=qv hb fC zC;replace zC:=jw hb zC
   replace yD:=jv hb yD zD;replace fD:=qv hb fD zD;replace zD:=jw hb zD
   replace yX:=jv hb yX zX;replace zX:=jw hb zX;replace yY:=jv hb yY zY;replace zY:=jw hb zY;replace j7:=bT j7 hb;clear hb
   go_upto_region 14 with fail
   obtain⟨s13,Z,j6,hdZ,j8,zZ⟩:=qy s12 (.cells #[I6 n1,I6 n2,I6 n3,I6 n4] 108);have j9:=JW j6;have dCZ:C≠Z:=by omega
   have dDZ:D≠Z:=by omega
   have dXZ:X≠Z:=by omega
   have dYZ:Y≠Z:=by omega
   replace yC:=jv j9 yC zC;replace fC:=qv j9 fC zC
   replace yD:=jv j9 yD zD;replace fD:=qv j9 fD zD
   replace yX:=jv j9 yX zX;replace yY:=jv j9 yY zY;clear j9;replace j7:=qQ j7 j6;rw[<-j6];try rw[<-hdZ]
   clear j6 j8 hdZ
   go_region
   all_goals go_wp2
   all_goals refine jU (v:=.tuple #[.agg #[Sg an,I6 bc,I6 ar,Bv bf,Bv ag],.agg #[Sg bn,I6 ac,I6 br,Bv af,Bv bg],I6 ne]) (by simp[results,Tryz.results65,go_sem,yC,yD,zC,zD]) rfl ⟨rfl,?_⟩
   all_goals exact(Below.drew (Q8 (Q8 j7 lC) lD))
 ·
  rw[if_neg hc] at ho;unfold e0n at ho;dsimp only at ho;by_cases hr:ar > br
  ·
   rw[if_pos hr] at ho;obtain⟨rfl,rfl⟩:=Prod.mk.inj ho;clear ho;dsimp only at HBX HNR |-
   have hc2 : ¬ bc<ac:=hc;have hr2:br<ar:=hr;clear hc hr;go_enter Tryz.func65,Tryz.ntmps65
   go_upto_region 1 with fail
   obtain⟨s14,A,B,C,D,j6,jz,J7,qq,XV,j8,zA,zB,zC,zD⟩:=nm4 w (.cells #[Sg an,I6 ac,I6 ar,Bv af,Bv ag] 67) (.cells #[Sg bn,I6 bc,I6 br,Bv bf,Bv bg] 67) (.cells #[S0,I6 0,I6 0,Bv false,Bv false] 67) (.cells #[S0,I6 0,I6 0,Bv false,Bv false] 67);have dCA:C≠A:=by omega
   have dCB:C≠B:=by omega
   have dCD:C≠D:=by omega
   have dDA:D≠A:=by omega
   have dDB:D≠B:=by omega
   have dDC:D≠C:=by omega
   have yA:=by3 (b:=A) j6 jz;have yB:=by2 (b:=B) j6 (by simp[J7]);have yC:=Y4 (b:=C) j6 (by simp[qq]);have fC:=bf1 (b:=C) j6 (by simp[qq]);have lC:w.heap.size<=C:=by omega
   have yD:=qZ (b:=D) j6 (by simp[XV]);have fD:=Qq (b:=D) j6 (by simp[XV]);have lD:w.heap.size<=D:=by omega
   have j7:=bs4 bR j6;rw[<-j6];try rw[<-XV]
   try rw[<-qq]
   try rw[<-J7]
   try rw[<-jz]
   clear j6 j8 jz J7 qq XV
   go_upto_region 3 with fail
   obtain⟨s15,X,Y,j6,qw,Qy,j8,zX,zY⟩:=YJ s14 (.cells #[Sg an,I6 ac,I6 ar,Bv af,Bv ag] 67) (.cells #[Sg bn,I6 bc,I6 br,Bv bf,Bv bg] 67);have j9:=up2 j6;have dCX:C≠X:=by omega
   have dCY:C≠Y:=by omega
   have dDX:D≠X:=by omega
   have dDY:D≠Y:=by omega
   have dXA:X≠A:=by omega
   have dXB:X≠B:=by omega
   have dXC:X≠C:=by omega
   have dXD:X≠D:=by omega
   have dXY:X≠Y:=by omega
   have dYA:Y≠A:=by omega
   have dYB:Y≠B:=by omega
   have dYC:Y≠C:=by omega
   have dYD:Y≠D:=by omega
   have dYX:Y≠X:=by omega
   replace yA:=jv j9 yA zA;replace yB:=jv j9 yB zB;replace yC:=jv j9 yC zC;replace fC:=qv j9 fC zC;replace zC:=jw j9 zC
   replace yD:=jv j9 yD zD;replace fD:=qv j9 fD zD;replace zD:=jw j9 zD
   clear j9;have yX:=Y4 (b:=X) j6 qw;have fX:=bf1 (b:=X) j6 qw;have lX:w.heap.size<=X:=by have:=j7.size;omega
   have yY:=qZ (b:=Y) j6 (by simp[Qy]);have fY:=Qq (b:=Y) j6 (by simp[Qy]);have lY:w.heap.size<=Y:=by have:=j7.size;omega
   replace j7:=Yz j7 j6;rw[<-j6];try rw[<-Qy]
   try rw[<-qw]
   clear j6 j8 qw Qy
   go_upto_region 13 with fail
   obtain⟨s16,j6⟩:∃ s,s=((((s15.setCell ⟨X,2,none⟩ (I6 br)).setCell ⟨X,4,none⟩ (Bv bg)).setCell ⟨Y,2,none⟩ (I6 ar)).setCell ⟨Y,4,none⟩ (Bv ag)):=⟨_,rfl⟩;have qJ:Bl w s16:=by rw[j6];exact(sc2 (sc2 (j7) lX) lY)
   have j8:=ss4 j6;replace yC:=Jv j6 (qz (qz (qz (qz yC dXC) dXC) dYC) dYC);replace yD:=Jv j6 (qz (qz (qz (qz yD dXD) dXD) dYD) dYD);have hq:∀ {p v},((((s15.setCell ⟨X,2,none⟩ (I6 br)).setCell ⟨X,4,none⟩ (Bv bg)).setCell ⟨Y,2,none⟩ (I6 ar)).setCell ⟨Y,4,none⟩ (Bv ag)).cell? p=some v->s16.cell? p=some v:=fun h=>by rw[j6];exact h
   replace yX:∀ j,s16.cell? ⟨X,j,none⟩=([Sg an,I6 ac,I6 br,Bv af,Bv bg]:List Value)[j]?:=Jv j6 (qz (qz (JX (JX yX (jB rfl)) (jB rfl)) dYX) dYX);replace yY:∀ j,s16.cell? ⟨Y,j,none⟩=([Sg bn,I6 bc,I6 ar,Bv bf,Bv ag]:List Value)[j]?:=Jv j6 (JX (JX (qz (qz yY dXY) dXY) (jB rfl)) (jB rfl));clear hq;have J9:=@fz4 _ _ _ _ _ _ _ _ _ _  j6;replace fC:=fun j=>J9 (fC j)
   replace fD:=fun j=>J9 (fD j)
   clear J9;replace zC:=Xy j8 zC;replace zD:=Xy j8 zD;replace zX:=Xy j8 zX;replace zY:=Xy j8 zY;rw[<-j6];clear j7 j6 j8;have j7:=qJ;clear qJ;go_wp2_with fail;refine jy (HBX.out _) fun s17 hb=>?_
   replace yC:=jv hb yC zC;replace fC:=qv hb fC zC;replace zC:=jw hb zC
   replace yD:=jv hb yD zD;replace fD:=qv hb fD zD;replace zD:=jw hb zD
   replace yX:=jv hb yX zX;replace zX:=jw hb zX;replace yY:=jv hb yY zY;replace zY:=jw hb zY;replace j7:=bT j7 hb;clear hb;go_wp2_with fail;refine jy (HNR.out _) fun s18 hb=>?_
   replace yC:=jv hb yC zC;replace fC:=qv hb fC zC;replace zC:=jw hb zC
   replace yD:=jv hb yD zD;replace fD:=qv hb fD zD;replace zD:=jw hb zD
   replace yX:=jv hb yX zX;replace zX:=jw hb zX;replace yY:=jv hb yY zY;replace zY:=jw hb zY;replace j7:=bT j7 hb;clear hb
   go_upto_region 14 with fail
   obtain⟨s19,Z,j6,hdZ,j8,zZ⟩:=qy s18 (.cells #[I6 n1,I6 n2,I6 n3,I6 n4] 108);have j9:=JW j6;have dCZ:C≠Z:=by omega
   have dDZ:D≠Z:=by omega
   have dXZ:X≠Z:=by omega
   have dYZ:Y≠Z:=by omega
   replace yC:=jv j9 yC zC;replace fC:=qv j9 fC zC
   replace yD:=jv j9 yD zD;replace fD:=qv j9 fD zD
   replace yX:=jv j9 yX zX;replace yY:=jv j9 yY zY;clear j9;replace j7:=qQ j7 j6;rw[<-j6];try rw[<-hdZ]
   clear j6 j8 hdZ
   go_region
   all_goals go_wp2
   all_goals refine jU (v:=.tuple #[.agg #[Sg an,I6 ac,I6 br,Bv af,Bv bg],.agg #[Sg bn,I6 bc,I6 ar,Bv bf,Bv ag],I6 ne]) (by simp[results,Tryz.results65,go_sem,yC,yD,zC,zD]) rfl ⟨rfl,?_⟩
   all_goals exact(Below.drew (Q8 (Q8 j7 lC) lD))
  ·
   rw[if_neg hr] at ho;obtain⟨rfl,rfl⟩:=Prod.mk.inj ho;clear ho;dsimp only at HBX HNR |-
   have hc2 : ¬ bc<ac:=hc;have hr2 : ¬ br<ar:=hr;clear hc hr;go_enter Tryz.func65,Tryz.ntmps65
   go_upto_region 1 with fail
   obtain⟨s20,A,B,C,D,j6,jz,J7,qq,XV,j8,zA,zB,zC,zD⟩:=nm4 w (.cells #[Sg an,I6 ac,I6 ar,Bv af,Bv ag] 67) (.cells #[Sg bn,I6 bc,I6 br,Bv bf,Bv bg] 67) (.cells #[S0,I6 0,I6 0,Bv false,Bv false] 67) (.cells #[S0,I6 0,I6 0,Bv false,Bv false] 67);have dCA:C≠A:=by omega
   have dCB:C≠B:=by omega
   have dCD:C≠D:=by omega
   have dDA:D≠A:=by omega
   have dDB:D≠B:=by omega
   have dDC:D≠C:=by omega
   have yA:=by3 (b:=A) j6 jz;have yB:=by2 (b:=B) j6 (by simp[J7]);have yC:=Y4 (b:=C) j6 (by simp[qq]);have fC:=bf1 (b:=C) j6 (by simp[qq]);have lC:w.heap.size<=C:=by omega
   have yD:=qZ (b:=D) j6 (by simp[XV]);have fD:=Qq (b:=D) j6 (by simp[XV]);have lD:w.heap.size<=D:=by omega
   have j7:=bs4 bR j6;rw[<-j6];try rw[<-XV]
   try rw[<-qq]
   try rw[<-J7]
   try rw[<-jz]
   clear j6 j8 jz J7 qq XV
   go_upto_region 3 with fail
   obtain⟨s21,X,Y,j6,qw,Qy,j8,zX,zY⟩:=YJ s20 (.cells #[Sg an,I6 ac,I6 ar,Bv af,Bv ag] 67) (.cells #[Sg bn,I6 bc,I6 br,Bv bf,Bv bg] 67);have j9:=up2 j6;have dCX:C≠X:=by omega
   have dCY:C≠Y:=by omega
   have dDX:D≠X:=by omega
   have dDY:D≠Y:=by omega
   replace yA:=jv j9 yA zA;replace yB:=jv j9 yB zB;replace yC:=jv j9 yC zC;replace fC:=qv j9 fC zC;replace zC:=jw j9 zC
   replace yD:=jv j9 yD zD;replace fD:=qv j9 fD zD;replace zD:=jw j9 zD
   clear j9;have yX:=Y4 (b:=X) j6 qw;have yY:=qZ (b:=Y) j6 (by simp[Qy]);replace j7:=Yz j7 j6;rw[<-j6];try rw[<-Qy]
   try rw[<-qw]
   clear j6 j8 qw Qy
   go_upto_region 13 with fail
   go_wp2_with fail;refine jy (HBX.out _) fun s22 hb=>?_
   replace yC:=jv hb yC zC;replace fC:=qv hb fC zC;replace zC:=jw hb zC
   replace yD:=jv hb yD zD;replace fD:=qv hb fD zD;replace zD:=jw hb zD
   replace yX:=jv hb yX zX;replace zX:=jw hb zX;replace yY:=jv hb yY zY;replace zY:=jw hb zY;replace j7:=bT j7 hb;clear hb;go_wp2_with fail;refine jy (HNR.out _) fun s23 hb=>?_
   replace yC:=jv hb yC zC;replace fC:=qv hb fC zC;replace zC:=jw hb zC
   replace yD:=jv hb yD zD;replace fD:=qv hb fD zD;replace zD:=jw hb zD
   replace yX:=jv hb yX zX;replace zX:=jw hb zX;replace yY:=jv hb yY zY;replace zY:=jw hb zY;replace j7:=bT j7 hb;clear hb
   go_upto_region 14 with fail
   obtain⟨s24,Z,j6,hdZ,j8,zZ⟩:=qy s23 (.cells #[I6 n1,I6 n2,I6 n3,I6 n4] 108);have j9:=JW j6;have dCZ:C≠Z:=by omega
   have dDZ:D≠Z:=by omega
   replace yC:=jv j9 yC zC;replace fC:=qv j9 fC zC
   replace yD:=jv j9 yD zD;replace fD:=qv j9 fD zD
   replace yX:=jv j9 yX zX;replace yY:=jv j9 yY zY;clear j9;replace j7:=qQ j7 j6;rw[<-j6];try rw[<-hdZ]
   clear j6 j8 hdZ
   go_region
   all_goals go_wp2
   all_goals refine jU (v:=.tuple #[.agg #[Sg an,I6 ac,I6 ar,Bv af,Bv ag],.agg #[Sg bn,I6 bc,I6 br,Bv bf,Bv bg],I6 ne]) (by simp[results,Tryz.results65,go_sem,yC,yD,zC,zD]) rfl ⟨rfl,?_⟩
   all_goals exact(Below.drew (Q8 (Q8 j7 lC) lD))
