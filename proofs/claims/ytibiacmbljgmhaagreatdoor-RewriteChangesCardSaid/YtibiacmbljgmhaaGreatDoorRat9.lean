import Derived.Test.YtibiacmbljgmhaaGreatDoorRat6
set_option maxHeartbeats 8000000
set_option maxRecDepth 100000
namespace Go.Proofs.YtibiacmbljgmhaaGreatDoor
open Go.RowKit Go.Shelf
set_option linter.all false
theorem e2t (n1 n2:Bool) (m1 m2:jW) (q:Rt) (c:Int) (w:World) (h1:m1.size<=1000) (h2:m2.size<=1000)
  (hq:mkR (sI n1 (Nt.V m1)) (sI n2 (Nt.V m2))=q) (hc:mkE (sI n1 (Nt.V m1)) (sI n2 (Nt.V m2))=c) :
  Ca 174 #[.agg #[Bv n1,Sg m1],.agg #[Bv n2,Sg m2]] w (.tuple #[.agg #[Bv (rb q),Sg (rn q),Sg (rd q)],I6 c]):=by
 obtain⟨x,hx⟩:∃ x,sI n1 (Nt.V m1)=x:=⟨_,rfl⟩;obtain⟨y,hy⟩:∃ y,sI n2 (Nt.V m2)=y:=⟨_,rfl⟩;have zx:=b0u hx h1;have zy:=b0u hy h2;rw[hx,hy] at hq hc;have HX:=zh (fun w=>a3z n1 m1 x w hx);have HY:=zh (fun w=>a3z n2 m2 y w hy);clear hx hy h1 h2;by_cases h0:y=0
 case pos =>
  obtain⟨e1,e2⟩:=f0y (x:=x) h0;rw[<-hq,<-hc,e1,e2,rz.1,rz.2.1,rz.2.2];rw[zt_nil.1 h0] at HY;generalize zb x=bx at *;generalize zb y=by' at *;generalize zt x=tx at *;clear e1 e2 hq hc h0 zx zy;go_enter Tryz.func174,Tryz.ntmps174;go_wp2_with fail;obtain⟨s1,A,B,C,j6,jz,J7,qq,j8,zA,zB,zC⟩:=nm3 w (.cells #[Bv n1,Sg m1] 145) (.cells #[Bv n2,Sg m2] 145) (.cells #[Bv false,S0,S0] 52);have dCA:C≠A:=by omega
  have dCB:C≠B:=by omega
  have hN:=bx2 (b:=A) j6 jz;clear hN;have hN:=bx1 (b:=B) j6 (by simp[J7]);have kB0:=hN 0 _ rfl;have kB1:=hN 1 _ rfl;clear hN;have yC:=qZ (b:=C) j6 (by simp[qq]);have fC:=Qq (b:=C) j6 (by simp[qq]);have lC:w.heap.size<=C:=by omega
  have j7:=bs3 bR j6;rw[<-j6];try rw[<-qq]
  try rw[<-J7]
  try rw[<-jz]
  clear j6 j8 jz J7 qq;refine jy (HX.out _) fun s2 hb=>?_
  replace kB0:=q9 hb kB0 zB;replace kB1:=q9 hb kB1 zB;replace zB:=jw hb zB;replace yC:=jv hb yC zC;replace fC:=qv hb fC zC;replace zC:=jw hb zC
  replace j7:=bT j7 hb;clear hb;go_wp2_with fail;obtain⟨s3,N,j6,hdN,j8,zN⟩:=qy s2 (.cells #[Bv bx,Sg tx] 145);have j9:=JW j6;have dCN:C≠N:=by omega
  replace yC:=jv j9 yC zC;replace fC:=qv j9 fC zC;replace zC:=jw j9 zC
  clear j9;have hN:=Qz (b:=N) j6 hdN;clear hN;replace j7:=qQ j7 j6;rw[<-j6];try rw[<-hdN]
  clear j6 j8 hdN;refine jy (HY.out _) fun s4 hb=>?_
  replace yC:=jv hb yC zC;replace fC:=qv hb fC zC;replace zC:=jw hb zC
  replace j7:=bT j7 hb;clear hb
  all_goals go_wp2
  all_goals refine jU (v:=.tuple #[.agg #[Bv false,S0,S0],I6 5]) (by simp[results,Tryz.results174,go_sem,yC,zC]) rfl ⟨rfl,?_⟩
  all_goals exact((sc3 j7 lC).alloc (by first | exact j7.size | (have:=j7.size;simp;omega) | (have:=(HF.out _ (by assumption)).size;simp;omega)) _)
 have hya:y.natAbs≠0:=by omega
 have hg0:Nat.gcd x.natAbs y.natAbs≠0:=fun h=>hya (Nat.eq_zero_of_gcd_eq_zero_right h)
 obtain⟨hny1,hny2⟩:=a5y (fun h=>h0 (zt_nil.2 h));have hg:=fun w=>a9n (zt x) (zt y) w (by omega) (by omega)
 rw[c8k,c8k] at hg;have hgs:(Nt.E (Nat.gcd x.natAbs y.natAbs)).size<=1000:=jG (Nt.E_size_le (Nat.gcd_le_right _ (Nat.pos_of_ne_zero hya))) zy;have hd1:=fun w=>a9m (zt x) (Nt.E (Nat.gcd x.natAbs y.natAbs)) w (by omega) (by omega) (by rw[Nt.V_E];omega)
 have hd2:=fun w=>a9m (zt y) (Nt.E (Nat.gcd x.natAbs y.natAbs)) w (by omega) (by omega) (by rw[Nt.V_E];omega)
 rw[Nt.V_E,c8k] at hd1 hd2;have hsn:(Nt.E (x.natAbs/Nat.gcd x.natAbs y.natAbs)).size<=1000:=jG (Nt.E_size_le (Nat.div_le_self _ _)) zx;have hsd:(Nt.E (y.natAbs/Nat.gcd x.natAbs y.natAbs)).size<=1000:=jG (Nt.E_size_le (Nat.div_le_self _ _)) zy;have hb3:=fun w=>b3g (Nt.E (x.natAbs/Nat.gcd x.natAbs y.natAbs)) w (by omega)
 have hb4:=fun w=>b3g (Nt.E (y.natAbs/Nat.gcd x.natAbs y.natAbs)) w (by omega)
 rw[c9q] at hb3 hb4;have hN:mkN x y=x.natAbs/Nat.gcd x.natAbs y.natAbs:=rfl;have hD:mkD x y=y.natAbs/Nat.gcd x.natAbs y.natAbs:=rfl
 have hnl:x.natAbs/Nat.gcd x.natAbs y.natAbs≠0->Nt.E (x.natAbs/Nat.gcd x.natAbs y.natAbs)≠⟨#[]⟩:=fun h h2=>h (by
  have:=Nt.V_E (x.natAbs/Nat.gcd x.natAbs y.natAbs);rw[h2] at this
  exact this.symm.trans (by decide))
 have hbig1:256<Nt.blen (mkN x y)\/256<Nt.blen (mkD x y)->mkR x y=⟨false,0,0⟩/\mkE x y=4:=c8q h0;have hbig2 : ¬ (256<Nt.blen (mkN x y)\/256<Nt.blen (mkD x y))->mkR x y=⟨(zb x != zb y)&&decide (mkN x y≠0),mkN x y,mkD x y⟩/\mkE x y=0:=c6t h0;rw[hN,hD] at hbig1 hbig2;rw[hq,hc] at hbig1 hbig2;clear hq hc hgs hsn hsd hg0 hya h0 zx zy hN hD;generalize htu:Nt.E (x.natAbs/Nat.gcd x.natAbs y.natAbs)=tu at *;generalize htv:Nt.E (y.natAbs/Nat.gcd x.natAbs y.natAbs)=tv at *;generalize x.natAbs/Nat.gcd x.natAbs y.natAbs=u at *;generalize y.natAbs/Nat.gcd x.natAbs y.natAbs=v at *;generalize Nt.E (Nat.gcd x.natAbs y.natAbs)=g at *;generalize zb x=bx at *;generalize zb y=by' at *;generalize zt x=tx at *;generalize zt y=ty at *;by_cases hu1:256<Nt.blen u
 case pos =>
  obtain⟨e1,e2⟩:=hbig1 (.inl hu1);rw[e1,e2,rz.1,rz.2.1,rz.2.2];have hdd:decide ((256:Int)<(Nt.blen u:Int))=true:=jD (by omega);generalize (Nt.blen u:Int)=bu at *;have HG:=zh hg;have HD1:=zh hd1;have HD2:=zh hd2;have HB3:=zh hb3;clear hg hd1 hd2 hb3 hb4 e1 e2 hu1 hbig1 hbig2 hnl htu htv;go_enter Tryz.func174,Tryz.ntmps174;go_wp2_with fail;obtain⟨s5,A,B,C,j6,jz,J7,qq,j8,zA,zB,zC⟩:=nm3 w (.cells #[Bv n1,Sg m1] 145) (.cells #[Bv n2,Sg m2] 145) (.cells #[Bv false,S0,S0] 52);have dCA:C≠A:=by omega
  have dCB:C≠B:=by omega
  have hN:=bx2 (b:=A) j6 jz;clear hN;have hN:=bx1 (b:=B) j6 (by simp[J7]);have kB0:=hN 0 _ rfl;have kB1:=hN 1 _ rfl;clear hN;have yC:=qZ (b:=C) j6 (by simp[qq]);have fC:=Qq (b:=C) j6 (by simp[qq]);have lC:w.heap.size<=C:=by omega
  have j7:=bs3 bR j6;rw[<-j6];try rw[<-qq]
  try rw[<-J7]
  try rw[<-jz]
  clear j6 j8 jz J7 qq;refine jy (HX.out _) fun s6 hb=>?_
  replace kB0:=q9 hb kB0 zB;replace kB1:=q9 hb kB1 zB;replace zB:=jw hb zB;replace yC:=jv hb yC zC;replace fC:=qv hb fC zC;replace zC:=jw hb zC
  replace j7:=bT j7 hb;clear hb;go_wp2_with fail;obtain⟨s7,N,j6,hdN,j8,zN⟩:=qy s6 (.cells #[Bv bx,Sg tx] 145);have j9:=JW j6;have dCN:C≠N:=by omega
  replace yC:=jv j9 yC zC;replace fC:=qv j9 fC zC;replace zC:=jw j9 zC
  clear j9;have hN:=Qz (b:=N) j6 hdN;have Y0:=hN 1 _ rfl;clear hN;replace j7:=qQ j7 j6;rw[<-j6];try rw[<-hdN]
  clear j6 j8 hdN;refine jy (HY.out _) fun s8 hb=>?_
  replace yC:=jv hb yC zC;replace fC:=qv hb fC zC;replace zC:=jw hb zC
  replace Y0:=q9 hb Y0 zN;replace zN:=jw hb zN;replace j7:=bT j7 hb;clear hb;go_wp2_with fail;obtain⟨s9,M,j6,hdM,j8,zM⟩:=qy s8 (.cells #[Bv by',Sg ty] 145);have j9:=JW j6;have dCM:C≠M:=by omega
  replace yC:=jv j9 yC zC;replace fC:=qv j9 fC zC;replace zC:=jw j9 zC
  replace Y0:=q9 j9 Y0 zN;replace zN:=jw j9 zN;clear j9;have hN:=Qz (b:=M) j6 hdM;have kM1:=hN 1 _ rfl;clear hN;replace j7:=qQ j7 j6;rw[<-j6];try rw[<-hdM]
  clear j6 j8 hdM;refine jy (HG.out _) fun s10 hb=>?_
  replace yC:=jv hb yC zC;replace fC:=qv hb fC zC;replace zC:=jw hb zC
  replace Y0:=q9 hb Y0 zN;replace kM1:=q9 hb kM1 zM;replace zM:=jw hb zM;replace j7:=bT j7 hb;clear hb;go_wp2_with fail;refine jy (HD1.out _) fun s11 hb=>?_
  replace yC:=jv hb yC zC;replace fC:=qv hb fC zC;replace zC:=jw hb zC
  replace kM1:=q9 hb kM1 zM;replace j7:=bT j7 hb;clear hb;go_wp2_with fail;refine jy (HD2.out _) fun s12 hb=>?_
  replace yC:=jv hb yC zC;replace fC:=qv hb fC zC;replace zC:=jw hb zC
  replace j7:=bT j7 hb;clear hb;go_wp2_with fail;refine jy (HB3.out _) fun s13 hb=>?_
  replace yC:=jv hb yC zC;replace fC:=qv hb fC zC
  replace j7:=bT j7 hb;clear hb
  all_goals go_wp2
  all_goals refine jU (v:=.tuple #[.agg #[Bv false,S0,S0],I6 4]) (by simp[results,Tryz.results174,go_sem,yC,zC]) rfl ⟨rfl,?_⟩
  all_goals exact(sc3 j7 lC)
 have hdu:decide ((256:Int)<(Nt.blen u:Int))=false:=jE (by omega);by_cases hv1:256<Nt.blen v
 case pos =>
  obtain⟨e1,e2⟩:=hbig1 (.inr hv1);rw[e1,e2,rz.1,rz.2.1,rz.2.2];have hdd:decide ((256:Int)<(Nt.blen v:Int))=true:=jD (by omega);generalize (Nt.blen u:Int)=bu at *;generalize (Nt.blen v:Int)=bv at *;have HG:=zh hg;have HD1:=zh hd1;have HD2:=zh hd2;have HB3:=zh hb3;have HB4:=zh hb4;clear hg hd1 hd2 hb3 hb4 e1 e2 hu1 hv1 hbig1 hbig2 hnl htu htv;go_enter Tryz.func174,Tryz.ntmps174;go_wp2_with fail;obtain⟨s14,A,B,C,j6,jz,J7,qq,j8,zA,zB,zC⟩:=nm3 w (.cells #[Bv n1,Sg m1] 145) (.cells #[Bv n2,Sg m2] 145) (.cells #[Bv false,S0,S0] 52);have dCA:C≠A:=by omega
  have dCB:C≠B:=by omega
  have hN:=bx2 (b:=A) j6 jz;clear hN;have hN:=bx1 (b:=B) j6 (by simp[J7]);have kB0:=hN 0 _ rfl;have kB1:=hN 1 _ rfl;clear hN;have yC:=qZ (b:=C) j6 (by simp[qq]);have fC:=Qq (b:=C) j6 (by simp[qq]);have lC:w.heap.size<=C:=by omega
  have j7:=bs3 bR j6;rw[<-j6];try rw[<-qq]
  try rw[<-J7]
  try rw[<-jz]
  clear j6 j8 jz J7 qq;refine jy (HX.out _) fun s15 hb=>?_
  replace kB0:=q9 hb kB0 zB;replace kB1:=q9 hb kB1 zB;replace zB:=jw hb zB;replace yC:=jv hb yC zC;replace fC:=qv hb fC zC;replace zC:=jw hb zC
  replace j7:=bT j7 hb;clear hb;go_wp2_with fail;obtain⟨s16,N,j6,hdN,j8,zN⟩:=qy s15 (.cells #[Bv bx,Sg tx] 145);have j9:=JW j6;have dCN:C≠N:=by omega
  replace yC:=jv j9 yC zC;replace fC:=qv j9 fC zC;replace zC:=jw j9 zC
  clear j9;have hN:=Qz (b:=N) j6 hdN;have Y0:=hN 1 _ rfl;clear hN;replace j7:=qQ j7 j6;rw[<-j6];try rw[<-hdN]
  clear j6 j8 hdN;refine jy (HY.out _) fun s17 hb=>?_
  replace yC:=jv hb yC zC;replace fC:=qv hb fC zC;replace zC:=jw hb zC
  replace Y0:=q9 hb Y0 zN;replace zN:=jw hb zN;replace j7:=bT j7 hb;clear hb;go_wp2_with fail;obtain⟨s18,M,j6,hdM,j8,zM⟩:=qy s17 (.cells #[Bv by',Sg ty] 145);have j9:=JW j6;have dCM:C≠M:=by omega
  replace yC:=jv j9 yC zC;replace fC:=qv j9 fC zC;replace zC:=jw j9 zC
  replace Y0:=q9 j9 Y0 zN;replace zN:=jw j9 zN;clear j9;have hN:=Qz (b:=M) j6 hdM;have kM1:=hN 1 _ rfl;clear hN;replace j7:=qQ j7 j6;rw[<-j6];try rw[<-hdM]
  clear j6 j8 hdM;refine jy (HG.out _) fun s19 hb=>?_
  replace yC:=jv hb yC zC;replace fC:=qv hb fC zC;replace zC:=jw hb zC
  replace Y0:=q9 hb Y0 zN;replace kM1:=q9 hb kM1 zM;replace zM:=jw hb zM;replace j7:=bT j7 hb;clear hb;go_wp2_with fail;refine jy (HD1.out _) fun s20 hb=>?_
  replace yC:=jv hb yC zC;replace fC:=qv hb fC zC;replace zC:=jw hb zC
  replace kM1:=q9 hb kM1 zM;replace j7:=bT j7 hb;clear hb;go_wp2_with fail;refine jy (HD2.out _) fun s21 hb=>?_
  replace yC:=jv hb yC zC;replace fC:=qv hb fC zC;replace zC:=jw hb zC
  replace j7:=bT j7 hb;clear hb;go_wp2_with fail;refine jy (HB3.out _) fun s22 hb=>?_
  replace yC:=jv hb yC zC;replace fC:=qv hb fC zC;replace zC:=jw hb zC
  replace j7:=bT j7 hb;clear hb;go_wp2_with fail;refine jy (HB4.out _) fun s23 hb=>?_
  replace yC:=jv hb yC zC;replace fC:=qv hb fC zC
  replace j7:=bT j7 hb;clear hb
  all_goals go_wp2
  all_goals refine jU (v:=.tuple #[.agg #[Bv false,S0,S0],I6 4]) (by simp[results,Tryz.results174,go_sem,yC,zC]) rfl ⟨rfl,?_⟩
  all_goals exact(sc3 j7 lC)
 have hdv:decide ((256:Int)<(Nt.blen v:Int))=false:=jE (by omega);obtain⟨e1,e2⟩:=hbig2 (by omega);rw[e1,e2];show Calls _ _ _ _ fun e w'=>e=.returned (.tuple #[.agg #[Bv ((bx != by')&&decide (u≠0)),Sg (Nt.E u),Sg (Nt.E v)],I6 0])/\_
 rw[htu,htv];by_cases hu:u=0
 case pos =>
  have htn:tu=⟨#[]⟩:=by rw[<-htu,hu];rfl
  have hz:((bx != by')&&decide (u≠0))=false:=by simp[hu]
  rw[hz];subst htn;generalize (Nt.blen u:Int)=bu at *;generalize (Nt.blen v:Int)=bv at *;have HG:=zh hg;have HD1:=zh hd1;have HD2:=zh hd2;have HB3:=zh hb3;have HB4:=zh hb4;clear hg hd1 hd2 hb3 hb4 e1 e2 hu1 hv1 hbig1 hbig2 hnl htu htv hz hu;go_enter Tryz.func174,Tryz.ntmps174;go_wp2_with fail;obtain⟨s24,A,B,C,j6,jz,J7,qq,j8,zA,zB,zC⟩:=nm3 w (.cells #[Bv n1,Sg m1] 145) (.cells #[Bv n2,Sg m2] 145) (.cells #[Bv false,S0,S0] 52);have dCA:C≠A:=by omega
  have dCB:C≠B:=by omega
  have hN:=bx2 (b:=A) j6 jz;clear hN;have hN:=bx1 (b:=B) j6 (by simp[J7]);have kB0:=hN 0 _ rfl;have kB1:=hN 1 _ rfl;clear hN;have yC:=qZ (b:=C) j6 (by simp[qq]);have fC:=Qq (b:=C) j6 (by simp[qq]);have lC:w.heap.size<=C:=by omega
  have j7:=bs3 bR j6;rw[<-j6];try rw[<-qq]
  try rw[<-J7]
  try rw[<-jz]
  clear j6 j8 jz J7 qq;refine jy (HX.out _) fun s25 hb=>?_
  replace kB0:=q9 hb kB0 zB;replace kB1:=q9 hb kB1 zB;replace zB:=jw hb zB;replace yC:=jv hb yC zC;replace fC:=qv hb fC zC;replace zC:=jw hb zC
  replace j7:=bT j7 hb;clear hb;go_wp2_with fail;obtain⟨s26,N,j6,hdN,j8,zN⟩:=qy s25 (.cells #[Bv bx,Sg tx] 145);have j9:=JW j6;have dCN:C≠N:=by omega
  replace yC:=jv j9 yC zC;replace fC:=qv j9 fC zC;replace zC:=jw j9 zC
  clear j9;have hN:=Qz (b:=N) j6 hdN;have Y0:=hN 1 _ rfl;clear hN;replace j7:=qQ j7 j6;rw[<-j6];try rw[<-hdN]
  clear j6 j8 hdN;refine jy (HY.out _) fun s27 hb=>?_
  replace yC:=jv hb yC zC;replace fC:=qv hb fC zC;replace zC:=jw hb zC
  replace Y0:=q9 hb Y0 zN;replace zN:=jw hb zN;replace j7:=bT j7 hb;clear hb;go_wp2_with fail;obtain⟨s28,M,j6,hdM,j8,zM⟩:=qy s27 (.cells #[Bv by',Sg ty] 145);have j9:=JW j6;have dCM:C≠M:=by omega
  replace yC:=jv j9 yC zC;replace fC:=qv j9 fC zC;replace zC:=jw j9 zC
  replace Y0:=q9 j9 Y0 zN;replace zN:=jw j9 zN;clear j9;have hN:=Qz (b:=M) j6 hdM;have kM1:=hN 1 _ rfl;clear hN;replace j7:=qQ j7 j6;rw[<-j6];try rw[<-hdM]
  clear j6 j8 hdM;refine jy (HG.out _) fun s29 hb=>?_
  replace yC:=jv hb yC zC;replace fC:=qv hb fC zC;replace zC:=jw hb zC
  replace Y0:=q9 hb Y0 zN;replace kM1:=q9 hb kM1 zM;replace zM:=jw hb zM;replace j7:=bT j7 hb;clear hb;go_wp2_with fail;refine jy (HD1.out _) fun s30 hb=>?_
  replace yC:=jv hb yC zC;replace fC:=qv hb fC zC;replace zC:=jw hb zC
  replace kM1:=q9 hb kM1 zM;replace j7:=bT j7 hb;clear hb;go_wp2_with fail;refine jy (HD2.out _) fun s31 hb=>?_
  replace yC:=jv hb yC zC;replace fC:=qv hb fC zC;replace zC:=jw hb zC
  replace j7:=bT j7 hb;clear hb;go_wp2_with fail;refine jy (HB3.out _) fun s32 hb=>?_
  replace yC:=jv hb yC zC;replace fC:=qv hb fC zC;replace zC:=jw hb zC
  replace j7:=bT j7 hb;clear hb;go_wp2_with fail;refine jy (HB4.out _) fun s33 hb=>?_
  replace yC:=jv hb yC zC;replace fC:=qv hb fC zC
  replace j7:=bT j7 hb;clear hb
  all_goals go_wp2
  all_goals refine jU (v:=.tuple #[.agg #[Bv false,S0,Sg tv],I6 0]) (by simp[results,Tryz.results174,go_sem,yC,zC]) rfl ⟨rfl,?_⟩
  all_goals exact(sc3 j7 lC)
 obtain⟨hn1,hn2⟩:=a5y (hnl hu);have hz:((bx != by')&&decide (u≠0))=(bx != by'):=by simp[hu]
 rw[hz];generalize (Nt.blen u:Int)=bu at *;generalize (Nt.blen v:Int)=bv at *;have HG:=zh hg;have HD1:=zh hd1;have HD2:=zh hd2;have HB3:=zh hb3;have HB4:=zh hb4;clear hg hd1 hd2 hb3 hb4 e1 e2 hu1 hv1 hbig1 hbig2 hnl htu htv hz hu
 cases bx<;>cases by'
 case false.false =>
  simp only[bne_self_eq_false,Bool.false_bne,Bool.true_bne,Bool.not_false];go_enter Tryz.func174,Tryz.ntmps174;go_wp2_with fail;obtain⟨s34,A,B,C,j6,jz,J7,qq,j8,zA,zB,zC⟩:=nm3 w (.cells #[Bv n1,Sg m1] 145) (.cells #[Bv n2,Sg m2] 145) (.cells #[Bv false,S0,S0] 52);have dCA:C≠A:=by omega
  have dCB:C≠B:=by omega
  have hN:=bx2 (b:=A) j6 jz;clear hN;have hN:=bx1 (b:=B) j6 (by simp[J7]);have kB0:=hN 0 _ rfl;have kB1:=hN 1 _ rfl;clear hN;have yC:=qZ (b:=C) j6 (by simp[qq]);have fC:=Qq (b:=C) j6 (by simp[qq]);have lC:w.heap.size<=C:=by omega
  have j7:=bs3 bR j6;rw[<-j6];try rw[<-qq]
  try rw[<-J7]
  try rw[<-jz]
  clear j6 j8 jz J7 qq;refine jy (HX.out _) fun s35 hb=>?_
  replace kB0:=q9 hb kB0 zB;replace kB1:=q9 hb kB1 zB;replace zB:=jw hb zB;replace yC:=jv hb yC zC;replace fC:=qv hb fC zC;replace zC:=jw hb zC
  replace j7:=bT j7 hb;clear hb;go_wp2_with fail;obtain⟨s36,N,j6,hdN,j8,zN⟩:=qy s35 (.cells #[Bv false,Sg tx] 145);have j9:=JW j6;have dCN:C≠N:=by omega
  replace yC:=jv j9 yC zC;replace fC:=qv j9 fC zC;replace zC:=jw j9 zC
  clear j9;have hN:=Qz (b:=N) j6 hdN;have Xz:=hN 0 _ rfl;have Y0:=hN 1 _ rfl;clear hN;replace j7:=qQ j7 j6;rw[<-j6];try rw[<-hdN]
  clear j6 j8 hdN;refine jy (HY.out _) fun s37 hb=>?_
  replace yC:=jv hb yC zC;replace fC:=qv hb fC zC;replace zC:=jw hb zC
  replace Xz:=q9 hb Xz zN;replace Y0:=q9 hb Y0 zN;replace zN:=jw hb zN;replace j7:=bT j7 hb;clear hb;go_wp2_with fail;obtain⟨s38,M,j6,hdM,j8,zM⟩:=qy s37 (.cells #[Bv false,Sg ty] 145);have j9:=JW j6;have dCM:C≠M:=by omega
  replace yC:=jv j9 yC zC;replace fC:=qv j9 fC zC;replace zC:=jw j9 zC
  replace Xz:=q9 j9 Xz zN;replace Y0:=q9 j9 Y0 zN;replace zN:=jw j9 zN;clear j9;have hN:=Qz (b:=M) j6 hdM;have Yk:=hN 0 _ rfl;have kM1:=hN 1 _ rfl;clear hN;replace j7:=qQ j7 j6;rw[<-j6];try rw[<-hdM]
  clear j6 j8 hdM;refine jy (HG.out _) fun s39 hb=>?_
  replace yC:=jv hb yC zC;replace fC:=qv hb fC zC;replace zC:=jw hb zC
  replace Xz:=q9 hb Xz zN;replace Y0:=q9 hb Y0 zN;replace zN:=jw hb zN;replace Yk:=q9 hb Yk zM;replace kM1:=q9 hb kM1 zM;replace zM:=jw hb zM;replace j7:=bT j7 hb;clear hb;go_wp2_with fail;refine jy (HD1.out _) fun s40 hb=>?_
  replace yC:=jv hb yC zC;replace fC:=qv hb fC zC;replace zC:=jw hb zC
  replace Xz:=q9 hb Xz zN;replace zN:=jw hb zN;replace Yk:=q9 hb Yk zM;replace kM1:=q9 hb kM1 zM;replace zM:=jw hb zM;replace j7:=bT j7 hb;clear hb;go_wp2_with fail;refine jy (HD2.out _) fun s41 hb=>?_
  replace yC:=jv hb yC zC;replace fC:=qv hb fC zC;replace zC:=jw hb zC
  replace Xz:=q9 hb Xz zN;replace zN:=jw hb zN;replace Yk:=q9 hb Yk zM;replace zM:=jw hb zM;replace j7:=bT j7 hb;clear hb;go_wp2_with fail;refine jy (HB3.out _) fun s42 hb=>?_
  replace yC:=jv hb yC zC;replace fC:=qv hb fC zC;replace zC:=jw hb zC
  replace Xz:=q9 hb Xz zN;replace zN:=jw hb zN;replace Yk:=q9 hb Yk zM;replace zM:=jw hb zM;replace j7:=bT j7 hb;clear hb;go_wp2_with fail;refine jy (HB4.out _) fun s43 hb=>?_
  replace yC:=jv hb yC zC;replace fC:=qv hb fC zC
  replace Xz:=q9 hb Xz zN;replace Yk:=q9 hb Yk zM;replace j7:=bT j7 hb;clear hb
  all_goals go_wp2
  all_goals refine jU (v:=.tuple #[.agg #[Bv false,Sg tu,Sg tv],I6 0]) (by simp[results,Tryz.results174,go_sem,yC,zC]) rfl ⟨rfl,?_⟩
  all_goals exact(sc3 j7 lC)
 case false.true =>
  simp only[bne_self_eq_false,Bool.false_bne,Bool.true_bne,Bool.not_false];go_enter Tryz.func174,Tryz.ntmps174;go_wp2_with fail;obtain⟨s44,A,B,C,j6,jz,J7,qq,j8,zA,zB,zC⟩:=nm3 w (.cells #[Bv n1,Sg m1] 145) (.cells #[Bv n2,Sg m2] 145) (.cells #[Bv false,S0,S0] 52);have dCA:C≠A:=by omega
  have dCB:C≠B:=by omega
  have hN:=bx2 (b:=A) j6 jz;clear hN;have hN:=bx1 (b:=B) j6 (by simp[J7]);have kB0:=hN 0 _ rfl;have kB1:=hN 1 _ rfl;clear hN;have yC:=qZ (b:=C) j6 (by simp[qq]);have fC:=Qq (b:=C) j6 (by simp[qq]);have lC:w.heap.size<=C:=by omega
  have j7:=bs3 bR j6;rw[<-j6];try rw[<-qq]
  try rw[<-J7]
  try rw[<-jz]
  clear j6 j8 jz J7 qq;refine jy (HX.out _) fun s45 hb=>?_
  replace kB0:=q9 hb kB0 zB;replace kB1:=q9 hb kB1 zB;replace zB:=jw hb zB;replace yC:=jv hb yC zC;replace fC:=qv hb fC zC;replace zC:=jw hb zC
  replace j7:=bT j7 hb;clear hb;go_wp2_with fail;obtain⟨s46,N,j6,hdN,j8,zN⟩:=qy s45 (.cells #[Bv false,Sg tx] 145);have j9:=JW j6;have dCN:C≠N:=by omega
  replace yC:=jv j9 yC zC;replace fC:=qv j9 fC zC;replace zC:=jw j9 zC
  clear j9;have hN:=Qz (b:=N) j6 hdN;have Xz:=hN 0 _ rfl;have Y0:=hN 1 _ rfl;clear hN;replace j7:=qQ j7 j6;rw[<-j6];try rw[<-hdN]
  clear j6 j8 hdN;refine jy (HY.out _) fun s47 hb=>?_
  replace yC:=jv hb yC zC;replace fC:=qv hb fC zC;replace zC:=jw hb zC
  replace Xz:=q9 hb Xz zN;replace Y0:=q9 hb Y0 zN;replace zN:=jw hb zN;replace j7:=bT j7 hb;clear hb;go_wp2_with fail;obtain⟨s48,M,j6,hdM,j8,zM⟩:=qy s47 (.cells #[Bv true,Sg ty] 145);have j9:=JW j6;have dCM:C≠M:=by omega
  replace yC:=jv j9 yC zC;replace fC:=qv j9 fC zC;replace zC:=jw j9 zC
  replace Xz:=q9 j9 Xz zN;replace Y0:=q9 j9 Y0 zN;replace zN:=jw j9 zN;clear j9;have hN:=Qz (b:=M) j6 hdM;have Yk:=hN 0 _ rfl;have kM1:=hN 1 _ rfl;clear hN;replace j7:=qQ j7 j6;rw[<-j6];try rw[<-hdM]
  clear j6 j8 hdM;refine jy (HG.out _) fun s49 hb=>?_
  replace yC:=jv hb yC zC;replace fC:=qv hb fC zC;replace zC:=jw hb zC
  replace Xz:=q9 hb Xz zN;replace Y0:=q9 hb Y0 zN;replace zN:=jw hb zN;replace Yk:=q9 hb Yk zM;replace kM1:=q9 hb kM1 zM;replace zM:=jw hb zM;replace j7:=bT j7 hb;clear hb;go_wp2_with fail;refine jy (HD1.out _) fun s50 hb=>?_
  replace yC:=jv hb yC zC;replace fC:=qv hb fC zC;replace zC:=jw hb zC
  replace Xz:=q9 hb Xz zN;replace zN:=jw hb zN;replace Yk:=q9 hb Yk zM;replace kM1:=q9 hb kM1 zM;replace zM:=jw hb zM;replace j7:=bT j7 hb;clear hb;go_wp2_with fail;refine jy (HD2.out _) fun s51 hb=>?_
  replace yC:=jv hb yC zC;replace fC:=qv hb fC zC;replace zC:=jw hb zC
  replace Xz:=q9 hb Xz zN;replace zN:=jw hb zN;replace Yk:=q9 hb Yk zM;replace zM:=jw hb zM;replace j7:=bT j7 hb;clear hb;go_wp2_with fail;refine jy (HB3.out _) fun s52 hb=>?_
  replace yC:=jv hb yC zC;replace fC:=qv hb fC zC;replace zC:=jw hb zC
  replace Xz:=q9 hb Xz zN;replace zN:=jw hb zN;replace Yk:=q9 hb Yk zM;replace zM:=jw hb zM;replace j7:=bT j7 hb;clear hb;go_wp2_with fail;refine jy (HB4.out _) fun s53 hb=>?_
  replace yC:=jv hb yC zC;replace fC:=qv hb fC zC
  replace Xz:=q9 hb Xz zN;replace Yk:=q9 hb Yk zM;replace j7:=bT j7 hb;clear hb
  all_goals go_wp2
  all_goals refine jU (v:=.tuple #[.agg #[Bv true,Sg tu,Sg tv],I6 0]) (by simp[results,Tryz.results174,go_sem,yC,zC]) rfl ⟨rfl,?_⟩
  all_goals exact(sc3 j7 lC)
 case true.false =>
  simp only[bne_self_eq_false,Bool.false_bne,Bool.true_bne,Bool.not_false];go_enter Tryz.func174,Tryz.ntmps174;go_wp2_with fail;obtain⟨s54,A,B,C,j6,jz,J7,qq,j8,zA,zB,zC⟩:=nm3 w (.cells #[Bv n1,Sg m1] 145) (.cells #[Bv n2,Sg m2] 145) (.cells #[Bv false,S0,S0] 52);have dCA:C≠A:=by omega
  have dCB:C≠B:=by omega
  have hN:=bx2 (b:=A) j6 jz;clear hN;have hN:=bx1 (b:=B) j6 (by simp[J7]);have kB0:=hN 0 _ rfl;have kB1:=hN 1 _ rfl;clear hN;have yC:=qZ (b:=C) j6 (by simp[qq]);have fC:=Qq (b:=C) j6 (by simp[qq]);have lC:w.heap.size<=C:=by omega
  have j7:=bs3 bR j6;rw[<-j6];try rw[<-qq]
  try rw[<-J7]
  try rw[<-jz]
  clear j6 j8 jz J7 qq;refine jy (HX.out _) fun s55 hb=>?_
  replace kB0:=q9 hb kB0 zB;replace kB1:=q9 hb kB1 zB;replace zB:=jw hb zB;replace yC:=jv hb yC zC;replace fC:=qv hb fC zC;replace zC:=jw hb zC
  replace j7:=bT j7 hb;clear hb;go_wp2_with fail;obtain⟨s56,N,j6,hdN,j8,zN⟩:=qy s55 (.cells #[Bv true,Sg tx] 145);have j9:=JW j6;have dCN:C≠N:=by omega
  replace yC:=jv j9 yC zC;replace fC:=qv j9 fC zC;replace zC:=jw j9 zC
  clear j9;have hN:=Qz (b:=N) j6 hdN;have Xz:=hN 0 _ rfl;have Y0:=hN 1 _ rfl;clear hN;replace j7:=qQ j7 j6;rw[<-j6];try rw[<-hdN]
  clear j6 j8 hdN;refine jy (HY.out _) fun s57 hb=>?_
  replace yC:=jv hb yC zC;replace fC:=qv hb fC zC;replace zC:=jw hb zC
  replace Xz:=q9 hb Xz zN;replace Y0:=q9 hb Y0 zN;replace zN:=jw hb zN;replace j7:=bT j7 hb;clear hb;go_wp2_with fail;obtain⟨s58,M,j6,hdM,j8,zM⟩:=qy s57 (.cells #[Bv false,Sg ty] 145);have j9:=JW j6;have dCM:C≠M:=by omega
  replace yC:=jv j9 yC zC;replace fC:=qv j9 fC zC;replace zC:=jw j9 zC
  replace Xz:=q9 j9 Xz zN;replace Y0:=q9 j9 Y0 zN;replace zN:=jw j9 zN;clear j9;have hN:=Qz (b:=M) j6 hdM;have Yk:=hN 0 _ rfl;have kM1:=hN 1 _ rfl;clear hN;replace j7:=qQ j7 j6;rw[<-j6];try rw[<-hdM]
  clear j6 j8 hdM;refine jy (HG.out _) fun s59 hb=>?_
  replace yC:=jv hb yC zC;replace fC:=qv hb fC zC;replace zC:=jw hb zC
  replace Xz:=q9 hb Xz zN;replace Y0:=q9 hb Y0 zN;replace zN:=jw hb zN;replace Yk:=q9 hb Yk zM;replace kM1:=q9 hb kM1 zM;replace zM:=jw hb zM;replace j7:=bT j7 hb;clear hb;go_wp2_with fail;refine jy (HD1.out _) fun s60 hb=>?_
  replace yC:=jv hb yC zC;replace fC:=qv hb fC zC;replace zC:=jw hb zC
  replace Xz:=q9 hb Xz zN;replace zN:=jw hb zN;replace Yk:=q9 hb Yk zM;replace kM1:=q9 hb kM1 zM;replace zM:=jw hb zM;replace j7:=bT j7 hb;clear hb;go_wp2_with fail;refine jy (HD2.out _) fun s61 hb=>?_
  replace yC:=jv hb yC zC;replace fC:=qv hb fC zC;replace zC:=jw hb zC
  replace Xz:=q9 hb Xz zN;replace zN:=jw hb zN;replace Yk:=q9 hb Yk zM;replace zM:=jw hb zM;replace j7:=bT j7 hb;clear hb;go_wp2_with fail;refine jy (HB3.out _) fun s62 hb=>?_
  replace yC:=jv hb yC zC;replace fC:=qv hb fC zC;replace zC:=jw hb zC
  replace Xz:=q9 hb Xz zN;replace zN:=jw hb zN;replace Yk:=q9 hb Yk zM;replace zM:=jw hb zM;replace j7:=bT j7 hb;clear hb;go_wp2_with fail;refine jy (HB4.out _) fun s63 hb=>?_
  replace yC:=jv hb yC zC;replace fC:=qv hb fC zC
  replace Xz:=q9 hb Xz zN;replace Yk:=q9 hb Yk zM;replace j7:=bT j7 hb;clear hb
  all_goals go_wp2
  all_goals refine jU (v:=.tuple #[.agg #[Bv true,Sg tu,Sg tv],I6 0]) (by simp[results,Tryz.results174,go_sem,yC,zC]) rfl ⟨rfl,?_⟩
  all_goals exact(sc3 j7 lC)
 case true.true =>
  simp only[bne_self_eq_false,Bool.false_bne,Bool.true_bne,Bool.not_false];go_enter Tryz.func174,Tryz.ntmps174;go_wp2_with fail;obtain⟨s64,A,B,C,j6,jz,J7,qq,j8,zA,zB,zC⟩:=nm3 w (.cells #[Bv n1,Sg m1] 145) (.cells #[Bv n2,Sg m2] 145) (.cells #[Bv false,S0,S0] 52);have dCA:C≠A:=by omega
  have dCB:C≠B:=by omega
  have hN:=bx2 (b:=A) j6 jz;clear hN;have hN:=bx1 (b:=B) j6 (by simp[J7]);have kB0:=hN 0 _ rfl;have kB1:=hN 1 _ rfl;clear hN;have yC:=qZ (b:=C) j6 (by simp[qq]);have fC:=Qq (b:=C) j6 (by simp[qq]);have lC:w.heap.size<=C:=by omega
  have j7:=bs3 bR j6;rw[<-j6];try rw[<-qq]
  try rw[<-J7]
  try rw[<-jz]
  clear j6 j8 jz J7 qq;refine jy (HX.out _) fun s65 hb=>?_
  replace kB0:=q9 hb kB0 zB;replace kB1:=q9 hb kB1 zB;replace zB:=jw hb zB;replace yC:=jv hb yC zC;replace fC:=qv hb fC zC;replace zC:=jw hb zC
  replace j7:=bT j7 hb;clear hb;go_wp2_with fail;obtain⟨s66,N,j6,hdN,j8,zN⟩:=qy s65 (.cells #[Bv true,Sg tx] 145);have j9:=JW j6;have dCN:C≠N:=by omega
  replace yC:=jv j9 yC zC;replace fC:=qv j9 fC zC;replace zC:=jw j9 zC
  clear j9;have hN:=Qz (b:=N) j6 hdN;have Xz:=hN 0 _ rfl;have Y0:=hN 1 _ rfl;clear hN;replace j7:=qQ j7 j6;rw[<-j6];try rw[<-hdN]
  clear j6 j8 hdN;refine jy (HY.out _) fun s67 hb=>?_
  replace yC:=jv hb yC zC;replace fC:=qv hb fC zC;replace zC:=jw hb zC
  replace Xz:=q9 hb Xz zN;replace Y0:=q9 hb Y0 zN;replace zN:=jw hb zN;replace j7:=bT j7 hb;clear hb;go_wp2_with fail;obtain⟨s68,M,j6,hdM,j8,zM⟩:=qy s67 (.cells #[Bv true,Sg ty] 145);have j9:=JW j6;have dCM:C≠M:=by omega
  replace yC:=jv j9 yC zC;replace fC:=qv j9 fC zC;replace zC:=jw j9 zC
  replace Xz:=q9 j9 Xz zN;replace Y0:=q9 j9 Y0 zN;replace zN:=jw j9 zN;clear j9;have hN:=Qz (b:=M) j6 hdM;have Yk:=hN 0 _ rfl;have kM1:=hN 1 _ rfl;clear hN;replace j7:=qQ j7 j6;rw[<-j6];try rw[<-hdM]
  clear j6 j8 hdM;refine jy (HG.out _) fun s69 hb=>?_
  replace yC:=jv hb yC zC;replace fC:=qv hb fC zC;replace zC:=jw hb zC
  replace Xz:=q9 hb Xz zN;replace Y0:=q9 hb Y0 zN;replace zN:=jw hb zN;replace Yk:=q9 hb Yk zM;replace kM1:=q9 hb kM1 zM;replace zM:=jw hb zM;replace j7:=bT j7 hb;clear hb;go_wp2_with fail;refine jy (HD1.out _) fun s70 hb=>?_
  replace yC:=jv hb yC zC;replace fC:=qv hb fC zC;replace zC:=jw hb zC
  replace Xz:=q9 hb Xz zN;replace zN:=jw hb zN;replace Yk:=q9 hb Yk zM;replace kM1:=q9 hb kM1 zM;replace zM:=jw hb zM;replace j7:=bT j7 hb;clear hb;go_wp2_with fail;refine jy (HD2.out _) fun s71 hb=>?_
  replace yC:=jv hb yC zC;replace fC:=qv hb fC zC;replace zC:=jw hb zC
  replace Xz:=q9 hb Xz zN;replace zN:=jw hb zN;replace Yk:=q9 hb Yk zM;replace zM:=jw hb zM;replace j7:=bT j7 hb;clear hb;go_wp2_with fail;refine jy (HB3.out _) fun s72 hb=>?_
  replace yC:=jv hb yC zC;replace fC:=qv hb fC zC;replace zC:=jw hb zC
  replace Xz:=q9 hb Xz zN;replace zN:=jw hb zN;replace Yk:=q9 hb Yk zM;replace zM:=jw hb zM;replace j7:=bT j7 hb;clear hb;go_wp2_with fail;refine jy (HB4.out _) fun s73 hb=>?_
  replace yC:=jv hb yC zC;replace fC:=qv hb fC zC
  replace Xz:=q9 hb Xz zN;replace Yk:=q9 hb Yk zM;replace j7:=bT j7 hb;clear hb
  all_goals go_wp2
  all_goals refine jU (v:=.tuple #[.agg #[Bv false,Sg tu,Sg tv],I6 0]) (by simp[results,Tryz.results174,go_sem,yC,zC]) rfl ⟨rfl,?_⟩
  all_goals exact(sc3 j7 lC)
