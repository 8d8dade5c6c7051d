import Derived.Test.YtibiacmbljgmhaaGreatDoorAst10
set_option maxHeartbeats 16000000
set_option maxRecDepth 100000
namespace Go.Proofs.YtibiacmbljgmhaaGreatDoor
open Go.RowKit Go.Shelf
set_option linter.all false
theorem c8u (o a b:Int) (qn:Bool) (qa qd x:jW) (tr:Bool) (rs:jW) (rc rr:Int) (rf rg:Bool) (ts:jW) (tc tt:Int) (tf tg:Bool) (w:World) (hf:J8 ⟨1,o,a,b,qn,qa,qd,x,tr,⟨rs,rc,rr,rf,rg⟩,⟨ts,tc,tt,tf,tg⟩⟩) :
  Ca 34 #[.agg #[I6 1,I6 o,I6 a,I6 b,Bv qn,Sg qa,Sg qd,Sg x,Bv tr,Sg rs,I6 rc,I6 rr,Bv rf,Bv rg,Sg ts,I6 tc,I6 tt,Bv tf,Bv tg]] w (Bv (X9 ⟨1,o,a,b,qn,qa,qd,x,tr,⟨rs,rc,rr,rf,rg⟩,⟨ts,tc,tt,tf,tg⟩⟩)):=by
 obtain⟨Rs,hRs⟩:∃ Rs,Rs=X9 ⟨1,o,a,b,qn,qa,qd,x,tr,⟨rs,rc,rr,rf,rg⟩,⟨ts,tc,tt,tf,tg⟩⟩:=⟨_,rfl⟩;rw[<-hRs];unfold X9 at hRs;obtain⟨h1,h2,h3,h4,h5⟩:=hf;dsimp only at *;have JY:=Qw;obtain⟨K19,hz19,HK19⟩:=Y9;have hb:X6 ⟨1,o,a,b,qn,qa,qd,x,tr,⟨rs,rc,rr,rf,rg⟩,⟨ts,tc,tt,tf,tg⟩⟩=⟨1,0,0,0,qn,qa,qd,⟨#[]⟩,false,Jj,Jj⟩:=rfl;have hE:∀ w,Sem.run Tryz.prog (binOp .eql 69 (.agg #[I6 1,I6 o,I6 a,I6 b,Bv qn,Sg qa,Sg qd,Sg x,Bv tr,Sg rs,I6 rc,I6 rr,Bv rf,Bv rg,Sg ts,I6 tc,I6 tt,Bv tf,Bv tg]) (.agg #[I6 1,I6 0,I6 0,I6 0,Bv qn,Sg qa,Sg qd,S0,Bv false,S0,I6 0,I6 0,Bv false,Bv false,S0,I6 0,I6 0,Bv false,Bv false])) w=.ok (Bv (XX ⟨1,o,a,b,qn,qa,qd,x,tr,⟨rs,rc,rr,rf,rg⟩,⟨ts,tc,tt,tf,tg⟩⟩ (X6 ⟨1,o,a,b,qn,qa,qd,x,tr,⟨rs,rc,rr,rf,rg⟩,⟨ts,tc,tt,tf,tg⟩⟩))) w:=fun w=>by rw[hb];exact a1b ⟨1,o,a,b,qn,qa,qd,x,tr,⟨rs,rc,rr,rf,rg⟩,⟨ts,tc,tt,tf,tg⟩⟩ ⟨1,0,0,0,qn,qa,qd,⟨#[]⟩,false,Jj,Jj⟩ w
 clear hb;generalize XX ⟨1,o,a,b,qn,qa,qd,x,tr,⟨rs,rc,rr,rf,rg⟩,⟨ts,tc,tt,tf,tg⟩⟩ (X6 ⟨1,o,a,b,qn,qa,qd,x,tr,⟨rs,rc,rr,rf,rg⟩,⟨ts,tc,tt,tf,tg⟩⟩)=z at *;rw[show a4i ⟨1,o,a,b,qn,qa,qd,x,tr,⟨rs,rc,rr,rf,rg⟩,⟨ts,tc,tt,tf,tg⟩⟩=amB qn qa qd from rfl] at hRs;have hR:=fun w=>a7e qn qa qd w (by omega) (by omega)
 have hN:=fun w=>c0n qn qa qd w (by omega) (by omega)
 have hl:a0y qn qa qd=true->(wl qn qa qd).den=Nt.V qd:=fun h=>by unfold wl;rw[if_pos h]
 unfold amB at hRs;generalize a0y qn qa qd=y at *
 have he:(y && !qn&&b4j (Nt.V qd))=(y && !qn&&b4j (wl qn qa qd).den):=by
  cases y with
  | false=>rfl
  | true=>rw[hl rfl]
 rw[he] at hRs;generalize b4j (wl qn qa qd).den=u at *;have HC:=zh hR;have HN:=zh hN;clear hR hN hl he h1 h2 h3 h4 h5;have HRs:=zh hRs;clear hRs;go_enter Tryz.func34,Tryz.ntmps34
 go_upto_region 1 with fail
 obtain⟨s1,A,j6,jz,j8,zA⟩:=qy w (.cells #[I6 1,I6 o,I6 a,I6 b,Bv qn,Sg qa,Sg qd,Sg x,Bv tr,Sg rs,I6 rc,I6 rr,Bv rf,Bv rg,Sg ts,I6 tc,I6 tt,Bv tf,Bv tg] 69);have yA:=qZ (b:=A) j6 jz;have j7:=qQ bR j6;rw[<-j6];try rw[<-jz]
 clear j6 j8 jz
 go_upto_region 2 with (refine a0c rfl _ _ rfl rfl _ _ _ rfl rfl rfl (by rfl) (by rfl) (by rfl) ?_)
 obtain⟨s2,X,j6,qw,j8,zX⟩:=qy s1 (.cells #[I6 1,I6 0,I6 0,I6 0,Bv false,S0,S0,S0,Bv false,S0,I6 0,I6 0,Bv false,Bv false,S0,I6 0,I6 0,Bv false,Bv false] 69);have j9:=JW j6;have dXA:X≠A:=by omega
 replace yA:=jv j9 yA zA;replace zA:=jw j9 zA;clear j9;have yX:=qZ (b:=X) j6 qw;have fX:=Qq (b:=X) j6 qw;have lX:w.heap.size<=X:=by have:=j7.size;omega
 replace j7:=qQ j7 j6;rw[<-j6];try rw[<-qw]
 clear j6 j8 qw
 go_upto_region 6 with fail
 obtain⟨s3,j6⟩:∃ s,s=(((s2.setCell ⟨X,4,none⟩ (Bv qn)).setCell ⟨X,5,none⟩ (Sg qa)).setCell ⟨X,6,none⟩ (Sg qd)):=⟨_,rfl⟩;have qJ:Bl w s3:=by rw[j6];exact(sc3 (j7) lX)
 have j8:=ss3 j6;replace yA:=Jv j6 (qz (qz (qz yA dXA) dXA) dXA);have hq:∀ {p v},(((s2.setCell ⟨X,4,none⟩ (Bv qn)).setCell ⟨X,5,none⟩ (Sg qa)).setCell ⟨X,6,none⟩ (Sg qd)).cell? p=some v->s3.cell? p=some v:=fun h=>by rw[j6];exact h
 replace yX:∀ j,s3.cell? ⟨X,j,none⟩=([I6 1,I6 0,I6 0,I6 0,Bv qn,Sg qa,Sg qd,S0,Bv false,S0,I6 0,I6 0,Bv false,Bv false,S0,I6 0,I6 0,Bv false,Bv false]:List Value)[j]?:=Jv j6 (JX (JX (JX yX (jB rfl)) (jB rfl)) (jB rfl));clear hq;have J9:=@fz3 _ _ _ _ _ _ _ _  j6;clear J9;replace zA:=Xy j8 zA;replace zX:=Xy j8 zX;replace LA:=Qv HK19 yA;replace LX:=Qv HK19 yX;rw[<-j6];clear j7 j6 j8;have j7:=qJ;clear qJ;have hRs:=HRs.out;clear HRs
 cases z with
 | false =>
  rw[Bool.and_false] at hRs;go_wp2_with fail;refine(HN.out _).mono ?_;rintro e w2 ⟨⟨n,rfl⟩,hb⟩;replace yA:=jv hb yA zA;replace yX:=jv hb yX zX;replace j7:=X4 j7 hb;clear hb;replace LA:=Qv HK19 yA;replace LX:=Qv HK19 yX;go_wp2
  all_goals go_ret
  all_goals exact⟨J4 (by simp[*]),j7⟩
 | true =>
  rw[Bool.and_true] at hRs
  cases y with
  | false =>
   rw[Bool.false_and,Bool.false_and] at hRs;go_wp2_with fail;refine(HN.out _).mono ?_;rintro e w2 ⟨⟨n,rfl⟩,hb⟩;replace yA:=jv hb yA zA;replace yX:=jv hb yX zX;replace j7:=X4 j7 hb;clear hb;replace LA:=Qv HK19 yA;replace LX:=Qv HK19 yX;go_wp2_with fail;refine jy (HC.out _) fun s4 hb=>?_
   replace j7:=bT j7 hb;clear hb;go_wp2
   all_goals go_ret
   all_goals exact⟨J4 (by simp[*]),j7⟩
  | true =>
   rw[Bool.true_and] at hRs
   cases qn with
   | true =>
    rw[Bool.not_true,Bool.false_and] at hRs;go_wp2_with fail;refine(HN.out _).mono ?_;rintro e w2 ⟨⟨n,rfl⟩,hb⟩;replace yA:=jv hb yA zA;replace zA:=jw hb zA;replace yX:=jv hb yX zX;replace j7:=X4 j7 hb;clear hb;replace LA:=Qv HK19 yA;replace LX:=Qv HK19 yX;go_wp2_with fail;refine jy (HC.out _) fun s5 hb=>?_
    replace yA:=jv hb yA zA;replace j7:=bT j7 hb;clear hb;go_wp2
    all_goals go_ret
    all_goals exact⟨J4 (by simp[*]),j7⟩
   | false =>
    rw[Bool.not_false,Bool.true_and] at hRs;go_wp2_with fail;refine(HN.out _).mono ?_;rintro e w2 ⟨⟨n,rfl⟩,hb⟩;replace yA:=jv hb yA zA;replace zA:=jw hb zA;replace yX:=jv hb yX zX;replace j7:=X4 j7 hb;clear hb;replace LA:=Qv HK19 yA;replace LX:=Qv HK19 yX;go_wp2_with fail;refine jy (HC.out _) fun s6 hb=>?_
    replace yA:=jv hb yA zA;replace j7:=bT j7 hb;clear hb;go_wp2
    all_goals go_ret
    all_goals exact⟨J4 (by simp[*]),j7⟩
theorem c8v (o a b:Int) (qn:Bool) (qa qd x:jW) (tr:Bool) (rs:jW) (rc rr:Int) (rf rg:Bool) (ts:jW) (tc tt:Int) (tf tg:Bool) (w:World) (hf:J8 ⟨2,o,a,b,qn,qa,qd,x,tr,⟨rs,rc,rr,rf,rg⟩,⟨ts,tc,tt,tf,tg⟩⟩) :
  Ca 34 #[.agg #[I6 2,I6 o,I6 a,I6 b,Bv qn,Sg qa,Sg qd,Sg x,Bv tr,Sg rs,I6 rc,I6 rr,Bv rf,Bv rg,Sg ts,I6 tc,I6 tt,Bv tf,Bv tg]] w (Bv (X9 ⟨2,o,a,b,qn,qa,qd,x,tr,⟨rs,rc,rr,rf,rg⟩,⟨ts,tc,tt,tf,tg⟩⟩)):=by
 obtain⟨Rs,hRs⟩:∃ Rs,Rs=X9 ⟨2,o,a,b,qn,qa,qd,x,tr,⟨rs,rc,rr,rf,rg⟩,⟨ts,tc,tt,tf,tg⟩⟩:=⟨_,rfl⟩;rw[<-hRs];unfold X9 at hRs;obtain⟨h1,h2,h3,h4,h5⟩:=hf;dsimp only at *;have JY:=Qw;obtain⟨K19,hz19,HK19⟩:=Y9;have hb:X6 ⟨2,o,a,b,qn,qa,qd,x,tr,⟨rs,rc,rr,rf,rg⟩,⟨ts,tc,tt,tf,tg⟩⟩=⟨2,0,0,0,false,⟨#[]⟩,⟨#[]⟩,x,false,Jj,Jj⟩:=rfl;have hE:∀ w,Sem.run Tryz.prog (binOp .eql 69 (.agg #[I6 2,I6 o,I6 a,I6 b,Bv qn,Sg qa,Sg qd,Sg x,Bv tr,Sg rs,I6 rc,I6 rr,Bv rf,Bv rg,Sg ts,I6 tc,I6 tt,Bv tf,Bv tg]) (.agg #[I6 2,I6 0,I6 0,I6 0,Bv false,S0,S0,Sg x,Bv false,S0,I6 0,I6 0,Bv false,Bv false,S0,I6 0,I6 0,Bv false,Bv false])) w=.ok (Bv (XX ⟨2,o,a,b,qn,qa,qd,x,tr,⟨rs,rc,rr,rf,rg⟩,⟨ts,tc,tt,tf,tg⟩⟩ (X6 ⟨2,o,a,b,qn,qa,qd,x,tr,⟨rs,rc,rr,rf,rg⟩,⟨ts,tc,tt,tf,tg⟩⟩))) w:=fun w=>by rw[hb];exact a1b ⟨2,o,a,b,qn,qa,qd,x,tr,⟨rs,rc,rr,rf,rg⟩,⟨ts,tc,tt,tf,tg⟩⟩ ⟨2,0,0,0,false,⟨#[]⟩,⟨#[]⟩,x,false,Jj,Jj⟩ w
 clear hb;generalize XX ⟨2,o,a,b,qn,qa,qd,x,tr,⟨rs,rc,rr,rf,rg⟩,⟨ts,tc,tt,tf,tg⟩⟩ (X6 ⟨2,o,a,b,qn,qa,qd,x,tr,⟨rs,rc,rr,rf,rg⟩,⟨ts,tc,tt,tf,tg⟩⟩)=z at *;rw[show a4i ⟨2,o,a,b,qn,qa,qd,x,tr,⟨rs,rc,rr,rf,rg⟩,⟨ts,tc,tt,tf,tg⟩⟩=b7h x from rfl] at hRs;have hC:=fun w=>c0v (c0r x w (by unfold maxLen;omega))
 generalize b7h x=y at *;have HC:=zh hC;clear hC h1 h2 h3 h4 h5;have HRs:=zh hRs;clear hRs;go_enter Tryz.func34,Tryz.ntmps34
 go_upto_region 1 with fail
 obtain⟨s7,A,j6,jz,j8,zA⟩:=qy w (.cells #[I6 2,I6 o,I6 a,I6 b,Bv qn,Sg qa,Sg qd,Sg x,Bv tr,Sg rs,I6 rc,I6 rr,Bv rf,Bv rg,Sg ts,I6 tc,I6 tt,Bv tf,Bv tg] 69);have yA:=qZ (b:=A) j6 jz;have j7:=qQ bR j6;rw[<-j6];try rw[<-jz]
 clear j6 j8 jz
 go_upto_region 2 with (refine a0c rfl _ _ rfl rfl _ _ _ rfl rfl rfl (by rfl) (by rfl) (by rfl) ?_)
 obtain⟨s8,X,j6,qw,j8,zX⟩:=qy s7 (.cells #[I6 2,I6 0,I6 0,I6 0,Bv false,S0,S0,S0,Bv false,S0,I6 0,I6 0,Bv false,Bv false,S0,I6 0,I6 0,Bv false,Bv false] 69);have j9:=JW j6;have dXA:X≠A:=by omega
 replace yA:=jv j9 yA zA;clear j9;have yX:=qZ (b:=X) j6 qw;have fX:=Qq (b:=X) j6 qw;have lX:w.heap.size<=X:=by have:=j7.size;omega
 replace j7:=qQ j7 j6;rw[<-j6];try rw[<-qw]
 clear j6 j8 qw
 go_upto_region 10 with fail
 obtain⟨s9,j6⟩:∃ s,s=(s8.setCell ⟨X,7,none⟩ (Sg x)):=⟨_,rfl⟩;have qJ:Bl w s9:=by rw[j6];exact((j7).setCell lX _)
 have j8:=ss1 j6;replace yA:=Jv j6 (qz yA dXA);have hq:∀ {p v},(s8.setCell ⟨X,7,none⟩ (Sg x)).cell? p=some v->s9.cell? p=some v:=fun h=>by rw[j6];exact h
 replace yX:∀ j,s9.cell? ⟨X,j,none⟩=([I6 2,I6 0,I6 0,I6 0,Bv false,S0,S0,Sg x,Bv false,S0,I6 0,I6 0,Bv false,Bv false,S0,I6 0,I6 0,Bv false,Bv false]:List Value)[j]?:=Jv j6 (JX yX (jB rfl));clear hq;have J9:=@fz1 _ _ _ _  j6;clear J9;replace LA:=Qv HK19 yA;replace LX:=Qv HK19 yX;rw[<-j6];clear j7 j6 j8;have j7:=qJ;clear qJ;have hRs:=HRs.out;clear HRs
 cases z with
 | false =>
  rw[Bool.and_false] at hRs;clear HC;go_wp2
  all_goals go_ret
  all_goals exact⟨J4 (by simp[*]),j7⟩
 | true =>
  rw[Bool.and_true] at hRs;go_wp2_with fail;refine(HC.out _).mono ?_;rintro e wq ⟨rfl,rfl⟩;go_wp2
  all_goals go_ret
  all_goals exact⟨J4 (by simp[*]),j7⟩
theorem c8w (o a b:Int) (qn:Bool) (qa qd x:jW) (tr:Bool) (rs:jW) (rc rr:Int) (rf rg:Bool) (ts:jW) (tc tt:Int) (tf tg:Bool) (w:World) (hf:J8 ⟨3,o,a,b,qn,qa,qd,x,tr,⟨rs,rc,rr,rf,rg⟩,⟨ts,tc,tt,tf,tg⟩⟩) :
  Ca 34 #[.agg #[I6 3,I6 o,I6 a,I6 b,Bv qn,Sg qa,Sg qd,Sg x,Bv tr,Sg rs,I6 rc,I6 rr,Bv rf,Bv rg,Sg ts,I6 tc,I6 tt,Bv tf,Bv tg]] w (Bv (X9 ⟨3,o,a,b,qn,qa,qd,x,tr,⟨rs,rc,rr,rf,rg⟩,⟨ts,tc,tt,tf,tg⟩⟩)):=by
 unfold X9;obtain⟨h1,h2,h3,h4,h5⟩:=hf;dsimp only at *;have JY:=Qw;obtain⟨K19,hz19,HK19⟩:=Y9;have hb:X6 ⟨3,o,a,b,qn,qa,qd,x,tr,⟨rs,rc,rr,rf,rg⟩,⟨ts,tc,tt,tf,tg⟩⟩=⟨3,0,0,0,false,⟨#[]⟩,⟨#[]⟩,⟨#[]⟩,tr,Jj,Jj⟩:=rfl;have hE:∀ w,Sem.run Tryz.prog (binOp .eql 69 (.agg #[I6 3,I6 o,I6 a,I6 b,Bv qn,Sg qa,Sg qd,Sg x,Bv tr,Sg rs,I6 rc,I6 rr,Bv rf,Bv rg,Sg ts,I6 tc,I6 tt,Bv tf,Bv tg]) (.agg #[I6 3,I6 0,I6 0,I6 0,Bv false,S0,S0,S0,Bv tr,S0,I6 0,I6 0,Bv false,Bv false,S0,I6 0,I6 0,Bv false,Bv false])) w=.ok (Bv (XX ⟨3,o,a,b,qn,qa,qd,x,tr,⟨rs,rc,rr,rf,rg⟩,⟨ts,tc,tt,tf,tg⟩⟩ (X6 ⟨3,o,a,b,qn,qa,qd,x,tr,⟨rs,rc,rr,rf,rg⟩,⟨ts,tc,tt,tf,tg⟩⟩))) w:=fun w=>by rw[hb];exact a1b ⟨3,o,a,b,qn,qa,qd,x,tr,⟨rs,rc,rr,rf,rg⟩,⟨ts,tc,tt,tf,tg⟩⟩ ⟨3,0,0,0,false,⟨#[]⟩,⟨#[]⟩,⟨#[]⟩,tr,Jj,Jj⟩ w
 clear hb;generalize XX ⟨3,o,a,b,qn,qa,qd,x,tr,⟨rs,rc,rr,rf,rg⟩,⟨ts,tc,tt,tf,tg⟩⟩ (X6 ⟨3,o,a,b,qn,qa,qd,x,tr,⟨rs,rc,rr,rf,rg⟩,⟨ts,tc,tt,tf,tg⟩⟩)=z at *;rw[show a4i ⟨3,o,a,b,qn,qa,qd,x,tr,⟨rs,rc,rr,rf,rg⟩,⟨ts,tc,tt,tf,tg⟩⟩=true from rfl,Bool.true_and];clear h1 h2 h3 h4 h5;go_enter Tryz.func34,Tryz.ntmps34
 go_upto_region 1 with fail
 obtain⟨s10,A,j6,jz,j8,zA⟩:=qy w (.cells #[I6 3,I6 o,I6 a,I6 b,Bv qn,Sg qa,Sg qd,Sg x,Bv tr,Sg rs,I6 rc,I6 rr,Bv rf,Bv rg,Sg ts,I6 tc,I6 tt,Bv tf,Bv tg] 69);have yA:=qZ (b:=A) j6 jz;have j7:=qQ bR j6;rw[<-j6];try rw[<-jz]
 clear j6 j8 jz
 go_upto_region 2 with (refine a0c rfl _ _ rfl rfl _ _ _ rfl rfl rfl (by rfl) (by rfl) (by rfl) ?_)
 obtain⟨s11,X,j6,qw,j8,zX⟩:=qy s10 (.cells #[I6 3,I6 0,I6 0,I6 0,Bv false,S0,S0,S0,Bv false,S0,I6 0,I6 0,Bv false,Bv false,S0,I6 0,I6 0,Bv false,Bv false] 69);have j9:=JW j6;have dXA:X≠A:=by omega
 replace yA:=jv j9 yA zA;clear j9;have yX:=qZ (b:=X) j6 qw;have fX:=Qq (b:=X) j6 qw;have lX:w.heap.size<=X:=by have:=j7.size;omega
 replace j7:=qQ j7 j6;rw[<-j6];try rw[<-qw]
 clear j6 j8 qw
 go_upto_region 13 with fail
 obtain⟨s12,j6⟩:∃ s,s=(s11.setCell ⟨X,8,none⟩ (Bv tr)):=⟨_,rfl⟩;have qJ:Bl w s12:=by rw[j6];exact((j7).setCell lX _)
 have j8:=ss1 j6;replace yA:=Jv j6 (qz yA dXA);have hq:∀ {p v},(s11.setCell ⟨X,8,none⟩ (Bv tr)).cell? p=some v->s12.cell? p=some v:=fun h=>by rw[j6];exact h
 replace yX:∀ j,s12.cell? ⟨X,j,none⟩=([I6 3,I6 0,I6 0,I6 0,Bv false,S0,S0,S0,Bv tr,S0,I6 0,I6 0,Bv false,Bv false,S0,I6 0,I6 0,Bv false,Bv false]:List Value)[j]?:=Jv j6 (JX yX (jB rfl));clear hq;have J9:=@fz1 _ _ _ _  j6;clear J9;replace LA:=Qv HK19 yA;replace LX:=Qv HK19 yX;rw[<-j6];clear j7 j6 j8;have j7:=qJ;clear qJ;go_wp2
 all_goals go_ret
 all_goals exact⟨J4 (by simp[*]),j7⟩
theorem c8x (o a b:Int) (qn:Bool) (qa qd x:jW) (tr:Bool) (rs:jW) (rc rr:Int) (rf rg:Bool) (ts:jW) (tc tt:Int) (tf tg:Bool) (w:World) (hf:J8 ⟨4,o,a,b,qn,qa,qd,x,tr,⟨rs,rc,rr,rf,rg⟩,⟨ts,tc,tt,tf,tg⟩⟩) :
  Ca 34 #[.agg #[I6 4,I6 o,I6 a,I6 b,Bv qn,Sg qa,Sg qd,Sg x,Bv tr,Sg rs,I6 rc,I6 rr,Bv rf,Bv rg,Sg ts,I6 tc,I6 tt,Bv tf,Bv tg]] w (Bv (X9 ⟨4,o,a,b,qn,qa,qd,x,tr,⟨rs,rc,rr,rf,rg⟩,⟨ts,tc,tt,tf,tg⟩⟩)):=by
 obtain⟨Rs,hRs⟩:∃ Rs,Rs=X9 ⟨4,o,a,b,qn,qa,qd,x,tr,⟨rs,rc,rr,rf,rg⟩,⟨ts,tc,tt,tf,tg⟩⟩:=⟨_,rfl⟩;rw[<-hRs];unfold X9 at hRs;obtain⟨h1,h2,h3,h4,h5⟩:=hf;dsimp only at *;have JY:=Qw;obtain⟨K19,hz19,HK19⟩:=Y9;have hb:X6 ⟨4,o,a,b,qn,qa,qd,x,tr,⟨rs,rc,rr,rf,rg⟩,⟨ts,tc,tt,tf,tg⟩⟩=⟨4,o,0,0,false,⟨#[]⟩,⟨#[]⟩,⟨#[]⟩,false,Jj,Jj⟩:=rfl;have hE:∀ w,Sem.run Tryz.prog (binOp .eql 69 (.agg #[I6 4,I6 o,I6 a,I6 b,Bv qn,Sg qa,Sg qd,Sg x,Bv tr,Sg rs,I6 rc,I6 rr,Bv rf,Bv rg,Sg ts,I6 tc,I6 tt,Bv tf,Bv tg]) (.agg #[I6 4,I6 o,I6 0,I6 0,Bv false,S0,S0,S0,Bv false,S0,I6 0,I6 0,Bv false,Bv false,S0,I6 0,I6 0,Bv false,Bv false])) w=.ok (Bv (XX ⟨4,o,a,b,qn,qa,qd,x,tr,⟨rs,rc,rr,rf,rg⟩,⟨ts,tc,tt,tf,tg⟩⟩ (X6 ⟨4,o,a,b,qn,qa,qd,x,tr,⟨rs,rc,rr,rf,rg⟩,⟨ts,tc,tt,tf,tg⟩⟩))) w:=fun w=>by rw[hb];exact a1b ⟨4,o,a,b,qn,qa,qd,x,tr,⟨rs,rc,rr,rf,rg⟩,⟨ts,tc,tt,tf,tg⟩⟩ ⟨4,o,0,0,false,⟨#[]⟩,⟨#[]⟩,⟨#[]⟩,false,Jj,Jj⟩ w
 clear hb;generalize XX ⟨4,o,a,b,qn,qa,qd,x,tr,⟨rs,rc,rr,rf,rg⟩,⟨ts,tc,tt,tf,tg⟩⟩ (X6 ⟨4,o,a,b,qn,qa,qd,x,tr,⟨rs,rc,rr,rf,rg⟩,⟨ts,tc,tt,tf,tg⟩⟩)=z at *;rw[show a4i ⟨4,o,a,b,qn,qa,qd,x,tr,⟨rs,rc,rr,rf,rg⟩,⟨ts,tc,tt,tf,tg⟩⟩=(decide (1<=o)&&decide (o<=7)) from rfl] at hRs;clear h1 h2 h3 h4 h5;have HRs:=zh hRs;clear hRs;go_enter Tryz.func34,Tryz.ntmps34
 go_upto_region 1 with fail
 obtain⟨s13,A,j6,jz,j8,zA⟩:=qy w (.cells #[I6 4,I6 o,I6 a,I6 b,Bv qn,Sg qa,Sg qd,Sg x,Bv tr,Sg rs,I6 rc,I6 rr,Bv rf,Bv rg,Sg ts,I6 tc,I6 tt,Bv tf,Bv tg] 69);have yA:=qZ (b:=A) j6 jz;have j7:=qQ bR j6;rw[<-j6];try rw[<-jz]
 clear j6 j8 jz
 go_upto_region 2 with (refine a0c rfl _ _ rfl rfl _ _ _ rfl rfl rfl (by rfl) (by rfl) (by rfl) ?_)
 obtain⟨s14,X,j6,qw,j8,zX⟩:=qy s13 (.cells #[I6 4,I6 0,I6 0,I6 0,Bv false,S0,S0,S0,Bv false,S0,I6 0,I6 0,Bv false,Bv false,S0,I6 0,I6 0,Bv false,Bv false] 69);have j9:=JW j6;have dXA:X≠A:=by omega
 replace yA:=jv j9 yA zA;clear j9;have yX:=qZ (b:=X) j6 qw;have fX:=Qq (b:=X) j6 qw;have lX:w.heap.size<=X:=by have:=j7.size;omega
 replace j7:=qQ j7 j6;rw[<-j6];try rw[<-qw]
 clear j6 j8 qw
 go_upto_region 16 with fail
 obtain⟨s15,j6⟩:∃ s,s=(s14.setCell ⟨X,1,none⟩ (I6 o)):=⟨_,rfl⟩;have qJ:Bl w s15:=by rw[j6];exact((j7).setCell lX _)
 have j8:=ss1 j6;replace yA:=Jv j6 (qz yA dXA);have hq:∀ {p v},(s14.setCell ⟨X,1,none⟩ (I6 o)).cell? p=some v->s15.cell? p=some v:=fun h=>by rw[j6];exact h
 replace yX:∀ j,s15.cell? ⟨X,j,none⟩=([I6 4,I6 o,I6 0,I6 0,Bv false,S0,S0,S0,Bv false,S0,I6 0,I6 0,Bv false,Bv false,S0,I6 0,I6 0,Bv false,Bv false]:List Value)[j]?:=Jv j6 (JX yX (jB rfl));clear hq;have J9:=@fz1 _ _ _ _  j6;clear J9;replace LA:=Qv HK19 yA;replace LX:=Qv HK19 yX;rw[<-j6];clear j7 j6 j8;have j7:=qJ;clear qJ;have hRs:=HRs.out;clear HRs
 cases z with
 | false =>
  rw[Bool.and_false] at hRs;go_wp2
  all_goals go_ret
  all_goals exact⟨J4 (by simp[*]),j7⟩
 | true =>
  rw[Bool.and_true] at hRs;by_cases g1:1<=o
  ·
   by_cases g2:o<=7
   ·
    rw[jD g1,jD g2,Bool.and_self] at hRs;go_wp2
    all_goals go_ret
    all_goals exact⟨J4 (by simp[*]),j7⟩
   ·
    rw[jD g1,jE g2,Bool.true_and] at hRs;go_wp2
    all_goals go_ret
    all_goals exact⟨J4 (by simp[*]),j7⟩
  ·
   rw[jE g1,Bool.false_and] at hRs;go_wp2
   all_goals go_ret
   all_goals exact⟨J4 (by simp[*]),j7⟩
theorem c8y (o a b:Int) (qn:Bool) (qa qd x:jW) (tr:Bool) (rs:jW) (rc rr:Int) (rf rg:Bool) (ts:jW) (tc tt:Int) (tf tg:Bool) (w:World) (hf:J8 ⟨5,o,a,b,qn,qa,qd,x,tr,⟨rs,rc,rr,rf,rg⟩,⟨ts,tc,tt,tf,tg⟩⟩) :
  Ca 34 #[.agg #[I6 5,I6 o,I6 a,I6 b,Bv qn,Sg qa,Sg qd,Sg x,Bv tr,Sg rs,I6 rc,I6 rr,Bv rf,Bv rg,Sg ts,I6 tc,I6 tt,Bv tf,Bv tg]] w (Bv (X9 ⟨5,o,a,b,qn,qa,qd,x,tr,⟨rs,rc,rr,rf,rg⟩,⟨ts,tc,tt,tf,tg⟩⟩)):=by
 obtain⟨Rs,hRs⟩:∃ Rs,Rs=X9 ⟨5,o,a,b,qn,qa,qd,x,tr,⟨rs,rc,rr,rf,rg⟩,⟨ts,tc,tt,tf,tg⟩⟩:=⟨_,rfl⟩;rw[<-hRs];unfold X9 at hRs;obtain⟨h1,h2,h3,h4,h5⟩:=hf;dsimp only at *;have JY:=Qw;obtain⟨K19,hz19,HK19⟩:=Y9;have hb:X6 ⟨5,o,a,b,qn,qa,qd,x,tr,⟨rs,rc,rr,rf,rg⟩,⟨ts,tc,tt,tf,tg⟩⟩=⟨5,0,0,0,false,⟨#[]⟩,⟨#[]⟩,⟨#[]⟩,false,⟨rs,rc,rr,rf,rg⟩,Jj⟩:=rfl;have hE:∀ w,Sem.run Tryz.prog (binOp .eql 69 (.agg #[I6 5,I6 o,I6 a,I6 b,Bv qn,Sg qa,Sg qd,Sg x,Bv tr,Sg rs,I6 rc,I6 rr,Bv rf,Bv rg,Sg ts,I6 tc,I6 tt,Bv tf,Bv tg]) (.agg #[I6 5,I6 0,I6 0,I6 0,Bv false,S0,S0,S0,Bv false,Sg rs,I6 rc,I6 rr,Bv rf,Bv rg,S0,I6 0,I6 0,Bv false,Bv false])) w=.ok (Bv (XX ⟨5,o,a,b,qn,qa,qd,x,tr,⟨rs,rc,rr,rf,rg⟩,⟨ts,tc,tt,tf,tg⟩⟩ (X6 ⟨5,o,a,b,qn,qa,qd,x,tr,⟨rs,rc,rr,rf,rg⟩,⟨ts,tc,tt,tf,tg⟩⟩))) w:=fun w=>by rw[hb];exact a1b ⟨5,o,a,b,qn,qa,qd,x,tr,⟨rs,rc,rr,rf,rg⟩,⟨ts,tc,tt,tf,tg⟩⟩ ⟨5,0,0,0,false,⟨#[]⟩,⟨#[]⟩,⟨#[]⟩,false,⟨rs,rc,rr,rf,rg⟩,Jj⟩ w
 clear hb;generalize XX ⟨5,o,a,b,qn,qa,qd,x,tr,⟨rs,rc,rr,rf,rg⟩,⟨ts,tc,tt,tf,tg⟩⟩ (X6 ⟨5,o,a,b,qn,qa,qd,x,tr,⟨rs,rc,rr,rf,rg⟩,⟨ts,tc,tt,tf,tg⟩⟩)=z at *;rw[show a4i ⟨5,o,a,b,qn,qa,qd,x,tr,⟨rs,rc,rr,rf,rg⟩,⟨ts,tc,tt,tf,tg⟩⟩=a8g rs rc rr from rfl] at hRs;have hC:=fun w=>a6m ⟨rs,rc,rr,rf,rg⟩ (a8g rs rc rr) w (by show rs.size<=maxLen;unfold maxLen;omega) rfl
 generalize a8g rs rc rr=y at *;have HC:=zh hC;clear hC h1 h2 h3 h4 h5;have HRs:=zh hRs;clear hRs;go_enter Tryz.func34,Tryz.ntmps34
 go_upto_region 1 with fail
 obtain⟨s16,A,j6,jz,j8,zA⟩:=qy w (.cells #[I6 5,I6 o,I6 a,I6 b,Bv qn,Sg qa,Sg qd,Sg x,Bv tr,Sg rs,I6 rc,I6 rr,Bv rf,Bv rg,Sg ts,I6 tc,I6 tt,Bv tf,Bv tg] 69);have yA:=qZ (b:=A) j6 jz;have j7:=qQ bR j6;rw[<-j6];try rw[<-jz]
 clear j6 j8 jz
 go_upto_region 2 with (refine a0c rfl _ _ rfl rfl _ _ _ rfl rfl rfl (by rfl) (by rfl) (by rfl) ?_)
 obtain⟨s17,X,j6,qw,j8,zX⟩:=qy s16 (.cells #[I6 5,I6 0,I6 0,I6 0,Bv false,S0,S0,S0,Bv false,S0,I6 0,I6 0,Bv false,Bv false,S0,I6 0,I6 0,Bv false,Bv false] 69);have j9:=JW j6;have dXA:X≠A:=by omega
 replace yA:=jv j9 yA zA;clear j9;have yX:=qZ (b:=X) j6 qw;have fX:=Qq (b:=X) j6 qw;have lX:w.heap.size<=X:=by have:=j7.size;omega
 replace j7:=qQ j7 j6;rw[<-j6];try rw[<-qw]
 clear j6 j8 qw
 go_upto_region 19 with fail
 obtain⟨s18,j6⟩:∃ s,s=(((((s17.setCell ⟨X,9,none⟩ (Sg rs)).setCell ⟨X,10,none⟩ (I6 rc)).setCell ⟨X,11,none⟩ (I6 rr)).setCell ⟨X,12,none⟩ (Bv rf)).setCell ⟨X,13,none⟩ (Bv rg)):=⟨_,rfl⟩;have qJ:Bl w s18:=by rw[j6];exact(Q8 (j7) lX)
 have j8:=ss5 j6;replace yA:=Jv j6 (qz (qz (qz (qz (qz yA dXA) dXA) dXA) dXA) dXA);have hq:∀ {p v},(((((s17.setCell ⟨X,9,none⟩ (Sg rs)).setCell ⟨X,10,none⟩ (I6 rc)).setCell ⟨X,11,none⟩ (I6 rr)).setCell ⟨X,12,none⟩ (Bv rf)).setCell ⟨X,13,none⟩ (Bv rg)).cell? p=some v->s18.cell? p=some v:=fun h=>by rw[j6];exact h
 replace yX:∀ j,s18.cell? ⟨X,j,none⟩=([I6 5,I6 0,I6 0,I6 0,Bv false,S0,S0,S0,Bv false,Sg rs,I6 rc,I6 rr,Bv rf,Bv rg,S0,I6 0,I6 0,Bv false,Bv false]:List Value)[j]?:=Jv j6 (JX (JX (JX (JX (JX yX (jB rfl)) (jB rfl)) (jB rfl)) (jB rfl)) (jB rfl));clear hq;have J9:=@fz5 _ _ _ _ _ _ _ _ _ _ _ _  j6;clear J9;replace LA:=Qv HK19 yA;replace LX:=Qv HK19 yX;rw[<-j6];clear j7 j6 j8;have j7:=qJ;clear qJ;have hRs:=HRs.out;clear HRs
 cases z with
 | false =>
  rw[Bool.and_false] at hRs;clear HC;go_wp2
  all_goals go_ret
  all_goals exact⟨J4 (by simp[*]),j7⟩
 | true =>
  rw[Bool.and_true] at hRs;go_wp2_with fail;refine jy (HC.out _) fun s19 hb=>?_
  replace j7:=bT j7 hb;clear hb;go_wp2
  all_goals go_ret
  all_goals exact⟨J4 (by simp[*]),j7⟩
