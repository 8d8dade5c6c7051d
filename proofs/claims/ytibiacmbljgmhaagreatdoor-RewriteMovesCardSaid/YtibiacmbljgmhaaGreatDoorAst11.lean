import Derived.Test.YtibiacmbljgmhaaGreatDoorAst10
set_option maxHeartbeats 16000000
set_option maxRecDepth 100000
namespace Go.Proofs.YtibiacmbljgmhaaGreatDoor
open Go.RowKit Go.Shelf
set_option linter.all false
theorem c8u (o a b:Int) (qn:Bool) (qa qd x:jW) (tr:Bool) (rs:jW) (rc rr:Int) (rf rg:Bool) (ts:jW) (tc tt:Int) (tf tg:Bool) (w:World) (hf:Fits ⟨1,o,a,b,qn,qa,qd,x,tr,⟨rs,rc,rr,rf,rg⟩,⟨ts,tc,tt,tf,tg⟩⟩) :
  Calls Tryz.prog 34 #[.agg #[I6 1,I6 o,I6 a,I6 b,Bv qn,Sg qa,Sg qd,Sg x,Bv tr,Sg rs,I6 rc,I6 rr,Bv rf,Bv rg,Sg ts,I6 tc,I6 tt,Bv tf,Bv tg]] w fun e w'=>e=.returned (Bv (a1x ⟨1,o,a,b,qn,qa,qd,x,tr,⟨rs,rc,rr,rf,rg⟩,⟨ts,tc,tt,tf,tg⟩⟩))/\Bl w w':=by
 obtain⟨Rs,hRs⟩:∃ Rs,Rs=a1x ⟨1,o,a,b,qn,qa,qd,x,tr,⟨rs,rc,rr,rf,rg⟩,⟨ts,tc,tt,tf,tg⟩⟩:=⟨_,rfl⟩;rw[<-hRs];unfold a1x at hRs;obtain⟨h1,h2,h3,h4,h5⟩:=hf;dsimp only at *;have hud:=hUd;obtain⟨K19,hz19,HK19⟩:=a0q;have hb:a0s ⟨1,o,a,b,qn,qa,qd,x,tr,⟨rs,rc,rr,rf,rg⟩,⟨ts,tc,tt,tf,tg⟩⟩=⟨1,0,0,0,qn,qa,qd,⟨#[]⟩,false,rf0,rf0⟩:=rfl;have hE:∀ w,Sem.run Tryz.prog (binOp .eql 69 (.agg #[I6 1,I6 o,I6 a,I6 b,Bv qn,Sg qa,Sg qd,Sg x,Bv tr,Sg rs,I6 rc,I6 rr,Bv rf,Bv rg,Sg ts,I6 tc,I6 tt,Bv tf,Bv tg]) (.agg #[I6 1,I6 0,I6 0,I6 0,Bv qn,Sg qa,Sg qd,S0,Bv false,S0,I6 0,I6 0,Bv false,Bv false,S0,I6 0,I6 0,Bv false,Bv false])) w=.ok (Bv (a2r ⟨1,o,a,b,qn,qa,qd,x,tr,⟨rs,rc,rr,rf,rg⟩,⟨ts,tc,tt,tf,tg⟩⟩ (a0s ⟨1,o,a,b,qn,qa,qd,x,tr,⟨rs,rc,rr,rf,rg⟩,⟨ts,tc,tt,tf,tg⟩⟩))) w:=fun w=>by rw[hb];exact a1b ⟨1,o,a,b,qn,qa,qd,x,tr,⟨rs,rc,rr,rf,rg⟩,⟨ts,tc,tt,tf,tg⟩⟩ ⟨1,0,0,0,qn,qa,qd,⟨#[]⟩,false,rf0,rf0⟩ w
 clear hb;generalize a2r ⟨1,o,a,b,qn,qa,qd,x,tr,⟨rs,rc,rr,rf,rg⟩,⟨ts,tc,tt,tf,tg⟩⟩ (a0s ⟨1,o,a,b,qn,qa,qd,x,tr,⟨rs,rc,rr,rf,rg⟩,⟨ts,tc,tt,tf,tg⟩⟩)=z at *;rw[show a4i ⟨1,o,a,b,qn,qa,qd,x,tr,⟨rs,rc,rr,rf,rg⟩,⟨ts,tc,tt,tf,tg⟩⟩=amB qn qa qd from rfl] at hRs;have hR:=fun w=>a7e qn qa qd w (by omega) (by omega)
 have hN:=fun w=>c0n qn qa qd w (by omega) (by omega)
 have hl:a0y qn qa qd=true->(wl qn qa qd).den=Nt.V qd:=fun h=>by unfold wl;rw[if_pos h]
 unfold amB at hRs;generalize a0y qn qa qd=y at *
 have he:(y && !qn&&b4j (Nt.V qd))=(y && !qn&&b4j (wl qn qa qd).den):=by
  cases y with
  | false=>rfl
  | true=>rw[hl rfl]
 rw[he] at hRs;generalize b4j (wl qn qa qd).den=u at *;have HC:=zh hR;have HN:=zh hN;clear hR hN hl he h1 h2 h3 h4 h5;have HRs:=zh hRs;clear hRs;go_enter Tryz.func34,Tryz.ntmps34
 go_upto_region 1 with fail
 obtain⟨s1,A,hws,hdA,hsz,zA⟩:=nm1 w (.cells #[I6 1,I6 o,I6 a,I6 b,Bv qn,Sg qa,Sg qd,Sg x,Bv tr,Sg rs,I6 rc,I6 rr,Bv rf,Bv rg,Sg ts,I6 tc,I6 tt,Bv tf,Bv tg] 69);have yA:=by0 (b:=A) hws hdA;have hBo:=bs1 bR hws;rw[<-hws];try rw[<-hdA]
 clear hws hsz hdA
 go_upto_region 2 with (refine a0c rfl _ _ rfl rfl _ _ _ rfl rfl rfl (by rfl) (by rfl) (by rfl) ?_)
 obtain⟨s2,X,hws,hdX,hsz,zX⟩:=nm1 s1 (.cells #[I6 1,I6 0,I6 0,I6 0,Bv false,S0,S0,S0,Bv false,S0,I6 0,I6 0,Bv false,Bv false,S0,I6 0,I6 0,Bv false,Bv false] 69);have hUp:=up1 hws;have dXA:X≠A:=by omega
 replace yA:=eqB hUp yA zA;replace zA:=zHl hUp zA;clear hUp;have yX:=by0 (b:=X) hws hdX;have fX:=bf0 (b:=X) hws hdX;have lX:w.heap.size<=X:=by have:=hBo.size;omega
 replace hBo:=bs1 hBo hws;rw[<-hws];try rw[<-hdX]
 clear hws hsz hdX
 go_upto_region 6 with fail
 obtain⟨s3,hws⟩:∃ s,s=(((s2.setCell ⟨X,4,none⟩ (Bv qn)).setCell ⟨X,5,none⟩ (Sg qa)).setCell ⟨X,6,none⟩ (Sg qd)):=⟨_,rfl⟩;have hBs:Bl w s3:=by rw[hws];exact(sc3 (hBo) lX)
 have hsz:=ss3 hws;replace yA:=eqE hws (eqS (eqS (eqS yA dXA) dXA) dXA);have hq:∀ {p v},(((s2.setCell ⟨X,4,none⟩ (Bv qn)).setCell ⟨X,5,none⟩ (Sg qa)).setCell ⟨X,6,none⟩ (Sg qd)).cell? p=some v->s3.cell? p=some v:=fun h=>by rw[hws];exact h
 replace yX:∀ j,s3.cell? ⟨X,j,none⟩=([I6 1,I6 0,I6 0,I6 0,Bv qn,Sg qa,Sg qd,S0,Bv false,S0,I6 0,I6 0,Bv false,Bv false,S0,I6 0,I6 0,Bv false,Bv false]:List Value)[j]?:=eqE hws (eqI (eqI (eqI yX (jB rfl)) (jB rfl)) (jB rfl));clear hq;have hQF:=@fz3 _ _ _ _ _ _ _ _  hws;clear hQF;replace zA:=szH hsz zA;replace zX:=szH hsz zX;replace LA:=eqM HK19 yA;replace LX:=eqM HK19 yX;rw[<-hws];clear hBo hws hsz;have hBo:=hBs;clear hBs;have hRs:=HRs.out;clear HRs
 cases z with
 | false =>
  rw[Bool.and_false] at hRs;go_wp2_with fail;refine(HN.out _).mono ?_;rintro e w2 ⟨⟨n,rfl⟩,hb⟩;replace yA:=eqB hb yA zA;replace yX:=eqB hb yX zX;replace hBo:=f4s hBo hb;clear hb;replace LA:=eqM HK19 yA;replace LX:=eqM HK19 yX;go_wp2_with fail
  all_goals go_ret
  all_goals exact⟨a0d (by simp[*]),hBo⟩
 | true =>
  rw[Bool.and_true] at hRs
  cases y with
  | false =>
   rw[Bool.false_and,Bool.false_and] at hRs;go_wp2_with fail;refine(HN.out _).mono ?_;rintro e w2 ⟨⟨n,rfl⟩,hb⟩;replace yA:=eqB hb yA zA;replace yX:=eqB hb yX zX;replace hBo:=f4s hBo hb;clear hb;replace LA:=eqM HK19 yA;replace LX:=eqM HK19 yX;go_wp2_with fail;refine cAn (HC.out _) fun s4 hb=>?_
   replace hBo:=bT hBo hb;clear hb;go_wp2_with fail
   all_goals go_ret
   all_goals exact⟨a0d (by simp[*]),hBo⟩
  | true =>
   rw[Bool.true_and] at hRs
   cases qn with
   | true =>
    rw[Bool.not_true,Bool.false_and] at hRs;go_wp2_with fail;refine(HN.out _).mono ?_;rintro e w2 ⟨⟨n,rfl⟩,hb⟩;replace yA:=eqB hb yA zA;replace zA:=zHl hb zA;replace yX:=eqB hb yX zX;replace hBo:=f4s hBo hb;clear hb;replace LA:=eqM HK19 yA;replace LX:=eqM HK19 yX;go_wp2_with fail;refine cAn (HC.out _) fun s5 hb=>?_
    replace yA:=eqB hb yA zA;replace hBo:=bT hBo hb;clear hb;go_wp2_with fail
    all_goals go_ret
    all_goals exact⟨a0d (by simp[*]),hBo⟩
   | false =>
    rw[Bool.not_false,Bool.true_and] at hRs;go_wp2_with fail;refine(HN.out _).mono ?_;rintro e w2 ⟨⟨n,rfl⟩,hb⟩;replace yA:=eqB hb yA zA;replace zA:=zHl hb zA;replace yX:=eqB hb yX zX;replace hBo:=f4s hBo hb;clear hb;replace LA:=eqM HK19 yA;replace LX:=eqM HK19 yX;go_wp2_with fail;refine cAn (HC.out _) fun s6 hb=>?_
    replace yA:=eqB hb yA zA;replace hBo:=bT hBo hb;clear hb;go_wp2_with fail
    all_goals go_ret
    all_goals exact⟨a0d (by simp[*]),hBo⟩
theorem c8v (o a b:Int) (qn:Bool) (qa qd x:jW) (tr:Bool) (rs:jW) (rc rr:Int) (rf rg:Bool) (ts:jW) (tc tt:Int) (tf tg:Bool) (w:World) (hf:Fits ⟨2,o,a,b,qn,qa,qd,x,tr,⟨rs,rc,rr,rf,rg⟩,⟨ts,tc,tt,tf,tg⟩⟩) :
  Calls Tryz.prog 34 #[.agg #[I6 2,I6 o,I6 a,I6 b,Bv qn,Sg qa,Sg qd,Sg x,Bv tr,Sg rs,I6 rc,I6 rr,Bv rf,Bv rg,Sg ts,I6 tc,I6 tt,Bv tf,Bv tg]] w fun e w'=>e=.returned (Bv (a1x ⟨2,o,a,b,qn,qa,qd,x,tr,⟨rs,rc,rr,rf,rg⟩,⟨ts,tc,tt,tf,tg⟩⟩))/\Bl w w':=by
 obtain⟨Rs,hRs⟩:∃ Rs,Rs=a1x ⟨2,o,a,b,qn,qa,qd,x,tr,⟨rs,rc,rr,rf,rg⟩,⟨ts,tc,tt,tf,tg⟩⟩:=⟨_,rfl⟩;rw[<-hRs];unfold a1x at hRs;obtain⟨h1,h2,h3,h4,h5⟩:=hf;dsimp only at *;have hud:=hUd;obtain⟨K19,hz19,HK19⟩:=a0q;have hb:a0s ⟨2,o,a,b,qn,qa,qd,x,tr,⟨rs,rc,rr,rf,rg⟩,⟨ts,tc,tt,tf,tg⟩⟩=⟨2,0,0,0,false,⟨#[]⟩,⟨#[]⟩,x,false,rf0,rf0⟩:=rfl;have hE:∀ w,Sem.run Tryz.prog (binOp .eql 69 (.agg #[I6 2,I6 o,I6 a,I6 b,Bv qn,Sg qa,Sg qd,Sg x,Bv tr,Sg rs,I6 rc,I6 rr,Bv rf,Bv rg,Sg ts,I6 tc,I6 tt,Bv tf,Bv tg]) (.agg #[I6 2,I6 0,I6 0,I6 0,Bv false,S0,S0,Sg x,Bv false,S0,I6 0,I6 0,Bv false,Bv false,S0,I6 0,I6 0,Bv false,Bv false])) w=.ok (Bv (a2r ⟨2,o,a,b,qn,qa,qd,x,tr,⟨rs,rc,rr,rf,rg⟩,⟨ts,tc,tt,tf,tg⟩⟩ (a0s ⟨2,o,a,b,qn,qa,qd,x,tr,⟨rs,rc,rr,rf,rg⟩,⟨ts,tc,tt,tf,tg⟩⟩))) w:=fun w=>by rw[hb];exact a1b ⟨2,o,a,b,qn,qa,qd,x,tr,⟨rs,rc,rr,rf,rg⟩,⟨ts,tc,tt,tf,tg⟩⟩ ⟨2,0,0,0,false,⟨#[]⟩,⟨#[]⟩,x,false,rf0,rf0⟩ w
 clear hb;generalize a2r ⟨2,o,a,b,qn,qa,qd,x,tr,⟨rs,rc,rr,rf,rg⟩,⟨ts,tc,tt,tf,tg⟩⟩ (a0s ⟨2,o,a,b,qn,qa,qd,x,tr,⟨rs,rc,rr,rf,rg⟩,⟨ts,tc,tt,tf,tg⟩⟩)=z at *;rw[show a4i ⟨2,o,a,b,qn,qa,qd,x,tr,⟨rs,rc,rr,rf,rg⟩,⟨ts,tc,tt,tf,tg⟩⟩=b7h x from rfl] at hRs;have hC:=fun w=>c0v (c0r x w (by unfold maxLen;omega))
 generalize b7h x=y at *;have HC:=zh hC;clear hC h1 h2 h3 h4 h5;have HRs:=zh hRs;clear hRs;go_enter Tryz.func34,Tryz.ntmps34
 go_upto_region 1 with fail
 obtain⟨s7,A,hws,hdA,hsz,zA⟩:=nm1 w (.cells #[I6 2,I6 o,I6 a,I6 b,Bv qn,Sg qa,Sg qd,Sg x,Bv tr,Sg rs,I6 rc,I6 rr,Bv rf,Bv rg,Sg ts,I6 tc,I6 tt,Bv tf,Bv tg] 69);have yA:=by0 (b:=A) hws hdA;have hBo:=bs1 bR hws;rw[<-hws];try rw[<-hdA]
 clear hws hsz hdA
 go_upto_region 2 with (refine a0c rfl _ _ rfl rfl _ _ _ rfl rfl rfl (by rfl) (by rfl) (by rfl) ?_)
 obtain⟨s8,X,hws,hdX,hsz,zX⟩:=nm1 s7 (.cells #[I6 2,I6 0,I6 0,I6 0,Bv false,S0,S0,S0,Bv false,S0,I6 0,I6 0,Bv false,Bv false,S0,I6 0,I6 0,Bv false,Bv false] 69);have hUp:=up1 hws;have dXA:X≠A:=by omega
 replace yA:=eqB hUp yA zA;clear hUp;have yX:=by0 (b:=X) hws hdX;have fX:=bf0 (b:=X) hws hdX;have lX:w.heap.size<=X:=by have:=hBo.size;omega
 replace hBo:=bs1 hBo hws;rw[<-hws];try rw[<-hdX]
 clear hws hsz hdX
 go_upto_region 10 with fail
 obtain⟨s9,hws⟩:∃ s,s=(s8.setCell ⟨X,7,none⟩ (Sg x)):=⟨_,rfl⟩;have hBs:Bl w s9:=by rw[hws];exact((hBo).setCell lX _)
 have hsz:=ss1 hws;replace yA:=eqE hws (eqS yA dXA);have hq:∀ {p v},(s8.setCell ⟨X,7,none⟩ (Sg x)).cell? p=some v->s9.cell? p=some v:=fun h=>by rw[hws];exact h
 replace yX:∀ j,s9.cell? ⟨X,j,none⟩=([I6 2,I6 0,I6 0,I6 0,Bv false,S0,S0,Sg x,Bv false,S0,I6 0,I6 0,Bv false,Bv false,S0,I6 0,I6 0,Bv false,Bv false]:List Value)[j]?:=eqE hws (eqI yX (jB rfl));clear hq;have hQF:=@fz1 _ _ _ _  hws;clear hQF;replace LA:=eqM HK19 yA;replace LX:=eqM HK19 yX;rw[<-hws];clear hBo hws hsz;have hBo:=hBs;clear hBs;have hRs:=HRs.out;clear HRs
 cases z with
 | false =>
  rw[Bool.and_false] at hRs;clear HC;go_wp2_with fail
  all_goals go_ret
  all_goals exact⟨a0d (by simp[*]),hBo⟩
 | true =>
  rw[Bool.and_true] at hRs;go_wp2_with fail;refine(HC.out _).mono ?_;rintro e wq ⟨rfl,rfl⟩;go_wp2_with fail
  all_goals go_ret
  all_goals exact⟨a0d (by simp[*]),hBo⟩
theorem c8w (o a b:Int) (qn:Bool) (qa qd x:jW) (tr:Bool) (rs:jW) (rc rr:Int) (rf rg:Bool) (ts:jW) (tc tt:Int) (tf tg:Bool) (w:World) (hf:Fits ⟨3,o,a,b,qn,qa,qd,x,tr,⟨rs,rc,rr,rf,rg⟩,⟨ts,tc,tt,tf,tg⟩⟩) :
  Calls Tryz.prog 34 #[.agg #[I6 3,I6 o,I6 a,I6 b,Bv qn,Sg qa,Sg qd,Sg x,Bv tr,Sg rs,I6 rc,I6 rr,Bv rf,Bv rg,Sg ts,I6 tc,I6 tt,Bv tf,Bv tg]] w fun e w'=>e=.returned (Bv (a1x ⟨3,o,a,b,qn,qa,qd,x,tr,⟨rs,rc,rr,rf,rg⟩,⟨ts,tc,tt,tf,tg⟩⟩))/\Bl w w':=by
 unfold a1x;obtain⟨h1,h2,h3,h4,h5⟩:=hf;dsimp only at *;have hud:=hUd;obtain⟨K19,hz19,HK19⟩:=a0q;have hb:a0s ⟨3,o,a,b,qn,qa,qd,x,tr,⟨rs,rc,rr,rf,rg⟩,⟨ts,tc,tt,tf,tg⟩⟩=⟨3,0,0,0,false,⟨#[]⟩,⟨#[]⟩,⟨#[]⟩,tr,rf0,rf0⟩:=rfl;have hE:∀ w,Sem.run Tryz.prog (binOp .eql 69 (.agg #[I6 3,I6 o,I6 a,I6 b,Bv qn,Sg qa,Sg qd,Sg x,Bv tr,Sg rs,I6 rc,I6 rr,Bv rf,Bv rg,Sg ts,I6 tc,I6 tt,Bv tf,Bv tg]) (.agg #[I6 3,I6 0,I6 0,I6 0,Bv false,S0,S0,S0,Bv tr,S0,I6 0,I6 0,Bv false,Bv false,S0,I6 0,I6 0,Bv false,Bv false])) w=.ok (Bv (a2r ⟨3,o,a,b,qn,qa,qd,x,tr,⟨rs,rc,rr,rf,rg⟩,⟨ts,tc,tt,tf,tg⟩⟩ (a0s ⟨3,o,a,b,qn,qa,qd,x,tr,⟨rs,rc,rr,rf,rg⟩,⟨ts,tc,tt,tf,tg⟩⟩))) w:=fun w=>by rw[hb];exact a1b ⟨3,o,a,b,qn,qa,qd,x,tr,⟨rs,rc,rr,rf,rg⟩,⟨ts,tc,tt,tf,tg⟩⟩ ⟨3,0,0,0,false,⟨#[]⟩,⟨#[]⟩,⟨#[]⟩,tr,rf0,rf0⟩ w
 clear hb;generalize a2r ⟨3,o,a,b,qn,qa,qd,x,tr,⟨rs,rc,rr,rf,rg⟩,⟨ts,tc,tt,tf,tg⟩⟩ (a0s ⟨3,o,a,b,qn,qa,qd,x,tr,⟨rs,rc,rr,rf,rg⟩,⟨ts,tc,tt,tf,tg⟩⟩)=z at *;rw[show a4i ⟨3,o,a,b,qn,qa,qd,x,tr,⟨rs,rc,rr,rf,rg⟩,⟨ts,tc,tt,tf,tg⟩⟩=true from rfl,Bool.true_and];clear h1 h2 h3 h4 h5;go_enter Tryz.func34,Tryz.ntmps34
 go_upto_region 1 with fail
 obtain⟨s10,A,hws,hdA,hsz,zA⟩:=nm1 w (.cells #[I6 3,I6 o,I6 a,I6 b,Bv qn,Sg qa,Sg qd,Sg x,Bv tr,Sg rs,I6 rc,I6 rr,Bv rf,Bv rg,Sg ts,I6 tc,I6 tt,Bv tf,Bv tg] 69);have yA:=by0 (b:=A) hws hdA;have hBo:=bs1 bR hws;rw[<-hws];try rw[<-hdA]
 clear hws hsz hdA
 go_upto_region 2 with (refine a0c rfl _ _ rfl rfl _ _ _ rfl rfl rfl (by rfl) (by rfl) (by rfl) ?_)
 obtain⟨s11,X,hws,hdX,hsz,zX⟩:=nm1 s10 (.cells #[I6 3,I6 0,I6 0,I6 0,Bv false,S0,S0,S0,Bv false,S0,I6 0,I6 0,Bv false,Bv false,S0,I6 0,I6 0,Bv false,Bv false] 69);have hUp:=up1 hws;have dXA:X≠A:=by omega
 replace yA:=eqB hUp yA zA;clear hUp;have yX:=by0 (b:=X) hws hdX;have fX:=bf0 (b:=X) hws hdX;have lX:w.heap.size<=X:=by have:=hBo.size;omega
 replace hBo:=bs1 hBo hws;rw[<-hws];try rw[<-hdX]
 clear hws hsz hdX
 go_upto_region 13 with fail
 obtain⟨s12,hws⟩:∃ s,s=(s11.setCell ⟨X,8,none⟩ (Bv tr)):=⟨_,rfl⟩;have hBs:Bl w s12:=by rw[hws];exact((hBo).setCell lX _)
 have hsz:=ss1 hws;replace yA:=eqE hws (eqS yA dXA);have hq:∀ {p v},(s11.setCell ⟨X,8,none⟩ (Bv tr)).cell? p=some v->s12.cell? p=some v:=fun h=>by rw[hws];exact h
 replace yX:∀ j,s12.cell? ⟨X,j,none⟩=([I6 3,I6 0,I6 0,I6 0,Bv false,S0,S0,S0,Bv tr,S0,I6 0,I6 0,Bv false,Bv false,S0,I6 0,I6 0,Bv false,Bv false]:List Value)[j]?:=eqE hws (eqI yX (jB rfl));clear hq;have hQF:=@fz1 _ _ _ _  hws;clear hQF;replace LA:=eqM HK19 yA;replace LX:=eqM HK19 yX;rw[<-hws];clear hBo hws hsz;have hBo:=hBs;clear hBs;go_wp2_with fail
 all_goals go_ret
 all_goals exact⟨a0d (by simp[*]),hBo⟩
theorem c8x (o a b:Int) (qn:Bool) (qa qd x:jW) (tr:Bool) (rs:jW) (rc rr:Int) (rf rg:Bool) (ts:jW) (tc tt:Int) (tf tg:Bool) (w:World) (hf:Fits ⟨4,o,a,b,qn,qa,qd,x,tr,⟨rs,rc,rr,rf,rg⟩,⟨ts,tc,tt,tf,tg⟩⟩) :
  Calls Tryz.prog 34 #[.agg #[I6 4,I6 o,I6 a,I6 b,Bv qn,Sg qa,Sg qd,Sg x,Bv tr,Sg rs,I6 rc,I6 rr,Bv rf,Bv rg,Sg ts,I6 tc,I6 tt,Bv tf,Bv tg]] w fun e w'=>e=.returned (Bv (a1x ⟨4,o,a,b,qn,qa,qd,x,tr,⟨rs,rc,rr,rf,rg⟩,⟨ts,tc,tt,tf,tg⟩⟩))/\Bl w w':=by
 obtain⟨Rs,hRs⟩:∃ Rs,Rs=a1x ⟨4,o,a,b,qn,qa,qd,x,tr,⟨rs,rc,rr,rf,rg⟩,⟨ts,tc,tt,tf,tg⟩⟩:=⟨_,rfl⟩;rw[<-hRs];unfold a1x at hRs;obtain⟨h1,h2,h3,h4,h5⟩:=hf;dsimp only at *;have hud:=hUd;obtain⟨K19,hz19,HK19⟩:=a0q;have hb:a0s ⟨4,o,a,b,qn,qa,qd,x,tr,⟨rs,rc,rr,rf,rg⟩,⟨ts,tc,tt,tf,tg⟩⟩=⟨4,o,0,0,false,⟨#[]⟩,⟨#[]⟩,⟨#[]⟩,false,rf0,rf0⟩:=rfl;have hE:∀ w,Sem.run Tryz.prog (binOp .eql 69 (.agg #[I6 4,I6 o,I6 a,I6 b,Bv qn,Sg qa,Sg qd,Sg x,Bv tr,Sg rs,I6 rc,I6 rr,Bv rf,Bv rg,Sg ts,I6 tc,I6 tt,Bv tf,Bv tg]) (.agg #[I6 4,I6 o,I6 0,I6 0,Bv false,S0,S0,S0,Bv false,S0,I6 0,I6 0,Bv false,Bv false,S0,I6 0,I6 0,Bv false,Bv false])) w=.ok (Bv (a2r ⟨4,o,a,b,qn,qa,qd,x,tr,⟨rs,rc,rr,rf,rg⟩,⟨ts,tc,tt,tf,tg⟩⟩ (a0s ⟨4,o,a,b,qn,qa,qd,x,tr,⟨rs,rc,rr,rf,rg⟩,⟨ts,tc,tt,tf,tg⟩⟩))) w:=fun w=>by rw[hb];exact a1b ⟨4,o,a,b,qn,qa,qd,x,tr,⟨rs,rc,rr,rf,rg⟩,⟨ts,tc,tt,tf,tg⟩⟩ ⟨4,o,0,0,false,⟨#[]⟩,⟨#[]⟩,⟨#[]⟩,false,rf0,rf0⟩ w
 clear hb;generalize a2r ⟨4,o,a,b,qn,qa,qd,x,tr,⟨rs,rc,rr,rf,rg⟩,⟨ts,tc,tt,tf,tg⟩⟩ (a0s ⟨4,o,a,b,qn,qa,qd,x,tr,⟨rs,rc,rr,rf,rg⟩,⟨ts,tc,tt,tf,tg⟩⟩)=z at *;rw[show a4i ⟨4,o,a,b,qn,qa,qd,x,tr,⟨rs,rc,rr,rf,rg⟩,⟨ts,tc,tt,tf,tg⟩⟩=(decide (1<=o)&&decide (o<=7)) from rfl] at hRs;clear h1 h2 h3 h4 h5;have HRs:=zh hRs;clear hRs;go_enter Tryz.func34,Tryz.ntmps34
 go_upto_region 1 with fail
 obtain⟨s13,A,hws,hdA,hsz,zA⟩:=nm1 w (.cells #[I6 4,I6 o,I6 a,I6 b,Bv qn,Sg qa,Sg qd,Sg x,Bv tr,Sg rs,I6 rc,I6 rr,Bv rf,Bv rg,Sg ts,I6 tc,I6 tt,Bv tf,Bv tg] 69);have yA:=by0 (b:=A) hws hdA;have hBo:=bs1 bR hws;rw[<-hws];try rw[<-hdA]
 clear hws hsz hdA
 go_upto_region 2 with (refine a0c rfl _ _ rfl rfl _ _ _ rfl rfl rfl (by rfl) (by rfl) (by rfl) ?_)
 obtain⟨s14,X,hws,hdX,hsz,zX⟩:=nm1 s13 (.cells #[I6 4,I6 0,I6 0,I6 0,Bv false,S0,S0,S0,Bv false,S0,I6 0,I6 0,Bv false,Bv false,S0,I6 0,I6 0,Bv false,Bv false] 69);have hUp:=up1 hws;have dXA:X≠A:=by omega
 replace yA:=eqB hUp yA zA;clear hUp;have yX:=by0 (b:=X) hws hdX;have fX:=bf0 (b:=X) hws hdX;have lX:w.heap.size<=X:=by have:=hBo.size;omega
 replace hBo:=bs1 hBo hws;rw[<-hws];try rw[<-hdX]
 clear hws hsz hdX
 go_upto_region 16 with fail
 obtain⟨s15,hws⟩:∃ s,s=(s14.setCell ⟨X,1,none⟩ (I6 o)):=⟨_,rfl⟩;have hBs:Bl w s15:=by rw[hws];exact((hBo).setCell lX _)
 have hsz:=ss1 hws;replace yA:=eqE hws (eqS yA dXA);have hq:∀ {p v},(s14.setCell ⟨X,1,none⟩ (I6 o)).cell? p=some v->s15.cell? p=some v:=fun h=>by rw[hws];exact h
 replace yX:∀ j,s15.cell? ⟨X,j,none⟩=([I6 4,I6 o,I6 0,I6 0,Bv false,S0,S0,S0,Bv false,S0,I6 0,I6 0,Bv false,Bv false,S0,I6 0,I6 0,Bv false,Bv false]:List Value)[j]?:=eqE hws (eqI yX (jB rfl));clear hq;have hQF:=@fz1 _ _ _ _  hws;clear hQF;replace LA:=eqM HK19 yA;replace LX:=eqM HK19 yX;rw[<-hws];clear hBo hws hsz;have hBo:=hBs;clear hBs;have hRs:=HRs.out;clear HRs
 cases z with
 | false =>
  rw[Bool.and_false] at hRs;go_wp2_with fail
  all_goals go_ret
  all_goals exact⟨a0d (by simp[*]),hBo⟩
 | true =>
  rw[Bool.and_true] at hRs;by_cases g1:1<=o
  ·
   by_cases g2:o<=7
   ·
    rw[jD g1,jD g2,Bool.and_self] at hRs;go_wp2_with fail
    all_goals go_ret
    all_goals exact⟨a0d (by simp[*]),hBo⟩
   ·
    rw[jD g1,jE g2,Bool.true_and] at hRs;go_wp2_with fail
    all_goals go_ret
    all_goals exact⟨a0d (by simp[*]),hBo⟩
  ·
   rw[jE g1,Bool.false_and] at hRs;go_wp2_with fail
   all_goals go_ret
   all_goals exact⟨a0d (by simp[*]),hBo⟩
theorem c8y (o a b:Int) (qn:Bool) (qa qd x:jW) (tr:Bool) (rs:jW) (rc rr:Int) (rf rg:Bool) (ts:jW) (tc tt:Int) (tf tg:Bool) (w:World) (hf:Fits ⟨5,o,a,b,qn,qa,qd,x,tr,⟨rs,rc,rr,rf,rg⟩,⟨ts,tc,tt,tf,tg⟩⟩) :
  Calls Tryz.prog 34 #[.agg #[I6 5,I6 o,I6 a,I6 b,Bv qn,Sg qa,Sg qd,Sg x,Bv tr,Sg rs,I6 rc,I6 rr,Bv rf,Bv rg,Sg ts,I6 tc,I6 tt,Bv tf,Bv tg]] w fun e w'=>e=.returned (Bv (a1x ⟨5,o,a,b,qn,qa,qd,x,tr,⟨rs,rc,rr,rf,rg⟩,⟨ts,tc,tt,tf,tg⟩⟩))/\Bl w w':=by
 obtain⟨Rs,hRs⟩:∃ Rs,Rs=a1x ⟨5,o,a,b,qn,qa,qd,x,tr,⟨rs,rc,rr,rf,rg⟩,⟨ts,tc,tt,tf,tg⟩⟩:=⟨_,rfl⟩;rw[<-hRs];unfold a1x at hRs;obtain⟨h1,h2,h3,h4,h5⟩:=hf;dsimp only at *;have hud:=hUd;obtain⟨K19,hz19,HK19⟩:=a0q;have hb:a0s ⟨5,o,a,b,qn,qa,qd,x,tr,⟨rs,rc,rr,rf,rg⟩,⟨ts,tc,tt,tf,tg⟩⟩=⟨5,0,0,0,false,⟨#[]⟩,⟨#[]⟩,⟨#[]⟩,false,⟨rs,rc,rr,rf,rg⟩,rf0⟩:=rfl;have hE:∀ w,Sem.run Tryz.prog (binOp .eql 69 (.agg #[I6 5,I6 o,I6 a,I6 b,Bv qn,Sg qa,Sg qd,Sg x,Bv tr,Sg rs,I6 rc,I6 rr,Bv rf,Bv rg,Sg ts,I6 tc,I6 tt,Bv tf,Bv tg]) (.agg #[I6 5,I6 0,I6 0,I6 0,Bv false,S0,S0,S0,Bv false,Sg rs,I6 rc,I6 rr,Bv rf,Bv rg,S0,I6 0,I6 0,Bv false,Bv false])) w=.ok (Bv (a2r ⟨5,o,a,b,qn,qa,qd,x,tr,⟨rs,rc,rr,rf,rg⟩,⟨ts,tc,tt,tf,tg⟩⟩ (a0s ⟨5,o,a,b,qn,qa,qd,x,tr,⟨rs,rc,rr,rf,rg⟩,⟨ts,tc,tt,tf,tg⟩⟩))) w:=fun w=>by rw[hb];exact a1b ⟨5,o,a,b,qn,qa,qd,x,tr,⟨rs,rc,rr,rf,rg⟩,⟨ts,tc,tt,tf,tg⟩⟩ ⟨5,0,0,0,false,⟨#[]⟩,⟨#[]⟩,⟨#[]⟩,false,⟨rs,rc,rr,rf,rg⟩,rf0⟩ w
 clear hb;generalize a2r ⟨5,o,a,b,qn,qa,qd,x,tr,⟨rs,rc,rr,rf,rg⟩,⟨ts,tc,tt,tf,tg⟩⟩ (a0s ⟨5,o,a,b,qn,qa,qd,x,tr,⟨rs,rc,rr,rf,rg⟩,⟨ts,tc,tt,tf,tg⟩⟩)=z at *;rw[show a4i ⟨5,o,a,b,qn,qa,qd,x,tr,⟨rs,rc,rr,rf,rg⟩,⟨ts,tc,tt,tf,tg⟩⟩=a8g rs rc rr from rfl] at hRs;have hC:=fun w=>a6m ⟨rs,rc,rr,rf,rg⟩ (a8g rs rc rr) w (by show rs.size<=maxLen;unfold maxLen;omega) rfl
 generalize a8g rs rc rr=y at *;have HC:=zh hC;clear hC h1 h2 h3 h4 h5;have HRs:=zh hRs;clear hRs;go_enter Tryz.func34,Tryz.ntmps34
 go_upto_region 1 with fail
 obtain⟨s16,A,hws,hdA,hsz,zA⟩:=nm1 w (.cells #[I6 5,I6 o,I6 a,I6 b,Bv qn,Sg qa,Sg qd,Sg x,Bv tr,Sg rs,I6 rc,I6 rr,Bv rf,Bv rg,Sg ts,I6 tc,I6 tt,Bv tf,Bv tg] 69);have yA:=by0 (b:=A) hws hdA;have hBo:=bs1 bR hws;rw[<-hws];try rw[<-hdA]
 clear hws hsz hdA
 go_upto_region 2 with (refine a0c rfl _ _ rfl rfl _ _ _ rfl rfl rfl (by rfl) (by rfl) (by rfl) ?_)
 obtain⟨s17,X,hws,hdX,hsz,zX⟩:=nm1 s16 (.cells #[I6 5,I6 0,I6 0,I6 0,Bv false,S0,S0,S0,Bv false,S0,I6 0,I6 0,Bv false,Bv false,S0,I6 0,I6 0,Bv false,Bv false] 69);have hUp:=up1 hws;have dXA:X≠A:=by omega
 replace yA:=eqB hUp yA zA;clear hUp;have yX:=by0 (b:=X) hws hdX;have fX:=bf0 (b:=X) hws hdX;have lX:w.heap.size<=X:=by have:=hBo.size;omega
 replace hBo:=bs1 hBo hws;rw[<-hws];try rw[<-hdX]
 clear hws hsz hdX
 go_upto_region 19 with fail
 obtain⟨s18,hws⟩:∃ s,s=(((((s17.setCell ⟨X,9,none⟩ (Sg rs)).setCell ⟨X,10,none⟩ (I6 rc)).setCell ⟨X,11,none⟩ (I6 rr)).setCell ⟨X,12,none⟩ (Bv rf)).setCell ⟨X,13,none⟩ (Bv rg)):=⟨_,rfl⟩;have hBs:Bl w s18:=by rw[hws];exact(sc5 (hBo) lX)
 have hsz:=ss5 hws;replace yA:=eqE hws (eqS (eqS (eqS (eqS (eqS yA dXA) dXA) dXA) dXA) dXA);have hq:∀ {p v},(((((s17.setCell ⟨X,9,none⟩ (Sg rs)).setCell ⟨X,10,none⟩ (I6 rc)).setCell ⟨X,11,none⟩ (I6 rr)).setCell ⟨X,12,none⟩ (Bv rf)).setCell ⟨X,13,none⟩ (Bv rg)).cell? p=some v->s18.cell? p=some v:=fun h=>by rw[hws];exact h
 replace yX:∀ j,s18.cell? ⟨X,j,none⟩=([I6 5,I6 0,I6 0,I6 0,Bv false,S0,S0,S0,Bv false,Sg rs,I6 rc,I6 rr,Bv rf,Bv rg,S0,I6 0,I6 0,Bv false,Bv false]:List Value)[j]?:=eqE hws (eqI (eqI (eqI (eqI (eqI yX (jB rfl)) (jB rfl)) (jB rfl)) (jB rfl)) (jB rfl));clear hq;have hQF:=@fz5 _ _ _ _ _ _ _ _ _ _ _ _  hws;clear hQF;replace LA:=eqM HK19 yA;replace LX:=eqM HK19 yX;rw[<-hws];clear hBo hws hsz;have hBo:=hBs;clear hBs;have hRs:=HRs.out;clear HRs
 cases z with
 | false =>
  rw[Bool.and_false] at hRs;clear HC;go_wp2_with fail
  all_goals go_ret
  all_goals exact⟨a0d (by simp[*]),hBo⟩
 | true =>
  rw[Bool.and_true] at hRs;go_wp2_with fail;refine cAn (HC.out _) fun s19 hb=>?_
  replace hBo:=bT hBo hb;clear hb;go_wp2_with fail
  all_goals go_ret
  all_goals exact⟨a0d (by simp[*]),hBo⟩
end Go.Proofs.YtibiacmbljgmhaaGreatDoor
