import Derived.Test.YtibiacmbljgmhaaGreatDoorAst6
set_option maxHeartbeats 8000000
set_option maxRecDepth 100000
namespace Go.Proofs.YtibiacmbljgmhaaGreatDoor
open Go.RowKit Go.Shelf
set_option linter.all false
theorem b7i (r t:Rf) (w:World) (hr:r.sh.size<=maxLen) (ht:t.sh.size<=maxLen) :
  Ca 211 #[.agg #[Sg r.sh,I6 r.c,I6 r.r,Bv r.fc,Bv r.fr],.agg #[Sg t.sh,I6 t.c,I6 t.r,Bv t.fc,Bv t.fr]] w (Bv (arB r t)):=by
 have hR:=fun w=>a6l r (a8g r.sh r.c r.r) w hr rfl
 have hT:=fun w=>a6l t (a8g t.sh t.c t.r) w ht rfl
 obtain⟨rs,rc,rr,rf,rg⟩:=r;obtain⟨ts,tc,tt,tf,tg⟩:=t;dsimp only at *;have hn:=fun w=>b1e rc rr tc tt w
 have JY:=Qw;unfold arB;dsimp only;obtain⟨z,hz⟩:=nM (c6w rc rr tc tt);rw[<-hz]
 cases z with
 | false =>
  rw[Bool.false_and,Bool.false_and,Bool.false_and];by_cases h0:a8z rc rr tc tt=0
  ·
   have hv:b6k rc rr tc tt=a1e (min rc tc) (min rr tt) (max rc tc) (max rr tt):=if_pos h0;have h1 : ¬ (rc<=tc/\rr<=tt):=fun h1=>by rw[(a7h _ _ _ _).2 ⟨h0,h1⟩] at hz;cases hz
   rw[hv,h0] at hn;have HN:=zh hn;obtain⟨p,hp⟩:=nM (min rc tc);obtain⟨q,hq⟩:=nM (min rr tt);have hne:p≠rc\/q≠rr:=by omega
   rw[<-hp,<-hq] at HN;clear hn h1 h0 hv hp hq hz hR hT hr ht;by_cases hpa:p=rc
   ·
    subst hpa;have hqb:(q==rr)=false:=by simp;omega
    clear hne;go_enter Tryz.func211,Tryz.ntmps211;go_wp2_with fail;obtain⟨s1,A,B,E,j6,jz,J7,hdE,j8,zA,zB,zE⟩:=nm3 w (.cells #[Sg rs,I6 p,I6 rr,Bv rf,Bv rg] 67) (.cells #[Sg ts,I6 tc,I6 tt,Bv tf,Bv tg] 67) (.cells #[I6 p,I6 rr,I6 tc,I6 tt] 137);have yE:=qZ (b:=E) j6 (by simp[hdE]);have j7:=bs3 bR j6;rw[<-j6];try rw[<-hdE]
    try rw[<-J7]
    try rw[<-jz]
    clear j6 j8 jz J7 hdE;refine jy (HN.out _) fun s2 hb=>?_
    replace yE:=jv hb yE zE;replace zE:=jw hb zE;replace j7:=bT j7 hb;clear hb
    all_goals go_wp2
    all_goals first | go_ret | go_ret2
    all_goals exact⟨rfl,((j7).alloc (by first | exact j7.size | (have:=j7.size;simp;omega)) _)⟩
   ·
    have hpb:(p==rc)=false:=by simp;omega
    clear hne hpa;go_enter Tryz.func211,Tryz.ntmps211;go_wp2_with fail;obtain⟨s3,A,B,E,j6,jz,J7,hdE,j8,zA,zB,zE⟩:=nm3 w (.cells #[Sg rs,I6 rc,I6 rr,Bv rf,Bv rg] 67) (.cells #[Sg ts,I6 tc,I6 tt,Bv tf,Bv tg] 67) (.cells #[I6 rc,I6 rr,I6 tc,I6 tt] 137);have yE:=qZ (b:=E) j6 (by simp[hdE]);have j7:=bs3 bR j6;rw[<-j6];try rw[<-hdE]
    try rw[<-J7]
    try rw[<-jz]
    clear j6 j8 jz J7 hdE;refine jy (HN.out _) fun s4 hb=>?_
    replace yE:=jv hb yE zE;replace zE:=jw hb zE;replace j7:=bT j7 hb;clear hb
    all_goals go_wp2
    all_goals first | go_ret | go_ret2
    all_goals exact⟨rfl,((j7).alloc (by first | exact j7.size | (have:=j7.size;simp;omega)) _)⟩
  ·
   obtain⟨u1,u2,u3,u4,hv⟩:=b5d rc rr tc tt;rw[hv] at hn;have he:=b8m h0;generalize a8z rc rr tc tt=e at *;have HN:=zh hn;clear hn hv h0 hR hT hr ht hz;go_enter Tryz.func211,Tryz.ntmps211;go_wp2_with fail;obtain⟨s5,A,B,E,j6,jz,J7,hdE,j8,zA,zB,zE⟩:=nm3 w (.cells #[Sg rs,I6 rc,I6 rr,Bv rf,Bv rg] 67) (.cells #[Sg ts,I6 tc,I6 tt,Bv tf,Bv tg] 67) (.cells #[I6 rc,I6 rr,I6 tc,I6 tt] 137);have j7:=bs3 bR j6;rw[<-j6];try rw[<-hdE]
   try rw[<-J7]
   try rw[<-jz]
   clear j6 j8 jz J7 hdE;refine jy (HN.out _) fun s6 hb=>?_
   replace j7:=bT j7 hb;clear hb
   all_goals go_wp2
   all_goals first | go_ret | go_ret2
   all_goals exact⟨rfl,((j7).alloc (by first | exact j7.size | (have:=j7.size;simp;omega)) _)⟩
 | true =>
  obtain⟨h0,h1,h2⟩:=(a7h _ _ _ _).1 hz.symm;have hv:b6k rc rr tc tt=a1e (min rc tc) (min rr tt) (max rc tc) (max rr tt):=if_pos h0;rw[hv,h0,Int.min_eq_left h1,Int.min_eq_left h2,Int.max_eq_right h1,Int.max_eq_right h2] at hn;have HN:=zh hn;rw[Bool.true_and];clear hn h0 h1 h2 hv hz;generalize a8g rs rc rr=b1 at *;generalize a8g ts tc tt=b2 at *;have HR:=zh hR;have HT:=zh hT;clear hR hT hr ht
  cases b1 with
  | false =>
   rw[Bool.false_and,Bool.false_and];clear HT;go_enter Tryz.func211,Tryz.ntmps211;go_wp2_with fail;obtain⟨s7,A,B,E,j6,jz,J7,hdE,j8,zA,zB,zE⟩:=nm3 w (.cells #[Sg rs,I6 rc,I6 rr,Bv rf,Bv rg] 67) (.cells #[Sg ts,I6 tc,I6 tt,Bv tf,Bv tg] 67) (.cells #[I6 rc,I6 rr,I6 tc,I6 tt] 137);have yA:=by2 (b:=A) j6 jz;have yE:=qZ (b:=E) j6 (by simp[hdE]);have j7:=bs3 bR j6;rw[<-j6];try rw[<-hdE]
   try rw[<-J7]
   try rw[<-jz]
   clear j6 j8 jz J7 hdE;refine jy (HN.out _) fun s8 hb=>?_
   replace yA:=jv hb yA zA;replace zA:=jw hb zA;replace yE:=jv hb yE zE;replace zE:=jw hb zE;replace j7:=bT j7 hb;clear hb;go_wp2_with fail;obtain⟨s9,G,j6,hdG,j8,zG⟩:=qy s8 (.cells #[I6 rc,I6 rr,I6 tc,I6 tt] 137);have j9:=JW j6;clear j9;replace j7:=qQ j7 j6;rw[<-j6];try rw[<-hdG]
   clear j6 j8 hdG;refine jy (HR.out _) fun s10 hb=>?_
   replace j7:=bT j7 hb;clear hb
   all_goals go_wp2
   all_goals first | go_ret | go_ret2
   all_goals exact⟨rfl,j7⟩
  | true =>
   rw[Bool.true_and]
   cases b2 with
   | false =>
    rw[Bool.false_and];go_enter Tryz.func211,Tryz.ntmps211;go_wp2_with fail;obtain⟨s11,A,B,E,j6,jz,J7,hdE,j8,zA,zB,zE⟩:=nm3 w (.cells #[Sg rs,I6 rc,I6 rr,Bv rf,Bv rg] 67) (.cells #[Sg ts,I6 tc,I6 tt,Bv tf,Bv tg] 67) (.cells #[I6 rc,I6 rr,I6 tc,I6 tt] 137);have yA:=by2 (b:=A) j6 jz;have yB:=Y4 (b:=B) j6 (by simp[J7]);have yE:=qZ (b:=E) j6 (by simp[hdE]);have j7:=bs3 bR j6;rw[<-j6];try rw[<-hdE]
    try rw[<-J7]
    try rw[<-jz]
    clear j6 j8 jz J7 hdE;refine jy (HN.out _) fun s12 hb=>?_
    replace yA:=jv hb yA zA;replace zA:=jw hb zA;replace yB:=jv hb yB zB;replace zB:=jw hb zB;replace yE:=jv hb yE zE;replace zE:=jw hb zE;replace j7:=bT j7 hb;clear hb;go_wp2_with fail;obtain⟨s13,G,j6,hdG,j8,zG⟩:=qy s12 (.cells #[I6 rc,I6 rr,I6 tc,I6 tt] 137);have j9:=JW j6;replace yB:=jv j9 yB zB;replace zB:=jw j9 zB;clear j9;replace j7:=qQ j7 j6;rw[<-j6];try rw[<-hdG]
    clear j6 j8 hdG;refine jy (HR.out _) fun s14 hb=>?_
    replace yB:=jv hb yB zB;replace j7:=bT j7 hb;clear hb;go_wp2_with fail;refine jy (HT.out _) fun s15 hb=>?_
    replace j7:=bT j7 hb;clear hb
    all_goals go_wp2
    all_goals first | go_ret | go_ret2
    all_goals exact⟨rfl,j7⟩
   | true =>
    rw[Bool.true_and]
    have hse:decide (ts.size=0)=ts.toList.isEmpty:=by
     rw[jI,Bool.eq_iff_iff,decide_eq_true_eq,List.isEmpty_iff];constructor
     ·
      intro h;exact jT (by simpa using h)
     ·
      intro h;have:=congrArg List.length h;simpa using this
    have HSE:=zh hse;clear hse;go_enter Tryz.func211,Tryz.ntmps211;go_wp2_with fail;obtain⟨s16,A,B,E,j6,jz,J7,hdE,j8,zA,zB,zE⟩:=nm3 w (.cells #[Sg rs,I6 rc,I6 rr,Bv rf,Bv rg] 67) (.cells #[Sg ts,I6 tc,I6 tt,Bv tf,Bv tg] 67) (.cells #[I6 rc,I6 rr,I6 tc,I6 tt] 137);have yA:=by2 (b:=A) j6 jz;have yB:=Y4 (b:=B) j6 (by simp[J7]);have yE:=qZ (b:=E) j6 (by simp[hdE]);have j7:=bs3 bR j6;rw[<-j6];try rw[<-hdE]
    try rw[<-J7]
    try rw[<-jz]
    clear j6 j8 jz J7 hdE;refine jy (HN.out _) fun s17 hb=>?_
    replace yA:=jv hb yA zA;replace zA:=jw hb zA;replace yB:=jv hb yB zB;replace zB:=jw hb zB;replace yE:=jv hb yE zE;replace zE:=jw hb zE;replace j7:=bT j7 hb;clear hb;go_wp2_with fail;obtain⟨s18,G,j6,hdG,j8,zG⟩:=qy s17 (.cells #[I6 rc,I6 rr,I6 tc,I6 tt] 137);have j9:=JW j6;replace yB:=jv j9 yB zB;replace zB:=jw j9 zB;clear j9;replace j7:=qQ j7 j6;rw[<-j6];try rw[<-hdG]
    clear j6 j8 hdG;refine jy (HR.out _) fun s19 hb=>?_
    replace yB:=jv hb yB zB;replace zB:=jw hb zB;replace j7:=bT j7 hb;clear hb;go_wp2_with fail;refine jy (HT.out _) fun s20 hb=>?_
    replace yB:=jv hb yB zB;replace j7:=bT j7 hb;clear hb;go_wp2
    all_goals go_ret
    all_goals exact⟨J4 HSE.out.symm,j7⟩
set_option maxHeartbeats 16000000
theorem c0v {P:Program} {f:FuncId} {args:Array Value} {w:World} {r:Ending} (h:Calls P f args w fun e w'=>e=r/\w'=w):Calls P f args w fun e w'=>e=r/\w=w' :=
 h.mono fun _ _ ⟨he,hw⟩=>⟨he,hw.symm⟩
def J8 (n:Nd):Prop:=n.qa.size<=100/\n.qd.size<=100/\n.s.size<=500/\n.r.sh.size<=100/\n.t.sh.size<=100
theorem c3o (o a b:Int) (qn:Bool) (qa qd x:jW) (tr:Bool) (rs:jW) (rc rr:Int) (rf rg:Bool) (ts:jW) (tc tt:Int) (tf tg:Bool) (w:World) (hf:J8 ⟨1,o,a,b,qn,qa,qd,x,tr,⟨rs,rc,rr,rf,rg⟩,⟨ts,tc,tt,tf,tg⟩⟩) (hN:NamesAt w) :
  Ca 180 #[.agg #[I6 1,I6 o,I6 a,I6 b,Bv qn,Sg qa,Sg qd,Sg x,Bv tr,Sg rs,I6 rc,I6 rr,Bv rf,Bv rg,Sg ts,I6 tc,I6 tt,Bv tf,Bv tg]] w (Bv (a4i ⟨1,o,a,b,qn,qa,qd,x,tr,⟨rs,rc,rr,rf,rg⟩,⟨ts,tc,tt,tf,tg⟩⟩&&XX ⟨1,o,a,b,qn,qa,qd,x,tr,⟨rs,rc,rr,rf,rg⟩,⟨ts,tc,tt,tf,tg⟩⟩ (X6 ⟨1,o,a,b,qn,qa,qd,x,tr,⟨rs,rc,rr,rf,rg⟩,⟨ts,tc,tt,tf,tg⟩⟩))):=by
 obtain⟨h1,h2,h3,h4,h5⟩:=hf;dsimp only at *;have JY:=Qw;obtain⟨K19,hz19,HK19⟩:=Y9;have hb:X6 ⟨1,o,a,b,qn,qa,qd,x,tr,⟨rs,rc,rr,rf,rg⟩,⟨ts,tc,tt,tf,tg⟩⟩=⟨1,0,0,0,qn,qa,qd,⟨#[]⟩,false,Jj,Jj⟩:=rfl;have hE:∀ w,Sem.run Tryz.prog (binOp .eql 69 (.agg #[I6 1,I6 o,I6 a,I6 b,Bv qn,Sg qa,Sg qd,Sg x,Bv tr,Sg rs,I6 rc,I6 rr,Bv rf,Bv rg,Sg ts,I6 tc,I6 tt,Bv tf,Bv tg]) (.agg #[I6 1,I6 0,I6 0,I6 0,Bv qn,Sg qa,Sg qd,S0,Bv false,S0,I6 0,I6 0,Bv false,Bv false,S0,I6 0,I6 0,Bv false,Bv false])) w=.ok (Bv (XX ⟨1,o,a,b,qn,qa,qd,x,tr,⟨rs,rc,rr,rf,rg⟩,⟨ts,tc,tt,tf,tg⟩⟩ (X6 ⟨1,o,a,b,qn,qa,qd,x,tr,⟨rs,rc,rr,rf,rg⟩,⟨ts,tc,tt,tf,tg⟩⟩))) w:=fun w=>by rw[hb];exact a1b ⟨1,o,a,b,qn,qa,qd,x,tr,⟨rs,rc,rr,rf,rg⟩,⟨ts,tc,tt,tf,tg⟩⟩ ⟨1,0,0,0,qn,qa,qd,⟨#[]⟩,false,Jj,Jj⟩ w
 clear hb;generalize XX ⟨1,o,a,b,qn,qa,qd,x,tr,⟨rs,rc,rr,rf,rg⟩,⟨ts,tc,tt,tf,tg⟩⟩ (X6 ⟨1,o,a,b,qn,qa,qd,x,tr,⟨rs,rc,rr,rf,rg⟩,⟨ts,tc,tt,tf,tg⟩⟩)=z at *;have hu:a4i ⟨1,o,a,b,qn,qa,qd,x,tr,⟨rs,rc,rr,rf,rg⟩,⟨ts,tc,tt,tf,tg⟩⟩=amB qn qa qd:=rfl;rw[hu];have hC:=fun w=>b2g qn qa qd w (by omega) (by omega)
 generalize amB qn qa qd=y at *;have HC:=zh hC;clear hC hu h1 h2 h3 h4 h5 hN
 cases y with
 | false =>
  clear hE;go_enter Tryz.func180,Tryz.ntmps180;go_wp2_with fail;obtain⟨s1,A,j6,jz,j8,zA⟩:=qy w (.cells #[I6 1,I6 o,I6 a,I6 b,Bv qn,Sg qa,Sg qd,Sg x,Bv tr,Sg rs,I6 rc,I6 rr,Bv rf,Bv rg,Sg ts,I6 tc,I6 tt,Bv tf,Bv tg] 69);have j7:=qQ bR j6;rw[<-j6];try rw[<-jz]
  clear j6 j8 jz;refine jy (HC.out _) fun s2 hb=>?_
  replace j7:=bT j7 hb;clear hb
  all_goals go_wp2
  all_goals first | go_ret | go_ret2
  all_goals exact⟨rfl,j7⟩
 | true =>
  go_enter Tryz.func180,Tryz.ntmps180;go_wp2_with fail;obtain⟨s3,A,j6,jz,j8,zA⟩:=qy w (.cells #[I6 1,I6 o,I6 a,I6 b,Bv qn,Sg qa,Sg qd,Sg x,Bv tr,Sg rs,I6 rc,I6 rr,Bv rf,Bv rg,Sg ts,I6 tc,I6 tt,Bv tf,Bv tg] 69);have yA:=qZ (b:=A) j6 jz;have j7:=qQ bR j6;rw[<-j6];try rw[<-jz]
  clear j6 j8 jz;refine jy (HC.out _) fun s4 hb=>?_
  replace yA:=jv hb yA zA;replace j7:=bT j7 hb;clear hb;replace LA:=Qv HK19 yA
  all_goals go_wp2
  all_goals first | go_ret | go_ret2
  all_goals exact⟨rfl,j7⟩
theorem c3p (o a b:Int) (qn:Bool) (qa qd x:jW) (tr:Bool) (rs:jW) (rc rr:Int) (rf rg:Bool) (ts:jW) (tc tt:Int) (tf tg:Bool) (w:World) (hf:J8 ⟨2,o,a,b,qn,qa,qd,x,tr,⟨rs,rc,rr,rf,rg⟩,⟨ts,tc,tt,tf,tg⟩⟩) (hN:NamesAt w) :
  Ca 180 #[.agg #[I6 2,I6 o,I6 a,I6 b,Bv qn,Sg qa,Sg qd,Sg x,Bv tr,Sg rs,I6 rc,I6 rr,Bv rf,Bv rg,Sg ts,I6 tc,I6 tt,Bv tf,Bv tg]] w (Bv (a4i ⟨2,o,a,b,qn,qa,qd,x,tr,⟨rs,rc,rr,rf,rg⟩,⟨ts,tc,tt,tf,tg⟩⟩&&XX ⟨2,o,a,b,qn,qa,qd,x,tr,⟨rs,rc,rr,rf,rg⟩,⟨ts,tc,tt,tf,tg⟩⟩ (X6 ⟨2,o,a,b,qn,qa,qd,x,tr,⟨rs,rc,rr,rf,rg⟩,⟨ts,tc,tt,tf,tg⟩⟩))):=by
 obtain⟨h1,h2,h3,h4,h5⟩:=hf;dsimp only at *;have JY:=Qw;obtain⟨K19,hz19,HK19⟩:=Y9;have hb:X6 ⟨2,o,a,b,qn,qa,qd,x,tr,⟨rs,rc,rr,rf,rg⟩,⟨ts,tc,tt,tf,tg⟩⟩=⟨2,0,0,0,false,⟨#[]⟩,⟨#[]⟩,x,false,Jj,Jj⟩:=rfl;have hE:∀ w,Sem.run Tryz.prog (binOp .eql 69 (.agg #[I6 2,I6 o,I6 a,I6 b,Bv qn,Sg qa,Sg qd,Sg x,Bv tr,Sg rs,I6 rc,I6 rr,Bv rf,Bv rg,Sg ts,I6 tc,I6 tt,Bv tf,Bv tg]) (.agg #[I6 2,I6 0,I6 0,I6 0,Bv false,S0,S0,Sg x,Bv false,S0,I6 0,I6 0,Bv false,Bv false,S0,I6 0,I6 0,Bv false,Bv false])) w=.ok (Bv (XX ⟨2,o,a,b,qn,qa,qd,x,tr,⟨rs,rc,rr,rf,rg⟩,⟨ts,tc,tt,tf,tg⟩⟩ (X6 ⟨2,o,a,b,qn,qa,qd,x,tr,⟨rs,rc,rr,rf,rg⟩,⟨ts,tc,tt,tf,tg⟩⟩))) w:=fun w=>by rw[hb];exact a1b ⟨2,o,a,b,qn,qa,qd,x,tr,⟨rs,rc,rr,rf,rg⟩,⟨ts,tc,tt,tf,tg⟩⟩ ⟨2,0,0,0,false,⟨#[]⟩,⟨#[]⟩,x,false,Jj,Jj⟩ w
 clear hb;generalize XX ⟨2,o,a,b,qn,qa,qd,x,tr,⟨rs,rc,rr,rf,rg⟩,⟨ts,tc,tt,tf,tg⟩⟩ (X6 ⟨2,o,a,b,qn,qa,qd,x,tr,⟨rs,rc,rr,rf,rg⟩,⟨ts,tc,tt,tf,tg⟩⟩)=z at *;have hu:a4i ⟨2,o,a,b,qn,qa,qd,x,tr,⟨rs,rc,rr,rf,rg⟩,⟨ts,tc,tt,tf,tg⟩⟩=b7h x:=rfl;rw[hu];have hC:=fun w=>b4m x w (by unfold maxLen;omega)
 generalize b7h x=y at *;have HC:=zh hC;clear hC hu h1 h2 h3 h4 h5 hN
 cases y with
 | false =>
  clear hE;go_enter Tryz.func180,Tryz.ntmps180;go_wp2_with fail;obtain⟨s5,A,j6,jz,j8,zA⟩:=qy w (.cells #[I6 2,I6 o,I6 a,I6 b,Bv qn,Sg qa,Sg qd,Sg x,Bv tr,Sg rs,I6 rc,I6 rr,Bv rf,Bv rg,Sg ts,I6 tc,I6 tt,Bv tf,Bv tg] 69);have j7:=qQ bR j6;rw[<-j6];try rw[<-jz]
  clear j6 j8 jz;refine jy (HC.out _) fun s6 hb=>?_
  replace j7:=bT j7 hb;clear hb
  all_goals go_wp2
  all_goals first | go_ret | go_ret2
  all_goals exact⟨rfl,j7⟩
 | true =>
  go_enter Tryz.func180,Tryz.ntmps180;go_wp2_with fail;obtain⟨s7,A,j6,jz,j8,zA⟩:=qy w (.cells #[I6 2,I6 o,I6 a,I6 b,Bv qn,Sg qa,Sg qd,Sg x,Bv tr,Sg rs,I6 rc,I6 rr,Bv rf,Bv rg,Sg ts,I6 tc,I6 tt,Bv tf,Bv tg] 69);have yA:=qZ (b:=A) j6 jz;have j7:=qQ bR j6;rw[<-j6];try rw[<-jz]
  clear j6 j8 jz;refine jy (HC.out _) fun s8 hb=>?_
  replace yA:=jv hb yA zA;replace j7:=bT j7 hb;clear hb;replace LA:=Qv HK19 yA
  all_goals go_wp2
  all_goals first | go_ret | go_ret2
  all_goals exact⟨rfl,j7⟩
theorem c3q (o a b:Int) (qn:Bool) (qa qd x:jW) (tr:Bool) (rs:jW) (rc rr:Int) (rf rg:Bool) (ts:jW) (tc tt:Int) (tf tg:Bool) (w:World) (hf:J8 ⟨3,o,a,b,qn,qa,qd,x,tr,⟨rs,rc,rr,rf,rg⟩,⟨ts,tc,tt,tf,tg⟩⟩) (hN:NamesAt w) :
  Ca 180 #[.agg #[I6 3,I6 o,I6 a,I6 b,Bv qn,Sg qa,Sg qd,Sg x,Bv tr,Sg rs,I6 rc,I6 rr,Bv rf,Bv rg,Sg ts,I6 tc,I6 tt,Bv tf,Bv tg]] w (Bv (a4i ⟨3,o,a,b,qn,qa,qd,x,tr,⟨rs,rc,rr,rf,rg⟩,⟨ts,tc,tt,tf,tg⟩⟩&&XX ⟨3,o,a,b,qn,qa,qd,x,tr,⟨rs,rc,rr,rf,rg⟩,⟨ts,tc,tt,tf,tg⟩⟩ (X6 ⟨3,o,a,b,qn,qa,qd,x,tr,⟨rs,rc,rr,rf,rg⟩,⟨ts,tc,tt,tf,tg⟩⟩))):=by
 obtain⟨h1,h2,h3,h4,h5⟩:=hf;dsimp only at *;have JY:=Qw;obtain⟨K19,hz19,HK19⟩:=Y9;have hb:X6 ⟨3,o,a,b,qn,qa,qd,x,tr,⟨rs,rc,rr,rf,rg⟩,⟨ts,tc,tt,tf,tg⟩⟩=⟨3,0,0,0,false,⟨#[]⟩,⟨#[]⟩,⟨#[]⟩,tr,Jj,Jj⟩:=rfl;have hE:∀ w,Sem.run Tryz.prog (binOp .eql 69 (.agg #[I6 3,I6 o,I6 a,I6 b,Bv qn,Sg qa,Sg qd,Sg x,Bv tr,Sg rs,I6 rc,I6 rr,Bv rf,Bv rg,Sg ts,I6 tc,I6 tt,Bv tf,Bv tg]) (.agg #[I6 3,I6 0,I6 0,I6 0,Bv false,S0,S0,S0,Bv tr,S0,I6 0,I6 0,Bv false,Bv false,S0,I6 0,I6 0,Bv false,Bv false])) w=.ok (Bv (XX ⟨3,o,a,b,qn,qa,qd,x,tr,⟨rs,rc,rr,rf,rg⟩,⟨ts,tc,tt,tf,tg⟩⟩ (X6 ⟨3,o,a,b,qn,qa,qd,x,tr,⟨rs,rc,rr,rf,rg⟩,⟨ts,tc,tt,tf,tg⟩⟩))) w:=fun w=>by rw[hb];exact a1b ⟨3,o,a,b,qn,qa,qd,x,tr,⟨rs,rc,rr,rf,rg⟩,⟨ts,tc,tt,tf,tg⟩⟩ ⟨3,0,0,0,false,⟨#[]⟩,⟨#[]⟩,⟨#[]⟩,tr,Jj,Jj⟩ w
 clear hb;generalize XX ⟨3,o,a,b,qn,qa,qd,x,tr,⟨rs,rc,rr,rf,rg⟩,⟨ts,tc,tt,tf,tg⟩⟩ (X6 ⟨3,o,a,b,qn,qa,qd,x,tr,⟨rs,rc,rr,rf,rg⟩,⟨ts,tc,tt,tf,tg⟩⟩)=z at *;have hu:a4i ⟨3,o,a,b,qn,qa,qd,x,tr,⟨rs,rc,rr,rf,rg⟩,⟨ts,tc,tt,tf,tg⟩⟩=true:=rfl;rw[hu];clear hu h1 h2 h3 h4 h5 hN;go_enter Tryz.func180,Tryz.ntmps180
 go_upto_region 1 with fail
 obtain⟨s9,A,j6,jz,j8,zA⟩:=qy w (.cells #[I6 3,I6 o,I6 a,I6 b,Bv qn,Sg qa,Sg qd,Sg x,Bv tr,Sg rs,I6 rc,I6 rr,Bv rf,Bv rg,Sg ts,I6 tc,I6 tt,Bv tf,Bv tg] 69);have yA:=qZ (b:=A) j6 jz;have LA:=Qv HK19 yA;have j7:=qQ bR j6;rw[<-j6];try rw[<-jz]
 clear j6 j8 jz;go_wp2
 go_ret
 exact⟨J4 (by simp),j7⟩
theorem c3r (o a b:Int) (qn:Bool) (qa qd x:jW) (tr:Bool) (rs:jW) (rc rr:Int) (rf rg:Bool) (ts:jW) (tc tt:Int) (tf tg:Bool) (w:World) (hf:J8 ⟨4,o,a,b,qn,qa,qd,x,tr,⟨rs,rc,rr,rf,rg⟩,⟨ts,tc,tt,tf,tg⟩⟩) (hN:NamesAt w) :
  Ca 180 #[.agg #[I6 4,I6 o,I6 a,I6 b,Bv qn,Sg qa,Sg qd,Sg x,Bv tr,Sg rs,I6 rc,I6 rr,Bv rf,Bv rg,Sg ts,I6 tc,I6 tt,Bv tf,Bv tg]] w (Bv (a4i ⟨4,o,a,b,qn,qa,qd,x,tr,⟨rs,rc,rr,rf,rg⟩,⟨ts,tc,tt,tf,tg⟩⟩&&XX ⟨4,o,a,b,qn,qa,qd,x,tr,⟨rs,rc,rr,rf,rg⟩,⟨ts,tc,tt,tf,tg⟩⟩ (X6 ⟨4,o,a,b,qn,qa,qd,x,tr,⟨rs,rc,rr,rf,rg⟩,⟨ts,tc,tt,tf,tg⟩⟩))):=by
 obtain⟨h1,h2,h3,h4,h5⟩:=hf;dsimp only at *;have JY:=Qw;obtain⟨K19,hz19,HK19⟩:=Y9;have hb:X6 ⟨4,o,a,b,qn,qa,qd,x,tr,⟨rs,rc,rr,rf,rg⟩,⟨ts,tc,tt,tf,tg⟩⟩=⟨4,o,0,0,false,⟨#[]⟩,⟨#[]⟩,⟨#[]⟩,false,Jj,Jj⟩:=rfl;have hE:∀ w,Sem.run Tryz.prog (binOp .eql 69 (.agg #[I6 4,I6 o,I6 a,I6 b,Bv qn,Sg qa,Sg qd,Sg x,Bv tr,Sg rs,I6 rc,I6 rr,Bv rf,Bv rg,Sg ts,I6 tc,I6 tt,Bv tf,Bv tg]) (.agg #[I6 4,I6 o,I6 0,I6 0,Bv false,S0,S0,S0,Bv false,S0,I6 0,I6 0,Bv false,Bv false,S0,I6 0,I6 0,Bv false,Bv false])) w=.ok (Bv (XX ⟨4,o,a,b,qn,qa,qd,x,tr,⟨rs,rc,rr,rf,rg⟩,⟨ts,tc,tt,tf,tg⟩⟩ (X6 ⟨4,o,a,b,qn,qa,qd,x,tr,⟨rs,rc,rr,rf,rg⟩,⟨ts,tc,tt,tf,tg⟩⟩))) w:=fun w=>by rw[hb];exact a1b ⟨4,o,a,b,qn,qa,qd,x,tr,⟨rs,rc,rr,rf,rg⟩,⟨ts,tc,tt,tf,tg⟩⟩ ⟨4,o,0,0,false,⟨#[]⟩,⟨#[]⟩,⟨#[]⟩,false,Jj,Jj⟩ w
 clear hb;generalize XX ⟨4,o,a,b,qn,qa,qd,x,tr,⟨rs,rc,rr,rf,rg⟩,⟨ts,tc,tt,tf,tg⟩⟩ (X6 ⟨4,o,a,b,qn,qa,qd,x,tr,⟨rs,rc,rr,rf,rg⟩,⟨ts,tc,tt,tf,tg⟩⟩)=z at *;have hu:a4i ⟨4,o,a,b,qn,qa,qd,x,tr,⟨rs,rc,rr,rf,rg⟩,⟨ts,tc,tt,tf,tg⟩⟩=(decide (1<=o)&&decide (o<=7)):=rfl;rw[hu];have hC:=fun w hN=>c0v (c0u o w hN)
 have hnn:=c0t o;generalize (decide (1<=o)&&decide (o<=7))=y at *;generalize b0h o=u at *;have HC:=zh hC;have HNN:=zh hN;clear hC hu h1 h2 h3 h4 h5 hN
 cases y with
 | false =>
  have hn0:u.toList=[]:=by simpa using hnn
  clear hE hnn;go_enter Tryz.func180,Tryz.ntmps180;go_wp2_with fail;obtain⟨s10,A,j6,jz,j8,zA⟩:=qy w (.cells #[I6 4,I6 o,I6 a,I6 b,Bv qn,Sg qa,Sg qd,Sg x,Bv tr,Sg rs,I6 rc,I6 rr,Bv rf,Bv rg,Sg ts,I6 tc,I6 tt,Bv tf,Bv tg] 69);have j7:=qQ bR j6;rw[<-j6];try rw[<-jz]
  clear j6 j8 jz;refine(HC.out _ (HNN.out.below j7)).mono ?_;rintro e wq ⟨rfl,rfl⟩;go_wp2
  go_ret
  exact⟨J4 (by simp),j7⟩
 | true =>
  have hn0 : ¬ u.toList=[]:=by simpa using hnn
  go_enter Tryz.func180,Tryz.ntmps180;go_wp2_with fail;obtain⟨s11,A,j6,jz,j8,zA⟩:=qy w (.cells #[I6 4,I6 o,I6 a,I6 b,Bv qn,Sg qa,Sg qd,Sg x,Bv tr,Sg rs,I6 rc,I6 rr,Bv rf,Bv rg,Sg ts,I6 tc,I6 tt,Bv tf,Bv tg] 69);have yA:=qZ (b:=A) j6 jz;have LA:=Qv HK19 yA;have j7:=qQ bR j6;rw[<-j6];try rw[<-jz]
  clear j6 j8 jz;refine(HC.out _ (HNN.out.below j7)).mono ?_;rintro e wq ⟨rfl,rfl⟩;go_wp2
  go_ret
  exact⟨J4 (by simp),j7⟩
theorem c3s (o a b:Int) (qn:Bool) (qa qd x:jW) (tr:Bool) (rs:jW) (rc rr:Int) (rf rg:Bool) (ts:jW) (tc tt:Int) (tf tg:Bool) (w:World) (hf:J8 ⟨5,o,a,b,qn,qa,qd,x,tr,⟨rs,rc,rr,rf,rg⟩,⟨ts,tc,tt,tf,tg⟩⟩) (hN:NamesAt w) :
  Ca 180 #[.agg #[I6 5,I6 o,I6 a,I6 b,Bv qn,Sg qa,Sg qd,Sg x,Bv tr,Sg rs,I6 rc,I6 rr,Bv rf,Bv rg,Sg ts,I6 tc,I6 tt,Bv tf,Bv tg]] w (Bv (a4i ⟨5,o,a,b,qn,qa,qd,x,tr,⟨rs,rc,rr,rf,rg⟩,⟨ts,tc,tt,tf,tg⟩⟩&&XX ⟨5,o,a,b,qn,qa,qd,x,tr,⟨rs,rc,rr,rf,rg⟩,⟨ts,tc,tt,tf,tg⟩⟩ (X6 ⟨5,o,a,b,qn,qa,qd,x,tr,⟨rs,rc,rr,rf,rg⟩,⟨ts,tc,tt,tf,tg⟩⟩))):=by
 obtain⟨h1,h2,h3,h4,h5⟩:=hf;dsimp only at *;have JY:=Qw;obtain⟨K19,hz19,HK19⟩:=Y9;have hb:X6 ⟨5,o,a,b,qn,qa,qd,x,tr,⟨rs,rc,rr,rf,rg⟩,⟨ts,tc,tt,tf,tg⟩⟩=⟨5,0,0,0,false,⟨#[]⟩,⟨#[]⟩,⟨#[]⟩,false,⟨rs,rc,rr,rf,rg⟩,Jj⟩:=rfl;have hE:∀ w,Sem.run Tryz.prog (binOp .eql 69 (.agg #[I6 5,I6 o,I6 a,I6 b,Bv qn,Sg qa,Sg qd,Sg x,Bv tr,Sg rs,I6 rc,I6 rr,Bv rf,Bv rg,Sg ts,I6 tc,I6 tt,Bv tf,Bv tg]) (.agg #[I6 5,I6 0,I6 0,I6 0,Bv false,S0,S0,S0,Bv false,Sg rs,I6 rc,I6 rr,Bv rf,Bv rg,S0,I6 0,I6 0,Bv false,Bv false])) w=.ok (Bv (XX ⟨5,o,a,b,qn,qa,qd,x,tr,⟨rs,rc,rr,rf,rg⟩,⟨ts,tc,tt,tf,tg⟩⟩ (X6 ⟨5,o,a,b,qn,qa,qd,x,tr,⟨rs,rc,rr,rf,rg⟩,⟨ts,tc,tt,tf,tg⟩⟩))) w:=fun w=>by rw[hb];exact a1b ⟨5,o,a,b,qn,qa,qd,x,tr,⟨rs,rc,rr,rf,rg⟩,⟨ts,tc,tt,tf,tg⟩⟩ ⟨5,0,0,0,false,⟨#[]⟩,⟨#[]⟩,⟨#[]⟩,false,⟨rs,rc,rr,rf,rg⟩,Jj⟩ w
 clear hb;generalize XX ⟨5,o,a,b,qn,qa,qd,x,tr,⟨rs,rc,rr,rf,rg⟩,⟨ts,tc,tt,tf,tg⟩⟩ (X6 ⟨5,o,a,b,qn,qa,qd,x,tr,⟨rs,rc,rr,rf,rg⟩,⟨ts,tc,tt,tf,tg⟩⟩)=z at *;have hu:a4i ⟨5,o,a,b,qn,qa,qd,x,tr,⟨rs,rc,rr,rf,rg⟩,⟨ts,tc,tt,tf,tg⟩⟩=a8g rs rc rr:=rfl;rw[hu];have hC:=fun w=>a6l ⟨rs,rc,rr,rf,rg⟩ (a8g rs rc rr) w (by show rs.size<=maxLen;unfold maxLen;omega) rfl
 generalize a8g rs rc rr=y at *;have HC:=zh hC;clear hC hu h1 h2 h3 h4 h5 hN
 cases y with
 | false =>
  clear hE;go_enter Tryz.func180,Tryz.ntmps180;go_wp2_with fail;obtain⟨s12,A,j6,jz,j8,zA⟩:=qy w (.cells #[I6 5,I6 o,I6 a,I6 b,Bv qn,Sg qa,Sg qd,Sg x,Bv tr,Sg rs,I6 rc,I6 rr,Bv rf,Bv rg,Sg ts,I6 tc,I6 tt,Bv tf,Bv tg] 69);have j7:=qQ bR j6;rw[<-j6];try rw[<-jz]
  clear j6 j8 jz;refine jy (HC.out _) fun s13 hb=>?_
  replace j7:=bT j7 hb;clear hb
  all_goals go_wp2
  all_goals first | go_ret | go_ret2
  all_goals exact⟨rfl,j7⟩
 | true =>
  go_enter Tryz.func180,Tryz.ntmps180;go_wp2_with fail;obtain⟨s14,A,j6,jz,j8,zA⟩:=qy w (.cells #[I6 5,I6 o,I6 a,I6 b,Bv qn,Sg qa,Sg qd,Sg x,Bv tr,Sg rs,I6 rc,I6 rr,Bv rf,Bv rg,Sg ts,I6 tc,I6 tt,Bv tf,Bv tg] 69);have yA:=qZ (b:=A) j6 jz;have j7:=qQ bR j6;rw[<-j6];try rw[<-jz]
  clear j6 j8 jz;refine jy (HC.out _) fun s15 hb=>?_
  replace yA:=jv hb yA zA;replace j7:=bT j7 hb;clear hb;replace LA:=Qv HK19 yA
  all_goals go_wp2
  all_goals first | go_ret | go_ret2
  all_goals exact⟨rfl,j7⟩
theorem c3t (o a b:Int) (qn:Bool) (qa qd x:jW) (tr:Bool) (rs:jW) (rc rr:Int) (rf rg:Bool) (ts:jW) (tc tt:Int) (tf tg:Bool) (w:World) (hf:J8 ⟨6,o,a,b,qn,qa,qd,x,tr,⟨rs,rc,rr,rf,rg⟩,⟨ts,tc,tt,tf,tg⟩⟩) (hN:NamesAt w) :
  Ca 180 #[.agg #[I6 6,I6 o,I6 a,I6 b,Bv qn,Sg qa,Sg qd,Sg x,Bv tr,Sg rs,I6 rc,I6 rr,Bv rf,Bv rg,Sg ts,I6 tc,I6 tt,Bv tf,Bv tg]] w (Bv (a4i ⟨6,o,a,b,qn,qa,qd,x,tr,⟨rs,rc,rr,rf,rg⟩,⟨ts,tc,tt,tf,tg⟩⟩&&XX ⟨6,o,a,b,qn,qa,qd,x,tr,⟨rs,rc,rr,rf,rg⟩,⟨ts,tc,tt,tf,tg⟩⟩ (X6 ⟨6,o,a,b,qn,qa,qd,x,tr,⟨rs,rc,rr,rf,rg⟩,⟨ts,tc,tt,tf,tg⟩⟩))):=by
 obtain⟨h1,h2,h3,h4,h5⟩:=hf;dsimp only at *;have JY:=Qw;obtain⟨K19,hz19,HK19⟩:=Y9;have hb:X6 ⟨6,o,a,b,qn,qa,qd,x,tr,⟨rs,rc,rr,rf,rg⟩,⟨ts,tc,tt,tf,tg⟩⟩=⟨6,0,0,0,false,⟨#[]⟩,⟨#[]⟩,⟨#[]⟩,false,⟨rs,rc,rr,rf,rg⟩,⟨ts,tc,tt,tf,tg⟩⟩:=rfl;have hE:∀ w,Sem.run Tryz.prog (binOp .eql 69 (.agg #[I6 6,I6 o,I6 a,I6 b,Bv qn,Sg qa,Sg qd,Sg x,Bv tr,Sg rs,I6 rc,I6 rr,Bv rf,Bv rg,Sg ts,I6 tc,I6 tt,Bv tf,Bv tg]) (.agg #[I6 6,I6 0,I6 0,I6 0,Bv false,S0,S0,S0,Bv false,Sg rs,I6 rc,I6 rr,Bv rf,Bv rg,Sg ts,I6 tc,I6 tt,Bv tf,Bv tg])) w=.ok (Bv (XX ⟨6,o,a,b,qn,qa,qd,x,tr,⟨rs,rc,rr,rf,rg⟩,⟨ts,tc,tt,tf,tg⟩⟩ (X6 ⟨6,o,a,b,qn,qa,qd,x,tr,⟨rs,rc,rr,rf,rg⟩,⟨ts,tc,tt,tf,tg⟩⟩))) w:=fun w=>by rw[hb];exact a1b ⟨6,o,a,b,qn,qa,qd,x,tr,⟨rs,rc,rr,rf,rg⟩,⟨ts,tc,tt,tf,tg⟩⟩ ⟨6,0,0,0,false,⟨#[]⟩,⟨#[]⟩,⟨#[]⟩,false,⟨rs,rc,rr,rf,rg⟩,⟨ts,tc,tt,tf,tg⟩⟩ w
 clear hb;generalize XX ⟨6,o,a,b,qn,qa,qd,x,tr,⟨rs,rc,rr,rf,rg⟩,⟨ts,tc,tt,tf,tg⟩⟩ (X6 ⟨6,o,a,b,qn,qa,qd,x,tr,⟨rs,rc,rr,rf,rg⟩,⟨ts,tc,tt,tf,tg⟩⟩)=z at *;have hu:a4i ⟨6,o,a,b,qn,qa,qd,x,tr,⟨rs,rc,rr,rf,rg⟩,⟨ts,tc,tt,tf,tg⟩⟩=arB ⟨rs,rc,rr,rf,rg⟩ ⟨ts,tc,tt,tf,tg⟩:=rfl;rw[hu];have hC:=fun w=>b7i ⟨rs,rc,rr,rf,rg⟩ ⟨ts,tc,tt,tf,tg⟩ w (by show rs.size<=maxLen;unfold maxLen;omega) (by show ts.size<=maxLen;unfold maxLen;omega)
 generalize arB ⟨rs,rc,rr,rf,rg⟩ ⟨ts,tc,tt,tf,tg⟩=y at *;have HC:=zh hC;clear hC hu h1 h2 h3 h4 h5 hN
 cases y with
 | false =>
  clear hE;go_enter Tryz.func180,Tryz.ntmps180;go_wp2_with fail;obtain⟨s16,A,j6,jz,j8,zA⟩:=qy w (.cells #[I6 6,I6 o,I6 a,I6 b,Bv qn,Sg qa,Sg qd,Sg x,Bv tr,Sg rs,I6 rc,I6 rr,Bv rf,Bv rg,Sg ts,I6 tc,I6 tt,Bv tf,Bv tg] 69);have j7:=qQ bR j6;rw[<-j6];try rw[<-jz]
  clear j6 j8 jz;refine jy (HC.out _) fun s17 hb=>?_
  replace j7:=bT j7 hb;clear hb
  all_goals go_wp2
  all_goals first | go_ret | go_ret2
  all_goals exact⟨rfl,j7⟩
 | true =>
  go_enter Tryz.func180,Tryz.ntmps180;go_wp2_with fail;obtain⟨s18,A,j6,jz,j8,zA⟩:=qy w (.cells #[I6 6,I6 o,I6 a,I6 b,Bv qn,Sg qa,Sg qd,Sg x,Bv tr,Sg rs,I6 rc,I6 rr,Bv rf,Bv rg,Sg ts,I6 tc,I6 tt,Bv tf,Bv tg] 69);have yA:=qZ (b:=A) j6 jz;have j7:=qQ bR j6;rw[<-j6];try rw[<-jz]
  clear j6 j8 jz;refine jy (HC.out _) fun s19 hb=>?_
  replace yA:=jv hb yA zA;replace j7:=bT j7 hb;clear hb;replace LA:=Qv HK19 yA
  all_goals go_wp2
  all_goals first | go_ret | go_ret2
  all_goals exact⟨rfl,j7⟩
theorem c0w (k:Int) (o a b:Int) (qn:Bool) (qa qd x:jW) (tr:Bool) (rs:jW) (rc rr:Int) (rf rg:Bool) (ts:jW) (tc tt:Int) (tf tg:Bool) (w:World) (hk1:k≠1) (hk2:k≠2) (hk3:k≠3) (hk4:k≠4) (hk5:k≠5) (hk6:k≠6) :
  Ca 180 #[.agg #[I6 k,I6 o,I6 a,I6 b,Bv qn,Sg qa,Sg qd,Sg x,Bv tr,Sg rs,I6 rc,I6 rr,Bv rf,Bv rg,Sg ts,I6 tc,I6 tt,Bv tf,Bv tg]] w (Bv false):=by
 have JY:=Qw;have g1:(k==1)=false:=by simpa using hk1
 have g2:(k==2)=false:=by simpa using hk2
 have g3:(k==3)=false:=by simpa using hk3
 have g4:(k==4)=false:=by simpa using hk4
 have g5:(k==5)=false:=by simpa using hk5
 have g6:(k==6)=false:=by simpa using hk6
 clear hk1 hk2 hk3 hk4 hk5 hk6;go_enter Tryz.func180,Tryz.ntmps180
 go_wp2
 go_ret
 exact⟨rfl,(Below.refl _ _).alloc (jC _) _⟩
theorem a3p {n:Nd} (h:n.k<=6):a3b n=(a4i n&&XX n (X6 n)):=by unfold a3b;rw[jD h,Bool.true_and]
theorem b0i {n:Nd} (hk1:n.k≠1) (hk2:n.k≠2) (hk3:n.k≠3) (hk4:n.k≠4) (hk5:n.k≠5) (hk6:n.k≠6):a3b n=false:=by
 have hz:(decide (n.k<=6)&&a4i n)=false:=by
  unfold a4i;rw[if_neg hk1,if_neg hk2,if_neg hk3,if_neg hk4,if_neg hk5,if_neg hk6];by_cases h6:n.k<=6
  ·
   rw[if_neg (by omega),if_neg (by omega),if_neg (by omega)];simp
  ·
   rw[jE h6];rfl
 unfold a3b;rw[hz,Bool.false_and]
theorem a9i (n:Nd) (w:World) (hf:J8 n) (hN:NamesAt w) :
  Ca 180 #[Y2 n] w (Bv (a3b n)):=by
 obtain⟨k,o,a,b,qn,qa,qd,x,tr,⟨rs,rc,rr,rf,rg⟩,⟨ts,tc,tt,tf,tg⟩⟩:=n;by_cases hk1:k=1
 ·
  subst hk1;rw[a3p (by show (1:Int)<=6;omega)];exact c3o o a b qn qa qd x tr rs rc rr rf rg ts tc tt tf tg w hf hN
 by_cases hk2:k=2
 ·
  subst hk2;rw[a3p (by show (2:Int)<=6;omega)];exact c3p o a b qn qa qd x tr rs rc rr rf rg ts tc tt tf tg w hf hN
 by_cases hk3:k=3
 ·
  subst hk3;rw[a3p (by show (3:Int)<=6;omega)];exact c3q o a b qn qa qd x tr rs rc rr rf rg ts tc tt tf tg w hf hN
 by_cases hk4:k=4
 ·
  subst hk4;rw[a3p (by show (4:Int)<=6;omega)];exact c3r o a b qn qa qd x tr rs rc rr rf rg ts tc tt tf tg w hf hN
 by_cases hk5:k=5
 ·
  subst hk5;rw[a3p (by show (5:Int)<=6;omega)];exact c3s o a b qn qa qd x tr rs rc rr rf rg ts tc tt tf tg w hf hN
 by_cases hk6:k=6
 ·
  subst hk6;rw[a3p (by show (6:Int)<=6;omega)];exact c3t o a b qn qa qd x tr rs rc rr rf rg ts tc tt tf tg w hf hN
 rw[b0i hk1 hk2 hk3 hk4 hk5 hk6];exact c0w k o a b qn qa qd x tr rs rc rr rf rg ts tc tt tf tg w hk1 hk2 hk3 hk4 hk5 hk6
