import Derived.Test.YtibiacmbljgmhaaGreatDoorAst11
set_option maxHeartbeats 16000000
set_option maxRecDepth 100000
namespace Go.Proofs.YtibiacmbljgmhaaGreatDoor
open Go.RowKit Go.Shelf
set_option linter.all false
theorem c5g (r t:Rf) (w:World) :
  Ca 69 #[.agg #[Sg r.sh,I6 r.c,I6 r.r,Bv r.fc,Bv r.fr],.agg #[Sg t.sh,I6 t.c,I6 t.r,Bv t.fc,Bv t.fr]] w (a1e r.c r.r t.c t.r):=by
 have JY:=Qw;go_enter Tryz.func69,Tryz.ntmps69
 go_wp2
 refine jU (v:=a1e r.c r.r t.c t.r) (by simp[results,Tryz.results69,go_sem]) rfl ⟨rfl,?_⟩
 repeat (with_reducible first | exact Below.refl _ _ | apply X7 | refine c0x ?_ (by (try dsimp only);simp;try omega))
theorem b8s (a b:Int) (o:Int) (qn:Bool) (qa qd x:jW) (tr:Bool) (r t:Rf):X9 ⟨6,o,a,b,qn,qa,qd,x,tr,r,t⟩=(arB r t&&XX ⟨6,o,a,b,qn,qa,qd,x,tr,r,t⟩ (X6 ⟨6,o,a,b,qn,qa,qd,x,tr,r,t⟩)):=rfl
theorem b1p (s:jW):(s.size=0) ↔ s.toList=[]:=by
 rw[jI];constructor
 ·
  intro h;exact jT (by simpa using h)
 ·
  intro h;have:=congrArg List.length h;simpa using this
theorem c9c (o a b:Int) (qn:Bool) (qa qd x:jW) (tr:Bool) (rs:jW) (rc rr:Int) (rf rg:Bool) (ts:jW) (tc tt:Int) (tf tg:Bool) (w:World) (hf:J8 ⟨6,o,a,b,qn,qa,qd,x,tr,⟨rs,rc,rr,rf,rg⟩,⟨ts,tc,tt,tf,tg⟩⟩) :
  Ca 34 #[.agg #[I6 6,I6 o,I6 a,I6 b,Bv qn,Sg qa,Sg qd,Sg x,Bv tr,Sg rs,I6 rc,I6 rr,Bv rf,Bv rg,Sg ts,I6 tc,I6 tt,Bv tf,Bv tg]] w (Bv (X9 ⟨6,o,a,b,qn,qa,qd,x,tr,⟨rs,rc,rr,rf,rg⟩,⟨ts,tc,tt,tf,tg⟩⟩)):=by
 obtain⟨Rs,hRs⟩:∃ Rs,Rs=X9 ⟨6,o,a,b,qn,qa,qd,x,tr,⟨rs,rc,rr,rf,rg⟩,⟨ts,tc,tt,tf,tg⟩⟩:=⟨_,rfl⟩;rw[<-hRs];rw[b8s] at hRs;obtain⟨h1,h2,h3,h4,h5⟩:=hf;dsimp only at h1 h2 h3 h4 h5;have hb:X6 ⟨6,o,a,b,qn,qa,qd,x,tr,⟨rs,rc,rr,rf,rg⟩,⟨ts,tc,tt,tf,tg⟩⟩=⟨6,0,0,0,false,⟨#[]⟩,⟨#[]⟩,⟨#[]⟩,false,⟨rs,rc,rr,rf,rg⟩,⟨ts,tc,tt,tf,tg⟩⟩:=rfl;have hE:∀ w,Sem.run Tryz.prog (binOp .eql 69 (.agg #[I6 6,I6 o,I6 a,I6 b,Bv qn,Sg qa,Sg qd,Sg x,Bv tr,Sg rs,I6 rc,I6 rr,Bv rf,Bv rg,Sg ts,I6 tc,I6 tt,Bv tf,Bv tg]) (.agg #[I6 6,I6 0,I6 0,I6 0,Bv false,S0,S0,S0,Bv false,Sg rs,I6 rc,I6 rr,Bv rf,Bv rg,Sg ts,I6 tc,I6 tt,Bv tf,Bv tg])) w=.ok (Bv (XX ⟨6,o,a,b,qn,qa,qd,x,tr,⟨rs,rc,rr,rf,rg⟩,⟨ts,tc,tt,tf,tg⟩⟩ (X6 ⟨6,o,a,b,qn,qa,qd,x,tr,⟨rs,rc,rr,rf,rg⟩,⟨ts,tc,tt,tf,tg⟩⟩))) w:=fun w=>by rw[hb];exact a1b ⟨6,o,a,b,qn,qa,qd,x,tr,⟨rs,rc,rr,rf,rg⟩,⟨ts,tc,tt,tf,tg⟩⟩ ⟨6,0,0,0,false,⟨#[]⟩,⟨#[]⟩,⟨#[]⟩,false,⟨rs,rc,rr,rf,rg⟩,⟨ts,tc,tt,tf,tg⟩⟩ w
 clear hb;generalize XX ⟨6,o,a,b,qn,qa,qd,x,tr,⟨rs,rc,rr,rf,rg⟩,⟨ts,tc,tt,tf,tg⟩⟩ (X6 ⟨6,o,a,b,qn,qa,qd,x,tr,⟨rs,rc,rr,rf,rg⟩,⟨ts,tc,tt,tf,tg⟩⟩)=z at *;have hB:=fun w=>c5g ⟨rs,rc,rr,rf,rg⟩ ⟨ts,tc,tt,tf,tg⟩ w
 have hN:=fun w=>b3l rc rr tc tt w
 have hR:=fun w=>a6m ⟨rs,rc,rr,rf,rg⟩ (a8g rs rc rr) w (by show rs.size<=maxLen;unfold maxLen;omega) rfl
 have hT:=fun w=>a6m ⟨ts,tc,tt,tf,tg⟩ (a8g ts tc tt) w (by show ts.size<=maxLen;unfold maxLen;omega) rfl
 obtain⟨u1,u2,u3,u4,hv⟩:=b5d rc rr tc tt;have JY:=Qw;obtain⟨K19,hz19,HK19⟩:=Y9;have hV:=hv;rw[hv] at hN;have HB:=zh hB;have HN:=zh hN;have HR:=zh hR;have HT:=zh hT;have HRs:=zh hRs;have HV:=zh hV;obtain⟨e6,he6⟩:=nM (a8z rc rr tc tt);rw[<-he6] at HN;have HE6:=zh he6;clear hB hN hR hT hRs hv hV h1 h2 h3 h4 h5 he6;go_enter Tryz.func34,Tryz.ntmps34
 go_upto_region 1 with fail
 obtain⟨s1,A,j6,jz,j8,zA⟩:=qy w (.cells #[I6 6,I6 o,I6 a,I6 b,Bv qn,Sg qa,Sg qd,Sg x,Bv tr,Sg rs,I6 rc,I6 rr,Bv rf,Bv rg,Sg ts,I6 tc,I6 tt,Bv tf,Bv tg] 69);have yA:=qZ (b:=A) j6 jz;have LA:=Qv HK19 yA;have j7:=qQ bR j6;rw[<-j6];try rw[<-jz]
 clear j6 j8 jz
 go_upto_region 2 with (refine a0c rfl _ _ rfl rfl _ _ _ rfl rfl rfl (by rfl) (by rfl) (by rfl) ?_)
 obtain⟨s2,X,j6,qw,j8,zX⟩:=qy s1 (.cells #[I6 6,I6 0,I6 0,I6 0,Bv false,S0,S0,S0,Bv false,S0,I6 0,I6 0,Bv false,Bv false,S0,I6 0,I6 0,Bv false,Bv false] 69);have j9:=JW j6;have dXA:X≠A:=by omega
 replace yA:=jv j9 yA zA;replace zA:=jw j9 zA;clear j9;have yX:=qZ (b:=X) j6 qw;have fX:=Qq (b:=X) j6 qw;have lX:w.heap.size<=X:=by have:=j7.size;omega
 replace LA:=Qv HK19 yA;have LX:=Qv HK19 yX;replace j7:=qQ j7 j6;rw[<-j6];try rw[<-qw]
 clear j6 j8 qw
 go_upto_region 23 with fail
 obtain⟨s3,j6⟩:∃ s,s=((((((((((s2.setCell ⟨X,9,none⟩ (Sg rs)).setCell ⟨X,10,none⟩ (I6 rc)).setCell ⟨X,11,none⟩ (I6 rr)).setCell ⟨X,12,none⟩ (Bv rf)).setCell ⟨X,13,none⟩ (Bv rg)).setCell ⟨X,14,none⟩ (Sg ts)).setCell ⟨X,15,none⟩ (I6 tc)).setCell ⟨X,16,none⟩ (I6 tt)).setCell ⟨X,17,none⟩ (Bv tf)).setCell ⟨X,18,none⟩ (Bv tg)):=⟨_,rfl⟩;have qJ:Bl w s3:=by rw[j6];exact((sc2 (Q8 (sc2 (j7) lX) lX) lX).setCell lX _)
 have j8:=f4t j6;replace yA:=Jv j6 (qz (qz (qz (qz (qz (qz (qz (qz (qz (qz yA dXA) dXA) dXA) dXA) dXA) dXA) dXA) dXA) dXA) dXA);have hq:∀ {p v},((((((((((s2.setCell ⟨X,9,none⟩ (Sg rs)).setCell ⟨X,10,none⟩ (I6 rc)).setCell ⟨X,11,none⟩ (I6 rr)).setCell ⟨X,12,none⟩ (Bv rf)).setCell ⟨X,13,none⟩ (Bv rg)).setCell ⟨X,14,none⟩ (Sg ts)).setCell ⟨X,15,none⟩ (I6 tc)).setCell ⟨X,16,none⟩ (I6 tt)).setCell ⟨X,17,none⟩ (Bv tf)).setCell ⟨X,18,none⟩ (Bv tg)).cell? p=some v->s3.cell? p=some v:=fun h=>by rw[j6];exact h
 replace yX:∀ j,s3.cell? ⟨X,j,none⟩=([I6 6,I6 0,I6 0,I6 0,Bv false,S0,S0,S0,Bv false,Sg rs,I6 rc,I6 rr,Bv rf,Bv rg,Sg ts,I6 tc,I6 tt,Bv tf,Bv tg]:List Value)[j]?:=Jv j6 (JX (JX (JX (JX (JX (JX (JX (JX (JX (JX yX (jB rfl)) (jB rfl)) (jB rfl)) (jB rfl)) (jB rfl)) (jB rfl)) (jB rfl)) (jB rfl)) (jB rfl)) (jB rfl));clear hq;have J9:=@f4u _ _ _ _ _ _ _ _ _ _ _ _ _ _ _ _ _ _ _ _ _ _  j6;replace fX:=fun j=>J9 (fX j)
 clear J9;replace zA:=Xy j8 zA;replace zX:=Xy j8 zX;replace LA:=Qv HK19 yA;replace LX:=Qv HK19 yX;rw[<-j6];clear j7 j6 j8;have j7:=qJ;clear qJ;go_wp2_with fail;refine jy (HB.out _) fun s4 hb=>?_
 replace yA:=jv hb yA zA;replace zA:=jw hb zA;replace yX:=jv hb yX zX;replace fX:=qv hb fX zX;replace zX:=jw hb zX
 replace j7:=bT j7 hb;clear hb;replace LA:=Qv HK19 yA;replace LX:=Qv HK19 yX;go_wp2_with fail;refine jy (HN.out _) fun s5 hb=>?_
 replace yA:=jv hb yA zA;replace zA:=jw hb zA;replace yX:=jv hb yX zX;replace fX:=qv hb fX zX;replace zX:=jw hb zX
 replace j7:=bT j7 hb;clear hb;replace LA:=Qv HK19 yA;replace LX:=Qv HK19 yX
 go_upto_region 24 with fail
 obtain⟨s6,G,j6,hdG,j8,zG⟩:=qy s5 (.cells #[I6 u1,I6 u2,I6 u3,I6 u4] 108);have j9:=JW j6;have dXG:X≠G:=by omega
 replace yA:=jv j9 yA zA;replace zA:=jw j9 zA;replace yX:=jv j9 yX zX;replace fX:=qv j9 fX zX;replace zX:=jw j9 zX
 clear j9;have yG:=qZ (b:=G) j6 hdG;replace LA:=Qv HK19 yA;replace LX:=Qv HK19 yX;replace j7:=qQ j7 j6;rw[<-j6];try rw[<-hdG]
 clear j6 j8 hdG;have HF:=QX j7;clear j7;refine wrp (S:=fun w'=>(∀ j,w'.cell? ⟨A,j,none⟩=([I6 6,I6 o,I6 a,I6 b,Bv qn,Sg qa,Sg qd,Sg x,Bv tr,Sg rs,I6 rc,I6 rr,Bv rf,Bv rg,Sg ts,I6 tc,I6 tt,Bv tf,Bv tg]:List Value)[j]?)/\(∀ j,w'.cell? ⟨X,j,none⟩=([I6 6,I6 0,I6 0,I6 0,Bv false,S0,S0,S0,Bv false,Sg rs,I6 rc,I6 rr,Bv rf,Bv rg,Sg ts,I6 tc,I6 tt,Bv tf,Bv tg]:List Value)[j]?)/\(∀ j,w'.cell? ⟨G,j,none⟩=([I6 u1,I6 u2,I6 u3,I6 u4]:List Value)[j]?)/\Sem.run Tryz.prog (loadCellsFrom ⟨A,0,none⟩ 0 K19 #[]) w'=.ok #[I6 6,I6 o,I6 a,I6 b,Bv qn,Sg qa,Sg qd,Sg x,Bv tr,Sg rs,I6 rc,I6 rr,Bv rf,Bv rg,Sg ts,I6 tc,I6 tt,Bv tf,Bv tg] w'/\Sem.run Tryz.prog (loadCellsFrom ⟨X,0,none⟩ 0 K19 #[]) w'=.ok #[I6 6,I6 0,I6 0,I6 0,Bv false,S0,S0,S0,Bv false,Sg rs,I6 rc,I6 rr,Bv rf,Bv rg,Sg ts,I6 tc,I6 tt,Bv tf,Bv tg] w') (by kernel_rfl) (fun w' hx=>by obtain⟨jk,qK⟩:=a0k hx;((try dsimp only);((repeat' apply And.intro)<;>first | assumption | exact yG | exact fun j=>(jk G j (by assumption)).trans (yG j) | exact qz yG (by dsimp only;omega) | exact qz (fun j=>(jk G j (by assumption)).trans (yG j)) (by dsimp only;omega) | exact yA | exact eqL HK19 rfl (yA) | exact fun j=>(jk A j (by assumption)).trans (yA j) | exact eqL HK19 rfl (fun j=>(jk A j (by assumption)).trans (yA j)) | exact qz yA (by dsimp only;omega) | exact eqL HK19 rfl (qz yA (by dsimp only;omega)) | exact qz (fun j=>(jk A j (by assumption)).trans (yA j)) (by dsimp only;omega) | exact eqL HK19 rfl (qz (fun j=>(jk A j (by assumption)).trans (yA j)) (by dsimp only;omega)) | exact yX | exact eqL HK19 rfl (yX) | exact fun j=>(jk X j (by assumption)).trans (yX j) | exact eqL HK19 rfl (fun j=>(jk X j (by assumption)).trans (yX j)) | exact qz yX (by dsimp only;omega) | exact eqL HK19 rfl (qz yX (by dsimp only;omega)) | exact qz (fun j=>(jk X j (by assumption)).trans (yX j)) (by dsimp only;omega) | exact eqL HK19 rfl (qz (fun j=>(jk X j (by assumption)).trans (yX j)) (by dsimp only;omega)) | ((repeat (with_reducible first | apply a0b | apply a0x | refine a0e ?_ (by (try dsimp only);omega)))<;>first | assumption | (rw[jk _ _ (by assumption)];assumption))))) (fun Q6 jx=>?_)
 refine tk 0 ?_;refine tk 1 ?_;refine tk 2 ?_;refine tk 3 ?_
 cases z with
 | false =>
  refine Q5 4 ?_;refine Q5 5 ?_;refine Q5 6 ?_;refine tk 7 ?_;refine tk 8 ?_;refine Q5 9 ?_;refine Q5 10 ?_;refine Q5 11 ?_;refine tk 12 ?_;refine tk 13 ?_;refine Q5 14 ?_;refine Q5 15 ?_;refine Q5 16 ?_;refine Q5 17 ?_;refine tk 18 ?_;refine tk 19 ?_;refine Q5 20 ?_;refine Q5 21 ?_;refine tk 22 ?_;refine tk 23 ?_;refine Q5 24 ?_;refine Q5 25 ?_;refine Q5 26 ?_;refine Q5 27 ?_;refine Q5 28 ?_;refine Q5 29 ?_;refine Q5 30 ?_;refine tk 31 ?_;refine tk 32 ?_;refine wpAnyH_done (by kernel_rfl) ?_ _;have j7:=HF.out _ (Below.refl _ _);clear HF;go_wp2
  go_ret
  exact⟨J4 (HRs.out.trans (Bool.and_false _)).symm,Below.drew j7⟩
 | true =>
  have hRs:=HRs.out;rw[Bool.and_true] at hRs;unfold arB at hRs;dsimp only at hRs;have HR1:=zh hRs;clear hRs;refine tk 4 ?_;refine tk 5 ?_;refine Jq 6 (by kernel_rfl) rfl fun K hK=>?_
  go_simp
  (go_at_call 63;refine jy (HR.out _) fun x7 qk=>?_;obtain⟨qx,jk,qK⟩:=Q4 s6 qk)
  try (go_wp2_with fail)
  refine hK.out _ _ (X2 Q6) (fun jx=>?_);clear hK K;try simp only[pz]
  cases hr:a8g rs rc rr with
  | false =>
   have hRs:=HR1.out;rw[hr,Bool.and_false,Bool.false_and,Bool.false_and] at hRs;clear hr;refine tk 7 ?_;refine tk 8 ?_;refine Q5 9 ?_;refine Q5 10 ?_;refine Q5 11 ?_;refine tk 12 ?_;refine tk 13 ?_;refine Q5 14 ?_;refine Q5 15 ?_;refine Q5 16 ?_;refine Q5 17 ?_;refine tk 18 ?_;refine tk 19 ?_;refine Q5 20 ?_;refine Q5 21 ?_;refine tk 22 ?_;refine tk 23 ?_;refine Q5 24 ?_;refine Q5 25 ?_;refine Q5 26 ?_;refine Q5 27 ?_;refine Q5 28 ?_;refine Q5 29 ?_;refine Q5 30 ?_;refine tk 31 ?_;refine tk 32 ?_;refine wpAnyH_done (by kernel_rfl) ?_ _;go_wp2
   go_ret
   exact⟨J4 hRs.symm,HF.out _ (by assumption)⟩
  | true =>
   have hRs:=HR1.out;rw[hr] at hRs;have HR2:=zh hRs;clear hRs hr HR1;refine tk 7 ?_;refine tk 8 ?_;refine tk 9 ?_;refine tk 10 ?_;refine Jq 11 (by kernel_rfl) rfl fun K hK=>?_
   go_simp
   (go_at_call 63;refine jy (HT.out _) fun x7 qk=>?_;obtain⟨qx,jk,qK⟩:=Q4 s6 qk)
   try (go_wp2_with fail)
   refine hK.out _ _ (X2 Q6) (fun jx=>?_);clear hK K;try simp only[pz]
   cases ht:a8g ts tc tt with
   | false =>
    have hRs:=HR2.out;rw[ht,Bool.and_false,Bool.false_and] at hRs;clear ht;refine tk 12 ?_;refine tk 13 ?_;refine Q5 14 ?_;refine Q5 15 ?_;refine Q5 16 ?_;refine Q5 17 ?_;refine tk 18 ?_;refine tk 19 ?_;refine Q5 20 ?_;refine Q5 21 ?_;refine tk 22 ?_;refine tk 23 ?_;refine Q5 24 ?_;refine Q5 25 ?_;refine Q5 26 ?_;refine Q5 27 ?_;refine Q5 28 ?_;refine Q5 29 ?_;refine Q5 30 ?_;refine tk 31 ?_;refine tk 32 ?_;refine wpAnyH_done (by kernel_rfl) ?_ _;go_wp2
    go_ret
    exact⟨J4 hRs.symm,HF.out _ (by assumption)⟩
   | true =>
    have hRs:=HR2.out;rw[ht,Bool.and_true,Bool.and_true] at hRs;have HR3:=zh hRs;clear hRs ht HR2;by_cases hs1:ts.toList=[]
    rotate_left
    ·
     have hs2:ts.toList.isEmpty=false:=by simpa using hs1
     have hRs:=HR3.out;rw[jE (fun h=>hs1 ((b1p ts).1 h)),Bool.and_false] at hRs;refine tk 12 ?_;refine tk 13 ?_;refine tk 14 ?_;refine tk 15 ?_;refine tk 16 ?_;refine tk 17 ?_;refine tk 18 ?_;refine tk 19 ?_;refine Q5 20 ?_;refine Q5 21 ?_;refine tk 22 ?_;refine tk 23 ?_;refine Q5 24 ?_;refine Q5 25 ?_;refine Q5 26 ?_;refine Q5 27 ?_;refine Q5 28 ?_;refine Q5 29 ?_;refine Q5 30 ?_;refine tk 31 ?_;refine tk 32 ?_;refine wpAnyH_done (by kernel_rfl) ?_ _;go_wp2
     go_ret
     exact⟨J4 hRs.symm,HF.out _ (by assumption)⟩
    ·
     have hRs:=HR3.out;rw[jD ((b1p ts).2 hs1),Bool.and_true] at hRs;have HR4:=zh hRs;clear hRs HR3;by_cases h0:e6=0
     rotate_left
     ·
      have he:(e6==0)=false:=by simpa using h0
      have hRs:=HR4.out;rw[b8l fun h=>h0 (HE6.out.trans h.1)] at hRs
      clear h0;refine tk 12 ?_;refine tk 13 ?_;refine tk 14 ?_;refine tk 15 ?_;refine tk 16 ?_;refine tk 17 ?_;refine tk 18 ?_;refine tk 19 ?_;refine tk 20 ?_;refine tk 21 ?_;refine tk 22 ?_;refine tk 23 ?_;refine Q5 24 ?_;refine Q5 25 ?_;refine Q5 26 ?_;refine Q5 27 ?_;refine Q5 28 ?_;refine Q5 29 ?_;refine Q5 30 ?_;refine tk 31 ?_;refine tk 32 ?_;refine wpAnyH_done (by kernel_rfl) ?_ _;go_wp2
      go_ret
      exact⟨J4 hRs.symm,HF.out _ (by assumption)⟩
     ·
      subst h0;have hv2:=HV.out.symm.trans (if_pos HE6.out.symm);have HU:Hid (u1=min rc tc/\u2=min rr tt/\u3=max rc tc/\u4=max rr tt):=zh (by simpa using hv2);clear hv2;refine tk 12 ?_;refine tk 13 ?_;refine tk 14 ?_;refine tk 15 ?_;refine tk 16 ?_;refine tk 17 ?_;refine tk 18 ?_;refine tk 19 ?_;refine tk 20 ?_;refine tk 21 ?_;refine tk 22 ?_;refine tk 23 ?_;refine tk 24 ?_;refine tk 25 ?_;refine tk 26 ?_;refine tk 27 ?_;refine tk 28 ?_;refine Jq 29 (by kernel_rfl) rfl fun K hK=>?_
      go_simp
      (go_at_call 69;refine jy (HB.out _) fun x7 qk=>?_;obtain⟨qx,jk,qK⟩:=Q4 s6 qk)
      try (go_wp2_with fail)
      refine hK.out _ _ (X2 Q6) (fun jx=>?_);clear hK K;try simp only[pz]
      obtain⟨e1,e2,e3,e4⟩:=HU.out;by_cases hab:rc<=tc/\rr<=tt
      ·
       have hRs:=HR4.out;rw[(a7h _ _ _ _).2 ⟨HE6.out.symm,hab⟩] at hRs;obtain rfl:u1=rc:=by omega
       obtain rfl:u2=rr:=by omega
       obtain rfl:u3=tc:=by omega
       obtain rfl:u4=tt:=by omega
       clear e1 e2 e3 e4 hab;refine tk 30 ?_;refine tk 31 ?_;refine tk 32 ?_;refine wpAnyH_done (by kernel_rfl) ?_ _;go_wp2
       go_ret
       exact⟨J4 hRs.symm,HF.out _ (by assumption)⟩
      ·
       have hRs:=HR4.out;rw[b8l fun h=>hab h.2] at hRs
       by_cases hp:u1=rc
       ·
        have hq:(u2==rr)=false:=by simp;omega
        subst hp;clear e1 e2 e3 e4 hab;refine tk 30 ?_;refine tk 31 ?_;refine tk 32 ?_;refine wpAnyH_done (by kernel_rfl) ?_ _;go_wp2
        go_ret
        exact⟨J4 hRs.symm,HF.out _ (by assumption)⟩
       ·
        have hq:(u1==rc)=false:=by simpa using hp
        clear e1 e2 e3 e4 hab hp;refine tk 30 ?_;refine tk 31 ?_;refine tk 32 ?_;refine wpAnyH_done (by kernel_rfl) ?_ _;go_wp2
        go_ret
        exact⟨J4 hRs.symm,HF.out _ (by assumption)⟩
set_option maxHeartbeats 4000000
theorem c7h (k:Int) (o a b:Int) (qn:Bool) (qa qd x:jW) (tr:Bool) (rs:jW) (rc rr:Int) (rf rg:Bool) (ts:jW) (tc tt:Int) (tf tg:Bool) (w:World) (hk1:k≠1) (hk2:k≠2) (hk3:k≠3) (hk4:k≠4) (hk5:k≠5) (hk6:k≠6) (hk7:k≠7) (hk8:k≠8) (hk9:k≠9) :
  Ca 34 #[.agg #[I6 k,I6 o,I6 a,I6 b,Bv qn,Sg qa,Sg qd,Sg x,Bv tr,Sg rs,I6 rc,I6 rr,Bv rf,Bv rg,Sg ts,I6 tc,I6 tt,Bv tf,Bv tg]] w (Bv false):=by
 have JY:=Qw;obtain⟨K19,hz19,HK19⟩:=Y9;have g1:(k==1)=false:=by simpa using hk1
 have g2:(k==2)=false:=by simpa using hk2
 have g3:(k==3)=false:=by simpa using hk3
 have g4:(k==4)=false:=by simpa using hk4
 have g5:(k==5)=false:=by simpa using hk5
 have g6:(k==6)=false:=by simpa using hk6
 have g7:(k==7)=false:=by simpa using hk7
 have g8:(k==8)=false:=by simpa using hk8
 have g9:(k==9)=false:=by simpa using hk9
 clear hk1 hk2 hk3 hk4 hk5 hk6 hk7 hk8 hk9;go_enter Tryz.func34,Tryz.ntmps34
 go_upto_region 1 with fail
 obtain⟨s1,A,j6,jz,j8,zA⟩:=qy w (.cells #[I6 k,I6 o,I6 a,I6 b,Bv qn,Sg qa,Sg qd,Sg x,Bv tr,Sg rs,I6 rc,I6 rr,Bv rf,Bv rg,Sg ts,I6 tc,I6 tt,Bv tf,Bv tg] 69);have yA:=qZ (b:=A) j6 jz;have j7:=qQ bR j6;rw[<-j6];try rw[<-jz]
 clear j6 j8 jz
 go_upto_region 2 with (refine a0c rfl _ _ rfl rfl _ _ _ rfl rfl rfl (by rfl) (by rfl) (by rfl) ?_)
 obtain⟨s2,X,j6,qw,j8,zX⟩:=qy s1 (.cells #[I6 k,I6 0,I6 0,I6 0,Bv false,S0,S0,S0,Bv false,S0,I6 0,I6 0,Bv false,Bv false,S0,I6 0,I6 0,Bv false,Bv false] 69);have j9:=JW j6;replace yA:=jv j9 yA zA;clear j9;replace j7:=qQ j7 j6;rw[<-j6];try rw[<-qw]
 clear j6 j8 qw;go_wp2
 go_ret
 exact⟨rfl,j7⟩
theorem c5h (n:Nd) (hk1:n.k≠1) (hk2:n.k≠2) (hk3:n.k≠3) (hk4:n.k≠4) (hk5:n.k≠5) (hk6:n.k≠6) (hk7:n.k≠7) (hk8:n.k≠8) (hk9:n.k≠9):X9 n=false:=by
 rw[b1m hk7 hk8 hk9,b0i hk1 hk2 hk3 hk4 hk5 hk6]
theorem b8t (n:Nd) (w:World) (hf:J8 n) :
  Ca 34 #[Y2 n] w (Bv (X9 n)):=by
 obtain⟨k,o,a,b,qn,qa,qd,x,tr,⟨rs,rc,rr,rf,rg⟩,⟨ts,tc,tt,tf,tg⟩⟩:=n;by_cases hk1:k=1
 ·
  subst hk1;exact c8u o a b qn qa qd x tr rs rc rr rf rg ts tc tt tf tg w hf
 by_cases hk2:k=2
 ·
  subst hk2;exact c8v o a b qn qa qd x tr rs rc rr rf rg ts tc tt tf tg w hf
 by_cases hk3:k=3
 ·
  subst hk3;exact c8w o a b qn qa qd x tr rs rc rr rf rg ts tc tt tf tg w hf
 by_cases hk4:k=4
 ·
  subst hk4;exact c8x o a b qn qa qd x tr rs rc rr rf rg ts tc tt tf tg w hf
 by_cases hk5:k=5
 ·
  subst hk5;exact c8y o a b qn qa qd x tr rs rc rr rf rg ts tc tt tf tg w hf
 by_cases hk6:k=6
 ·
  subst hk6;exact c9c o a b qn qa qd x tr rs rc rr rf rg ts tc tt tf tg w hf
 by_cases hk7:k=7
 ·
  subst hk7;exact c8z o a b qn qa qd x tr rs rc rr rf rg ts tc tt tf tg w hf
 by_cases hk8:k=8
 ·
  subst hk8;exact c9a o a b qn qa qd x tr rs rc rr rf rg ts tc tt tf tg w hf
 by_cases hk9:k=9
 ·
  subst hk9;exact c9b o a b qn qa qd x tr rs rc rr rf rg ts tc tt tf tg w hf
 rw[c5h _ hk1 hk2 hk3 hk4 hk5 hk6 hk7 hk8 hk9];exact c7h k o a b qn qa qd x tr rs rc rr rf rg ts tc tt tf tg w hk1 hk2 hk3 hk4 hk5 hk6 hk7 hk8 hk9
