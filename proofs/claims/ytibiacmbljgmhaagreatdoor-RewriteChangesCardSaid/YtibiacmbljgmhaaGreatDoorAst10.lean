import Derived.Test.YtibiacmbljgmhaaGreatDoorAst8
set_option maxHeartbeats 16000000
set_option maxRecDepth 100000
namespace Go.Proofs.YtibiacmbljgmhaaGreatDoor
open Go.RowKit Go.Shelf
set_option linter.all false
theorem c5d (o a b:Int) (qn:Bool) (qa qd x:jW) (tr:Bool) (rs:jW) (rc rr:Int) (rf rg:Bool) (ts:jW) (tc tt:Int) (tf tg:Bool) (w:World) (hf:J8 ⟨7,o,a,b,qn,qa,qd,x,tr,⟨rs,rc,rr,rf,rg⟩,⟨ts,tc,tt,tf,tg⟩⟩) :
  Ca 136 #[.agg #[I6 7,I6 o,I6 a,I6 b,Bv qn,Sg qa,Sg qd,Sg x,Bv tr,Sg rs,I6 rc,I6 rr,Bv rf,Bv rg,Sg ts,I6 tc,I6 tt,Bv tf,Bv tg]] w (Bv (X9 ⟨7,o,a,b,qn,qa,qd,x,tr,⟨rs,rc,rr,rf,rg⟩,⟨ts,tc,tt,tf,tg⟩⟩)):=by
 unfold X9;obtain⟨h1,h2,h3,h4,h5⟩:=hf;dsimp only at *;have JY:=Qw;obtain⟨K19,hz19,HK19⟩:=Y9;have hb:X6 ⟨7,o,a,b,qn,qa,qd,x,tr,⟨rs,rc,rr,rf,rg⟩,⟨ts,tc,tt,tf,tg⟩⟩=⟨7,o,a,0,false,⟨#[]⟩,⟨#[]⟩,⟨#[]⟩,false,Jj,Jj⟩:=rfl;have hE:∀ w,Sem.run Tryz.prog (binOp .eql 69 (.agg #[I6 7,I6 o,I6 a,I6 b,Bv qn,Sg qa,Sg qd,Sg x,Bv tr,Sg rs,I6 rc,I6 rr,Bv rf,Bv rg,Sg ts,I6 tc,I6 tt,Bv tf,Bv tg]) (.agg #[I6 7,I6 o,I6 a,I6 0,Bv false,S0,S0,S0,Bv false,S0,I6 0,I6 0,Bv false,Bv false,S0,I6 0,I6 0,Bv false,Bv false])) w=.ok (Bv (XX ⟨7,o,a,b,qn,qa,qd,x,tr,⟨rs,rc,rr,rf,rg⟩,⟨ts,tc,tt,tf,tg⟩⟩ (X6 ⟨7,o,a,b,qn,qa,qd,x,tr,⟨rs,rc,rr,rf,rg⟩,⟨ts,tc,tt,tf,tg⟩⟩))) w:=fun w=>by rw[hb];exact a1b ⟨7,o,a,b,qn,qa,qd,x,tr,⟨rs,rc,rr,rf,rg⟩,⟨ts,tc,tt,tf,tg⟩⟩ ⟨7,o,a,0,false,⟨#[]⟩,⟨#[]⟩,⟨#[]⟩,false,Jj,Jj⟩ w
 clear hb;generalize XX ⟨7,o,a,b,qn,qa,qd,x,tr,⟨rs,rc,rr,rf,rg⟩,⟨ts,tc,tt,tf,tg⟩⟩ (X6 ⟨7,o,a,b,qn,qa,qd,x,tr,⟨rs,rc,rr,rf,rg⟩,⟨ts,tc,tt,tf,tg⟩⟩)=z at *;have hu:a4i ⟨7,o,a,b,qn,qa,qd,x,tr,⟨rs,rc,rr,rf,rg⟩,⟨ts,tc,tt,tf,tg⟩⟩=decide (Y5 7 o<8):=rfl;rw[hu];have hC:=fun w=>a1z ⟨7,o,a,b,qn,qa,qd,x,tr,⟨rs,rc,rr,rf,rg⟩,⟨ts,tc,tt,tf,tg⟩⟩ w
 dsimp only at hC;obtain⟨v,hv⟩:=nM (Y5 7 o);rw[<-hv] at hC |-
 have HC:=zh hC;clear hC hu h1 h2 h3 h4 h5 hv;by_cases hlt:v<8
 ·
  rw[jD hlt];have hl:=jD hlt;go_enter Tryz.func136,Tryz.ntmps136
  go_upto_region 1 with fail
  obtain⟨s1,A,j6,jz,j8,zA⟩:=qy w (.cells #[I6 7,I6 o,I6 a,I6 b,Bv qn,Sg qa,Sg qd,Sg x,Bv tr,Sg rs,I6 rc,I6 rr,Bv rf,Bv rg,Sg ts,I6 tc,I6 tt,Bv tf,Bv tg] 69);have yA:=qZ (b:=A) j6 jz;have LA:=Qv HK19 yA;have j7:=qQ bR j6;rw[<-j6];try rw[<-jz]
  clear j6 j8 jz;go_wp2_with fail;refine jy (HC.out _) fun s2 hb=>?_
  replace yA:=jv hb yA zA;replace j7:=bT j7 hb;clear hb;replace LA:=Qv HK19 yA
  all_goals go_wp2
  all_goals first | go_ret | go_ret2
  all_goals exact⟨rfl,j7⟩
 ·
  rw[jE hlt];have hl:=jE hlt;clear hE;go_enter Tryz.func136,Tryz.ntmps136
  go_upto_region 1 with fail
  obtain⟨s3,A,j6,jz,j8,zA⟩:=qy w (.cells #[I6 7,I6 o,I6 a,I6 b,Bv qn,Sg qa,Sg qd,Sg x,Bv tr,Sg rs,I6 rc,I6 rr,Bv rf,Bv rg,Sg ts,I6 tc,I6 tt,Bv tf,Bv tg] 69);have yA:=qZ (b:=A) j6 jz;have LA:=Qv HK19 yA;have j7:=qQ bR j6;rw[<-j6];try rw[<-jz]
  clear j6 j8 jz;go_wp2_with fail;refine jy (HC.out _) fun s4 hb=>?_
  replace j7:=bT j7 hb;clear hb
  all_goals go_wp2
  all_goals first | go_ret | go_ret2
  all_goals exact⟨rfl,j7⟩
theorem c5e (o a b:Int) (qn:Bool) (qa qd x:jW) (tr:Bool) (rs:jW) (rc rr:Int) (rf rg:Bool) (ts:jW) (tc tt:Int) (tf tg:Bool) (w:World) (hf:J8 ⟨8,o,a,b,qn,qa,qd,x,tr,⟨rs,rc,rr,rf,rg⟩,⟨ts,tc,tt,tf,tg⟩⟩) :
  Ca 136 #[.agg #[I6 8,I6 o,I6 a,I6 b,Bv qn,Sg qa,Sg qd,Sg x,Bv tr,Sg rs,I6 rc,I6 rr,Bv rf,Bv rg,Sg ts,I6 tc,I6 tt,Bv tf,Bv tg]] w (Bv (X9 ⟨8,o,a,b,qn,qa,qd,x,tr,⟨rs,rc,rr,rf,rg⟩,⟨ts,tc,tt,tf,tg⟩⟩)):=by
 unfold X9;obtain⟨h1,h2,h3,h4,h5⟩:=hf;dsimp only at *;have JY:=Qw;obtain⟨K19,hz19,HK19⟩:=Y9;have hb:X6 ⟨8,o,a,b,qn,qa,qd,x,tr,⟨rs,rc,rr,rf,rg⟩,⟨ts,tc,tt,tf,tg⟩⟩=⟨8,o,a,b,false,⟨#[]⟩,⟨#[]⟩,⟨#[]⟩,false,Jj,Jj⟩:=rfl;have hE:∀ w,Sem.run Tryz.prog (binOp .eql 69 (.agg #[I6 8,I6 o,I6 a,I6 b,Bv qn,Sg qa,Sg qd,Sg x,Bv tr,Sg rs,I6 rc,I6 rr,Bv rf,Bv rg,Sg ts,I6 tc,I6 tt,Bv tf,Bv tg]) (.agg #[I6 8,I6 o,I6 a,I6 b,Bv false,S0,S0,S0,Bv false,S0,I6 0,I6 0,Bv false,Bv false,S0,I6 0,I6 0,Bv false,Bv false])) w=.ok (Bv (XX ⟨8,o,a,b,qn,qa,qd,x,tr,⟨rs,rc,rr,rf,rg⟩,⟨ts,tc,tt,tf,tg⟩⟩ (X6 ⟨8,o,a,b,qn,qa,qd,x,tr,⟨rs,rc,rr,rf,rg⟩,⟨ts,tc,tt,tf,tg⟩⟩))) w:=fun w=>by rw[hb];exact a1b ⟨8,o,a,b,qn,qa,qd,x,tr,⟨rs,rc,rr,rf,rg⟩,⟨ts,tc,tt,tf,tg⟩⟩ ⟨8,o,a,b,false,⟨#[]⟩,⟨#[]⟩,⟨#[]⟩,false,Jj,Jj⟩ w
 clear hb;generalize XX ⟨8,o,a,b,qn,qa,qd,x,tr,⟨rs,rc,rr,rf,rg⟩,⟨ts,tc,tt,tf,tg⟩⟩ (X6 ⟨8,o,a,b,qn,qa,qd,x,tr,⟨rs,rc,rr,rf,rg⟩,⟨ts,tc,tt,tf,tg⟩⟩)=z at *;have hu:a4i ⟨8,o,a,b,qn,qa,qd,x,tr,⟨rs,rc,rr,rf,rg⟩,⟨ts,tc,tt,tf,tg⟩⟩=decide (Y5 8 o<8):=rfl;rw[hu];have hC:=fun w=>a1z ⟨8,o,a,b,qn,qa,qd,x,tr,⟨rs,rc,rr,rf,rg⟩,⟨ts,tc,tt,tf,tg⟩⟩ w
 dsimp only at hC;obtain⟨v,hv⟩:=nM (Y5 8 o);rw[<-hv] at hC |-
 have HC:=zh hC;clear hC hu h1 h2 h3 h4 h5 hv;by_cases hlt:v<8
 ·
  rw[jD hlt];have hl:=jD hlt;go_enter Tryz.func136,Tryz.ntmps136
  go_upto_region 1 with fail
  obtain⟨s5,A,j6,jz,j8,zA⟩:=qy w (.cells #[I6 8,I6 o,I6 a,I6 b,Bv qn,Sg qa,Sg qd,Sg x,Bv tr,Sg rs,I6 rc,I6 rr,Bv rf,Bv rg,Sg ts,I6 tc,I6 tt,Bv tf,Bv tg] 69);have yA:=qZ (b:=A) j6 jz;have LA:=Qv HK19 yA;have j7:=qQ bR j6;rw[<-j6];try rw[<-jz]
  clear j6 j8 jz;go_wp2_with fail;refine jy (HC.out _) fun s6 hb=>?_
  replace yA:=jv hb yA zA;replace j7:=bT j7 hb;clear hb;replace LA:=Qv HK19 yA
  all_goals go_wp2
  all_goals first | go_ret | go_ret2
  all_goals exact⟨rfl,j7⟩
 ·
  rw[jE hlt];have hl:=jE hlt;clear hE;go_enter Tryz.func136,Tryz.ntmps136
  go_upto_region 1 with fail
  obtain⟨s7,A,j6,jz,j8,zA⟩:=qy w (.cells #[I6 8,I6 o,I6 a,I6 b,Bv qn,Sg qa,Sg qd,Sg x,Bv tr,Sg rs,I6 rc,I6 rr,Bv rf,Bv rg,Sg ts,I6 tc,I6 tt,Bv tf,Bv tg] 69);have yA:=qZ (b:=A) j6 jz;have LA:=Qv HK19 yA;have j7:=qQ bR j6;rw[<-j6];try rw[<-jz]
  clear j6 j8 jz;go_wp2_with fail;refine jy (HC.out _) fun s8 hb=>?_
  replace j7:=bT j7 hb;clear hb
  all_goals go_wp2
  all_goals first | go_ret | go_ret2
  all_goals exact⟨rfl,j7⟩
theorem c5f (o a b:Int) (qn:Bool) (qa qd x:jW) (tr:Bool) (rs:jW) (rc rr:Int) (rf rg:Bool) (ts:jW) (tc tt:Int) (tf tg:Bool) (w:World) (hf:J8 ⟨9,o,a,b,qn,qa,qd,x,tr,⟨rs,rc,rr,rf,rg⟩,⟨ts,tc,tt,tf,tg⟩⟩) :
  Ca 136 #[.agg #[I6 9,I6 o,I6 a,I6 b,Bv qn,Sg qa,Sg qd,Sg x,Bv tr,Sg rs,I6 rc,I6 rr,Bv rf,Bv rg,Sg ts,I6 tc,I6 tt,Bv tf,Bv tg]] w (Bv (X9 ⟨9,o,a,b,qn,qa,qd,x,tr,⟨rs,rc,rr,rf,rg⟩,⟨ts,tc,tt,tf,tg⟩⟩)):=by
 unfold X9;obtain⟨h1,h2,h3,h4,h5⟩:=hf;dsimp only at *;have JY:=Qw;obtain⟨K19,hz19,HK19⟩:=Y9;have hb:X6 ⟨9,o,a,b,qn,qa,qd,x,tr,⟨rs,rc,rr,rf,rg⟩,⟨ts,tc,tt,tf,tg⟩⟩=⟨9,0,a,b,false,⟨#[]⟩,⟨#[]⟩,x,false,Jj,Jj⟩:=rfl;have hE:∀ w,Sem.run Tryz.prog (binOp .eql 69 (.agg #[I6 9,I6 o,I6 a,I6 b,Bv qn,Sg qa,Sg qd,Sg x,Bv tr,Sg rs,I6 rc,I6 rr,Bv rf,Bv rg,Sg ts,I6 tc,I6 tt,Bv tf,Bv tg]) (.agg #[I6 9,I6 0,I6 a,I6 b,Bv false,S0,S0,Sg x,Bv false,S0,I6 0,I6 0,Bv false,Bv false,S0,I6 0,I6 0,Bv false,Bv false])) w=.ok (Bv (XX ⟨9,o,a,b,qn,qa,qd,x,tr,⟨rs,rc,rr,rf,rg⟩,⟨ts,tc,tt,tf,tg⟩⟩ (X6 ⟨9,o,a,b,qn,qa,qd,x,tr,⟨rs,rc,rr,rf,rg⟩,⟨ts,tc,tt,tf,tg⟩⟩))) w:=fun w=>by rw[hb];exact a1b ⟨9,o,a,b,qn,qa,qd,x,tr,⟨rs,rc,rr,rf,rg⟩,⟨ts,tc,tt,tf,tg⟩⟩ ⟨9,0,a,b,false,⟨#[]⟩,⟨#[]⟩,x,false,Jj,Jj⟩ w
 clear hb;generalize XX ⟨9,o,a,b,qn,qa,qd,x,tr,⟨rs,rc,rr,rf,rg⟩,⟨ts,tc,tt,tf,tg⟩⟩ (X6 ⟨9,o,a,b,qn,qa,qd,x,tr,⟨rs,rc,rr,rf,rg⟩,⟨ts,tc,tt,tf,tg⟩⟩)=z at *;have hu:a4i ⟨9,o,a,b,qn,qa,qd,x,tr,⟨rs,rc,rr,rf,rg⟩,⟨ts,tc,tt,tf,tg⟩⟩=(decide (0<=b)&&decide (b<=20) && !(decide (b=0) && !decide (a=0))&&b9e x.data.toList):=rfl;rw[hu];have hC:=fun w=>b6v x w (by unfold maxLen;omega)
 generalize b9e x.data.toList=y at *;have HC:=zh hC;have j7:=Below.refl w.heap.size w;clear hC hu h1 h2 h3 h4 h5;by_cases b0:0<=b
 case neg =>
  rw[jE b0];clear hE;go_enter Tryz.func136,Tryz.ntmps136
  go_wp2
  go_ret
  exact⟨J4 (by simp),j7.alloc (jC _) _⟩
 rw[jD b0,Bool.true_and];by_cases b2:b<=20
 case neg =>
  rw[jE b2];clear hE;go_enter Tryz.func136,Tryz.ntmps136
  go_wp2
  go_ret
  exact⟨J4 (by simp),j7.alloc (jC _) _⟩
 rw[jD b2,Bool.true_and];by_cases b1:b=0
 ·
  subst b1;by_cases a0:a=0
  ·
   subst a0;clear j7;rw[show (!(decide ((0:Int)=0) && !decide ((0:Int)=0)))=true from rfl,Bool.true_and]
   cases y with
   | false =>
    clear hE;go_enter Tryz.func136,Tryz.ntmps136;go_wp2_with fail;obtain⟨s9,A,j6,jz,j8,zA⟩:=qy w (.cells #[I6 9,I6 o,I6 0,I6 0,Bv qn,Sg qa,Sg qd,Sg x,Bv tr,Sg rs,I6 rc,I6 rr,Bv rf,Bv rg,Sg ts,I6 tc,I6 tt,Bv tf,Bv tg] 69);have j7:=qQ bR j6;rw[<-j6];try rw[<-jz]
    clear j6 j8 jz;refine jy (HC.out _) fun s10 hb=>?_
    replace j7:=bT j7 hb;clear hb
    all_goals go_wp2
    all_goals first | go_ret | go_ret2
    all_goals exact⟨rfl,j7⟩
   | true =>
    go_enter Tryz.func136,Tryz.ntmps136;go_wp2_with fail;obtain⟨s11,A,j6,jz,j8,zA⟩:=qy w (.cells #[I6 9,I6 o,I6 0,I6 0,Bv qn,Sg qa,Sg qd,Sg x,Bv tr,Sg rs,I6 rc,I6 rr,Bv rf,Bv rg,Sg ts,I6 tc,I6 tt,Bv tf,Bv tg] 69);have yA:=qZ (b:=A) j6 jz;have j7:=qQ bR j6;rw[<-j6];try rw[<-jz]
    clear j6 j8 jz;refine jy (HC.out _) fun s12 hb=>?_
    replace yA:=jv hb yA zA;replace j7:=bT j7 hb;clear hb;replace LA:=Qv HK19 yA
    all_goals go_wp2
    all_goals first | go_ret | go_ret2
    all_goals exact⟨rfl,j7⟩
  ·
   have ha0:(a==0)=false:=by simpa using a0
   have ha1:(a != 0)=true:=by simpa using a0
   rw[show (!(decide ((0:Int)=0) && !decide (a=0)))=false by rw[jE a0];rfl];clear hE a0;go_enter Tryz.func136,Tryz.ntmps136
   go_wp2
   go_ret
   exact⟨J4 (by simp),j7.alloc (jC _) _⟩
 ·
  have hb0:(b==0)=false:=by simpa using b1
  rw[show (!(decide (b=0) && !decide (a=0)))=true by rw[jE b1];rfl,Bool.true_and];clear j7 b1
  cases y with
  | false =>
   clear hE;go_enter Tryz.func136,Tryz.ntmps136;go_wp2_with fail;obtain⟨s13,A,j6,jz,j8,zA⟩:=qy w (.cells #[I6 9,I6 o,I6 a,I6 b,Bv qn,Sg qa,Sg qd,Sg x,Bv tr,Sg rs,I6 rc,I6 rr,Bv rf,Bv rg,Sg ts,I6 tc,I6 tt,Bv tf,Bv tg] 69);have j7:=qQ bR j6;rw[<-j6];try rw[<-jz]
   clear j6 j8 jz;refine jy (HC.out _) fun s14 hb=>?_
   replace j7:=bT j7 hb;clear hb
   all_goals go_wp2
   all_goals first | go_ret | go_ret2
   all_goals exact⟨rfl,j7⟩
  | true =>
   go_enter Tryz.func136,Tryz.ntmps136;go_wp2_with fail;obtain⟨s15,A,j6,jz,j8,zA⟩:=qy w (.cells #[I6 9,I6 o,I6 a,I6 b,Bv qn,Sg qa,Sg qd,Sg x,Bv tr,Sg rs,I6 rc,I6 rr,Bv rf,Bv rg,Sg ts,I6 tc,I6 tt,Bv tf,Bv tg] 69);have yA:=qZ (b:=A) j6 jz;have j7:=qQ bR j6;rw[<-j6];try rw[<-jz]
   clear j6 j8 jz;refine jy (HC.out _) fun s16 hb=>?_
   replace yA:=jv hb yA zA;replace j7:=bT j7 hb;clear hb;replace LA:=Qv HK19 yA
   all_goals go_wp2
   all_goals first | go_ret | go_ret2
   all_goals exact⟨rfl,j7⟩
theorem b1m {n:Nd} (hk7:n.k≠7) (hk8:n.k≠8) (hk9:n.k≠9):X9 n=a3b n:=by
 by_cases h6:n.k<=6
 ·
  rw[a3p h6];rfl
 ·
  rw[b0i (by omega) (by omega) (by omega) (by omega) (by omega) (by omega)];unfold X9 a4i;rw[if_neg (by omega),if_neg (by omega),if_neg (by omega),if_neg (by omega),if_neg (by omega),if_neg (by omega),if_neg hk7,if_neg hk8,if_neg hk9];rfl
theorem b3r (k:Int) (o a b:Int) (qn:Bool) (qa qd x:jW) (tr:Bool) (rs:jW) (rc rr:Int) (rf rg:Bool) (ts:jW) (tc tt:Int) (tf tg:Bool) (w:World) (hf:J8 ⟨k,o,a,b,qn,qa,qd,x,tr,⟨rs,rc,rr,rf,rg⟩,⟨ts,tc,tt,tf,tg⟩⟩) (hN:NamesAt w) (hk7:k≠7) (hk8:k≠8) (hk9:k≠9) :
  Ca 136 #[.agg #[I6 k,I6 o,I6 a,I6 b,Bv qn,Sg qa,Sg qd,Sg x,Bv tr,Sg rs,I6 rc,I6 rr,Bv rf,Bv rg,Sg ts,I6 tc,I6 tt,Bv tf,Bv tg]] w (Bv (a3b ⟨k,o,a,b,qn,qa,qd,x,tr,⟨rs,rc,rr,rf,rg⟩,⟨ts,tc,tt,tf,tg⟩⟩)):=by
 have JY:=Qw;obtain⟨K19,hz19,HK19⟩:=Y9;have hC:=fun w hN=>a9i ⟨k,o,a,b,qn,qa,qd,x,tr,⟨rs,rc,rr,rf,rg⟩,⟨ts,tc,tt,tf,tg⟩⟩ w hf hN
 generalize a3b ⟨k,o,a,b,qn,qa,qd,x,tr,⟨rs,rc,rr,rf,rg⟩,⟨ts,tc,tt,tf,tg⟩⟩=y at *;have HC:=zh hC;have HNN:=zh hN;have g7:(k==7)=false:=by simpa using hk7
 have g8:(k==8)=false:=by simpa using hk8
 have g9:(k==9)=false:=by simpa using hk9
 clear hC hk7 hk8 hk9 hf hN;go_enter Tryz.func136,Tryz.ntmps136
 go_upto_region 1 with fail
 obtain⟨s17,A,j6,jz,j8,zA⟩:=qy w (.cells #[I6 k,I6 o,I6 a,I6 b,Bv qn,Sg qa,Sg qd,Sg x,Bv tr,Sg rs,I6 rc,I6 rr,Bv rf,Bv rg,Sg ts,I6 tc,I6 tt,Bv tf,Bv tg] 69);have yA:=qZ (b:=A) j6 jz;have LA:=Qv HK19 yA;have j7:=qQ bR j6;rw[<-j6];try rw[<-jz]
 clear j6 j8 jz;go_wp2_with fail;refine jy (HC.out _ (HNN.out.below j7)) fun s18 hb=>?_
 replace j7:=bT j7 hb;clear hb
 all_goals go_wp2
 all_goals first | go_ret | go_ret2
 all_goals exact⟨rfl,j7⟩
theorem a4c (n:Nd) (w:World) (hf:J8 n) (hN:NamesAt w) :
  Ca 136 #[Y2 n] w (Bv (X9 n)):=by
 obtain⟨k,o,a,b,qn,qa,qd,x,tr,⟨rs,rc,rr,rf,rg⟩,⟨ts,tc,tt,tf,tg⟩⟩:=n;by_cases hk7:k=7
 ·
  subst hk7;exact c5d o a b qn qa qd x tr rs rc rr rf rg ts tc tt tf tg w hf
 by_cases hk8:k=8
 ·
  subst hk8;exact c5e o a b qn qa qd x tr rs rc rr rf rg ts tc tt tf tg w hf
 by_cases hk9:k=9
 ·
  subst hk9;exact c5f o a b qn qa qd x tr rs rc rr rf rg ts tc tt tf tg w hf
 rw[b1m hk7 hk8 hk9];exact b3r k o a b qn qa qd x tr rs rc rr rf rg ts tc tt tf tg w hf hN hk7 hk8 hk9
theorem c8z (o a b:Int) (qn:Bool) (qa qd x:jW) (tr:Bool) (rs:jW) (rc rr:Int) (rf rg:Bool) (ts:jW) (tc tt:Int) (tf tg:Bool) (w:World) (hf:J8 ⟨7,o,a,b,qn,qa,qd,x,tr,⟨rs,rc,rr,rf,rg⟩,⟨ts,tc,tt,tf,tg⟩⟩) :
  Ca 34 #[.agg #[I6 7,I6 o,I6 a,I6 b,Bv qn,Sg qa,Sg qd,Sg x,Bv tr,Sg rs,I6 rc,I6 rr,Bv rf,Bv rg,Sg ts,I6 tc,I6 tt,Bv tf,Bv tg]] w (Bv (X9 ⟨7,o,a,b,qn,qa,qd,x,tr,⟨rs,rc,rr,rf,rg⟩,⟨ts,tc,tt,tf,tg⟩⟩)):=by
 obtain⟨R,hR⟩:∃ R,R=X9 ⟨7,o,a,b,qn,qa,qd,x,tr,⟨rs,rc,rr,rf,rg⟩,⟨ts,tc,tt,tf,tg⟩⟩:=⟨_,rfl⟩;rw[<-hR];unfold X9 at hR;obtain⟨h1,h2,h3,h4,h5⟩:=hf;dsimp only at *;have JY:=Qw;obtain⟨K19,hz19,HK19⟩:=Y9;have hb:X6 ⟨7,o,a,b,qn,qa,qd,x,tr,⟨rs,rc,rr,rf,rg⟩,⟨ts,tc,tt,tf,tg⟩⟩=⟨7,o,a,0,false,⟨#[]⟩,⟨#[]⟩,⟨#[]⟩,false,Jj,Jj⟩:=rfl;have hE:∀ w,Sem.run Tryz.prog (binOp .eql 69 (.agg #[I6 7,I6 o,I6 a,I6 b,Bv qn,Sg qa,Sg qd,Sg x,Bv tr,Sg rs,I6 rc,I6 rr,Bv rf,Bv rg,Sg ts,I6 tc,I6 tt,Bv tf,Bv tg]) (.agg #[I6 7,I6 o,I6 a,I6 0,Bv false,S0,S0,S0,Bv false,S0,I6 0,I6 0,Bv false,Bv false,S0,I6 0,I6 0,Bv false,Bv false])) w=.ok (Bv (XX ⟨7,o,a,b,qn,qa,qd,x,tr,⟨rs,rc,rr,rf,rg⟩,⟨ts,tc,tt,tf,tg⟩⟩ (X6 ⟨7,o,a,b,qn,qa,qd,x,tr,⟨rs,rc,rr,rf,rg⟩,⟨ts,tc,tt,tf,tg⟩⟩))) w:=fun w=>by rw[hb];exact a1b ⟨7,o,a,b,qn,qa,qd,x,tr,⟨rs,rc,rr,rf,rg⟩,⟨ts,tc,tt,tf,tg⟩⟩ ⟨7,o,a,0,false,⟨#[]⟩,⟨#[]⟩,⟨#[]⟩,false,Jj,Jj⟩ w
 clear hb;generalize XX ⟨7,o,a,b,qn,qa,qd,x,tr,⟨rs,rc,rr,rf,rg⟩,⟨ts,tc,tt,tf,tg⟩⟩ (X6 ⟨7,o,a,b,qn,qa,qd,x,tr,⟨rs,rc,rr,rf,rg⟩,⟨ts,tc,tt,tf,tg⟩⟩)=z at *;rw[show a4i ⟨7,o,a,b,qn,qa,qd,x,tr,⟨rs,rc,rr,rf,rg⟩,⟨ts,tc,tt,tf,tg⟩⟩=decide (Y5 7 o<8) from rfl] at hR;clear h1 h2 h3 h4 h5;have HR:=zh hR;clear hR;go_enter Tryz.func34,Tryz.ntmps34
 go_upto_region 1 with fail
 obtain⟨s1,A,j6,jz,j8,zA⟩:=qy w (.cells #[I6 7,I6 o,I6 a,I6 b,Bv qn,Sg qa,Sg qd,Sg x,Bv tr,Sg rs,I6 rc,I6 rr,Bv rf,Bv rg,Sg ts,I6 tc,I6 tt,Bv tf,Bv tg] 69);have yA:=qZ (b:=A) j6 jz;have j7:=qQ bR j6;rw[<-j6];try rw[<-jz]
 clear j6 j8 jz
 go_upto_region 2 with (refine a0c rfl _ _ rfl rfl _ _ _ rfl rfl rfl (by rfl) (by rfl) (by rfl) ?_)
 obtain⟨s2,X,j6,qw,j8,zX⟩:=qy s1 (.cells #[I6 7,I6 0,I6 0,I6 0,Bv false,S0,S0,S0,Bv false,S0,I6 0,I6 0,Bv false,Bv false,S0,I6 0,I6 0,Bv false,Bv false] 69);have j9:=JW j6;have dXA:X≠A:=by omega
 replace yA:=jv j9 yA zA;clear j9;have yX:=qZ (b:=X) j6 qw;have fX:=Qq (b:=X) j6 qw;have lX:w.heap.size<=X:=by have:=j7.size;omega
 replace j7:=qQ j7 j6;rw[<-j6];try rw[<-qw]
 clear j6 j8 qw
 go_upto_region 28 with fail
 obtain⟨s3,j6⟩:∃ s,s=((s2.setCell ⟨X,1,none⟩ (I6 o)).setCell ⟨X,2,none⟩ (I6 a)):=⟨_,rfl⟩;have qJ:Bl w s3:=by rw[j6];exact(sc2 (j7) lX)
 have j8:=ss2 j6;replace yA:=Jv j6 (qz (qz yA dXA) dXA);have hq:∀ {p v},((s2.setCell ⟨X,1,none⟩ (I6 o)).setCell ⟨X,2,none⟩ (I6 a)).cell? p=some v->s3.cell? p=some v:=fun h=>by rw[j6];exact h
 replace yX:∀ j,s3.cell? ⟨X,j,none⟩=([I6 7,I6 o,I6 a,I6 0,Bv false,S0,S0,S0,Bv false,S0,I6 0,I6 0,Bv false,Bv false,S0,I6 0,I6 0,Bv false,Bv false]:List Value)[j]?:=Jv j6 (JX (JX yX (jB rfl)) (jB rfl));clear hq;have J9:=@fz2 _ _ _ _ _ _  j6;clear J9;replace LA:=Qv HK19 yA;replace LX:=Qv HK19 yX;rw[<-j6];clear j7 j6 j8;have j7:=qJ;clear qJ;have hR:=HR.out;clear HR
 cases z with
 | false =>
  rw[Bool.and_false] at hR;go_wp2
  all_goals go_ret
  all_goals exact⟨J4 (by simp[*]),j7⟩
 | true =>
  rw[Bool.and_true] at hR;by_cases g1:o=13
  ·
   subst g1;rw[show decide (Y5 7 13<8)=true from rfl] at hR;go_wp2
   all_goals go_ret
   all_goals exact⟨J4 (by simp[*]),j7⟩
  ·
   have g1b:(o==13)=false:=by simpa using g1
   by_cases g2:o=14
   ·
    subst g2;rw[show decide (Y5 7 14<8)=true from rfl] at hR;go_wp2
    all_goals go_ret
    all_goals exact⟨J4 (by simp[*]),j7⟩
   ·
    have g2b:(o==14)=false:=by simpa using g2
    have hl:decide (Y5 7 o<8)=false:=by unfold Y5;simp[g1,g2]
    rw[hl] at hR;clear hl g1 g2;go_wp2
    all_goals go_ret
    all_goals exact⟨J4 (by simp[*]),j7⟩
theorem c9a (o a b:Int) (qn:Bool) (qa qd x:jW) (tr:Bool) (rs:jW) (rc rr:Int) (rf rg:Bool) (ts:jW) (tc tt:Int) (tf tg:Bool) (w:World) (hf:J8 ⟨8,o,a,b,qn,qa,qd,x,tr,⟨rs,rc,rr,rf,rg⟩,⟨ts,tc,tt,tf,tg⟩⟩) :
  Ca 34 #[.agg #[I6 8,I6 o,I6 a,I6 b,Bv qn,Sg qa,Sg qd,Sg x,Bv tr,Sg rs,I6 rc,I6 rr,Bv rf,Bv rg,Sg ts,I6 tc,I6 tt,Bv tf,Bv tg]] w (Bv (X9 ⟨8,o,a,b,qn,qa,qd,x,tr,⟨rs,rc,rr,rf,rg⟩,⟨ts,tc,tt,tf,tg⟩⟩)):=by
 obtain⟨R,hR⟩:∃ R,R=X9 ⟨8,o,a,b,qn,qa,qd,x,tr,⟨rs,rc,rr,rf,rg⟩,⟨ts,tc,tt,tf,tg⟩⟩:=⟨_,rfl⟩;rw[<-hR];unfold X9 at hR;obtain⟨h1,h2,h3,h4,h5⟩:=hf;dsimp only at *;have JY:=Qw;obtain⟨K19,hz19,HK19⟩:=Y9;have hb:X6 ⟨8,o,a,b,qn,qa,qd,x,tr,⟨rs,rc,rr,rf,rg⟩,⟨ts,tc,tt,tf,tg⟩⟩=⟨8,o,a,b,false,⟨#[]⟩,⟨#[]⟩,⟨#[]⟩,false,Jj,Jj⟩:=rfl;have hE:∀ w,Sem.run Tryz.prog (binOp .eql 69 (.agg #[I6 8,I6 o,I6 a,I6 b,Bv qn,Sg qa,Sg qd,Sg x,Bv tr,Sg rs,I6 rc,I6 rr,Bv rf,Bv rg,Sg ts,I6 tc,I6 tt,Bv tf,Bv tg]) (.agg #[I6 8,I6 o,I6 a,I6 b,Bv false,S0,S0,S0,Bv false,S0,I6 0,I6 0,Bv false,Bv false,S0,I6 0,I6 0,Bv false,Bv false])) w=.ok (Bv (XX ⟨8,o,a,b,qn,qa,qd,x,tr,⟨rs,rc,rr,rf,rg⟩,⟨ts,tc,tt,tf,tg⟩⟩ (X6 ⟨8,o,a,b,qn,qa,qd,x,tr,⟨rs,rc,rr,rf,rg⟩,⟨ts,tc,tt,tf,tg⟩⟩))) w:=fun w=>by rw[hb];exact a1b ⟨8,o,a,b,qn,qa,qd,x,tr,⟨rs,rc,rr,rf,rg⟩,⟨ts,tc,tt,tf,tg⟩⟩ ⟨8,o,a,b,false,⟨#[]⟩,⟨#[]⟩,⟨#[]⟩,false,Jj,Jj⟩ w
 clear hb;generalize XX ⟨8,o,a,b,qn,qa,qd,x,tr,⟨rs,rc,rr,rf,rg⟩,⟨ts,tc,tt,tf,tg⟩⟩ (X6 ⟨8,o,a,b,qn,qa,qd,x,tr,⟨rs,rc,rr,rf,rg⟩,⟨ts,tc,tt,tf,tg⟩⟩)=z at *;rw[show a4i ⟨8,o,a,b,qn,qa,qd,x,tr,⟨rs,rc,rr,rf,rg⟩,⟨ts,tc,tt,tf,tg⟩⟩=decide (Y5 8 o<8) from rfl] at hR;clear h1 h2 h3 h4 h5;have HR:=zh hR;clear hR;go_enter Tryz.func34,Tryz.ntmps34
 go_upto_region 1 with fail
 obtain⟨s4,A,j6,jz,j8,zA⟩:=qy w (.cells #[I6 8,I6 o,I6 a,I6 b,Bv qn,Sg qa,Sg qd,Sg x,Bv tr,Sg rs,I6 rc,I6 rr,Bv rf,Bv rg,Sg ts,I6 tc,I6 tt,Bv tf,Bv tg] 69);have yA:=qZ (b:=A) j6 jz;have j7:=qQ bR j6;rw[<-j6];try rw[<-jz]
 clear j6 j8 jz
 go_upto_region 2 with (refine a0c rfl _ _ rfl rfl _ _ _ rfl rfl rfl (by rfl) (by rfl) (by rfl) ?_)
 obtain⟨s5,X,j6,qw,j8,zX⟩:=qy s4 (.cells #[I6 8,I6 0,I6 0,I6 0,Bv false,S0,S0,S0,Bv false,S0,I6 0,I6 0,Bv false,Bv false,S0,I6 0,I6 0,Bv false,Bv false] 69);have j9:=JW j6;have dXA:X≠A:=by omega
 replace yA:=jv j9 yA zA;clear j9;have yX:=qZ (b:=X) j6 qw;have fX:=Qq (b:=X) j6 qw;have lX:w.heap.size<=X:=by have:=j7.size;omega
 replace j7:=qQ j7 j6;rw[<-j6];try rw[<-qw]
 clear j6 j8 qw
 go_upto_region 33 with fail
 obtain⟨s6,j6⟩:∃ s,s=(((s5.setCell ⟨X,1,none⟩ (I6 o)).setCell ⟨X,2,none⟩ (I6 a)).setCell ⟨X,3,none⟩ (I6 b)):=⟨_,rfl⟩;have qJ:Bl w s6:=by rw[j6];exact(sc3 (j7) lX)
 have j8:=ss3 j6;replace yA:=Jv j6 (qz (qz (qz yA dXA) dXA) dXA);have hq:∀ {p v},(((s5.setCell ⟨X,1,none⟩ (I6 o)).setCell ⟨X,2,none⟩ (I6 a)).setCell ⟨X,3,none⟩ (I6 b)).cell? p=some v->s6.cell? p=some v:=fun h=>by rw[j6];exact h
 replace yX:∀ j,s6.cell? ⟨X,j,none⟩=([I6 8,I6 o,I6 a,I6 b,Bv false,S0,S0,S0,Bv false,S0,I6 0,I6 0,Bv false,Bv false,S0,I6 0,I6 0,Bv false,Bv false]:List Value)[j]?:=Jv j6 (JX (JX (JX yX (jB rfl)) (jB rfl)) (jB rfl));clear hq;have J9:=@fz3 _ _ _ _ _ _ _ _  j6;clear J9;replace LA:=Qv HK19 yA;replace LX:=Qv HK19 yX;rw[<-j6];clear j7 j6 j8;have j7:=qJ;clear qJ;have hR:=HR.out;clear HR
 cases z with
 | false =>
  rw[Bool.and_false] at hR;go_wp2
  all_goals go_ret
  all_goals exact⟨J4 (by simp[*]),j7⟩
 | true =>
  rw[Bool.and_true] at hR
  have hl:decide (Y5 8 o<8)=(decide (1<=o)&&decide (o<=12)):=by
   rw[Bool.eq_iff_iff,Bool.and_eq_true,decide_eq_true_eq,decide_eq_true_eq,decide_eq_true_eq];unfold Y5;constructor
   ·
    intro h
    (repeat' split at h)<;>omega
   ·
    intro h
    (repeat' split)<;>omega
  rw[hl] at hR;clear hl;by_cases g1:1<=o
  ·
   by_cases g2:o<=12
   ·
    rw[jD g1,jD g2,Bool.and_self] at hR;go_wp2
    all_goals go_ret
    all_goals exact⟨J4 (by simp[*]),j7⟩
   ·
    rw[jD g1,jE g2,Bool.true_and] at hR;go_wp2
    all_goals go_ret
    all_goals exact⟨J4 (by simp[*]),j7⟩
  ·
   rw[jE g1,Bool.false_and] at hR;go_wp2
   all_goals go_ret
   all_goals exact⟨J4 (by simp[*]),j7⟩
theorem c9b (o a b:Int) (qn:Bool) (qa qd x:jW) (tr:Bool) (rs:jW) (rc rr:Int) (rf rg:Bool) (ts:jW) (tc tt:Int) (tf tg:Bool) (w:World) (hf:J8 ⟨9,o,a,b,qn,qa,qd,x,tr,⟨rs,rc,rr,rf,rg⟩,⟨ts,tc,tt,tf,tg⟩⟩) :
  Ca 34 #[.agg #[I6 9,I6 o,I6 a,I6 b,Bv qn,Sg qa,Sg qd,Sg x,Bv tr,Sg rs,I6 rc,I6 rr,Bv rf,Bv rg,Sg ts,I6 tc,I6 tt,Bv tf,Bv tg]] w (Bv (X9 ⟨9,o,a,b,qn,qa,qd,x,tr,⟨rs,rc,rr,rf,rg⟩,⟨ts,tc,tt,tf,tg⟩⟩)):=by
 obtain⟨R,hR⟩:∃ R,R=X9 ⟨9,o,a,b,qn,qa,qd,x,tr,⟨rs,rc,rr,rf,rg⟩,⟨ts,tc,tt,tf,tg⟩⟩:=⟨_,rfl⟩;rw[<-hR];unfold X9 at hR;obtain⟨h1,h2,h3,h4,h5⟩:=hf;dsimp only at *;have JY:=Qw;obtain⟨K19,hz19,HK19⟩:=Y9;have hb:X6 ⟨9,o,a,b,qn,qa,qd,x,tr,⟨rs,rc,rr,rf,rg⟩,⟨ts,tc,tt,tf,tg⟩⟩=⟨9,0,a,b,false,⟨#[]⟩,⟨#[]⟩,x,false,Jj,Jj⟩:=rfl;have hE:∀ w,Sem.run Tryz.prog (binOp .eql 69 (.agg #[I6 9,I6 o,I6 a,I6 b,Bv qn,Sg qa,Sg qd,Sg x,Bv tr,Sg rs,I6 rc,I6 rr,Bv rf,Bv rg,Sg ts,I6 tc,I6 tt,Bv tf,Bv tg]) (.agg #[I6 9,I6 0,I6 a,I6 b,Bv false,S0,S0,Sg x,Bv false,S0,I6 0,I6 0,Bv false,Bv false,S0,I6 0,I6 0,Bv false,Bv false])) w=.ok (Bv (XX ⟨9,o,a,b,qn,qa,qd,x,tr,⟨rs,rc,rr,rf,rg⟩,⟨ts,tc,tt,tf,tg⟩⟩ (X6 ⟨9,o,a,b,qn,qa,qd,x,tr,⟨rs,rc,rr,rf,rg⟩,⟨ts,tc,tt,tf,tg⟩⟩))) w:=fun w=>by rw[hb];exact a1b ⟨9,o,a,b,qn,qa,qd,x,tr,⟨rs,rc,rr,rf,rg⟩,⟨ts,tc,tt,tf,tg⟩⟩ ⟨9,0,a,b,false,⟨#[]⟩,⟨#[]⟩,x,false,Jj,Jj⟩ w
 clear hb;generalize XX ⟨9,o,a,b,qn,qa,qd,x,tr,⟨rs,rc,rr,rf,rg⟩,⟨ts,tc,tt,tf,tg⟩⟩ (X6 ⟨9,o,a,b,qn,qa,qd,x,tr,⟨rs,rc,rr,rf,rg⟩,⟨ts,tc,tt,tf,tg⟩⟩)=z at *;rw[show a4i ⟨9,o,a,b,qn,qa,qd,x,tr,⟨rs,rc,rr,rf,rg⟩,⟨ts,tc,tt,tf,tg⟩⟩=(decide (0<=b)&&decide (b<=20) && !(decide (b=0) && !decide (a=0))&&b9e x.data.toList) from rfl] at hR;have hC:=fun w=>c0v (b4b x w (by unfold maxLen;omega))
 generalize b9e x.data.toList=y at *;have HC:=zh hC;clear hC h1 h2 h3 h4 h5;have HR:=zh hR;clear hR;go_enter Tryz.func34,Tryz.ntmps34
 go_upto_region 1 with fail
 obtain⟨s7,A,j6,jz,j8,zA⟩:=qy w (.cells #[I6 9,I6 o,I6 a,I6 b,Bv qn,Sg qa,Sg qd,Sg x,Bv tr,Sg rs,I6 rc,I6 rr,Bv rf,Bv rg,Sg ts,I6 tc,I6 tt,Bv tf,Bv tg] 69);have yA:=qZ (b:=A) j6 jz;have j7:=qQ bR j6;rw[<-j6];try rw[<-jz]
 clear j6 j8 jz
 go_upto_region 2 with (refine a0c rfl _ _ rfl rfl _ _ _ rfl rfl rfl (by rfl) (by rfl) (by rfl) ?_)
 obtain⟨s8,X,j6,qw,j8,zX⟩:=qy s7 (.cells #[I6 9,I6 0,I6 0,I6 0,Bv false,S0,S0,S0,Bv false,S0,I6 0,I6 0,Bv false,Bv false,S0,I6 0,I6 0,Bv false,Bv false] 69);have j9:=JW j6;have dXA:X≠A:=by omega
 replace yA:=jv j9 yA zA;clear j9;have yX:=qZ (b:=X) j6 qw;have fX:=Qq (b:=X) j6 qw;have lX:w.heap.size<=X:=by have:=j7.size;omega
 replace j7:=qQ j7 j6;rw[<-j6];try rw[<-qw]
 clear j6 j8 qw
 go_upto_region 38 with fail
 obtain⟨s9,j6⟩:∃ s,s=(((s8.setCell ⟨X,7,none⟩ (Sg x)).setCell ⟨X,2,none⟩ (I6 a)).setCell ⟨X,3,none⟩ (I6 b)):=⟨_,rfl⟩;have qJ:Bl w s9:=by rw[j6];exact(sc3 (j7) lX)
 have j8:=ss3 j6;replace yA:=Jv j6 (qz (qz (qz yA dXA) dXA) dXA);have hq:∀ {p v},(((s8.setCell ⟨X,7,none⟩ (Sg x)).setCell ⟨X,2,none⟩ (I6 a)).setCell ⟨X,3,none⟩ (I6 b)).cell? p=some v->s9.cell? p=some v:=fun h=>by rw[j6];exact h
 replace yX:∀ j,s9.cell? ⟨X,j,none⟩=([I6 9,I6 0,I6 a,I6 b,Bv false,S0,S0,Sg x,Bv false,S0,I6 0,I6 0,Bv false,Bv false,S0,I6 0,I6 0,Bv false,Bv false]:List Value)[j]?:=Jv j6 (JX (JX (JX yX (jB rfl)) (jB rfl)) (jB rfl));clear hq;have J9:=@fz3 _ _ _ _ _ _ _ _  j6;clear J9;replace LA:=Qv HK19 yA;replace LX:=Qv HK19 yX;rw[<-j6];clear j7 j6 j8;have j7:=qJ;clear qJ;have hR:=HR.out;clear HR
 cases z with
 | false =>
  rw[Bool.and_false] at hR;clear HC;go_wp2
  all_goals go_ret
  all_goals exact⟨J4 (by simp[*]),j7⟩
 | true =>
  rw[Bool.and_true] at hR
  cases y with
  | false =>
   rw[Bool.and_false] at hR;go_wp2_with fail;refine(HC.out _).mono ?_;rintro e wq ⟨rfl,rfl⟩;go_wp2
   all_goals go_ret
   all_goals exact⟨J4 (by simp[*]),j7⟩
  | true =>
   rw[Bool.and_true] at hR;by_cases b0:0<=b
   case neg =>
    rw[jE b0,Bool.false_and,Bool.false_and] at hR;go_wp2_with fail;refine(HC.out _).mono ?_;rintro e wq ⟨rfl,rfl⟩;go_wp2
    all_goals go_ret
    all_goals exact⟨J4 (by simp[*]),j7⟩
   rw[jD b0,Bool.true_and] at hR;by_cases b2:b<=20
   case neg =>
    rw[jE b2,Bool.false_and] at hR;go_wp2_with fail;refine(HC.out _).mono ?_;rintro e wq ⟨rfl,rfl⟩;go_wp2
    all_goals go_ret
    all_goals exact⟨J4 (by simp[*]),j7⟩
   rw[jD b2,Bool.true_and] at hR;by_cases b1:0<b
   ·
    rw[jE (show ¬ b=0 by omega)] at hR;go_wp2_with fail;refine(HC.out _).mono ?_;rintro e wq ⟨rfl,rfl⟩;go_wp2
    all_goals go_ret
    all_goals exact⟨J4 (by simp[*]),j7⟩
   ·
    obtain rfl:b=0:=by omega
    by_cases a0:a=0
    ·
     subst a0;go_wp2_with fail;refine(HC.out _).mono ?_;rintro e wq ⟨rfl,rfl⟩;go_wp2
     all_goals go_ret
     all_goals exact⟨J4 (by simp[*]),j7⟩
    ·
     have ha0:(a==0)=false:=by simpa using a0
     rw[jE a0] at hR;clear a0;go_wp2_with fail;refine(HC.out _).mono ?_;rintro e wq ⟨rfl,rfl⟩;go_wp2
     all_goals go_ret
     all_goals exact⟨J4 (by simp[*]),j7⟩
