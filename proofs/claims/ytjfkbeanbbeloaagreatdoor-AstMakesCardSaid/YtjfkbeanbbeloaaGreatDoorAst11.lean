import Derived.Test.YtjfkbeanbbeloaaGreatDoorAst10
set_option maxHeartbeats 16000000
set_option maxRecDepth 100000
namespace Go.Proofs.YtjfkbeanbbeloaaGreatDoor
open Go.RowKit Go.Shelf
set_option linter.unusedSimpArgs false
set_option linter.unusedVariables false
theorem c8u (o a b:Int) (qn:Bool) (qa qd x:ByteArray) (tr:Bool) (rs:ByteArray) (rc rr:Int) (rf rg:Bool) (ts:ByteArray) (tc tt:Int) (tf tg:Bool) (w:World) (hf:Fits ⟨1,o,a,b,qn,qa,qd,x,tr,⟨rs,rc,rr,rf,rg⟩,⟨ts,tc,tt,tf,tg⟩⟩) :
  Calls Tryz.prog 30 #[.agg #[.int .i64 1,.int .i64 o,.int .i64 a,.int .i64 b,.bool qn,.string qa,.string qd,.string x,.bool tr,.string rs,.int .i64 rc,.int .i64 rr,.bool rf,.bool rg,.string ts,.int .i64 tc,.int .i64 tt,.bool tf,.bool tg]] w fun e w' => e=.returned (.bool (a1x ⟨1,o,a,b,qn,qa,qd,x,tr,⟨rs,rc,rr,rf,rg⟩,⟨ts,tc,tt,tf,tg⟩⟩))∧Below w.heap.size w w':=by
 obtain ⟨Rs,hRs⟩:∃ Rs,Rs=a1x ⟨1,o,a,b,qn,qa,qd,x,tr,⟨rs,rc,rr,rf,rg⟩,⟨ts,tc,tt,tf,tg⟩⟩:=⟨_,rfl⟩;rw [← hRs];unfold a1x at hRs;obtain ⟨h1,h2,h3,h4,h5⟩:=hf;dsimp only at *;have hud:undef=Value.tuple #[]:=rfl;obtain ⟨K19,hz19,HK19⟩:=a0q;have hb:a0s ⟨1,o,a,b,qn,qa,qd,x,tr,⟨rs,rc,rr,rf,rg⟩,⟨ts,tc,tt,tf,tg⟩⟩=⟨1,0,0,0,qn,qa,qd,⟨#[]⟩,false,rf0,rf0⟩:=rfl;have hE:∀ w,Sem.run Tryz.prog (binOp .eql 30 (.agg #[.int .i64 1,.int .i64 o,.int .i64 a,.int .i64 b,.bool qn,.string qa,.string qd,.string x,.bool tr,.string rs,.int .i64 rc,.int .i64 rr,.bool rf,.bool rg,.string ts,.int .i64 tc,.int .i64 tt,.bool tf,.bool tg]) (.agg #[.int .i64 1,.int .i64 0,.int .i64 0,.int .i64 0,.bool qn,.string qa,.string qd,.string ⟨#[]⟩,.bool false,.string ⟨#[]⟩,.int .i64 0,.int .i64 0,.bool false,.bool false,.string ⟨#[]⟩,.int .i64 0,.int .i64 0,.bool false,.bool false])) w=.ok (.bool (a2r ⟨1,o,a,b,qn,qa,qd,x,tr,⟨rs,rc,rr,rf,rg⟩,⟨ts,tc,tt,tf,tg⟩⟩ (a0s ⟨1,o,a,b,qn,qa,qd,x,tr,⟨rs,rc,rr,rf,rg⟩,⟨ts,tc,tt,tf,tg⟩⟩))) w:=fun w => by rw [hb];exact a1b ⟨1,o,a,b,qn,qa,qd,x,tr,⟨rs,rc,rr,rf,rg⟩,⟨ts,tc,tt,tf,tg⟩⟩ ⟨1,0,0,0,qn,qa,qd,⟨#[]⟩,false,rf0,rf0⟩ w
 clear hb;generalize a2r ⟨1,o,a,b,qn,qa,qd,x,tr,⟨rs,rc,rr,rf,rg⟩,⟨ts,tc,tt,tf,tg⟩⟩ (a0s ⟨1,o,a,b,qn,qa,qd,x,tr,⟨rs,rc,rr,rf,rg⟩,⟨ts,tc,tt,tf,tg⟩⟩)=z at *;rw [show a4i ⟨1,o,a,b,qn,qa,qd,x,tr,⟨rs,rc,rr,rf,rg⟩,⟨ts,tc,tt,tf,tg⟩⟩=amB qn qa qd from rfl] at hRs;have hR:=fun w => a7e qn qa qd w (by omega) (by omega)
 have hN:=fun w => c0n qn qa qd w (by omega) (by omega)
 have hl:a0y qn qa qd=true→(wl qn qa qd).den=Nt.V qd:=fun h => by unfold wl;rw [if_pos h]
 unfold amB at hRs;generalize a0y qn qa qd=y at *
 have he:(y && !qn && b4j (Nt.V qd))=(y && !qn && b4j (wl qn qa qd).den):=by
  cases y with
  | false => rfl
  | true => rw [hl rfl]
 rw [he] at hRs;generalize b4j (wl qn qa qd).den=u at *;have HC:=zh hR;have HN:=zh hN;clear hR hN hl he h1 h2 h3 h4 h5;have HRs:=zh hRs;clear hRs;go_enter Tryz.func30,Tryz.ntmps30
 go_upto_region 1 with (fail)
 obtain ⟨s1,hws⟩:∃ s,s=(w.alloc (.cells #[.int .i64 1,.int .i64 o,.int .i64 a,.int .i64 b,.bool qn,.string qa,.string qd,.string x,.bool tr,.string rs,.int .i64 rc,.int .i64 rr,.bool rf,.bool rg,.string ts,.int .i64 tc,.int .i64 tt,.bool tf,.bool tg] 30)):=⟨_,rfl⟩;have hBs:=bs1 (Below.refl w.heap.size w) hws;obtain ⟨A,hdA⟩:∃ b,b=w.heap.size:=⟨_,rfl⟩;have hsz:s1.heap.size=w.heap.size+1:=by rw [hws];simp
 have yA:=by0 (b:=A) hws hdA;have zA:A < s1.heap.size:=by omega
 have lA:w.heap.size≤A:=by omega
 have LA:=eqL (P:=Tryz.prog) HK19 rfl yA;rw [← hws];try rw [← hdA]
 clear hws hsz hdA;have hBo:=hBs;clear hBs
 go_upto_region 2 with (refine a0c rfl _ _ rfl rfl _ _ _ rfl rfl rfl (by rfl) (by rfl) (by rfl) ?_)
 obtain ⟨s2,hws⟩:∃ s,s=(s1.alloc (.cells #[.int .i64 1,.int .i64 0,.int .i64 0,.int .i64 0,.bool false,.string ⟨#[]⟩,.string ⟨#[]⟩,.string ⟨#[]⟩,.bool false,.string ⟨#[]⟩,.int .i64 0,.int .i64 0,.bool false,.bool false,.string ⟨#[]⟩,.int .i64 0,.int .i64 0,.bool false,.bool false] 30)):=⟨_,rfl⟩;have hBs:=bs1 hBo hws;obtain ⟨X,hdX⟩:∃ b,b=s1.heap.size:=⟨_,rfl⟩;have hsz:s2.heap.size=s1.heap.size+1:=by rw [hws];simp
 have dXA:X≠A:=by omega
 have hQC:∀ p v,s1.cell? p=some v→s2.cell? p=some v:=fun p v h => by rw [hws];exact (alK h)
 have hQZ:∀ b,b < s1.heap.size→b < s2.heap.size:=fun b h => by omega
 replace yA:=eqE hws (eqA yA zA);replace zA:=hQZ _ zA;clear hQC hQZ;have yX:=by0 (b:=X) hws hdX;have hM:=bf0 (b:=X) hws hdX;have fX4:=hM 4;have fX5:=hM 5;have fX6:=hM 6;clear hM;have zX:X < s2.heap.size:=by omega
 have lX:w.heap.size≤X:=by have:=hBo.size;omega
 replace LA:=eqL (P:=Tryz.prog) HK19 rfl yA;have LX:=eqL (P:=Tryz.prog) HK19 rfl yX;rw [← hws];try rw [← hdX]
 clear hBo;clear hws hsz hdX;have hBo:=hBs;clear hBs
 go_upto_region 6 with (fail)
 obtain ⟨s3,hws⟩:∃ s,s=(((s2.setCell ⟨X,4,none⟩ (.bool qn)).setCell ⟨X,5,none⟩ (.string qa)).setCell ⟨X,6,none⟩ (.string qd)):=⟨_,rfl⟩;have hBs:Below w.heap.size w s3:=by rw [hws];exact ((((hBo).setCell lX _).setCell lX _).setCell lX _)
 have hsz:s3.heap.size=s2.heap.size:=by rw [hws];simp
 replace yA:=eqE hws (eqS (eqS (eqS yA dXA) dXA) dXA);have hq:∀ {p v},(((s2.setCell ⟨X,4,none⟩ (.bool qn)).setCell ⟨X,5,none⟩ (.string qa)).setCell ⟨X,6,none⟩ (.string qd)).cell? p=some v→s3.cell? p=some v:=fun h => by rw [hws];exact h
 replace yX:∀ j,s3.cell? ⟨X,j,none⟩=([.int .i64 1,.int .i64 0,.int .i64 0,.int .i64 0,.bool qn,.string qa,.string qd,.string ⟨#[]⟩,.bool false,.string ⟨#[]⟩,.int .i64 0,.int .i64 0,.bool false,.bool false,.string ⟨#[]⟩,.int .i64 0,.int .i64 0,.bool false,.bool false]:List Value)[j]?:=eqE hws (eqI (eqI (eqI yX (of_decide_eq_true rfl)) (of_decide_eq_true rfl)) (of_decide_eq_true rfl));clear hq;have hQF:∀ {p x},s2.frozen? p=x→s3.frozen? p=x:=fun h => by rw [hws];simpa [go_sem] using h
 replace fX4:=hQF fX4;replace fX5:=hQF fX5;replace fX6:=hQF fX6;clear hQF;replace zA:A < s3.heap.size:=by omega
 replace zX:X < s3.heap.size:=by omega
 replace LA:=eqL (P:=Tryz.prog) HK19 rfl yA;replace LX:=eqL (P:=Tryz.prog) HK19 rfl yX;rw [← hws];clear hBo hws hsz;have hBo:=hBs;clear hBs;have hRs:=HRs.out;clear HRs
 cases z with
 | false =>
  rw [Bool.and_false] at hRs;go_wp2_with fail;refine (HN.out _).mono ?_;rintro e w2 ⟨⟨n,rfl⟩,hb⟩;replace yA:=eqB hb yA zA;replace zA:=zHl hb zA;replace yX:=eqB hb yX zX;replace fX4:=a0g hb fX4 zX;replace fX5:=a0g hb fX5 zX;replace fX6:=a0g hb fX6 zX;replace zX:=zHl hb zX;replace hBo:=hBo.trans (hb.mono hBo.size);clear hb;replace LA:=eqL (P:=Tryz.prog) HK19 rfl yA;replace LX:=eqL (P:=Tryz.prog) HK19 rfl yX;go_wp2_with fail
  all_goals go_ret
  all_goals exact ⟨a0d (by simp [*]),hBo⟩
 | true =>
  rw [Bool.and_true] at hRs
  cases y with
  | false =>
   rw [Bool.false_and,Bool.false_and] at hRs;go_wp2_with fail;refine (HN.out _).mono ?_;rintro e w2 ⟨⟨n,rfl⟩,hb⟩;replace yA:=eqB hb yA zA;replace zA:=zHl hb zA;replace yX:=eqB hb yX zX;replace fX4:=a0g hb fX4 zX;replace fX5:=a0g hb fX5 zX;replace fX6:=a0g hb fX6 zX;replace zX:=zHl hb zX;replace hBo:=hBo.trans (hb.mono hBo.size);clear hb;replace LA:=eqL (P:=Tryz.prog) HK19 rfl yA;replace LX:=eqL (P:=Tryz.prog) HK19 rfl yX;go_wp2_with fail;refine (HC.out _).mono ?_;rintro e s4 ⟨rfl,hb⟩;replace yA:=eqB hb yA zA;replace zA:=zHl hb zA;replace yX:=eqB hb yX zX;replace fX4:=a0g hb fX4 zX;replace fX5:=a0g hb fX5 zX;replace fX6:=a0g hb fX6 zX;replace zX:=zHl hb zX;replace hBo:=hBo.trans (hb.mono hBo.size);clear hb;replace LA:=eqL (P:=Tryz.prog) HK19 rfl yA;replace LX:=eqL (P:=Tryz.prog) HK19 rfl yX;go_wp2_with fail
   all_goals go_ret
   all_goals exact ⟨a0d (by simp [*]),hBo⟩
  | true =>
   rw [Bool.true_and] at hRs
   cases qn with
   | true =>
    rw [Bool.not_true,Bool.false_and] at hRs;go_wp2_with fail;refine (HN.out _).mono ?_;rintro e w2 ⟨⟨n,rfl⟩,hb⟩;replace yA:=eqB hb yA zA;replace zA:=zHl hb zA;replace yX:=eqB hb yX zX;replace fX4:=a0g hb fX4 zX;replace fX5:=a0g hb fX5 zX;replace fX6:=a0g hb fX6 zX;replace zX:=zHl hb zX;replace hBo:=hBo.trans (hb.mono hBo.size);clear hb;replace LA:=eqL (P:=Tryz.prog) HK19 rfl yA;replace LX:=eqL (P:=Tryz.prog) HK19 rfl yX;go_wp2_with fail;refine (HC.out _).mono ?_;rintro e s5 ⟨rfl,hb⟩;replace yA:=eqB hb yA zA;replace zA:=zHl hb zA;replace yX:=eqB hb yX zX;replace fX4:=a0g hb fX4 zX;replace fX5:=a0g hb fX5 zX;replace fX6:=a0g hb fX6 zX;replace zX:=zHl hb zX;replace hBo:=hBo.trans (hb.mono hBo.size);clear hb;replace LA:=eqL (P:=Tryz.prog) HK19 rfl yA;replace LX:=eqL (P:=Tryz.prog) HK19 rfl yX;go_wp2_with fail
    all_goals go_ret
    all_goals exact ⟨a0d (by simp [*]),hBo⟩
   | false =>
    rw [Bool.not_false,Bool.true_and] at hRs;go_wp2_with fail;refine (HN.out _).mono ?_;rintro e w2 ⟨⟨n,rfl⟩,hb⟩;replace yA:=eqB hb yA zA;replace zA:=zHl hb zA;replace yX:=eqB hb yX zX;replace fX4:=a0g hb fX4 zX;replace fX5:=a0g hb fX5 zX;replace fX6:=a0g hb fX6 zX;replace zX:=zHl hb zX;replace hBo:=hBo.trans (hb.mono hBo.size);clear hb;replace LA:=eqL (P:=Tryz.prog) HK19 rfl yA;replace LX:=eqL (P:=Tryz.prog) HK19 rfl yX;go_wp2_with fail;refine (HC.out _).mono ?_;rintro e s6 ⟨rfl,hb⟩;replace yA:=eqB hb yA zA;replace zA:=zHl hb zA;replace yX:=eqB hb yX zX;replace fX4:=a0g hb fX4 zX;replace fX5:=a0g hb fX5 zX;replace fX6:=a0g hb fX6 zX;replace zX:=zHl hb zX;replace hBo:=hBo.trans (hb.mono hBo.size);clear hb;replace LA:=eqL (P:=Tryz.prog) HK19 rfl yA;replace LX:=eqL (P:=Tryz.prog) HK19 rfl yX;go_wp2_with fail
    all_goals go_ret
    all_goals exact ⟨a0d (by simp [*]),hBo⟩
theorem c8v (o a b:Int) (qn:Bool) (qa qd x:ByteArray) (tr:Bool) (rs:ByteArray) (rc rr:Int) (rf rg:Bool) (ts:ByteArray) (tc tt:Int) (tf tg:Bool) (w:World) (hf:Fits ⟨2,o,a,b,qn,qa,qd,x,tr,⟨rs,rc,rr,rf,rg⟩,⟨ts,tc,tt,tf,tg⟩⟩) :
  Calls Tryz.prog 30 #[.agg #[.int .i64 2,.int .i64 o,.int .i64 a,.int .i64 b,.bool qn,.string qa,.string qd,.string x,.bool tr,.string rs,.int .i64 rc,.int .i64 rr,.bool rf,.bool rg,.string ts,.int .i64 tc,.int .i64 tt,.bool tf,.bool tg]] w fun e w' => e=.returned (.bool (a1x ⟨2,o,a,b,qn,qa,qd,x,tr,⟨rs,rc,rr,rf,rg⟩,⟨ts,tc,tt,tf,tg⟩⟩))∧Below w.heap.size w w':=by
 obtain ⟨Rs,hRs⟩:∃ Rs,Rs=a1x ⟨2,o,a,b,qn,qa,qd,x,tr,⟨rs,rc,rr,rf,rg⟩,⟨ts,tc,tt,tf,tg⟩⟩:=⟨_,rfl⟩;rw [← hRs];unfold a1x at hRs;obtain ⟨h1,h2,h3,h4,h5⟩:=hf;dsimp only at *;have hud:undef=Value.tuple #[]:=rfl;obtain ⟨K19,hz19,HK19⟩:=a0q;have hb:a0s ⟨2,o,a,b,qn,qa,qd,x,tr,⟨rs,rc,rr,rf,rg⟩,⟨ts,tc,tt,tf,tg⟩⟩=⟨2,0,0,0,false,⟨#[]⟩,⟨#[]⟩,x,false,rf0,rf0⟩:=rfl;have hE:∀ w,Sem.run Tryz.prog (binOp .eql 30 (.agg #[.int .i64 2,.int .i64 o,.int .i64 a,.int .i64 b,.bool qn,.string qa,.string qd,.string x,.bool tr,.string rs,.int .i64 rc,.int .i64 rr,.bool rf,.bool rg,.string ts,.int .i64 tc,.int .i64 tt,.bool tf,.bool tg]) (.agg #[.int .i64 2,.int .i64 0,.int .i64 0,.int .i64 0,.bool false,.string ⟨#[]⟩,.string ⟨#[]⟩,.string x,.bool false,.string ⟨#[]⟩,.int .i64 0,.int .i64 0,.bool false,.bool false,.string ⟨#[]⟩,.int .i64 0,.int .i64 0,.bool false,.bool false])) w=.ok (.bool (a2r ⟨2,o,a,b,qn,qa,qd,x,tr,⟨rs,rc,rr,rf,rg⟩,⟨ts,tc,tt,tf,tg⟩⟩ (a0s ⟨2,o,a,b,qn,qa,qd,x,tr,⟨rs,rc,rr,rf,rg⟩,⟨ts,tc,tt,tf,tg⟩⟩))) w:=fun w => by rw [hb];exact a1b ⟨2,o,a,b,qn,qa,qd,x,tr,⟨rs,rc,rr,rf,rg⟩,⟨ts,tc,tt,tf,tg⟩⟩ ⟨2,0,0,0,false,⟨#[]⟩,⟨#[]⟩,x,false,rf0,rf0⟩ w
 clear hb;generalize a2r ⟨2,o,a,b,qn,qa,qd,x,tr,⟨rs,rc,rr,rf,rg⟩,⟨ts,tc,tt,tf,tg⟩⟩ (a0s ⟨2,o,a,b,qn,qa,qd,x,tr,⟨rs,rc,rr,rf,rg⟩,⟨ts,tc,tt,tf,tg⟩⟩)=z at *;rw [show a4i ⟨2,o,a,b,qn,qa,qd,x,tr,⟨rs,rc,rr,rf,rg⟩,⟨ts,tc,tt,tf,tg⟩⟩=b7h x from rfl] at hRs;have hC:=fun w => c0v (c0r x w (by unfold maxLen;omega))
 generalize b7h x=y at *;have HC:=zh hC;clear hC h1 h2 h3 h4 h5;have HRs:=zh hRs;clear hRs;go_enter Tryz.func30,Tryz.ntmps30
 go_upto_region 1 with (fail)
 obtain ⟨s7,hws⟩:∃ s,s=(w.alloc (.cells #[.int .i64 2,.int .i64 o,.int .i64 a,.int .i64 b,.bool qn,.string qa,.string qd,.string x,.bool tr,.string rs,.int .i64 rc,.int .i64 rr,.bool rf,.bool rg,.string ts,.int .i64 tc,.int .i64 tt,.bool tf,.bool tg] 30)):=⟨_,rfl⟩;have hBs:=bs1 (Below.refl w.heap.size w) hws;obtain ⟨A,hdA⟩:∃ b,b=w.heap.size:=⟨_,rfl⟩;have hsz:s7.heap.size=w.heap.size+1:=by rw [hws];simp
 have yA:=by0 (b:=A) hws hdA;have zA:A < s7.heap.size:=by omega
 have lA:w.heap.size≤A:=by omega
 have LA:=eqL (P:=Tryz.prog) HK19 rfl yA;rw [← hws];try rw [← hdA]
 clear hws hsz hdA;have hBo:=hBs;clear hBs
 go_upto_region 2 with (refine a0c rfl _ _ rfl rfl _ _ _ rfl rfl rfl (by rfl) (by rfl) (by rfl) ?_)
 obtain ⟨s8,hws⟩:∃ s,s=(s7.alloc (.cells #[.int .i64 2,.int .i64 0,.int .i64 0,.int .i64 0,.bool false,.string ⟨#[]⟩,.string ⟨#[]⟩,.string ⟨#[]⟩,.bool false,.string ⟨#[]⟩,.int .i64 0,.int .i64 0,.bool false,.bool false,.string ⟨#[]⟩,.int .i64 0,.int .i64 0,.bool false,.bool false] 30)):=⟨_,rfl⟩;have hBs:=bs1 hBo hws;obtain ⟨X,hdX⟩:∃ b,b=s7.heap.size:=⟨_,rfl⟩;have hsz:s8.heap.size=s7.heap.size+1:=by rw [hws];simp
 have dXA:X≠A:=by omega
 have hQC:∀ p v,s7.cell? p=some v→s8.cell? p=some v:=fun p v h => by rw [hws];exact (alK h)
 have hQZ:∀ b,b < s7.heap.size→b < s8.heap.size:=fun b h => by omega
 replace yA:=eqE hws (eqA yA zA);replace zA:=hQZ _ zA;clear hQC hQZ;have yX:=by0 (b:=X) hws hdX;have hM:=bf0 (b:=X) hws hdX;have fX7:=hM 7;clear hM;have zX:X < s8.heap.size:=by omega
 have lX:w.heap.size≤X:=by have:=hBo.size;omega
 replace LA:=eqL (P:=Tryz.prog) HK19 rfl yA;have LX:=eqL (P:=Tryz.prog) HK19 rfl yX;rw [← hws];try rw [← hdX]
 clear hBo;clear hws hsz hdX;have hBo:=hBs;clear hBs
 go_upto_region 10 with (fail)
 obtain ⟨s9,hws⟩:∃ s,s=(s8.setCell ⟨X,7,none⟩ (.string x)):=⟨_,rfl⟩;have hBs:Below w.heap.size w s9:=by rw [hws];exact ((hBo).setCell lX _)
 have hsz:s9.heap.size=s8.heap.size:=by rw [hws];simp
 replace yA:=eqE hws (eqS yA dXA);have hq:∀ {p v},(s8.setCell ⟨X,7,none⟩ (.string x)).cell? p=some v→s9.cell? p=some v:=fun h => by rw [hws];exact h
 replace yX:∀ j,s9.cell? ⟨X,j,none⟩=([.int .i64 2,.int .i64 0,.int .i64 0,.int .i64 0,.bool false,.string ⟨#[]⟩,.string ⟨#[]⟩,.string x,.bool false,.string ⟨#[]⟩,.int .i64 0,.int .i64 0,.bool false,.bool false,.string ⟨#[]⟩,.int .i64 0,.int .i64 0,.bool false,.bool false]:List Value)[j]?:=eqE hws (eqI yX (of_decide_eq_true rfl));clear hq;have hQF:∀ {p x},s8.frozen? p=x→s9.frozen? p=x:=fun h => by rw [hws];simpa [go_sem] using h
 replace fX7:=hQF fX7;clear hQF;replace zA:A < s9.heap.size:=by omega
 replace zX:X < s9.heap.size:=by omega
 replace LA:=eqL (P:=Tryz.prog) HK19 rfl yA;replace LX:=eqL (P:=Tryz.prog) HK19 rfl yX;rw [← hws];clear hBo hws hsz;have hBo:=hBs;clear hBs;have hRs:=HRs.out;clear HRs
 cases z with
 | false =>
  rw [Bool.and_false] at hRs;clear HC;go_wp2_with fail
  all_goals go_ret
  all_goals exact ⟨a0d (by simp [*]),hBo⟩
 | true =>
  rw [Bool.and_true] at hRs;go_wp2_with fail;refine (HC.out _).mono ?_;rintro e wq ⟨rfl,rfl⟩;go_wp2_with fail
  all_goals go_ret
  all_goals exact ⟨a0d (by simp [*]),hBo⟩
theorem c8w (o a b:Int) (qn:Bool) (qa qd x:ByteArray) (tr:Bool) (rs:ByteArray) (rc rr:Int) (rf rg:Bool) (ts:ByteArray) (tc tt:Int) (tf tg:Bool) (w:World) (hf:Fits ⟨3,o,a,b,qn,qa,qd,x,tr,⟨rs,rc,rr,rf,rg⟩,⟨ts,tc,tt,tf,tg⟩⟩) :
  Calls Tryz.prog 30 #[.agg #[.int .i64 3,.int .i64 o,.int .i64 a,.int .i64 b,.bool qn,.string qa,.string qd,.string x,.bool tr,.string rs,.int .i64 rc,.int .i64 rr,.bool rf,.bool rg,.string ts,.int .i64 tc,.int .i64 tt,.bool tf,.bool tg]] w fun e w' => e=.returned (.bool (a1x ⟨3,o,a,b,qn,qa,qd,x,tr,⟨rs,rc,rr,rf,rg⟩,⟨ts,tc,tt,tf,tg⟩⟩))∧Below w.heap.size w w':=by
 unfold a1x;obtain ⟨h1,h2,h3,h4,h5⟩:=hf;dsimp only at *;have hud:undef=Value.tuple #[]:=rfl;obtain ⟨K19,hz19,HK19⟩:=a0q;have hb:a0s ⟨3,o,a,b,qn,qa,qd,x,tr,⟨rs,rc,rr,rf,rg⟩,⟨ts,tc,tt,tf,tg⟩⟩=⟨3,0,0,0,false,⟨#[]⟩,⟨#[]⟩,⟨#[]⟩,tr,rf0,rf0⟩:=rfl;have hE:∀ w,Sem.run Tryz.prog (binOp .eql 30 (.agg #[.int .i64 3,.int .i64 o,.int .i64 a,.int .i64 b,.bool qn,.string qa,.string qd,.string x,.bool tr,.string rs,.int .i64 rc,.int .i64 rr,.bool rf,.bool rg,.string ts,.int .i64 tc,.int .i64 tt,.bool tf,.bool tg]) (.agg #[.int .i64 3,.int .i64 0,.int .i64 0,.int .i64 0,.bool false,.string ⟨#[]⟩,.string ⟨#[]⟩,.string ⟨#[]⟩,.bool tr,.string ⟨#[]⟩,.int .i64 0,.int .i64 0,.bool false,.bool false,.string ⟨#[]⟩,.int .i64 0,.int .i64 0,.bool false,.bool false])) w=.ok (.bool (a2r ⟨3,o,a,b,qn,qa,qd,x,tr,⟨rs,rc,rr,rf,rg⟩,⟨ts,tc,tt,tf,tg⟩⟩ (a0s ⟨3,o,a,b,qn,qa,qd,x,tr,⟨rs,rc,rr,rf,rg⟩,⟨ts,tc,tt,tf,tg⟩⟩))) w:=fun w => by rw [hb];exact a1b ⟨3,o,a,b,qn,qa,qd,x,tr,⟨rs,rc,rr,rf,rg⟩,⟨ts,tc,tt,tf,tg⟩⟩ ⟨3,0,0,0,false,⟨#[]⟩,⟨#[]⟩,⟨#[]⟩,tr,rf0,rf0⟩ w
 clear hb;generalize a2r ⟨3,o,a,b,qn,qa,qd,x,tr,⟨rs,rc,rr,rf,rg⟩,⟨ts,tc,tt,tf,tg⟩⟩ (a0s ⟨3,o,a,b,qn,qa,qd,x,tr,⟨rs,rc,rr,rf,rg⟩,⟨ts,tc,tt,tf,tg⟩⟩)=z at *;rw [show a4i ⟨3,o,a,b,qn,qa,qd,x,tr,⟨rs,rc,rr,rf,rg⟩,⟨ts,tc,tt,tf,tg⟩⟩=true from rfl,Bool.true_and];clear h1 h2 h3 h4 h5;go_enter Tryz.func30,Tryz.ntmps30
 go_upto_region 1 with (fail)
 obtain ⟨s10,hws⟩:∃ s,s=(w.alloc (.cells #[.int .i64 3,.int .i64 o,.int .i64 a,.int .i64 b,.bool qn,.string qa,.string qd,.string x,.bool tr,.string rs,.int .i64 rc,.int .i64 rr,.bool rf,.bool rg,.string ts,.int .i64 tc,.int .i64 tt,.bool tf,.bool tg] 30)):=⟨_,rfl⟩;have hBs:=bs1 (Below.refl w.heap.size w) hws;obtain ⟨A,hdA⟩:∃ b,b=w.heap.size:=⟨_,rfl⟩;have hsz:s10.heap.size=w.heap.size+1:=by rw [hws];simp
 have yA:=by0 (b:=A) hws hdA;have zA:A < s10.heap.size:=by omega
 have lA:w.heap.size≤A:=by omega
 have LA:=eqL (P:=Tryz.prog) HK19 rfl yA;rw [← hws];try rw [← hdA]
 clear hws hsz hdA;have hBo:=hBs;clear hBs
 go_upto_region 2 with (refine a0c rfl _ _ rfl rfl _ _ _ rfl rfl rfl (by rfl) (by rfl) (by rfl) ?_)
 obtain ⟨s11,hws⟩:∃ s,s=(s10.alloc (.cells #[.int .i64 3,.int .i64 0,.int .i64 0,.int .i64 0,.bool false,.string ⟨#[]⟩,.string ⟨#[]⟩,.string ⟨#[]⟩,.bool false,.string ⟨#[]⟩,.int .i64 0,.int .i64 0,.bool false,.bool false,.string ⟨#[]⟩,.int .i64 0,.int .i64 0,.bool false,.bool false] 30)):=⟨_,rfl⟩;have hBs:=bs1 hBo hws;obtain ⟨X,hdX⟩:∃ b,b=s10.heap.size:=⟨_,rfl⟩;have hsz:s11.heap.size=s10.heap.size+1:=by rw [hws];simp
 have dXA:X≠A:=by omega
 have hQC:∀ p v,s10.cell? p=some v→s11.cell? p=some v:=fun p v h => by rw [hws];exact (alK h)
 have hQZ:∀ b,b < s10.heap.size→b < s11.heap.size:=fun b h => by omega
 replace yA:=eqE hws (eqA yA zA);replace zA:=hQZ _ zA;clear hQC hQZ;have yX:=by0 (b:=X) hws hdX;have hM:=bf0 (b:=X) hws hdX;have fX8:=hM 8;clear hM;have zX:X < s11.heap.size:=by omega
 have lX:w.heap.size≤X:=by have:=hBo.size;omega
 replace LA:=eqL (P:=Tryz.prog) HK19 rfl yA;have LX:=eqL (P:=Tryz.prog) HK19 rfl yX;rw [← hws];try rw [← hdX]
 clear hBo;clear hws hsz hdX;have hBo:=hBs;clear hBs
 go_upto_region 13 with (fail)
 obtain ⟨s12,hws⟩:∃ s,s=(s11.setCell ⟨X,8,none⟩ (.bool tr)):=⟨_,rfl⟩;have hBs:Below w.heap.size w s12:=by rw [hws];exact ((hBo).setCell lX _)
 have hsz:s12.heap.size=s11.heap.size:=by rw [hws];simp
 replace yA:=eqE hws (eqS yA dXA);have hq:∀ {p v},(s11.setCell ⟨X,8,none⟩ (.bool tr)).cell? p=some v→s12.cell? p=some v:=fun h => by rw [hws];exact h
 replace yX:∀ j,s12.cell? ⟨X,j,none⟩=([.int .i64 3,.int .i64 0,.int .i64 0,.int .i64 0,.bool false,.string ⟨#[]⟩,.string ⟨#[]⟩,.string ⟨#[]⟩,.bool tr,.string ⟨#[]⟩,.int .i64 0,.int .i64 0,.bool false,.bool false,.string ⟨#[]⟩,.int .i64 0,.int .i64 0,.bool false,.bool false]:List Value)[j]?:=eqE hws (eqI yX (of_decide_eq_true rfl));clear hq;have hQF:∀ {p x},s11.frozen? p=x→s12.frozen? p=x:=fun h => by rw [hws];simpa [go_sem] using h
 replace fX8:=hQF fX8;clear hQF;replace zA:A < s12.heap.size:=by omega
 replace zX:X < s12.heap.size:=by omega
 replace LA:=eqL (P:=Tryz.prog) HK19 rfl yA;replace LX:=eqL (P:=Tryz.prog) HK19 rfl yX;rw [← hws];clear hBo hws hsz;have hBo:=hBs;clear hBs;go_wp2_with fail
 all_goals go_ret
 all_goals exact ⟨a0d (by simp [*]),hBo⟩
theorem c8x (o a b:Int) (qn:Bool) (qa qd x:ByteArray) (tr:Bool) (rs:ByteArray) (rc rr:Int) (rf rg:Bool) (ts:ByteArray) (tc tt:Int) (tf tg:Bool) (w:World) (hf:Fits ⟨4,o,a,b,qn,qa,qd,x,tr,⟨rs,rc,rr,rf,rg⟩,⟨ts,tc,tt,tf,tg⟩⟩) :
  Calls Tryz.prog 30 #[.agg #[.int .i64 4,.int .i64 o,.int .i64 a,.int .i64 b,.bool qn,.string qa,.string qd,.string x,.bool tr,.string rs,.int .i64 rc,.int .i64 rr,.bool rf,.bool rg,.string ts,.int .i64 tc,.int .i64 tt,.bool tf,.bool tg]] w fun e w' => e=.returned (.bool (a1x ⟨4,o,a,b,qn,qa,qd,x,tr,⟨rs,rc,rr,rf,rg⟩,⟨ts,tc,tt,tf,tg⟩⟩))∧Below w.heap.size w w':=by
 obtain ⟨Rs,hRs⟩:∃ Rs,Rs=a1x ⟨4,o,a,b,qn,qa,qd,x,tr,⟨rs,rc,rr,rf,rg⟩,⟨ts,tc,tt,tf,tg⟩⟩:=⟨_,rfl⟩;rw [← hRs];unfold a1x at hRs;obtain ⟨h1,h2,h3,h4,h5⟩:=hf;dsimp only at *;have hud:undef=Value.tuple #[]:=rfl;obtain ⟨K19,hz19,HK19⟩:=a0q;have hb:a0s ⟨4,o,a,b,qn,qa,qd,x,tr,⟨rs,rc,rr,rf,rg⟩,⟨ts,tc,tt,tf,tg⟩⟩=⟨4,o,0,0,false,⟨#[]⟩,⟨#[]⟩,⟨#[]⟩,false,rf0,rf0⟩:=rfl;have hE:∀ w,Sem.run Tryz.prog (binOp .eql 30 (.agg #[.int .i64 4,.int .i64 o,.int .i64 a,.int .i64 b,.bool qn,.string qa,.string qd,.string x,.bool tr,.string rs,.int .i64 rc,.int .i64 rr,.bool rf,.bool rg,.string ts,.int .i64 tc,.int .i64 tt,.bool tf,.bool tg]) (.agg #[.int .i64 4,.int .i64 o,.int .i64 0,.int .i64 0,.bool false,.string ⟨#[]⟩,.string ⟨#[]⟩,.string ⟨#[]⟩,.bool false,.string ⟨#[]⟩,.int .i64 0,.int .i64 0,.bool false,.bool false,.string ⟨#[]⟩,.int .i64 0,.int .i64 0,.bool false,.bool false])) w=.ok (.bool (a2r ⟨4,o,a,b,qn,qa,qd,x,tr,⟨rs,rc,rr,rf,rg⟩,⟨ts,tc,tt,tf,tg⟩⟩ (a0s ⟨4,o,a,b,qn,qa,qd,x,tr,⟨rs,rc,rr,rf,rg⟩,⟨ts,tc,tt,tf,tg⟩⟩))) w:=fun w => by rw [hb];exact a1b ⟨4,o,a,b,qn,qa,qd,x,tr,⟨rs,rc,rr,rf,rg⟩,⟨ts,tc,tt,tf,tg⟩⟩ ⟨4,o,0,0,false,⟨#[]⟩,⟨#[]⟩,⟨#[]⟩,false,rf0,rf0⟩ w
 clear hb;generalize a2r ⟨4,o,a,b,qn,qa,qd,x,tr,⟨rs,rc,rr,rf,rg⟩,⟨ts,tc,tt,tf,tg⟩⟩ (a0s ⟨4,o,a,b,qn,qa,qd,x,tr,⟨rs,rc,rr,rf,rg⟩,⟨ts,tc,tt,tf,tg⟩⟩)=z at *;rw [show a4i ⟨4,o,a,b,qn,qa,qd,x,tr,⟨rs,rc,rr,rf,rg⟩,⟨ts,tc,tt,tf,tg⟩⟩=(decide (1≤o) && decide (o≤7)) from rfl] at hRs;clear h1 h2 h3 h4 h5;have HRs:=zh hRs;clear hRs;go_enter Tryz.func30,Tryz.ntmps30
 go_upto_region 1 with (fail)
 obtain ⟨s13,hws⟩:∃ s,s=(w.alloc (.cells #[.int .i64 4,.int .i64 o,.int .i64 a,.int .i64 b,.bool qn,.string qa,.string qd,.string x,.bool tr,.string rs,.int .i64 rc,.int .i64 rr,.bool rf,.bool rg,.string ts,.int .i64 tc,.int .i64 tt,.bool tf,.bool tg] 30)):=⟨_,rfl⟩;have hBs:=bs1 (Below.refl w.heap.size w) hws;obtain ⟨A,hdA⟩:∃ b,b=w.heap.size:=⟨_,rfl⟩;have hsz:s13.heap.size=w.heap.size+1:=by rw [hws];simp
 have yA:=by0 (b:=A) hws hdA;have zA:A < s13.heap.size:=by omega
 have lA:w.heap.size≤A:=by omega
 have LA:=eqL (P:=Tryz.prog) HK19 rfl yA;rw [← hws];try rw [← hdA]
 clear hws hsz hdA;have hBo:=hBs;clear hBs
 go_upto_region 2 with (refine a0c rfl _ _ rfl rfl _ _ _ rfl rfl rfl (by rfl) (by rfl) (by rfl) ?_)
 obtain ⟨s14,hws⟩:∃ s,s=(s13.alloc (.cells #[.int .i64 4,.int .i64 0,.int .i64 0,.int .i64 0,.bool false,.string ⟨#[]⟩,.string ⟨#[]⟩,.string ⟨#[]⟩,.bool false,.string ⟨#[]⟩,.int .i64 0,.int .i64 0,.bool false,.bool false,.string ⟨#[]⟩,.int .i64 0,.int .i64 0,.bool false,.bool false] 30)):=⟨_,rfl⟩;have hBs:=bs1 hBo hws;obtain ⟨X,hdX⟩:∃ b,b=s13.heap.size:=⟨_,rfl⟩;have hsz:s14.heap.size=s13.heap.size+1:=by rw [hws];simp
 have dXA:X≠A:=by omega
 have hQC:∀ p v,s13.cell? p=some v→s14.cell? p=some v:=fun p v h => by rw [hws];exact (alK h)
 have hQZ:∀ b,b < s13.heap.size→b < s14.heap.size:=fun b h => by omega
 replace yA:=eqE hws (eqA yA zA);replace zA:=hQZ _ zA;clear hQC hQZ;have yX:=by0 (b:=X) hws hdX;have hM:=bf0 (b:=X) hws hdX;have fX1:=hM 1;clear hM;have zX:X < s14.heap.size:=by omega
 have lX:w.heap.size≤X:=by have:=hBo.size;omega
 replace LA:=eqL (P:=Tryz.prog) HK19 rfl yA;have LX:=eqL (P:=Tryz.prog) HK19 rfl yX;rw [← hws];try rw [← hdX]
 clear hBo;clear hws hsz hdX;have hBo:=hBs;clear hBs
 go_upto_region 16 with (fail)
 obtain ⟨s15,hws⟩:∃ s,s=(s14.setCell ⟨X,1,none⟩ (.int .i64 o)):=⟨_,rfl⟩;have hBs:Below w.heap.size w s15:=by rw [hws];exact ((hBo).setCell lX _)
 have hsz:s15.heap.size=s14.heap.size:=by rw [hws];simp
 replace yA:=eqE hws (eqS yA dXA);have hq:∀ {p v},(s14.setCell ⟨X,1,none⟩ (.int .i64 o)).cell? p=some v→s15.cell? p=some v:=fun h => by rw [hws];exact h
 replace yX:∀ j,s15.cell? ⟨X,j,none⟩=([.int .i64 4,.int .i64 o,.int .i64 0,.int .i64 0,.bool false,.string ⟨#[]⟩,.string ⟨#[]⟩,.string ⟨#[]⟩,.bool false,.string ⟨#[]⟩,.int .i64 0,.int .i64 0,.bool false,.bool false,.string ⟨#[]⟩,.int .i64 0,.int .i64 0,.bool false,.bool false]:List Value)[j]?:=eqE hws (eqI yX (of_decide_eq_true rfl));clear hq;have hQF:∀ {p x},s14.frozen? p=x→s15.frozen? p=x:=fun h => by rw [hws];simpa [go_sem] using h
 replace fX1:=hQF fX1;clear hQF;replace zA:A < s15.heap.size:=by omega
 replace zX:X < s15.heap.size:=by omega
 replace LA:=eqL (P:=Tryz.prog) HK19 rfl yA;replace LX:=eqL (P:=Tryz.prog) HK19 rfl yX;rw [← hws];clear hBo hws hsz;have hBo:=hBs;clear hBs;have hRs:=HRs.out;clear HRs
 cases z with
 | false =>
  rw [Bool.and_false] at hRs;go_wp2_with fail
  all_goals go_ret
  all_goals exact ⟨a0d (by simp [*]),hBo⟩
 | true =>
  rw [Bool.and_true] at hRs;by_cases g1:1≤o
  ·
   by_cases g2:o≤7
   ·
    rw [decide_eq_true g1,decide_eq_true g2,Bool.and_self] at hRs;go_wp2_with fail
    all_goals go_ret
    all_goals exact ⟨a0d (by simp [*]),hBo⟩
   ·
    rw [decide_eq_true g1,decide_eq_false g2,Bool.true_and] at hRs;go_wp2_with fail
    all_goals go_ret
    all_goals exact ⟨a0d (by simp [*]),hBo⟩
  ·
   rw [decide_eq_false g1,Bool.false_and] at hRs;go_wp2_with fail
   all_goals go_ret
   all_goals exact ⟨a0d (by simp [*]),hBo⟩
theorem c8y (o a b:Int) (qn:Bool) (qa qd x:ByteArray) (tr:Bool) (rs:ByteArray) (rc rr:Int) (rf rg:Bool) (ts:ByteArray) (tc tt:Int) (tf tg:Bool) (w:World) (hf:Fits ⟨5,o,a,b,qn,qa,qd,x,tr,⟨rs,rc,rr,rf,rg⟩,⟨ts,tc,tt,tf,tg⟩⟩) :
  Calls Tryz.prog 30 #[.agg #[.int .i64 5,.int .i64 o,.int .i64 a,.int .i64 b,.bool qn,.string qa,.string qd,.string x,.bool tr,.string rs,.int .i64 rc,.int .i64 rr,.bool rf,.bool rg,.string ts,.int .i64 tc,.int .i64 tt,.bool tf,.bool tg]] w fun e w' => e=.returned (.bool (a1x ⟨5,o,a,b,qn,qa,qd,x,tr,⟨rs,rc,rr,rf,rg⟩,⟨ts,tc,tt,tf,tg⟩⟩))∧Below w.heap.size w w':=by
 obtain ⟨Rs,hRs⟩:∃ Rs,Rs=a1x ⟨5,o,a,b,qn,qa,qd,x,tr,⟨rs,rc,rr,rf,rg⟩,⟨ts,tc,tt,tf,tg⟩⟩:=⟨_,rfl⟩;rw [← hRs];unfold a1x at hRs;obtain ⟨h1,h2,h3,h4,h5⟩:=hf;dsimp only at *;have hud:undef=Value.tuple #[]:=rfl;obtain ⟨K19,hz19,HK19⟩:=a0q;have hb:a0s ⟨5,o,a,b,qn,qa,qd,x,tr,⟨rs,rc,rr,rf,rg⟩,⟨ts,tc,tt,tf,tg⟩⟩=⟨5,0,0,0,false,⟨#[]⟩,⟨#[]⟩,⟨#[]⟩,false,⟨rs,rc,rr,rf,rg⟩,rf0⟩:=rfl;have hE:∀ w,Sem.run Tryz.prog (binOp .eql 30 (.agg #[.int .i64 5,.int .i64 o,.int .i64 a,.int .i64 b,.bool qn,.string qa,.string qd,.string x,.bool tr,.string rs,.int .i64 rc,.int .i64 rr,.bool rf,.bool rg,.string ts,.int .i64 tc,.int .i64 tt,.bool tf,.bool tg]) (.agg #[.int .i64 5,.int .i64 0,.int .i64 0,.int .i64 0,.bool false,.string ⟨#[]⟩,.string ⟨#[]⟩,.string ⟨#[]⟩,.bool false,.string rs,.int .i64 rc,.int .i64 rr,.bool rf,.bool rg,.string ⟨#[]⟩,.int .i64 0,.int .i64 0,.bool false,.bool false])) w=.ok (.bool (a2r ⟨5,o,a,b,qn,qa,qd,x,tr,⟨rs,rc,rr,rf,rg⟩,⟨ts,tc,tt,tf,tg⟩⟩ (a0s ⟨5,o,a,b,qn,qa,qd,x,tr,⟨rs,rc,rr,rf,rg⟩,⟨ts,tc,tt,tf,tg⟩⟩))) w:=fun w => by rw [hb];exact a1b ⟨5,o,a,b,qn,qa,qd,x,tr,⟨rs,rc,rr,rf,rg⟩,⟨ts,tc,tt,tf,tg⟩⟩ ⟨5,0,0,0,false,⟨#[]⟩,⟨#[]⟩,⟨#[]⟩,false,⟨rs,rc,rr,rf,rg⟩,rf0⟩ w
 clear hb;generalize a2r ⟨5,o,a,b,qn,qa,qd,x,tr,⟨rs,rc,rr,rf,rg⟩,⟨ts,tc,tt,tf,tg⟩⟩ (a0s ⟨5,o,a,b,qn,qa,qd,x,tr,⟨rs,rc,rr,rf,rg⟩,⟨ts,tc,tt,tf,tg⟩⟩)=z at *;rw [show a4i ⟨5,o,a,b,qn,qa,qd,x,tr,⟨rs,rc,rr,rf,rg⟩,⟨ts,tc,tt,tf,tg⟩⟩=a8g rs rc rr from rfl] at hRs;have hC:=fun w => a6m ⟨rs,rc,rr,rf,rg⟩ (a8g rs rc rr) w (by show rs.size≤maxLen;unfold maxLen;omega) rfl
 generalize a8g rs rc rr=y at *;have HC:=zh hC;clear hC h1 h2 h3 h4 h5;have HRs:=zh hRs;clear hRs;go_enter Tryz.func30,Tryz.ntmps30
 go_upto_region 1 with (fail)
 obtain ⟨s16,hws⟩:∃ s,s=(w.alloc (.cells #[.int .i64 5,.int .i64 o,.int .i64 a,.int .i64 b,.bool qn,.string qa,.string qd,.string x,.bool tr,.string rs,.int .i64 rc,.int .i64 rr,.bool rf,.bool rg,.string ts,.int .i64 tc,.int .i64 tt,.bool tf,.bool tg] 30)):=⟨_,rfl⟩;have hBs:=bs1 (Below.refl w.heap.size w) hws;obtain ⟨A,hdA⟩:∃ b,b=w.heap.size:=⟨_,rfl⟩;have hsz:s16.heap.size=w.heap.size+1:=by rw [hws];simp
 have yA:=by0 (b:=A) hws hdA;have zA:A < s16.heap.size:=by omega
 have lA:w.heap.size≤A:=by omega
 have LA:=eqL (P:=Tryz.prog) HK19 rfl yA;rw [← hws];try rw [← hdA]
 clear hws hsz hdA;have hBo:=hBs;clear hBs
 go_upto_region 2 with (refine a0c rfl _ _ rfl rfl _ _ _ rfl rfl rfl (by rfl) (by rfl) (by rfl) ?_)
 obtain ⟨s17,hws⟩:∃ s,s=(s16.alloc (.cells #[.int .i64 5,.int .i64 0,.int .i64 0,.int .i64 0,.bool false,.string ⟨#[]⟩,.string ⟨#[]⟩,.string ⟨#[]⟩,.bool false,.string ⟨#[]⟩,.int .i64 0,.int .i64 0,.bool false,.bool false,.string ⟨#[]⟩,.int .i64 0,.int .i64 0,.bool false,.bool false] 30)):=⟨_,rfl⟩;have hBs:=bs1 hBo hws;obtain ⟨X,hdX⟩:∃ b,b=s16.heap.size:=⟨_,rfl⟩;have hsz:s17.heap.size=s16.heap.size+1:=by rw [hws];simp
 have dXA:X≠A:=by omega
 have hQC:∀ p v,s16.cell? p=some v→s17.cell? p=some v:=fun p v h => by rw [hws];exact (alK h)
 have hQZ:∀ b,b < s16.heap.size→b < s17.heap.size:=fun b h => by omega
 replace yA:=eqE hws (eqA yA zA);replace zA:=hQZ _ zA;clear hQC hQZ;have yX:=by0 (b:=X) hws hdX;have hM:=bf0 (b:=X) hws hdX;have fX9:=hM 9;have fX10:=hM 10;have fX11:=hM 11;have fX12:=hM 12;have fX13:=hM 13;clear hM;have zX:X < s17.heap.size:=by omega
 have lX:w.heap.size≤X:=by have:=hBo.size;omega
 replace LA:=eqL (P:=Tryz.prog) HK19 rfl yA;have LX:=eqL (P:=Tryz.prog) HK19 rfl yX;rw [← hws];try rw [← hdX]
 clear hBo;clear hws hsz hdX;have hBo:=hBs;clear hBs
 go_upto_region 19 with (fail)
 obtain ⟨s18,hws⟩:∃ s,s=(((((s17.setCell ⟨X,9,none⟩ (.string rs)).setCell ⟨X,10,none⟩ (.int .i64 rc)).setCell ⟨X,11,none⟩ (.int .i64 rr)).setCell ⟨X,12,none⟩ (.bool rf)).setCell ⟨X,13,none⟩ (.bool rg)):=⟨_,rfl⟩;have hBs:Below w.heap.size w s18:=by rw [hws];exact ((((((hBo).setCell lX _).setCell lX _).setCell lX _).setCell lX _).setCell lX _)
 have hsz:s18.heap.size=s17.heap.size:=by rw [hws];simp
 replace yA:=eqE hws (eqS (eqS (eqS (eqS (eqS yA dXA) dXA) dXA) dXA) dXA);have hq:∀ {p v},(((((s17.setCell ⟨X,9,none⟩ (.string rs)).setCell ⟨X,10,none⟩ (.int .i64 rc)).setCell ⟨X,11,none⟩ (.int .i64 rr)).setCell ⟨X,12,none⟩ (.bool rf)).setCell ⟨X,13,none⟩ (.bool rg)).cell? p=some v→s18.cell? p=some v:=fun h => by rw [hws];exact h
 replace yX:∀ j,s18.cell? ⟨X,j,none⟩=([.int .i64 5,.int .i64 0,.int .i64 0,.int .i64 0,.bool false,.string ⟨#[]⟩,.string ⟨#[]⟩,.string ⟨#[]⟩,.bool false,.string rs,.int .i64 rc,.int .i64 rr,.bool rf,.bool rg,.string ⟨#[]⟩,.int .i64 0,.int .i64 0,.bool false,.bool false]:List Value)[j]?:=eqE hws (eqI (eqI (eqI (eqI (eqI yX (of_decide_eq_true rfl)) (of_decide_eq_true rfl)) (of_decide_eq_true rfl)) (of_decide_eq_true rfl)) (of_decide_eq_true rfl));clear hq;have hQF:∀ {p x},s17.frozen? p=x→s18.frozen? p=x:=fun h => by rw [hws];simpa [go_sem] using h
 replace fX9:=hQF fX9;replace fX10:=hQF fX10;replace fX11:=hQF fX11;replace fX12:=hQF fX12;replace fX13:=hQF fX13;clear hQF;replace zA:A < s18.heap.size:=by omega
 replace zX:X < s18.heap.size:=by omega
 replace LA:=eqL (P:=Tryz.prog) HK19 rfl yA;replace LX:=eqL (P:=Tryz.prog) HK19 rfl yX;rw [← hws];clear hBo hws hsz;have hBo:=hBs;clear hBs;have hRs:=HRs.out;clear HRs
 cases z with
 | false =>
  rw [Bool.and_false] at hRs;clear HC;go_wp2_with fail
  all_goals go_ret
  all_goals exact ⟨a0d (by simp [*]),hBo⟩
 | true =>
  rw [Bool.and_true] at hRs;go_wp2_with fail;refine (HC.out _).mono ?_;rintro e s19 ⟨rfl,hb⟩;replace yA:=eqB hb yA zA;replace zA:=zHl hb zA;replace yX:=eqB hb yX zX;replace fX9:=a0g hb fX9 zX;replace fX10:=a0g hb fX10 zX;replace fX11:=a0g hb fX11 zX;replace fX12:=a0g hb fX12 zX;replace fX13:=a0g hb fX13 zX;replace zX:=zHl hb zX;replace hBo:=hBo.trans (hb.mono hBo.size);clear hb;replace LA:=eqL (P:=Tryz.prog) HK19 rfl yA;replace LX:=eqL (P:=Tryz.prog) HK19 rfl yX;go_wp2_with fail
  all_goals go_ret
  all_goals exact ⟨a0d (by simp [*]),hBo⟩
end Go.Proofs.YtjfkbeanbbeloaaGreatDoor
