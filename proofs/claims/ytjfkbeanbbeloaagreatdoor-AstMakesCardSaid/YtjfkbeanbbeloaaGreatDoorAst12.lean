import Derived.Test.YtjfkbeanbbeloaaGreatDoorAst10
set_option maxHeartbeats 16000000
set_option maxRecDepth 100000
namespace Go.Proofs.YtjfkbeanbbeloaaGreatDoor
open Go.RowKit Go.Shelf
set_option linter.unusedSimpArgs false
set_option linter.unusedVariables false
theorem c8z (o a b:Int) (qn:Bool) (qa qd x:ByteArray) (tr:Bool) (rs:ByteArray) (rc rr:Int) (rf rg:Bool) (ts:ByteArray) (tc tt:Int) (tf tg:Bool) (w:World) (hf:Fits ⟨7,o,a,b,qn,qa,qd,x,tr,⟨rs,rc,rr,rf,rg⟩,⟨ts,tc,tt,tf,tg⟩⟩) :
  Calls Tryz.prog 30 #[.agg #[.int .i64 7,.int .i64 o,.int .i64 a,.int .i64 b,.bool qn,.string qa,.string qd,.string x,.bool tr,.string rs,.int .i64 rc,.int .i64 rr,.bool rf,.bool rg,.string ts,.int .i64 tc,.int .i64 tt,.bool tf,.bool tg]] w fun e w' => e=.returned (.bool (a1x ⟨7,o,a,b,qn,qa,qd,x,tr,⟨rs,rc,rr,rf,rg⟩,⟨ts,tc,tt,tf,tg⟩⟩))∧Below w.heap.size w w':=by
 obtain ⟨R,hR⟩:∃ R,R=a1x ⟨7,o,a,b,qn,qa,qd,x,tr,⟨rs,rc,rr,rf,rg⟩,⟨ts,tc,tt,tf,tg⟩⟩:=⟨_,rfl⟩;rw [← hR];unfold a1x at hR;obtain ⟨h1,h2,h3,h4,h5⟩:=hf;dsimp only at *;have hud:undef=Value.tuple #[]:=rfl;obtain ⟨K19,hz19,HK19⟩:=a0q;have hb:a0s ⟨7,o,a,b,qn,qa,qd,x,tr,⟨rs,rc,rr,rf,rg⟩,⟨ts,tc,tt,tf,tg⟩⟩=⟨7,o,a,0,false,⟨#[]⟩,⟨#[]⟩,⟨#[]⟩,false,rf0,rf0⟩:=rfl;have hE:∀ w,Sem.run Tryz.prog (binOp .eql 30 (.agg #[.int .i64 7,.int .i64 o,.int .i64 a,.int .i64 b,.bool qn,.string qa,.string qd,.string x,.bool tr,.string rs,.int .i64 rc,.int .i64 rr,.bool rf,.bool rg,.string ts,.int .i64 tc,.int .i64 tt,.bool tf,.bool tg]) (.agg #[.int .i64 7,.int .i64 o,.int .i64 a,.int .i64 0,.bool false,.string ⟨#[]⟩,.string ⟨#[]⟩,.string ⟨#[]⟩,.bool false,.string ⟨#[]⟩,.int .i64 0,.int .i64 0,.bool false,.bool false,.string ⟨#[]⟩,.int .i64 0,.int .i64 0,.bool false,.bool false])) w=.ok (.bool (a2r ⟨7,o,a,b,qn,qa,qd,x,tr,⟨rs,rc,rr,rf,rg⟩,⟨ts,tc,tt,tf,tg⟩⟩ (a0s ⟨7,o,a,b,qn,qa,qd,x,tr,⟨rs,rc,rr,rf,rg⟩,⟨ts,tc,tt,tf,tg⟩⟩))) w:=fun w => by rw [hb];exact a1b ⟨7,o,a,b,qn,qa,qd,x,tr,⟨rs,rc,rr,rf,rg⟩,⟨ts,tc,tt,tf,tg⟩⟩ ⟨7,o,a,0,false,⟨#[]⟩,⟨#[]⟩,⟨#[]⟩,false,rf0,rf0⟩ w
 clear hb;generalize a2r ⟨7,o,a,b,qn,qa,qd,x,tr,⟨rs,rc,rr,rf,rg⟩,⟨ts,tc,tt,tf,tg⟩⟩ (a0s ⟨7,o,a,b,qn,qa,qd,x,tr,⟨rs,rc,rr,rf,rg⟩,⟨ts,tc,tt,tf,tg⟩⟩)=z at *;rw [show a4i ⟨7,o,a,b,qn,qa,qd,x,tr,⟨rs,rc,rr,rf,rg⟩,⟨ts,tc,tt,tf,tg⟩⟩=decide (lvI 7 o < 8) from rfl] at hR;clear h1 h2 h3 h4 h5;have HR:=zh hR;clear hR;go_enter Tryz.func30,Tryz.ntmps30
 go_upto_region 1 with (fail)
 obtain ⟨s1,hws⟩:∃ s,s=(w.alloc (.cells #[.int .i64 7,.int .i64 o,.int .i64 a,.int .i64 b,.bool qn,.string qa,.string qd,.string x,.bool tr,.string rs,.int .i64 rc,.int .i64 rr,.bool rf,.bool rg,.string ts,.int .i64 tc,.int .i64 tt,.bool tf,.bool tg] 30)):=⟨_,rfl⟩;have hBs:=bs1 (Below.refl w.heap.size w) hws;obtain ⟨A,hdA⟩:∃ b,b=w.heap.size:=⟨_,rfl⟩;have hsz:s1.heap.size=w.heap.size+1:=by rw [hws];simp
 have yA:=by0 (b:=A) hws hdA;have zA:A < s1.heap.size:=by omega
 have lA:w.heap.size≤A:=by omega
 have LA:=eqL (P:=Tryz.prog) HK19 rfl yA;rw [← hws];try rw [← hdA]
 clear hws hsz hdA;have hBo:=hBs;clear hBs
 go_upto_region 2 with (refine a0c rfl _ _ rfl rfl _ _ _ rfl rfl rfl (by rfl) (by rfl) (by rfl) ?_)
 obtain ⟨s2,hws⟩:∃ s,s=(s1.alloc (.cells #[.int .i64 7,.int .i64 0,.int .i64 0,.int .i64 0,.bool false,.string ⟨#[]⟩,.string ⟨#[]⟩,.string ⟨#[]⟩,.bool false,.string ⟨#[]⟩,.int .i64 0,.int .i64 0,.bool false,.bool false,.string ⟨#[]⟩,.int .i64 0,.int .i64 0,.bool false,.bool false] 30)):=⟨_,rfl⟩;have hBs:=bs1 hBo hws;obtain ⟨X,hdX⟩:∃ b,b=s1.heap.size:=⟨_,rfl⟩;have hsz:s2.heap.size=s1.heap.size+1:=by rw [hws];simp
 have dXA:X≠A:=by omega
 have hQC:∀ p v,s1.cell? p=some v→s2.cell? p=some v:=fun p v h => by rw [hws];exact (alK h)
 have hQZ:∀ b,b < s1.heap.size→b < s2.heap.size:=fun b h => by omega
 replace yA:=eqE hws (eqA yA zA);replace zA:=hQZ _ zA;clear hQC hQZ;have yX:=by0 (b:=X) hws hdX;have hM:=bf0 (b:=X) hws hdX;have fX1:=hM 1;have fX2:=hM 2;clear hM;have zX:X < s2.heap.size:=by omega
 have lX:w.heap.size≤X:=by have:=hBo.size;omega
 replace LA:=eqL (P:=Tryz.prog) HK19 rfl yA;have LX:=eqL (P:=Tryz.prog) HK19 rfl yX;rw [← hws];try rw [← hdX]
 clear hBo;clear hws hsz hdX;have hBo:=hBs;clear hBs
 go_upto_region 28 with (fail)
 obtain ⟨s3,hws⟩:∃ s,s=((s2.setCell ⟨X,1,none⟩ (.int .i64 o)).setCell ⟨X,2,none⟩ (.int .i64 a)):=⟨_,rfl⟩;have hBs:Below w.heap.size w s3:=by rw [hws];exact (((hBo).setCell lX _).setCell lX _)
 have hsz:s3.heap.size=s2.heap.size:=by rw [hws];simp
 replace yA:=eqE hws (eqS (eqS yA dXA) dXA);have hq:∀ {p v},((s2.setCell ⟨X,1,none⟩ (.int .i64 o)).setCell ⟨X,2,none⟩ (.int .i64 a)).cell? p=some v→s3.cell? p=some v:=fun h => by rw [hws];exact h
 replace yX:∀ j,s3.cell? ⟨X,j,none⟩=([.int .i64 7,.int .i64 o,.int .i64 a,.int .i64 0,.bool false,.string ⟨#[]⟩,.string ⟨#[]⟩,.string ⟨#[]⟩,.bool false,.string ⟨#[]⟩,.int .i64 0,.int .i64 0,.bool false,.bool false,.string ⟨#[]⟩,.int .i64 0,.int .i64 0,.bool false,.bool false]:List Value)[j]?:=eqE hws (eqI (eqI yX (of_decide_eq_true rfl)) (of_decide_eq_true rfl));clear hq;have hQF:∀ {p x},s2.frozen? p=x→s3.frozen? p=x:=fun h => by rw [hws];simpa [go_sem] using h
 replace fX1:=hQF fX1;replace fX2:=hQF fX2;clear hQF;replace zA:A < s3.heap.size:=by omega
 replace zX:X < s3.heap.size:=by omega
 replace LA:=eqL (P:=Tryz.prog) HK19 rfl yA;replace LX:=eqL (P:=Tryz.prog) HK19 rfl yX;rw [← hws];clear hBo hws hsz;have hBo:=hBs;clear hBs;have hR:=HR.out;clear HR
 cases z with
 | false =>
  rw [Bool.and_false] at hR;go_wp2_with fail
  all_goals go_ret
  all_goals exact ⟨a0d (by simp [*]),hBo⟩
 | true =>
  rw [Bool.and_true] at hR;by_cases g1:o=13
  ·
   subst g1;rw [show decide (lvI 7 13 < 8)=true from rfl] at hR;go_wp2_with fail
   all_goals go_ret
   all_goals exact ⟨a0d (by simp [*]),hBo⟩
  ·
   have g1b:(o == 13)=false:=by simpa using g1
   by_cases g2:o=14
   ·
    subst g2;rw [show decide (lvI 7 14 < 8)=true from rfl] at hR;go_wp2_with fail
    all_goals go_ret
    all_goals exact ⟨a0d (by simp [*]),hBo⟩
   ·
    have g2b:(o == 14)=false:=by simpa using g2
    have hl:decide (lvI 7 o < 8)=false:=by unfold lvI;simp [g1,g2]
    rw [hl] at hR;clear hl g1 g2;go_wp2_with fail
    all_goals go_ret
    all_goals exact ⟨a0d (by simp [*]),hBo⟩
theorem c9a (o a b:Int) (qn:Bool) (qa qd x:ByteArray) (tr:Bool) (rs:ByteArray) (rc rr:Int) (rf rg:Bool) (ts:ByteArray) (tc tt:Int) (tf tg:Bool) (w:World) (hf:Fits ⟨8,o,a,b,qn,qa,qd,x,tr,⟨rs,rc,rr,rf,rg⟩,⟨ts,tc,tt,tf,tg⟩⟩) :
  Calls Tryz.prog 30 #[.agg #[.int .i64 8,.int .i64 o,.int .i64 a,.int .i64 b,.bool qn,.string qa,.string qd,.string x,.bool tr,.string rs,.int .i64 rc,.int .i64 rr,.bool rf,.bool rg,.string ts,.int .i64 tc,.int .i64 tt,.bool tf,.bool tg]] w fun e w' => e=.returned (.bool (a1x ⟨8,o,a,b,qn,qa,qd,x,tr,⟨rs,rc,rr,rf,rg⟩,⟨ts,tc,tt,tf,tg⟩⟩))∧Below w.heap.size w w':=by
 obtain ⟨R,hR⟩:∃ R,R=a1x ⟨8,o,a,b,qn,qa,qd,x,tr,⟨rs,rc,rr,rf,rg⟩,⟨ts,tc,tt,tf,tg⟩⟩:=⟨_,rfl⟩;rw [← hR];unfold a1x at hR;obtain ⟨h1,h2,h3,h4,h5⟩:=hf;dsimp only at *;have hud:undef=Value.tuple #[]:=rfl;obtain ⟨K19,hz19,HK19⟩:=a0q;have hb:a0s ⟨8,o,a,b,qn,qa,qd,x,tr,⟨rs,rc,rr,rf,rg⟩,⟨ts,tc,tt,tf,tg⟩⟩=⟨8,o,a,b,false,⟨#[]⟩,⟨#[]⟩,⟨#[]⟩,false,rf0,rf0⟩:=rfl;have hE:∀ w,Sem.run Tryz.prog (binOp .eql 30 (.agg #[.int .i64 8,.int .i64 o,.int .i64 a,.int .i64 b,.bool qn,.string qa,.string qd,.string x,.bool tr,.string rs,.int .i64 rc,.int .i64 rr,.bool rf,.bool rg,.string ts,.int .i64 tc,.int .i64 tt,.bool tf,.bool tg]) (.agg #[.int .i64 8,.int .i64 o,.int .i64 a,.int .i64 b,.bool false,.string ⟨#[]⟩,.string ⟨#[]⟩,.string ⟨#[]⟩,.bool false,.string ⟨#[]⟩,.int .i64 0,.int .i64 0,.bool false,.bool false,.string ⟨#[]⟩,.int .i64 0,.int .i64 0,.bool false,.bool false])) w=.ok (.bool (a2r ⟨8,o,a,b,qn,qa,qd,x,tr,⟨rs,rc,rr,rf,rg⟩,⟨ts,tc,tt,tf,tg⟩⟩ (a0s ⟨8,o,a,b,qn,qa,qd,x,tr,⟨rs,rc,rr,rf,rg⟩,⟨ts,tc,tt,tf,tg⟩⟩))) w:=fun w => by rw [hb];exact a1b ⟨8,o,a,b,qn,qa,qd,x,tr,⟨rs,rc,rr,rf,rg⟩,⟨ts,tc,tt,tf,tg⟩⟩ ⟨8,o,a,b,false,⟨#[]⟩,⟨#[]⟩,⟨#[]⟩,false,rf0,rf0⟩ w
 clear hb;generalize a2r ⟨8,o,a,b,qn,qa,qd,x,tr,⟨rs,rc,rr,rf,rg⟩,⟨ts,tc,tt,tf,tg⟩⟩ (a0s ⟨8,o,a,b,qn,qa,qd,x,tr,⟨rs,rc,rr,rf,rg⟩,⟨ts,tc,tt,tf,tg⟩⟩)=z at *;rw [show a4i ⟨8,o,a,b,qn,qa,qd,x,tr,⟨rs,rc,rr,rf,rg⟩,⟨ts,tc,tt,tf,tg⟩⟩=decide (lvI 8 o < 8) from rfl] at hR;clear h1 h2 h3 h4 h5;have HR:=zh hR;clear hR;go_enter Tryz.func30,Tryz.ntmps30
 go_upto_region 1 with (fail)
 obtain ⟨s4,hws⟩:∃ s,s=(w.alloc (.cells #[.int .i64 8,.int .i64 o,.int .i64 a,.int .i64 b,.bool qn,.string qa,.string qd,.string x,.bool tr,.string rs,.int .i64 rc,.int .i64 rr,.bool rf,.bool rg,.string ts,.int .i64 tc,.int .i64 tt,.bool tf,.bool tg] 30)):=⟨_,rfl⟩;have hBs:=bs1 (Below.refl w.heap.size w) hws;obtain ⟨A,hdA⟩:∃ b,b=w.heap.size:=⟨_,rfl⟩;have hsz:s4.heap.size=w.heap.size+1:=by rw [hws];simp
 have yA:=by0 (b:=A) hws hdA;have zA:A < s4.heap.size:=by omega
 have lA:w.heap.size≤A:=by omega
 have LA:=eqL (P:=Tryz.prog) HK19 rfl yA;rw [← hws];try rw [← hdA]
 clear hws hsz hdA;have hBo:=hBs;clear hBs
 go_upto_region 2 with (refine a0c rfl _ _ rfl rfl _ _ _ rfl rfl rfl (by rfl) (by rfl) (by rfl) ?_)
 obtain ⟨s5,hws⟩:∃ s,s=(s4.alloc (.cells #[.int .i64 8,.int .i64 0,.int .i64 0,.int .i64 0,.bool false,.string ⟨#[]⟩,.string ⟨#[]⟩,.string ⟨#[]⟩,.bool false,.string ⟨#[]⟩,.int .i64 0,.int .i64 0,.bool false,.bool false,.string ⟨#[]⟩,.int .i64 0,.int .i64 0,.bool false,.bool false] 30)):=⟨_,rfl⟩;have hBs:=bs1 hBo hws;obtain ⟨X,hdX⟩:∃ b,b=s4.heap.size:=⟨_,rfl⟩;have hsz:s5.heap.size=s4.heap.size+1:=by rw [hws];simp
 have dXA:X≠A:=by omega
 have hQC:∀ p v,s4.cell? p=some v→s5.cell? p=some v:=fun p v h => by rw [hws];exact (alK h)
 have hQZ:∀ b,b < s4.heap.size→b < s5.heap.size:=fun b h => by omega
 replace yA:=eqE hws (eqA yA zA);replace zA:=hQZ _ zA;clear hQC hQZ;have yX:=by0 (b:=X) hws hdX;have hM:=bf0 (b:=X) hws hdX;have fX1:=hM 1;have fX2:=hM 2;have fX3:=hM 3;clear hM;have zX:X < s5.heap.size:=by omega
 have lX:w.heap.size≤X:=by have:=hBo.size;omega
 replace LA:=eqL (P:=Tryz.prog) HK19 rfl yA;have LX:=eqL (P:=Tryz.prog) HK19 rfl yX;rw [← hws];try rw [← hdX]
 clear hBo;clear hws hsz hdX;have hBo:=hBs;clear hBs
 go_upto_region 33 with (fail)
 obtain ⟨s6,hws⟩:∃ s,s=(((s5.setCell ⟨X,1,none⟩ (.int .i64 o)).setCell ⟨X,2,none⟩ (.int .i64 a)).setCell ⟨X,3,none⟩ (.int .i64 b)):=⟨_,rfl⟩;have hBs:Below w.heap.size w s6:=by rw [hws];exact ((((hBo).setCell lX _).setCell lX _).setCell lX _)
 have hsz:s6.heap.size=s5.heap.size:=by rw [hws];simp
 replace yA:=eqE hws (eqS (eqS (eqS yA dXA) dXA) dXA);have hq:∀ {p v},(((s5.setCell ⟨X,1,none⟩ (.int .i64 o)).setCell ⟨X,2,none⟩ (.int .i64 a)).setCell ⟨X,3,none⟩ (.int .i64 b)).cell? p=some v→s6.cell? p=some v:=fun h => by rw [hws];exact h
 replace yX:∀ j,s6.cell? ⟨X,j,none⟩=([.int .i64 8,.int .i64 o,.int .i64 a,.int .i64 b,.bool false,.string ⟨#[]⟩,.string ⟨#[]⟩,.string ⟨#[]⟩,.bool false,.string ⟨#[]⟩,.int .i64 0,.int .i64 0,.bool false,.bool false,.string ⟨#[]⟩,.int .i64 0,.int .i64 0,.bool false,.bool false]:List Value)[j]?:=eqE hws (eqI (eqI (eqI yX (of_decide_eq_true rfl)) (of_decide_eq_true rfl)) (of_decide_eq_true rfl));clear hq;have hQF:∀ {p x},s5.frozen? p=x→s6.frozen? p=x:=fun h => by rw [hws];simpa [go_sem] using h
 replace fX1:=hQF fX1;replace fX2:=hQF fX2;replace fX3:=hQF fX3;clear hQF;replace zA:A < s6.heap.size:=by omega
 replace zX:X < s6.heap.size:=by omega
 replace LA:=eqL (P:=Tryz.prog) HK19 rfl yA;replace LX:=eqL (P:=Tryz.prog) HK19 rfl yX;rw [← hws];clear hBo hws hsz;have hBo:=hBs;clear hBs;have hR:=HR.out;clear HR
 cases z with
 | false =>
  rw [Bool.and_false] at hR;go_wp2_with fail
  all_goals go_ret
  all_goals exact ⟨a0d (by simp [*]),hBo⟩
 | true =>
  rw [Bool.and_true] at hR
  have hl:decide (lvI 8 o < 8)=(decide (1≤o) && decide (o≤12)):=by
   rw [Bool.eq_iff_iff,Bool.and_eq_true,decide_eq_true_eq,decide_eq_true_eq,decide_eq_true_eq];unfold lvI;constructor
   ·
    intro h
    (repeat' split at h) <;> omega
   ·
    intro h
    (repeat' split) <;> omega
  rw [hl] at hR;clear hl;by_cases g1:1≤o
  ·
   by_cases g2:o≤12
   ·
    rw [decide_eq_true g1,decide_eq_true g2,Bool.and_self] at hR;go_wp2_with fail
    all_goals go_ret
    all_goals exact ⟨a0d (by simp [*]),hBo⟩
   ·
    rw [decide_eq_true g1,decide_eq_false g2,Bool.true_and] at hR;go_wp2_with fail
    all_goals go_ret
    all_goals exact ⟨a0d (by simp [*]),hBo⟩
  ·
   rw [decide_eq_false g1,Bool.false_and] at hR;go_wp2_with fail
   all_goals go_ret
   all_goals exact ⟨a0d (by simp [*]),hBo⟩
theorem c9b (o a b:Int) (qn:Bool) (qa qd x:ByteArray) (tr:Bool) (rs:ByteArray) (rc rr:Int) (rf rg:Bool) (ts:ByteArray) (tc tt:Int) (tf tg:Bool) (w:World) (hf:Fits ⟨9,o,a,b,qn,qa,qd,x,tr,⟨rs,rc,rr,rf,rg⟩,⟨ts,tc,tt,tf,tg⟩⟩) :
  Calls Tryz.prog 30 #[.agg #[.int .i64 9,.int .i64 o,.int .i64 a,.int .i64 b,.bool qn,.string qa,.string qd,.string x,.bool tr,.string rs,.int .i64 rc,.int .i64 rr,.bool rf,.bool rg,.string ts,.int .i64 tc,.int .i64 tt,.bool tf,.bool tg]] w fun e w' => e=.returned (.bool (a1x ⟨9,o,a,b,qn,qa,qd,x,tr,⟨rs,rc,rr,rf,rg⟩,⟨ts,tc,tt,tf,tg⟩⟩))∧Below w.heap.size w w':=by
 obtain ⟨R,hR⟩:∃ R,R=a1x ⟨9,o,a,b,qn,qa,qd,x,tr,⟨rs,rc,rr,rf,rg⟩,⟨ts,tc,tt,tf,tg⟩⟩:=⟨_,rfl⟩;rw [← hR];unfold a1x at hR;obtain ⟨h1,h2,h3,h4,h5⟩:=hf;dsimp only at *;have hud:undef=Value.tuple #[]:=rfl;obtain ⟨K19,hz19,HK19⟩:=a0q;have hb:a0s ⟨9,o,a,b,qn,qa,qd,x,tr,⟨rs,rc,rr,rf,rg⟩,⟨ts,tc,tt,tf,tg⟩⟩=⟨9,0,a,b,false,⟨#[]⟩,⟨#[]⟩,x,false,rf0,rf0⟩:=rfl;have hE:∀ w,Sem.run Tryz.prog (binOp .eql 30 (.agg #[.int .i64 9,.int .i64 o,.int .i64 a,.int .i64 b,.bool qn,.string qa,.string qd,.string x,.bool tr,.string rs,.int .i64 rc,.int .i64 rr,.bool rf,.bool rg,.string ts,.int .i64 tc,.int .i64 tt,.bool tf,.bool tg]) (.agg #[.int .i64 9,.int .i64 0,.int .i64 a,.int .i64 b,.bool false,.string ⟨#[]⟩,.string ⟨#[]⟩,.string x,.bool false,.string ⟨#[]⟩,.int .i64 0,.int .i64 0,.bool false,.bool false,.string ⟨#[]⟩,.int .i64 0,.int .i64 0,.bool false,.bool false])) w=.ok (.bool (a2r ⟨9,o,a,b,qn,qa,qd,x,tr,⟨rs,rc,rr,rf,rg⟩,⟨ts,tc,tt,tf,tg⟩⟩ (a0s ⟨9,o,a,b,qn,qa,qd,x,tr,⟨rs,rc,rr,rf,rg⟩,⟨ts,tc,tt,tf,tg⟩⟩))) w:=fun w => by rw [hb];exact a1b ⟨9,o,a,b,qn,qa,qd,x,tr,⟨rs,rc,rr,rf,rg⟩,⟨ts,tc,tt,tf,tg⟩⟩ ⟨9,0,a,b,false,⟨#[]⟩,⟨#[]⟩,x,false,rf0,rf0⟩ w
 clear hb;generalize a2r ⟨9,o,a,b,qn,qa,qd,x,tr,⟨rs,rc,rr,rf,rg⟩,⟨ts,tc,tt,tf,tg⟩⟩ (a0s ⟨9,o,a,b,qn,qa,qd,x,tr,⟨rs,rc,rr,rf,rg⟩,⟨ts,tc,tt,tf,tg⟩⟩)=z at *;rw [show a4i ⟨9,o,a,b,qn,qa,qd,x,tr,⟨rs,rc,rr,rf,rg⟩,⟨ts,tc,tt,tf,tg⟩⟩=(decide (0≤b) && decide (b≤20) && !(decide (b=0) && !decide (a=0)) && b9e x.data.toList) from rfl] at hR;have hC:=fun w => c0v (b4b x w (by unfold maxLen;omega))
 generalize b9e x.data.toList=y at *;have HC:=zh hC;clear hC h1 h2 h3 h4 h5;have HR:=zh hR;clear hR;go_enter Tryz.func30,Tryz.ntmps30
 go_upto_region 1 with (fail)
 obtain ⟨s7,hws⟩:∃ s,s=(w.alloc (.cells #[.int .i64 9,.int .i64 o,.int .i64 a,.int .i64 b,.bool qn,.string qa,.string qd,.string x,.bool tr,.string rs,.int .i64 rc,.int .i64 rr,.bool rf,.bool rg,.string ts,.int .i64 tc,.int .i64 tt,.bool tf,.bool tg] 30)):=⟨_,rfl⟩;have hBs:=bs1 (Below.refl w.heap.size w) hws;obtain ⟨A,hdA⟩:∃ b,b=w.heap.size:=⟨_,rfl⟩;have hsz:s7.heap.size=w.heap.size+1:=by rw [hws];simp
 have yA:=by0 (b:=A) hws hdA;have zA:A < s7.heap.size:=by omega
 have lA:w.heap.size≤A:=by omega
 have LA:=eqL (P:=Tryz.prog) HK19 rfl yA;rw [← hws];try rw [← hdA]
 clear hws hsz hdA;have hBo:=hBs;clear hBs
 go_upto_region 2 with (refine a0c rfl _ _ rfl rfl _ _ _ rfl rfl rfl (by rfl) (by rfl) (by rfl) ?_)
 obtain ⟨s8,hws⟩:∃ s,s=(s7.alloc (.cells #[.int .i64 9,.int .i64 0,.int .i64 0,.int .i64 0,.bool false,.string ⟨#[]⟩,.string ⟨#[]⟩,.string ⟨#[]⟩,.bool false,.string ⟨#[]⟩,.int .i64 0,.int .i64 0,.bool false,.bool false,.string ⟨#[]⟩,.int .i64 0,.int .i64 0,.bool false,.bool false] 30)):=⟨_,rfl⟩;have hBs:=bs1 hBo hws;obtain ⟨X,hdX⟩:∃ b,b=s7.heap.size:=⟨_,rfl⟩;have hsz:s8.heap.size=s7.heap.size+1:=by rw [hws];simp
 have dXA:X≠A:=by omega
 have hQC:∀ p v,s7.cell? p=some v→s8.cell? p=some v:=fun p v h => by rw [hws];exact (alK h)
 have hQZ:∀ b,b < s7.heap.size→b < s8.heap.size:=fun b h => by omega
 replace yA:=eqE hws (eqA yA zA);replace zA:=hQZ _ zA;clear hQC hQZ;have yX:=by0 (b:=X) hws hdX;have hM:=bf0 (b:=X) hws hdX;have fX2:=hM 2;have fX3:=hM 3;have fX7:=hM 7;clear hM;have zX:X < s8.heap.size:=by omega
 have lX:w.heap.size≤X:=by have:=hBo.size;omega
 replace LA:=eqL (P:=Tryz.prog) HK19 rfl yA;have LX:=eqL (P:=Tryz.prog) HK19 rfl yX;rw [← hws];try rw [← hdX]
 clear hBo;clear hws hsz hdX;have hBo:=hBs;clear hBs
 go_upto_region 38 with (fail)
 obtain ⟨s9,hws⟩:∃ s,s=(((s8.setCell ⟨X,7,none⟩ (.string x)).setCell ⟨X,2,none⟩ (.int .i64 a)).setCell ⟨X,3,none⟩ (.int .i64 b)):=⟨_,rfl⟩;have hBs:Below w.heap.size w s9:=by rw [hws];exact ((((hBo).setCell lX _).setCell lX _).setCell lX _)
 have hsz:s9.heap.size=s8.heap.size:=by rw [hws];simp
 replace yA:=eqE hws (eqS (eqS (eqS yA dXA) dXA) dXA);have hq:∀ {p v},(((s8.setCell ⟨X,7,none⟩ (.string x)).setCell ⟨X,2,none⟩ (.int .i64 a)).setCell ⟨X,3,none⟩ (.int .i64 b)).cell? p=some v→s9.cell? p=some v:=fun h => by rw [hws];exact h
 replace yX:∀ j,s9.cell? ⟨X,j,none⟩=([.int .i64 9,.int .i64 0,.int .i64 a,.int .i64 b,.bool false,.string ⟨#[]⟩,.string ⟨#[]⟩,.string x,.bool false,.string ⟨#[]⟩,.int .i64 0,.int .i64 0,.bool false,.bool false,.string ⟨#[]⟩,.int .i64 0,.int .i64 0,.bool false,.bool false]:List Value)[j]?:=eqE hws (eqI (eqI (eqI yX (of_decide_eq_true rfl)) (of_decide_eq_true rfl)) (of_decide_eq_true rfl));clear hq;have hQF:∀ {p x},s8.frozen? p=x→s9.frozen? p=x:=fun h => by rw [hws];simpa [go_sem] using h
 replace fX2:=hQF fX2;replace fX3:=hQF fX3;replace fX7:=hQF fX7;clear hQF;replace zA:A < s9.heap.size:=by omega
 replace zX:X < s9.heap.size:=by omega
 replace LA:=eqL (P:=Tryz.prog) HK19 rfl yA;replace LX:=eqL (P:=Tryz.prog) HK19 rfl yX;rw [← hws];clear hBo hws hsz;have hBo:=hBs;clear hBs;have hR:=HR.out;clear HR
 cases z with
 | false =>
  rw [Bool.and_false] at hR;clear HC;go_wp2_with fail
  all_goals go_ret
  all_goals exact ⟨a0d (by simp [*]),hBo⟩
 | true =>
  rw [Bool.and_true] at hR
  cases y with
  | false =>
   rw [Bool.and_false] at hR;go_wp2_with fail;refine (HC.out _).mono ?_;rintro e wq ⟨rfl,rfl⟩;go_wp2_with fail
   all_goals go_ret
   all_goals exact ⟨a0d (by simp [*]),hBo⟩
  | true =>
   rw [Bool.and_true] at hR;by_cases b0:0≤b
   case neg =>
    rw [decide_eq_false b0,Bool.false_and,Bool.false_and] at hR;go_wp2_with fail;refine (HC.out _).mono ?_;rintro e wq ⟨rfl,rfl⟩;go_wp2_with fail
    all_goals go_ret
    all_goals exact ⟨a0d (by simp [*]),hBo⟩
   rw [decide_eq_true b0,Bool.true_and] at hR;by_cases b2:b≤20
   case neg =>
    rw [decide_eq_false b2,Bool.false_and] at hR;go_wp2_with fail;refine (HC.out _).mono ?_;rintro e wq ⟨rfl,rfl⟩;go_wp2_with fail
    all_goals go_ret
    all_goals exact ⟨a0d (by simp [*]),hBo⟩
   rw [decide_eq_true b2,Bool.true_and] at hR;by_cases b1:0 < b
   ·
    rw [decide_eq_false (show ¬ b=0 by omega)] at hR;go_wp2_with fail;refine (HC.out _).mono ?_;rintro e wq ⟨rfl,rfl⟩;go_wp2_with fail
    all_goals go_ret
    all_goals exact ⟨a0d (by simp [*]),hBo⟩
   ·
    obtain rfl:b=0:=by omega
    by_cases a0:a=0
    ·
     subst a0;go_wp2_with fail;refine (HC.out _).mono ?_;rintro e wq ⟨rfl,rfl⟩;go_wp2_with fail
     all_goals go_ret
     all_goals exact ⟨a0d (by simp [*]),hBo⟩
    ·
     have ha0:(a == 0)=false:=by simpa using a0
     rw [decide_eq_false a0] at hR;clear a0;go_wp2_with fail;refine (HC.out _).mono ?_;rintro e wq ⟨rfl,rfl⟩;go_wp2_with fail
     all_goals go_ret
     all_goals exact ⟨a0d (by simp [*]),hBo⟩
end Go.Proofs.YtjfkbeanbbeloaaGreatDoor
