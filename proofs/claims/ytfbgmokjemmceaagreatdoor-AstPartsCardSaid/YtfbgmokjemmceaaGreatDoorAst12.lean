import Derived.Test.YtfbgmokjemmceaaGreatDoorAst10
set_option maxHeartbeats 16000000
set_option maxRecDepth 100000
namespace Go.Proofs.YtfbgmokjemmceaaGreatDoor
open Go.RowKit Go.Shelf
set_option linter.unusedSimpArgs false
set_option linter.unusedVariables false
theorem c8z (o a b:Int) (qn:Bool) (qa qd x:ByteArray) (tr:Bool) (rs:ByteArray) (rc rr:Int) (rf rg:Bool) (ts:ByteArray) (tc tt:Int) (tf tg:Bool) (w:World) (hf:a2b ⟨7,o,a,b,qn,qa,qd,x,tr,⟨rs,rc,rr,rf,rg⟩,⟨ts,tc,tt,tf,tg⟩⟩) :
  Calls Tryz.prog 32 #[.agg #[.int .i64 7,.int .i64 o,.int .i64 a,.int .i64 b,.bool qn,.string qa,.string qd,.string x,.bool tr,.string rs,.int .i64 rc,.int .i64 rr,.bool rf,.bool rg,.string ts,.int .i64 tc,.int .i64 tt,.bool tf,.bool tg]] w fun e w' => e=.returned (.bool (a1x ⟨7,o,a,b,qn,qa,qd,x,tr,⟨rs,rc,rr,rf,rg⟩,⟨ts,tc,tt,tf,tg⟩⟩))∧Below w.heap.size w w':=by
 unfold a1x;obtain ⟨h1,h2,h3,h4,h5⟩:=hf;dsimp only at *;have hud:undef=Value.tuple #[]:=rfl;obtain ⟨K19,hz19,HK19⟩:=a0q;have hb:a0s ⟨7,o,a,b,qn,qa,qd,x,tr,⟨rs,rc,rr,rf,rg⟩,⟨ts,tc,tt,tf,tg⟩⟩=⟨7,o,a,0,false,⟨#[]⟩,⟨#[]⟩,⟨#[]⟩,false,rf0,rf0⟩:=rfl;have hE:∀ w,Sem.run Tryz.prog (binOp .eql 33 (.agg #[.int .i64 7,.int .i64 o,.int .i64 a,.int .i64 b,.bool qn,.string qa,.string qd,.string x,.bool tr,.string rs,.int .i64 rc,.int .i64 rr,.bool rf,.bool rg,.string ts,.int .i64 tc,.int .i64 tt,.bool tf,.bool tg]) (.agg #[.int .i64 7,.int .i64 o,.int .i64 a,.int .i64 0,.bool false,.string ⟨#[]⟩,.string ⟨#[]⟩,.string ⟨#[]⟩,.bool false,.string ⟨#[]⟩,.int .i64 0,.int .i64 0,.bool false,.bool false,.string ⟨#[]⟩,.int .i64 0,.int .i64 0,.bool false,.bool false])) w=.ok (.bool (a2r ⟨7,o,a,b,qn,qa,qd,x,tr,⟨rs,rc,rr,rf,rg⟩,⟨ts,tc,tt,tf,tg⟩⟩ (a0s ⟨7,o,a,b,qn,qa,qd,x,tr,⟨rs,rc,rr,rf,rg⟩,⟨ts,tc,tt,tf,tg⟩⟩))) w:=fun w => by rw [hb];exact a1b ⟨7,o,a,b,qn,qa,qd,x,tr,⟨rs,rc,rr,rf,rg⟩,⟨ts,tc,tt,tf,tg⟩⟩ ⟨7,o,a,0,false,⟨#[]⟩,⟨#[]⟩,⟨#[]⟩,false,rf0,rf0⟩ w
 clear hb;generalize a2r ⟨7,o,a,b,qn,qa,qd,x,tr,⟨rs,rc,rr,rf,rg⟩,⟨ts,tc,tt,tf,tg⟩⟩ (a0s ⟨7,o,a,b,qn,qa,qd,x,tr,⟨rs,rc,rr,rf,rg⟩,⟨ts,tc,tt,tf,tg⟩⟩)=z at *;rw [show a4i ⟨7,o,a,b,qn,qa,qd,x,tr,⟨rs,rc,rr,rf,rg⟩,⟨ts,tc,tt,tf,tg⟩⟩=decide (lvI 7 o < 8) from rfl];clear h1 h2 h3 h4 h5
 cases z with
 | false =>
  rw [Bool.and_false];go_enter Tryz.func32,Tryz.ntmps32
  go_upto_region 1 with (fail)
  obtain ⟨s1,hws⟩:∃ s,s=(w.alloc (.cells #[.int .i64 7,.int .i64 o,.int .i64 a,.int .i64 b,.bool qn,.string qa,.string qd,.string x,.bool tr,.string rs,.int .i64 rc,.int .i64 rr,.bool rf,.bool rg,.string ts,.int .i64 tc,.int .i64 tt,.bool tf,.bool tg] 33)):=⟨_,rfl⟩;have hBs:=bs1 (Below.refl w.heap.size w) hws;obtain ⟨A,hdA⟩:∃ b,b=w.heap.size:=⟨_,rfl⟩;have hsz:s1.heap.size=w.heap.size+1:=by rw [hws];simp
  have yA:=by0 (b:=A) hws hdA;have zA:A < s1.heap.size:=by omega
  have lA:w.heap.size≤A:=by omega
  have LA:=eqL (P:=Tryz.prog) HK19 rfl yA;rw [← hws];try rw [← hdA]
  clear hws hsz hdA;have hBo:=hBs;clear hBs
  go_upto_region 2 with (refine a0c rfl _ _ rfl rfl _ _ _ rfl rfl rfl (by rfl) (by rfl) (by rfl) ?_)
  obtain ⟨s2,hws⟩:∃ s,s=(s1.alloc (.cells #[.int .i64 7,.int .i64 0,.int .i64 0,.int .i64 0,.bool false,.string ⟨#[]⟩,.string ⟨#[]⟩,.string ⟨#[]⟩,.bool false,.string ⟨#[]⟩,.int .i64 0,.int .i64 0,.bool false,.bool false,.string ⟨#[]⟩,.int .i64 0,.int .i64 0,.bool false,.bool false] 33)):=⟨_,rfl⟩;have hBs:=bs1 hBo hws;obtain ⟨X,hdX⟩:∃ b,b=s1.heap.size:=⟨_,rfl⟩;have hsz:s2.heap.size=s1.heap.size+1:=by rw [hws];simp
  have dXA:X≠A:=by omega
  have hQC:∀ p v,s1.cell? p=some v→s2.cell? p=some v:=fun p v h => by rw [hws];exact (alK h)
  have hQZ:∀ b,b < s1.heap.size→b < s2.heap.size:=fun b h => by omega
  replace yA:=eqE hws (eqA yA zA);replace zA:=hQZ _ zA;clear hQC hQZ;have yX:=by0 (b:=X) hws hdX;have hM:=bf0 (b:=X) hws hdX;have fX1:=hM 1;have fX2:=hM 2;clear hM;have zX:X < s2.heap.size:=by omega
  have lX:w.heap.size≤X:=by have:=hBo.size;omega
  replace LA:=eqL (P:=Tryz.prog) HK19 rfl yA;have LX:=eqL (P:=Tryz.prog) HK19 rfl yX;rw [← hws];try rw [← hdX]
  clear hBo;clear hws hsz hdX;have hBo:=hBs;clear hBs
  go_upto_region 28 with (fail)
  obtain ⟨s3,hws⟩:∃ s,s=((s2.setCell ⟨X,1,none⟩ (.int .i64 o)).setCell ⟨X,2,none⟩ (.int .i64 a)):=⟨_,rfl⟩;have hBs:Below w.heap.size w s3:=by rw [hws];exact (((hBo).setCell lX _).setCell lX _)
  have hsz:s3.heap.size=s2.heap.size:=by rw [hws];simp
  replace yA:=eqE hws (eqS (eqS yA dXA) dXA);have hq:∀ {p v},((s2.setCell ⟨X,1,none⟩ (.int .i64 o)).setCell ⟨X,2,none⟩ (.int .i64 a)).cell? p=some v→s3.cell? p=some v:=fun h => by rw [hws];exact h
  replace yX:∀ j,s3.cell? ⟨X,j,none⟩=([.int .i64 7,.int .i64 o,.int .i64 a,.int .i64 0,.bool false,.string ⟨#[]⟩,.string ⟨#[]⟩,.string ⟨#[]⟩,.bool false,.string ⟨#[]⟩,.int .i64 0,.int .i64 0,.bool false,.bool false,.string ⟨#[]⟩,.int .i64 0,.int .i64 0,.bool false,.bool false]:List Value)[j]?:=eqE hws (eqI (eqI yX (of_decide_eq_true rfl)) (of_decide_eq_true rfl));clear hq;have hQF:∀ {p x},s2.frozen? p=x→s3.frozen? p=x:=fun h => by rw [hws];simpa [go_sem] using h
  replace fX1:=hQF fX1;replace fX2:=hQF fX2;clear hQF;replace zA:A < s3.heap.size:=by omega
  replace zX:X < s3.heap.size:=by omega
  replace LA:=eqL (P:=Tryz.prog) HK19 rfl yA;replace LX:=eqL (P:=Tryz.prog) HK19 rfl yX;rw [← hws];clear hBo hws hsz;have hBo:=hBs;clear hBs;go_wp2_with fail
  all_goals go_ret
  all_goals exact ⟨a0d (by simp [*]),hBo⟩
 | true =>
  rw [Bool.and_true];by_cases g1:o=13
  ·
   subst g1;rw [show decide (lvI 7 13 < 8)=true from rfl];go_enter Tryz.func32,Tryz.ntmps32
   go_upto_region 1 with (fail)
   obtain ⟨s4,hws⟩:∃ s,s=(w.alloc (.cells #[.int .i64 7,.int .i64 13,.int .i64 a,.int .i64 b,.bool qn,.string qa,.string qd,.string x,.bool tr,.string rs,.int .i64 rc,.int .i64 rr,.bool rf,.bool rg,.string ts,.int .i64 tc,.int .i64 tt,.bool tf,.bool tg] 33)):=⟨_,rfl⟩;have hBs:=bs1 (Below.refl w.heap.size w) hws;obtain ⟨A,hdA⟩:∃ b,b=w.heap.size:=⟨_,rfl⟩;have hsz:s4.heap.size=w.heap.size+1:=by rw [hws];simp
   have yA:=by0 (b:=A) hws hdA;have zA:A < s4.heap.size:=by omega
   have lA:w.heap.size≤A:=by omega
   have LA:=eqL (P:=Tryz.prog) HK19 rfl yA;rw [← hws];try rw [← hdA]
   clear hws hsz hdA;have hBo:=hBs;clear hBs
   go_upto_region 2 with (refine a0c rfl _ _ rfl rfl _ _ _ rfl rfl rfl (by rfl) (by rfl) (by rfl) ?_)
   obtain ⟨s5,hws⟩:∃ s,s=(s4.alloc (.cells #[.int .i64 7,.int .i64 0,.int .i64 0,.int .i64 0,.bool false,.string ⟨#[]⟩,.string ⟨#[]⟩,.string ⟨#[]⟩,.bool false,.string ⟨#[]⟩,.int .i64 0,.int .i64 0,.bool false,.bool false,.string ⟨#[]⟩,.int .i64 0,.int .i64 0,.bool false,.bool false] 33)):=⟨_,rfl⟩;have hBs:=bs1 hBo hws;obtain ⟨X,hdX⟩:∃ b,b=s4.heap.size:=⟨_,rfl⟩;have hsz:s5.heap.size=s4.heap.size+1:=by rw [hws];simp
   have dXA:X≠A:=by omega
   have hQC:∀ p v,s4.cell? p=some v→s5.cell? p=some v:=fun p v h => by rw [hws];exact (alK h)
   have hQZ:∀ b,b < s4.heap.size→b < s5.heap.size:=fun b h => by omega
   replace yA:=eqE hws (eqA yA zA);replace zA:=hQZ _ zA;clear hQC hQZ;have yX:=by0 (b:=X) hws hdX;have hM:=bf0 (b:=X) hws hdX;have fX1:=hM 1;have fX2:=hM 2;clear hM;have zX:X < s5.heap.size:=by omega
   have lX:w.heap.size≤X:=by have:=hBo.size;omega
   replace LA:=eqL (P:=Tryz.prog) HK19 rfl yA;have LX:=eqL (P:=Tryz.prog) HK19 rfl yX;rw [← hws];try rw [← hdX]
   clear hBo;clear hws hsz hdX;have hBo:=hBs;clear hBs
   go_upto_region 28 with (fail)
   obtain ⟨s6,hws⟩:∃ s,s=((s5.setCell ⟨X,1,none⟩ (.int .i64 13)).setCell ⟨X,2,none⟩ (.int .i64 a)):=⟨_,rfl⟩;have hBs:Below w.heap.size w s6:=by rw [hws];exact (((hBo).setCell lX _).setCell lX _)
   have hsz:s6.heap.size=s5.heap.size:=by rw [hws];simp
   replace yA:=eqE hws (eqS (eqS yA dXA) dXA);have hq:∀ {p v},((s5.setCell ⟨X,1,none⟩ (.int .i64 13)).setCell ⟨X,2,none⟩ (.int .i64 a)).cell? p=some v→s6.cell? p=some v:=fun h => by rw [hws];exact h
   replace yX:∀ j,s6.cell? ⟨X,j,none⟩=([.int .i64 7,.int .i64 13,.int .i64 a,.int .i64 0,.bool false,.string ⟨#[]⟩,.string ⟨#[]⟩,.string ⟨#[]⟩,.bool false,.string ⟨#[]⟩,.int .i64 0,.int .i64 0,.bool false,.bool false,.string ⟨#[]⟩,.int .i64 0,.int .i64 0,.bool false,.bool false]:List Value)[j]?:=eqE hws (eqI (eqI yX (of_decide_eq_true rfl)) (of_decide_eq_true rfl));clear hq;have hQF:∀ {p x},s5.frozen? p=x→s6.frozen? p=x:=fun h => by rw [hws];simpa [go_sem] using h
   replace fX1:=hQF fX1;replace fX2:=hQF fX2;clear hQF;replace zA:A < s6.heap.size:=by omega
   replace zX:X < s6.heap.size:=by omega
   replace LA:=eqL (P:=Tryz.prog) HK19 rfl yA;replace LX:=eqL (P:=Tryz.prog) HK19 rfl yX;rw [← hws];clear hBo hws hsz;have hBo:=hBs;clear hBs;go_wp2_with fail
   all_goals go_ret
   all_goals exact ⟨a0d (by simp [*]),hBo⟩
  ·
   have g1b:(o == 13)=false:=by simpa using g1
   by_cases g2:o=14
   ·
    subst g2;rw [show decide (lvI 7 14 < 8)=true from rfl];go_enter Tryz.func32,Tryz.ntmps32
    go_upto_region 1 with (fail)
    obtain ⟨s7,hws⟩:∃ s,s=(w.alloc (.cells #[.int .i64 7,.int .i64 14,.int .i64 a,.int .i64 b,.bool qn,.string qa,.string qd,.string x,.bool tr,.string rs,.int .i64 rc,.int .i64 rr,.bool rf,.bool rg,.string ts,.int .i64 tc,.int .i64 tt,.bool tf,.bool tg] 33)):=⟨_,rfl⟩;have hBs:=bs1 (Below.refl w.heap.size w) hws;obtain ⟨A,hdA⟩:∃ b,b=w.heap.size:=⟨_,rfl⟩;have hsz:s7.heap.size=w.heap.size+1:=by rw [hws];simp
    have yA:=by0 (b:=A) hws hdA;have zA:A < s7.heap.size:=by omega
    have lA:w.heap.size≤A:=by omega
    have LA:=eqL (P:=Tryz.prog) HK19 rfl yA;rw [← hws];try rw [← hdA]
    clear hws hsz hdA;have hBo:=hBs;clear hBs
    go_upto_region 2 with (refine a0c rfl _ _ rfl rfl _ _ _ rfl rfl rfl (by rfl) (by rfl) (by rfl) ?_)
    obtain ⟨s8,hws⟩:∃ s,s=(s7.alloc (.cells #[.int .i64 7,.int .i64 0,.int .i64 0,.int .i64 0,.bool false,.string ⟨#[]⟩,.string ⟨#[]⟩,.string ⟨#[]⟩,.bool false,.string ⟨#[]⟩,.int .i64 0,.int .i64 0,.bool false,.bool false,.string ⟨#[]⟩,.int .i64 0,.int .i64 0,.bool false,.bool false] 33)):=⟨_,rfl⟩;have hBs:=bs1 hBo hws;obtain ⟨X,hdX⟩:∃ b,b=s7.heap.size:=⟨_,rfl⟩;have hsz:s8.heap.size=s7.heap.size+1:=by rw [hws];simp
    have dXA:X≠A:=by omega
    have hQC:∀ p v,s7.cell? p=some v→s8.cell? p=some v:=fun p v h => by rw [hws];exact (alK h)
    have hQZ:∀ b,b < s7.heap.size→b < s8.heap.size:=fun b h => by omega
    replace yA:=eqE hws (eqA yA zA);replace zA:=hQZ _ zA;clear hQC hQZ;have yX:=by0 (b:=X) hws hdX;have hM:=bf0 (b:=X) hws hdX;have fX1:=hM 1;have fX2:=hM 2;clear hM;have zX:X < s8.heap.size:=by omega
    have lX:w.heap.size≤X:=by have:=hBo.size;omega
    replace LA:=eqL (P:=Tryz.prog) HK19 rfl yA;have LX:=eqL (P:=Tryz.prog) HK19 rfl yX;rw [← hws];try rw [← hdX]
    clear hBo;clear hws hsz hdX;have hBo:=hBs;clear hBs
    go_upto_region 28 with (fail)
    obtain ⟨s9,hws⟩:∃ s,s=((s8.setCell ⟨X,1,none⟩ (.int .i64 14)).setCell ⟨X,2,none⟩ (.int .i64 a)):=⟨_,rfl⟩;have hBs:Below w.heap.size w s9:=by rw [hws];exact (((hBo).setCell lX _).setCell lX _)
    have hsz:s9.heap.size=s8.heap.size:=by rw [hws];simp
    replace yA:=eqE hws (eqS (eqS yA dXA) dXA);have hq:∀ {p v},((s8.setCell ⟨X,1,none⟩ (.int .i64 14)).setCell ⟨X,2,none⟩ (.int .i64 a)).cell? p=some v→s9.cell? p=some v:=fun h => by rw [hws];exact h
    replace yX:∀ j,s9.cell? ⟨X,j,none⟩=([.int .i64 7,.int .i64 14,.int .i64 a,.int .i64 0,.bool false,.string ⟨#[]⟩,.string ⟨#[]⟩,.string ⟨#[]⟩,.bool false,.string ⟨#[]⟩,.int .i64 0,.int .i64 0,.bool false,.bool false,.string ⟨#[]⟩,.int .i64 0,.int .i64 0,.bool false,.bool false]:List Value)[j]?:=eqE hws (eqI (eqI yX (of_decide_eq_true rfl)) (of_decide_eq_true rfl));clear hq;have hQF:∀ {p x},s8.frozen? p=x→s9.frozen? p=x:=fun h => by rw [hws];simpa [go_sem] using h
    replace fX1:=hQF fX1;replace fX2:=hQF fX2;clear hQF;replace zA:A < s9.heap.size:=by omega
    replace zX:X < s9.heap.size:=by omega
    replace LA:=eqL (P:=Tryz.prog) HK19 rfl yA;replace LX:=eqL (P:=Tryz.prog) HK19 rfl yX;rw [← hws];clear hBo hws hsz;have hBo:=hBs;clear hBs;go_wp2_with fail
    all_goals go_ret
    all_goals exact ⟨a0d (by simp [*]),hBo⟩
   ·
    have g2b:(o == 14)=false:=by simpa using g2
    have hl:decide (lvI 7 o < 8)=false:=by unfold lvI;simp [g1,g2]
    rw [hl];clear hl g1 g2;go_enter Tryz.func32,Tryz.ntmps32
    go_upto_region 1 with (fail)
    obtain ⟨s10,hws⟩:∃ s,s=(w.alloc (.cells #[.int .i64 7,.int .i64 o,.int .i64 a,.int .i64 b,.bool qn,.string qa,.string qd,.string x,.bool tr,.string rs,.int .i64 rc,.int .i64 rr,.bool rf,.bool rg,.string ts,.int .i64 tc,.int .i64 tt,.bool tf,.bool tg] 33)):=⟨_,rfl⟩;have hBs:=bs1 (Below.refl w.heap.size w) hws;obtain ⟨A,hdA⟩:∃ b,b=w.heap.size:=⟨_,rfl⟩;have hsz:s10.heap.size=w.heap.size+1:=by rw [hws];simp
    have yA:=by0 (b:=A) hws hdA;have zA:A < s10.heap.size:=by omega
    have lA:w.heap.size≤A:=by omega
    have LA:=eqL (P:=Tryz.prog) HK19 rfl yA;rw [← hws];try rw [← hdA]
    clear hws hsz hdA;have hBo:=hBs;clear hBs
    go_upto_region 2 with (refine a0c rfl _ _ rfl rfl _ _ _ rfl rfl rfl (by rfl) (by rfl) (by rfl) ?_)
    obtain ⟨s11,hws⟩:∃ s,s=(s10.alloc (.cells #[.int .i64 7,.int .i64 0,.int .i64 0,.int .i64 0,.bool false,.string ⟨#[]⟩,.string ⟨#[]⟩,.string ⟨#[]⟩,.bool false,.string ⟨#[]⟩,.int .i64 0,.int .i64 0,.bool false,.bool false,.string ⟨#[]⟩,.int .i64 0,.int .i64 0,.bool false,.bool false] 33)):=⟨_,rfl⟩;have hBs:=bs1 hBo hws;obtain ⟨X,hdX⟩:∃ b,b=s10.heap.size:=⟨_,rfl⟩;have hsz:s11.heap.size=s10.heap.size+1:=by rw [hws];simp
    have dXA:X≠A:=by omega
    have hQC:∀ p v,s10.cell? p=some v→s11.cell? p=some v:=fun p v h => by rw [hws];exact (alK h)
    have hQZ:∀ b,b < s10.heap.size→b < s11.heap.size:=fun b h => by omega
    replace yA:=eqE hws (eqA yA zA);replace zA:=hQZ _ zA;clear hQC hQZ;have yX:=by0 (b:=X) hws hdX;have hM:=bf0 (b:=X) hws hdX;have fX1:=hM 1;have fX2:=hM 2;clear hM;have zX:X < s11.heap.size:=by omega
    have lX:w.heap.size≤X:=by have:=hBo.size;omega
    replace LA:=eqL (P:=Tryz.prog) HK19 rfl yA;have LX:=eqL (P:=Tryz.prog) HK19 rfl yX;rw [← hws];try rw [← hdX]
    clear hBo;clear hws hsz hdX;have hBo:=hBs;clear hBs
    go_upto_region 28 with (fail)
    obtain ⟨s12,hws⟩:∃ s,s=((s11.setCell ⟨X,1,none⟩ (.int .i64 o)).setCell ⟨X,2,none⟩ (.int .i64 a)):=⟨_,rfl⟩;have hBs:Below w.heap.size w s12:=by rw [hws];exact (((hBo).setCell lX _).setCell lX _)
    have hsz:s12.heap.size=s11.heap.size:=by rw [hws];simp
    replace yA:=eqE hws (eqS (eqS yA dXA) dXA);have hq:∀ {p v},((s11.setCell ⟨X,1,none⟩ (.int .i64 o)).setCell ⟨X,2,none⟩ (.int .i64 a)).cell? p=some v→s12.cell? p=some v:=fun h => by rw [hws];exact h
    replace yX:∀ j,s12.cell? ⟨X,j,none⟩=([.int .i64 7,.int .i64 o,.int .i64 a,.int .i64 0,.bool false,.string ⟨#[]⟩,.string ⟨#[]⟩,.string ⟨#[]⟩,.bool false,.string ⟨#[]⟩,.int .i64 0,.int .i64 0,.bool false,.bool false,.string ⟨#[]⟩,.int .i64 0,.int .i64 0,.bool false,.bool false]:List Value)[j]?:=eqE hws (eqI (eqI yX (of_decide_eq_true rfl)) (of_decide_eq_true rfl));clear hq;have hQF:∀ {p x},s11.frozen? p=x→s12.frozen? p=x:=fun h => by rw [hws];simpa [go_sem] using h
    replace fX1:=hQF fX1;replace fX2:=hQF fX2;clear hQF;replace zA:A < s12.heap.size:=by omega
    replace zX:X < s12.heap.size:=by omega
    replace LA:=eqL (P:=Tryz.prog) HK19 rfl yA;replace LX:=eqL (P:=Tryz.prog) HK19 rfl yX;rw [← hws];clear hBo hws hsz;have hBo:=hBs;clear hBs;go_wp2_with fail
    all_goals go_ret
    all_goals exact ⟨a0d (by simp [*]),hBo⟩
theorem c9a (o a b:Int) (qn:Bool) (qa qd x:ByteArray) (tr:Bool) (rs:ByteArray) (rc rr:Int) (rf rg:Bool) (ts:ByteArray) (tc tt:Int) (tf tg:Bool) (w:World) (hf:a2b ⟨8,o,a,b,qn,qa,qd,x,tr,⟨rs,rc,rr,rf,rg⟩,⟨ts,tc,tt,tf,tg⟩⟩) :
  Calls Tryz.prog 32 #[.agg #[.int .i64 8,.int .i64 o,.int .i64 a,.int .i64 b,.bool qn,.string qa,.string qd,.string x,.bool tr,.string rs,.int .i64 rc,.int .i64 rr,.bool rf,.bool rg,.string ts,.int .i64 tc,.int .i64 tt,.bool tf,.bool tg]] w fun e w' => e=.returned (.bool (a1x ⟨8,o,a,b,qn,qa,qd,x,tr,⟨rs,rc,rr,rf,rg⟩,⟨ts,tc,tt,tf,tg⟩⟩))∧Below w.heap.size w w':=by
 unfold a1x;obtain ⟨h1,h2,h3,h4,h5⟩:=hf;dsimp only at *;have hud:undef=Value.tuple #[]:=rfl;obtain ⟨K19,hz19,HK19⟩:=a0q;have hb:a0s ⟨8,o,a,b,qn,qa,qd,x,tr,⟨rs,rc,rr,rf,rg⟩,⟨ts,tc,tt,tf,tg⟩⟩=⟨8,o,a,b,false,⟨#[]⟩,⟨#[]⟩,⟨#[]⟩,false,rf0,rf0⟩:=rfl;have hE:∀ w,Sem.run Tryz.prog (binOp .eql 33 (.agg #[.int .i64 8,.int .i64 o,.int .i64 a,.int .i64 b,.bool qn,.string qa,.string qd,.string x,.bool tr,.string rs,.int .i64 rc,.int .i64 rr,.bool rf,.bool rg,.string ts,.int .i64 tc,.int .i64 tt,.bool tf,.bool tg]) (.agg #[.int .i64 8,.int .i64 o,.int .i64 a,.int .i64 b,.bool false,.string ⟨#[]⟩,.string ⟨#[]⟩,.string ⟨#[]⟩,.bool false,.string ⟨#[]⟩,.int .i64 0,.int .i64 0,.bool false,.bool false,.string ⟨#[]⟩,.int .i64 0,.int .i64 0,.bool false,.bool false])) w=.ok (.bool (a2r ⟨8,o,a,b,qn,qa,qd,x,tr,⟨rs,rc,rr,rf,rg⟩,⟨ts,tc,tt,tf,tg⟩⟩ (a0s ⟨8,o,a,b,qn,qa,qd,x,tr,⟨rs,rc,rr,rf,rg⟩,⟨ts,tc,tt,tf,tg⟩⟩))) w:=fun w => by rw [hb];exact a1b ⟨8,o,a,b,qn,qa,qd,x,tr,⟨rs,rc,rr,rf,rg⟩,⟨ts,tc,tt,tf,tg⟩⟩ ⟨8,o,a,b,false,⟨#[]⟩,⟨#[]⟩,⟨#[]⟩,false,rf0,rf0⟩ w
 clear hb;generalize a2r ⟨8,o,a,b,qn,qa,qd,x,tr,⟨rs,rc,rr,rf,rg⟩,⟨ts,tc,tt,tf,tg⟩⟩ (a0s ⟨8,o,a,b,qn,qa,qd,x,tr,⟨rs,rc,rr,rf,rg⟩,⟨ts,tc,tt,tf,tg⟩⟩)=z at *;rw [show a4i ⟨8,o,a,b,qn,qa,qd,x,tr,⟨rs,rc,rr,rf,rg⟩,⟨ts,tc,tt,tf,tg⟩⟩=decide (lvI 8 o < 8) from rfl];clear h1 h2 h3 h4 h5
 cases z with
 | false =>
  rw [Bool.and_false];go_enter Tryz.func32,Tryz.ntmps32
  go_upto_region 1 with (fail)
  obtain ⟨s13,hws⟩:∃ s,s=(w.alloc (.cells #[.int .i64 8,.int .i64 o,.int .i64 a,.int .i64 b,.bool qn,.string qa,.string qd,.string x,.bool tr,.string rs,.int .i64 rc,.int .i64 rr,.bool rf,.bool rg,.string ts,.int .i64 tc,.int .i64 tt,.bool tf,.bool tg] 33)):=⟨_,rfl⟩;have hBs:=bs1 (Below.refl w.heap.size w) hws;obtain ⟨A,hdA⟩:∃ b,b=w.heap.size:=⟨_,rfl⟩;have hsz:s13.heap.size=w.heap.size+1:=by rw [hws];simp
  have yA:=by0 (b:=A) hws hdA;have zA:A < s13.heap.size:=by omega
  have lA:w.heap.size≤A:=by omega
  have LA:=eqL (P:=Tryz.prog) HK19 rfl yA;rw [← hws];try rw [← hdA]
  clear hws hsz hdA;have hBo:=hBs;clear hBs
  go_upto_region 2 with (refine a0c rfl _ _ rfl rfl _ _ _ rfl rfl rfl (by rfl) (by rfl) (by rfl) ?_)
  obtain ⟨s14,hws⟩:∃ s,s=(s13.alloc (.cells #[.int .i64 8,.int .i64 0,.int .i64 0,.int .i64 0,.bool false,.string ⟨#[]⟩,.string ⟨#[]⟩,.string ⟨#[]⟩,.bool false,.string ⟨#[]⟩,.int .i64 0,.int .i64 0,.bool false,.bool false,.string ⟨#[]⟩,.int .i64 0,.int .i64 0,.bool false,.bool false] 33)):=⟨_,rfl⟩;have hBs:=bs1 hBo hws;obtain ⟨X,hdX⟩:∃ b,b=s13.heap.size:=⟨_,rfl⟩;have hsz:s14.heap.size=s13.heap.size+1:=by rw [hws];simp
  have dXA:X≠A:=by omega
  have hQC:∀ p v,s13.cell? p=some v→s14.cell? p=some v:=fun p v h => by rw [hws];exact (alK h)
  have hQZ:∀ b,b < s13.heap.size→b < s14.heap.size:=fun b h => by omega
  replace yA:=eqE hws (eqA yA zA);replace zA:=hQZ _ zA;clear hQC hQZ;have yX:=by0 (b:=X) hws hdX;have hM:=bf0 (b:=X) hws hdX;have fX1:=hM 1;have fX2:=hM 2;have fX3:=hM 3;clear hM;have zX:X < s14.heap.size:=by omega
  have lX:w.heap.size≤X:=by have:=hBo.size;omega
  replace LA:=eqL (P:=Tryz.prog) HK19 rfl yA;have LX:=eqL (P:=Tryz.prog) HK19 rfl yX;rw [← hws];try rw [← hdX]
  clear hBo;clear hws hsz hdX;have hBo:=hBs;clear hBs
  go_upto_region 33 with (fail)
  obtain ⟨s15,hws⟩:∃ s,s=(((s14.setCell ⟨X,1,none⟩ (.int .i64 o)).setCell ⟨X,2,none⟩ (.int .i64 a)).setCell ⟨X,3,none⟩ (.int .i64 b)):=⟨_,rfl⟩;have hBs:Below w.heap.size w s15:=by rw [hws];exact ((((hBo).setCell lX _).setCell lX _).setCell lX _)
  have hsz:s15.heap.size=s14.heap.size:=by rw [hws];simp
  replace yA:=eqE hws (eqS (eqS (eqS yA dXA) dXA) dXA);have hq:∀ {p v},(((s14.setCell ⟨X,1,none⟩ (.int .i64 o)).setCell ⟨X,2,none⟩ (.int .i64 a)).setCell ⟨X,3,none⟩ (.int .i64 b)).cell? p=some v→s15.cell? p=some v:=fun h => by rw [hws];exact h
  replace yX:∀ j,s15.cell? ⟨X,j,none⟩=([.int .i64 8,.int .i64 o,.int .i64 a,.int .i64 b,.bool false,.string ⟨#[]⟩,.string ⟨#[]⟩,.string ⟨#[]⟩,.bool false,.string ⟨#[]⟩,.int .i64 0,.int .i64 0,.bool false,.bool false,.string ⟨#[]⟩,.int .i64 0,.int .i64 0,.bool false,.bool false]:List Value)[j]?:=eqE hws (eqI (eqI (eqI yX (of_decide_eq_true rfl)) (of_decide_eq_true rfl)) (of_decide_eq_true rfl));clear hq;have hQF:∀ {p x},s14.frozen? p=x→s15.frozen? p=x:=fun h => by rw [hws];simpa [go_sem] using h
  replace fX1:=hQF fX1;replace fX2:=hQF fX2;replace fX3:=hQF fX3;clear hQF;replace zA:A < s15.heap.size:=by omega
  replace zX:X < s15.heap.size:=by omega
  replace LA:=eqL (P:=Tryz.prog) HK19 rfl yA;replace LX:=eqL (P:=Tryz.prog) HK19 rfl yX;rw [← hws];clear hBo hws hsz;have hBo:=hBs;clear hBs;go_wp2_with fail
  all_goals go_ret
  all_goals exact ⟨a0d (by simp [*]),hBo⟩
 | true =>
  rw [Bool.and_true]
  have hl:decide (lvI 8 o < 8)=(decide (1≤o) && decide (o≤12)):=by
   rw [Bool.eq_iff_iff,Bool.and_eq_true,decide_eq_true_eq,decide_eq_true_eq,decide_eq_true_eq];unfold lvI;constructor
   ·
    intro h
    (repeat' split at h) <;> omega
   ·
    intro h
    (repeat' split) <;> omega
  rw [hl];clear hl;by_cases g1:1≤o
  ·
   by_cases g2:o≤12
   ·
    rw [decide_eq_true g1,decide_eq_true g2,Bool.and_self];go_enter Tryz.func32,Tryz.ntmps32
    go_upto_region 1 with (fail)
    obtain ⟨s16,hws⟩:∃ s,s=(w.alloc (.cells #[.int .i64 8,.int .i64 o,.int .i64 a,.int .i64 b,.bool qn,.string qa,.string qd,.string x,.bool tr,.string rs,.int .i64 rc,.int .i64 rr,.bool rf,.bool rg,.string ts,.int .i64 tc,.int .i64 tt,.bool tf,.bool tg] 33)):=⟨_,rfl⟩;have hBs:=bs1 (Below.refl w.heap.size w) hws;obtain ⟨A,hdA⟩:∃ b,b=w.heap.size:=⟨_,rfl⟩;have hsz:s16.heap.size=w.heap.size+1:=by rw [hws];simp
    have yA:=by0 (b:=A) hws hdA;have zA:A < s16.heap.size:=by omega
    have lA:w.heap.size≤A:=by omega
    have LA:=eqL (P:=Tryz.prog) HK19 rfl yA;rw [← hws];try rw [← hdA]
    clear hws hsz hdA;have hBo:=hBs;clear hBs
    go_upto_region 2 with (refine a0c rfl _ _ rfl rfl _ _ _ rfl rfl rfl (by rfl) (by rfl) (by rfl) ?_)
    obtain ⟨s17,hws⟩:∃ s,s=(s16.alloc (.cells #[.int .i64 8,.int .i64 0,.int .i64 0,.int .i64 0,.bool false,.string ⟨#[]⟩,.string ⟨#[]⟩,.string ⟨#[]⟩,.bool false,.string ⟨#[]⟩,.int .i64 0,.int .i64 0,.bool false,.bool false,.string ⟨#[]⟩,.int .i64 0,.int .i64 0,.bool false,.bool false] 33)):=⟨_,rfl⟩;have hBs:=bs1 hBo hws;obtain ⟨X,hdX⟩:∃ b,b=s16.heap.size:=⟨_,rfl⟩;have hsz:s17.heap.size=s16.heap.size+1:=by rw [hws];simp
    have dXA:X≠A:=by omega
    have hQC:∀ p v,s16.cell? p=some v→s17.cell? p=some v:=fun p v h => by rw [hws];exact (alK h)
    have hQZ:∀ b,b < s16.heap.size→b < s17.heap.size:=fun b h => by omega
    replace yA:=eqE hws (eqA yA zA);replace zA:=hQZ _ zA;clear hQC hQZ;have yX:=by0 (b:=X) hws hdX;have hM:=bf0 (b:=X) hws hdX;have fX1:=hM 1;have fX2:=hM 2;have fX3:=hM 3;clear hM;have zX:X < s17.heap.size:=by omega
    have lX:w.heap.size≤X:=by have:=hBo.size;omega
    replace LA:=eqL (P:=Tryz.prog) HK19 rfl yA;have LX:=eqL (P:=Tryz.prog) HK19 rfl yX;rw [← hws];try rw [← hdX]
    clear hBo;clear hws hsz hdX;have hBo:=hBs;clear hBs
    go_upto_region 33 with (fail)
    obtain ⟨s18,hws⟩:∃ s,s=(((s17.setCell ⟨X,1,none⟩ (.int .i64 o)).setCell ⟨X,2,none⟩ (.int .i64 a)).setCell ⟨X,3,none⟩ (.int .i64 b)):=⟨_,rfl⟩;have hBs:Below w.heap.size w s18:=by rw [hws];exact ((((hBo).setCell lX _).setCell lX _).setCell lX _)
    have hsz:s18.heap.size=s17.heap.size:=by rw [hws];simp
    replace yA:=eqE hws (eqS (eqS (eqS yA dXA) dXA) dXA);have hq:∀ {p v},(((s17.setCell ⟨X,1,none⟩ (.int .i64 o)).setCell ⟨X,2,none⟩ (.int .i64 a)).setCell ⟨X,3,none⟩ (.int .i64 b)).cell? p=some v→s18.cell? p=some v:=fun h => by rw [hws];exact h
    replace yX:∀ j,s18.cell? ⟨X,j,none⟩=([.int .i64 8,.int .i64 o,.int .i64 a,.int .i64 b,.bool false,.string ⟨#[]⟩,.string ⟨#[]⟩,.string ⟨#[]⟩,.bool false,.string ⟨#[]⟩,.int .i64 0,.int .i64 0,.bool false,.bool false,.string ⟨#[]⟩,.int .i64 0,.int .i64 0,.bool false,.bool false]:List Value)[j]?:=eqE hws (eqI (eqI (eqI yX (of_decide_eq_true rfl)) (of_decide_eq_true rfl)) (of_decide_eq_true rfl));clear hq;have hQF:∀ {p x},s17.frozen? p=x→s18.frozen? p=x:=fun h => by rw [hws];simpa [go_sem] using h
    replace fX1:=hQF fX1;replace fX2:=hQF fX2;replace fX3:=hQF fX3;clear hQF;replace zA:A < s18.heap.size:=by omega
    replace zX:X < s18.heap.size:=by omega
    replace LA:=eqL (P:=Tryz.prog) HK19 rfl yA;replace LX:=eqL (P:=Tryz.prog) HK19 rfl yX;rw [← hws];clear hBo hws hsz;have hBo:=hBs;clear hBs;go_wp2_with fail
    all_goals go_ret
    all_goals exact ⟨a0d (by simp [*]),hBo⟩
   ·
    rw [decide_eq_true g1,decide_eq_false g2,Bool.true_and];go_enter Tryz.func32,Tryz.ntmps32
    go_upto_region 1 with (fail)
    obtain ⟨s19,hws⟩:∃ s,s=(w.alloc (.cells #[.int .i64 8,.int .i64 o,.int .i64 a,.int .i64 b,.bool qn,.string qa,.string qd,.string x,.bool tr,.string rs,.int .i64 rc,.int .i64 rr,.bool rf,.bool rg,.string ts,.int .i64 tc,.int .i64 tt,.bool tf,.bool tg] 33)):=⟨_,rfl⟩;have hBs:=bs1 (Below.refl w.heap.size w) hws;obtain ⟨A,hdA⟩:∃ b,b=w.heap.size:=⟨_,rfl⟩;have hsz:s19.heap.size=w.heap.size+1:=by rw [hws];simp
    have yA:=by0 (b:=A) hws hdA;have zA:A < s19.heap.size:=by omega
    have lA:w.heap.size≤A:=by omega
    have LA:=eqL (P:=Tryz.prog) HK19 rfl yA;rw [← hws];try rw [← hdA]
    clear hws hsz hdA;have hBo:=hBs;clear hBs
    go_upto_region 2 with (refine a0c rfl _ _ rfl rfl _ _ _ rfl rfl rfl (by rfl) (by rfl) (by rfl) ?_)
    obtain ⟨s20,hws⟩:∃ s,s=(s19.alloc (.cells #[.int .i64 8,.int .i64 0,.int .i64 0,.int .i64 0,.bool false,.string ⟨#[]⟩,.string ⟨#[]⟩,.string ⟨#[]⟩,.bool false,.string ⟨#[]⟩,.int .i64 0,.int .i64 0,.bool false,.bool false,.string ⟨#[]⟩,.int .i64 0,.int .i64 0,.bool false,.bool false] 33)):=⟨_,rfl⟩;have hBs:=bs1 hBo hws;obtain ⟨X,hdX⟩:∃ b,b=s19.heap.size:=⟨_,rfl⟩;have hsz:s20.heap.size=s19.heap.size+1:=by rw [hws];simp
    have dXA:X≠A:=by omega
    have hQC:∀ p v,s19.cell? p=some v→s20.cell? p=some v:=fun p v h => by rw [hws];exact (alK h)
    have hQZ:∀ b,b < s19.heap.size→b < s20.heap.size:=fun b h => by omega
    replace yA:=eqE hws (eqA yA zA);replace zA:=hQZ _ zA;clear hQC hQZ;have yX:=by0 (b:=X) hws hdX;have hM:=bf0 (b:=X) hws hdX;have fX1:=hM 1;have fX2:=hM 2;have fX3:=hM 3;clear hM;have zX:X < s20.heap.size:=by omega
    have lX:w.heap.size≤X:=by have:=hBo.size;omega
    replace LA:=eqL (P:=Tryz.prog) HK19 rfl yA;have LX:=eqL (P:=Tryz.prog) HK19 rfl yX;rw [← hws];try rw [← hdX]
    clear hBo;clear hws hsz hdX;have hBo:=hBs;clear hBs
    go_upto_region 33 with (fail)
    obtain ⟨s21,hws⟩:∃ s,s=(((s20.setCell ⟨X,1,none⟩ (.int .i64 o)).setCell ⟨X,2,none⟩ (.int .i64 a)).setCell ⟨X,3,none⟩ (.int .i64 b)):=⟨_,rfl⟩;have hBs:Below w.heap.size w s21:=by rw [hws];exact ((((hBo).setCell lX _).setCell lX _).setCell lX _)
    have hsz:s21.heap.size=s20.heap.size:=by rw [hws];simp
    replace yA:=eqE hws (eqS (eqS (eqS yA dXA) dXA) dXA);have hq:∀ {p v},(((s20.setCell ⟨X,1,none⟩ (.int .i64 o)).setCell ⟨X,2,none⟩ (.int .i64 a)).setCell ⟨X,3,none⟩ (.int .i64 b)).cell? p=some v→s21.cell? p=some v:=fun h => by rw [hws];exact h
    replace yX:∀ j,s21.cell? ⟨X,j,none⟩=([.int .i64 8,.int .i64 o,.int .i64 a,.int .i64 b,.bool false,.string ⟨#[]⟩,.string ⟨#[]⟩,.string ⟨#[]⟩,.bool false,.string ⟨#[]⟩,.int .i64 0,.int .i64 0,.bool false,.bool false,.string ⟨#[]⟩,.int .i64 0,.int .i64 0,.bool false,.bool false]:List Value)[j]?:=eqE hws (eqI (eqI (eqI yX (of_decide_eq_true rfl)) (of_decide_eq_true rfl)) (of_decide_eq_true rfl));clear hq;have hQF:∀ {p x},s20.frozen? p=x→s21.frozen? p=x:=fun h => by rw [hws];simpa [go_sem] using h
    replace fX1:=hQF fX1;replace fX2:=hQF fX2;replace fX3:=hQF fX3;clear hQF;replace zA:A < s21.heap.size:=by omega
    replace zX:X < s21.heap.size:=by omega
    replace LA:=eqL (P:=Tryz.prog) HK19 rfl yA;replace LX:=eqL (P:=Tryz.prog) HK19 rfl yX;rw [← hws];clear hBo hws hsz;have hBo:=hBs;clear hBs;go_wp2_with fail
    all_goals go_ret
    all_goals exact ⟨a0d (by simp [*]),hBo⟩
  ·
   rw [decide_eq_false g1,Bool.false_and];go_enter Tryz.func32,Tryz.ntmps32
   go_upto_region 1 with (fail)
   obtain ⟨s22,hws⟩:∃ s,s=(w.alloc (.cells #[.int .i64 8,.int .i64 o,.int .i64 a,.int .i64 b,.bool qn,.string qa,.string qd,.string x,.bool tr,.string rs,.int .i64 rc,.int .i64 rr,.bool rf,.bool rg,.string ts,.int .i64 tc,.int .i64 tt,.bool tf,.bool tg] 33)):=⟨_,rfl⟩;have hBs:=bs1 (Below.refl w.heap.size w) hws;obtain ⟨A,hdA⟩:∃ b,b=w.heap.size:=⟨_,rfl⟩;have hsz:s22.heap.size=w.heap.size+1:=by rw [hws];simp
   have yA:=by0 (b:=A) hws hdA;have zA:A < s22.heap.size:=by omega
   have lA:w.heap.size≤A:=by omega
   have LA:=eqL (P:=Tryz.prog) HK19 rfl yA;rw [← hws];try rw [← hdA]
   clear hws hsz hdA;have hBo:=hBs;clear hBs
   go_upto_region 2 with (refine a0c rfl _ _ rfl rfl _ _ _ rfl rfl rfl (by rfl) (by rfl) (by rfl) ?_)
   obtain ⟨s23,hws⟩:∃ s,s=(s22.alloc (.cells #[.int .i64 8,.int .i64 0,.int .i64 0,.int .i64 0,.bool false,.string ⟨#[]⟩,.string ⟨#[]⟩,.string ⟨#[]⟩,.bool false,.string ⟨#[]⟩,.int .i64 0,.int .i64 0,.bool false,.bool false,.string ⟨#[]⟩,.int .i64 0,.int .i64 0,.bool false,.bool false] 33)):=⟨_,rfl⟩;have hBs:=bs1 hBo hws;obtain ⟨X,hdX⟩:∃ b,b=s22.heap.size:=⟨_,rfl⟩;have hsz:s23.heap.size=s22.heap.size+1:=by rw [hws];simp
   have dXA:X≠A:=by omega
   have hQC:∀ p v,s22.cell? p=some v→s23.cell? p=some v:=fun p v h => by rw [hws];exact (alK h)
   have hQZ:∀ b,b < s22.heap.size→b < s23.heap.size:=fun b h => by omega
   replace yA:=eqE hws (eqA yA zA);replace zA:=hQZ _ zA;clear hQC hQZ;have yX:=by0 (b:=X) hws hdX;have hM:=bf0 (b:=X) hws hdX;have fX1:=hM 1;have fX2:=hM 2;have fX3:=hM 3;clear hM;have zX:X < s23.heap.size:=by omega
   have lX:w.heap.size≤X:=by have:=hBo.size;omega
   replace LA:=eqL (P:=Tryz.prog) HK19 rfl yA;have LX:=eqL (P:=Tryz.prog) HK19 rfl yX;rw [← hws];try rw [← hdX]
   clear hBo;clear hws hsz hdX;have hBo:=hBs;clear hBs
   go_upto_region 33 with (fail)
   obtain ⟨s24,hws⟩:∃ s,s=(((s23.setCell ⟨X,1,none⟩ (.int .i64 o)).setCell ⟨X,2,none⟩ (.int .i64 a)).setCell ⟨X,3,none⟩ (.int .i64 b)):=⟨_,rfl⟩;have hBs:Below w.heap.size w s24:=by rw [hws];exact ((((hBo).setCell lX _).setCell lX _).setCell lX _)
   have hsz:s24.heap.size=s23.heap.size:=by rw [hws];simp
   replace yA:=eqE hws (eqS (eqS (eqS yA dXA) dXA) dXA);have hq:∀ {p v},(((s23.setCell ⟨X,1,none⟩ (.int .i64 o)).setCell ⟨X,2,none⟩ (.int .i64 a)).setCell ⟨X,3,none⟩ (.int .i64 b)).cell? p=some v→s24.cell? p=some v:=fun h => by rw [hws];exact h
   replace yX:∀ j,s24.cell? ⟨X,j,none⟩=([.int .i64 8,.int .i64 o,.int .i64 a,.int .i64 b,.bool false,.string ⟨#[]⟩,.string ⟨#[]⟩,.string ⟨#[]⟩,.bool false,.string ⟨#[]⟩,.int .i64 0,.int .i64 0,.bool false,.bool false,.string ⟨#[]⟩,.int .i64 0,.int .i64 0,.bool false,.bool false]:List Value)[j]?:=eqE hws (eqI (eqI (eqI yX (of_decide_eq_true rfl)) (of_decide_eq_true rfl)) (of_decide_eq_true rfl));clear hq;have hQF:∀ {p x},s23.frozen? p=x→s24.frozen? p=x:=fun h => by rw [hws];simpa [go_sem] using h
   replace fX1:=hQF fX1;replace fX2:=hQF fX2;replace fX3:=hQF fX3;clear hQF;replace zA:A < s24.heap.size:=by omega
   replace zX:X < s24.heap.size:=by omega
   replace LA:=eqL (P:=Tryz.prog) HK19 rfl yA;replace LX:=eqL (P:=Tryz.prog) HK19 rfl yX;rw [← hws];clear hBo hws hsz;have hBo:=hBs;clear hBs;go_wp2_with fail
   all_goals go_ret
   all_goals exact ⟨a0d (by simp [*]),hBo⟩
theorem c9b (o a b:Int) (qn:Bool) (qa qd x:ByteArray) (tr:Bool) (rs:ByteArray) (rc rr:Int) (rf rg:Bool) (ts:ByteArray) (tc tt:Int) (tf tg:Bool) (w:World) (hf:a2b ⟨9,o,a,b,qn,qa,qd,x,tr,⟨rs,rc,rr,rf,rg⟩,⟨ts,tc,tt,tf,tg⟩⟩) :
  Calls Tryz.prog 32 #[.agg #[.int .i64 9,.int .i64 o,.int .i64 a,.int .i64 b,.bool qn,.string qa,.string qd,.string x,.bool tr,.string rs,.int .i64 rc,.int .i64 rr,.bool rf,.bool rg,.string ts,.int .i64 tc,.int .i64 tt,.bool tf,.bool tg]] w fun e w' => e=.returned (.bool (a1x ⟨9,o,a,b,qn,qa,qd,x,tr,⟨rs,rc,rr,rf,rg⟩,⟨ts,tc,tt,tf,tg⟩⟩))∧Below w.heap.size w w':=by
 unfold a1x;obtain ⟨h1,h2,h3,h4,h5⟩:=hf;dsimp only at *;have hud:undef=Value.tuple #[]:=rfl;obtain ⟨K19,hz19,HK19⟩:=a0q;have hb:a0s ⟨9,o,a,b,qn,qa,qd,x,tr,⟨rs,rc,rr,rf,rg⟩,⟨ts,tc,tt,tf,tg⟩⟩=⟨9,0,a,b,false,⟨#[]⟩,⟨#[]⟩,x,false,rf0,rf0⟩:=rfl;have hE:∀ w,Sem.run Tryz.prog (binOp .eql 33 (.agg #[.int .i64 9,.int .i64 o,.int .i64 a,.int .i64 b,.bool qn,.string qa,.string qd,.string x,.bool tr,.string rs,.int .i64 rc,.int .i64 rr,.bool rf,.bool rg,.string ts,.int .i64 tc,.int .i64 tt,.bool tf,.bool tg]) (.agg #[.int .i64 9,.int .i64 0,.int .i64 a,.int .i64 b,.bool false,.string ⟨#[]⟩,.string ⟨#[]⟩,.string x,.bool false,.string ⟨#[]⟩,.int .i64 0,.int .i64 0,.bool false,.bool false,.string ⟨#[]⟩,.int .i64 0,.int .i64 0,.bool false,.bool false])) w=.ok (.bool (a2r ⟨9,o,a,b,qn,qa,qd,x,tr,⟨rs,rc,rr,rf,rg⟩,⟨ts,tc,tt,tf,tg⟩⟩ (a0s ⟨9,o,a,b,qn,qa,qd,x,tr,⟨rs,rc,rr,rf,rg⟩,⟨ts,tc,tt,tf,tg⟩⟩))) w:=fun w => by rw [hb];exact a1b ⟨9,o,a,b,qn,qa,qd,x,tr,⟨rs,rc,rr,rf,rg⟩,⟨ts,tc,tt,tf,tg⟩⟩ ⟨9,0,a,b,false,⟨#[]⟩,⟨#[]⟩,x,false,rf0,rf0⟩ w
 clear hb;generalize a2r ⟨9,o,a,b,qn,qa,qd,x,tr,⟨rs,rc,rr,rf,rg⟩,⟨ts,tc,tt,tf,tg⟩⟩ (a0s ⟨9,o,a,b,qn,qa,qd,x,tr,⟨rs,rc,rr,rf,rg⟩,⟨ts,tc,tt,tf,tg⟩⟩)=z at *;rw [show a4i ⟨9,o,a,b,qn,qa,qd,x,tr,⟨rs,rc,rr,rf,rg⟩,⟨ts,tc,tt,tf,tg⟩⟩=(decide (0≤b) && decide (b≤20) && !(decide (b=0) && !decide (a=0)) && b9e x.data.toList) from rfl];have hC:=fun w => c0v (b4b x w (by unfold maxLen;omega))
 generalize b9e x.data.toList=y at *;have HC:=Lib.hid hC;clear hC h1 h2 h3 h4 h5
 cases z with
 | false =>
  rw [Bool.and_false];clear HC;go_enter Tryz.func32,Tryz.ntmps32
  go_upto_region 1 with (fail)
  obtain ⟨s25,hws⟩:∃ s,s=(w.alloc (.cells #[.int .i64 9,.int .i64 o,.int .i64 a,.int .i64 b,.bool qn,.string qa,.string qd,.string x,.bool tr,.string rs,.int .i64 rc,.int .i64 rr,.bool rf,.bool rg,.string ts,.int .i64 tc,.int .i64 tt,.bool tf,.bool tg] 33)):=⟨_,rfl⟩;have hBs:=bs1 (Below.refl w.heap.size w) hws;obtain ⟨A,hdA⟩:∃ b,b=w.heap.size:=⟨_,rfl⟩;have hsz:s25.heap.size=w.heap.size+1:=by rw [hws];simp
  have yA:=by0 (b:=A) hws hdA;have zA:A < s25.heap.size:=by omega
  have lA:w.heap.size≤A:=by omega
  have LA:=eqL (P:=Tryz.prog) HK19 rfl yA;rw [← hws];try rw [← hdA]
  clear hws hsz hdA;have hBo:=hBs;clear hBs
  go_upto_region 2 with (refine a0c rfl _ _ rfl rfl _ _ _ rfl rfl rfl (by rfl) (by rfl) (by rfl) ?_)
  obtain ⟨s26,hws⟩:∃ s,s=(s25.alloc (.cells #[.int .i64 9,.int .i64 0,.int .i64 0,.int .i64 0,.bool false,.string ⟨#[]⟩,.string ⟨#[]⟩,.string ⟨#[]⟩,.bool false,.string ⟨#[]⟩,.int .i64 0,.int .i64 0,.bool false,.bool false,.string ⟨#[]⟩,.int .i64 0,.int .i64 0,.bool false,.bool false] 33)):=⟨_,rfl⟩;have hBs:=bs1 hBo hws;obtain ⟨X,hdX⟩:∃ b,b=s25.heap.size:=⟨_,rfl⟩;have hsz:s26.heap.size=s25.heap.size+1:=by rw [hws];simp
  have dXA:X≠A:=by omega
  have hQC:∀ p v,s25.cell? p=some v→s26.cell? p=some v:=fun p v h => by rw [hws];exact (alK h)
  have hQZ:∀ b,b < s25.heap.size→b < s26.heap.size:=fun b h => by omega
  replace yA:=eqE hws (eqA yA zA);replace zA:=hQZ _ zA;clear hQC hQZ;have yX:=by0 (b:=X) hws hdX;have hM:=bf0 (b:=X) hws hdX;have fX2:=hM 2;have fX3:=hM 3;have fX7:=hM 7;clear hM;have zX:X < s26.heap.size:=by omega
  have lX:w.heap.size≤X:=by have:=hBo.size;omega
  replace LA:=eqL (P:=Tryz.prog) HK19 rfl yA;have LX:=eqL (P:=Tryz.prog) HK19 rfl yX;rw [← hws];try rw [← hdX]
  clear hBo;clear hws hsz hdX;have hBo:=hBs;clear hBs
  go_upto_region 38 with (fail)
  obtain ⟨s27,hws⟩:∃ s,s=(((s26.setCell ⟨X,7,none⟩ (.string x)).setCell ⟨X,2,none⟩ (.int .i64 a)).setCell ⟨X,3,none⟩ (.int .i64 b)):=⟨_,rfl⟩;have hBs:Below w.heap.size w s27:=by rw [hws];exact ((((hBo).setCell lX _).setCell lX _).setCell lX _)
  have hsz:s27.heap.size=s26.heap.size:=by rw [hws];simp
  replace yA:=eqE hws (eqS (eqS (eqS yA dXA) dXA) dXA);have hq:∀ {p v},(((s26.setCell ⟨X,7,none⟩ (.string x)).setCell ⟨X,2,none⟩ (.int .i64 a)).setCell ⟨X,3,none⟩ (.int .i64 b)).cell? p=some v→s27.cell? p=some v:=fun h => by rw [hws];exact h
  replace yX:∀ j,s27.cell? ⟨X,j,none⟩=([.int .i64 9,.int .i64 0,.int .i64 a,.int .i64 b,.bool false,.string ⟨#[]⟩,.string ⟨#[]⟩,.string x,.bool false,.string ⟨#[]⟩,.int .i64 0,.int .i64 0,.bool false,.bool false,.string ⟨#[]⟩,.int .i64 0,.int .i64 0,.bool false,.bool false]:List Value)[j]?:=eqE hws (eqI (eqI (eqI yX (of_decide_eq_true rfl)) (of_decide_eq_true rfl)) (of_decide_eq_true rfl));clear hq;have hQF:∀ {p x},s26.frozen? p=x→s27.frozen? p=x:=fun h => by rw [hws];simpa [go_sem] using h
  replace fX2:=hQF fX2;replace fX3:=hQF fX3;replace fX7:=hQF fX7;clear hQF;replace zA:A < s27.heap.size:=by omega
  replace zX:X < s27.heap.size:=by omega
  replace LA:=eqL (P:=Tryz.prog) HK19 rfl yA;replace LX:=eqL (P:=Tryz.prog) HK19 rfl yX;rw [← hws];clear hBo hws hsz;have hBo:=hBs;clear hBs;go_wp2_with fail
  all_goals go_ret
  all_goals exact ⟨a0d (by simp [*]),hBo⟩
 | true =>
  rw [Bool.and_true]
  cases y with
  | false =>
   rw [Bool.and_false];go_enter Tryz.func32,Tryz.ntmps32
   go_upto_region 1 with (fail)
   obtain ⟨s28,hws⟩:∃ s,s=(w.alloc (.cells #[.int .i64 9,.int .i64 o,.int .i64 a,.int .i64 b,.bool qn,.string qa,.string qd,.string x,.bool tr,.string rs,.int .i64 rc,.int .i64 rr,.bool rf,.bool rg,.string ts,.int .i64 tc,.int .i64 tt,.bool tf,.bool tg] 33)):=⟨_,rfl⟩;have hBs:=bs1 (Below.refl w.heap.size w) hws;obtain ⟨A,hdA⟩:∃ b,b=w.heap.size:=⟨_,rfl⟩;have hsz:s28.heap.size=w.heap.size+1:=by rw [hws];simp
   have yA:=by0 (b:=A) hws hdA;have zA:A < s28.heap.size:=by omega
   have lA:w.heap.size≤A:=by omega
   have LA:=eqL (P:=Tryz.prog) HK19 rfl yA;rw [← hws];try rw [← hdA]
   clear hws hsz hdA;have hBo:=hBs;clear hBs
   go_upto_region 2 with (refine a0c rfl _ _ rfl rfl _ _ _ rfl rfl rfl (by rfl) (by rfl) (by rfl) ?_)
   obtain ⟨s29,hws⟩:∃ s,s=(s28.alloc (.cells #[.int .i64 9,.int .i64 0,.int .i64 0,.int .i64 0,.bool false,.string ⟨#[]⟩,.string ⟨#[]⟩,.string ⟨#[]⟩,.bool false,.string ⟨#[]⟩,.int .i64 0,.int .i64 0,.bool false,.bool false,.string ⟨#[]⟩,.int .i64 0,.int .i64 0,.bool false,.bool false] 33)):=⟨_,rfl⟩;have hBs:=bs1 hBo hws;obtain ⟨X,hdX⟩:∃ b,b=s28.heap.size:=⟨_,rfl⟩;have hsz:s29.heap.size=s28.heap.size+1:=by rw [hws];simp
   have dXA:X≠A:=by omega
   have hQC:∀ p v,s28.cell? p=some v→s29.cell? p=some v:=fun p v h => by rw [hws];exact (alK h)
   have hQZ:∀ b,b < s28.heap.size→b < s29.heap.size:=fun b h => by omega
   replace yA:=eqE hws (eqA yA zA);replace zA:=hQZ _ zA;clear hQC hQZ;have yX:=by0 (b:=X) hws hdX;have hM:=bf0 (b:=X) hws hdX;have fX2:=hM 2;have fX3:=hM 3;have fX7:=hM 7;clear hM;have zX:X < s29.heap.size:=by omega
   have lX:w.heap.size≤X:=by have:=hBo.size;omega
   replace LA:=eqL (P:=Tryz.prog) HK19 rfl yA;have LX:=eqL (P:=Tryz.prog) HK19 rfl yX;rw [← hws];try rw [← hdX]
   clear hBo;clear hws hsz hdX;have hBo:=hBs;clear hBs
   go_upto_region 38 with (fail)
   obtain ⟨s30,hws⟩:∃ s,s=(((s29.setCell ⟨X,7,none⟩ (.string x)).setCell ⟨X,2,none⟩ (.int .i64 a)).setCell ⟨X,3,none⟩ (.int .i64 b)):=⟨_,rfl⟩;have hBs:Below w.heap.size w s30:=by rw [hws];exact ((((hBo).setCell lX _).setCell lX _).setCell lX _)
   have hsz:s30.heap.size=s29.heap.size:=by rw [hws];simp
   replace yA:=eqE hws (eqS (eqS (eqS yA dXA) dXA) dXA);have hq:∀ {p v},(((s29.setCell ⟨X,7,none⟩ (.string x)).setCell ⟨X,2,none⟩ (.int .i64 a)).setCell ⟨X,3,none⟩ (.int .i64 b)).cell? p=some v→s30.cell? p=some v:=fun h => by rw [hws];exact h
   replace yX:∀ j,s30.cell? ⟨X,j,none⟩=([.int .i64 9,.int .i64 0,.int .i64 a,.int .i64 b,.bool false,.string ⟨#[]⟩,.string ⟨#[]⟩,.string x,.bool false,.string ⟨#[]⟩,.int .i64 0,.int .i64 0,.bool false,.bool false,.string ⟨#[]⟩,.int .i64 0,.int .i64 0,.bool false,.bool false]:List Value)[j]?:=eqE hws (eqI (eqI (eqI yX (of_decide_eq_true rfl)) (of_decide_eq_true rfl)) (of_decide_eq_true rfl));clear hq;have hQF:∀ {p x},s29.frozen? p=x→s30.frozen? p=x:=fun h => by rw [hws];simpa [go_sem] using h
   replace fX2:=hQF fX2;replace fX3:=hQF fX3;replace fX7:=hQF fX7;clear hQF;replace zA:A < s30.heap.size:=by omega
   replace zX:X < s30.heap.size:=by omega
   replace LA:=eqL (P:=Tryz.prog) HK19 rfl yA;replace LX:=eqL (P:=Tryz.prog) HK19 rfl yX;rw [← hws];clear hBo hws hsz;have hBo:=hBs;clear hBs;go_wp2_with fail;refine (HC.out _).mono ?_;rintro e wq ⟨rfl,rfl⟩;go_wp2_with fail
   all_goals go_ret
   all_goals exact ⟨a0d (by simp [*]),hBo⟩
  | true =>
   rw [Bool.and_true];by_cases b0:0≤b
   case neg =>
    rw [decide_eq_false b0,Bool.false_and,Bool.false_and];go_enter Tryz.func32,Tryz.ntmps32
    go_upto_region 1 with (fail)
    obtain ⟨s31,hws⟩:∃ s,s=(w.alloc (.cells #[.int .i64 9,.int .i64 o,.int .i64 a,.int .i64 b,.bool qn,.string qa,.string qd,.string x,.bool tr,.string rs,.int .i64 rc,.int .i64 rr,.bool rf,.bool rg,.string ts,.int .i64 tc,.int .i64 tt,.bool tf,.bool tg] 33)):=⟨_,rfl⟩;have hBs:=bs1 (Below.refl w.heap.size w) hws;obtain ⟨A,hdA⟩:∃ b,b=w.heap.size:=⟨_,rfl⟩;have hsz:s31.heap.size=w.heap.size+1:=by rw [hws];simp
    have yA:=by0 (b:=A) hws hdA;have zA:A < s31.heap.size:=by omega
    have lA:w.heap.size≤A:=by omega
    have LA:=eqL (P:=Tryz.prog) HK19 rfl yA;rw [← hws];try rw [← hdA]
    clear hws hsz hdA;have hBo:=hBs;clear hBs
    go_upto_region 2 with (refine a0c rfl _ _ rfl rfl _ _ _ rfl rfl rfl (by rfl) (by rfl) (by rfl) ?_)
    obtain ⟨s32,hws⟩:∃ s,s=(s31.alloc (.cells #[.int .i64 9,.int .i64 0,.int .i64 0,.int .i64 0,.bool false,.string ⟨#[]⟩,.string ⟨#[]⟩,.string ⟨#[]⟩,.bool false,.string ⟨#[]⟩,.int .i64 0,.int .i64 0,.bool false,.bool false,.string ⟨#[]⟩,.int .i64 0,.int .i64 0,.bool false,.bool false] 33)):=⟨_,rfl⟩;have hBs:=bs1 hBo hws;obtain ⟨X,hdX⟩:∃ b,b=s31.heap.size:=⟨_,rfl⟩;have hsz:s32.heap.size=s31.heap.size+1:=by rw [hws];simp
    have dXA:X≠A:=by omega
    have hQC:∀ p v,s31.cell? p=some v→s32.cell? p=some v:=fun p v h => by rw [hws];exact (alK h)
    have hQZ:∀ b,b < s31.heap.size→b < s32.heap.size:=fun b h => by omega
    replace yA:=eqE hws (eqA yA zA);replace zA:=hQZ _ zA;clear hQC hQZ;have yX:=by0 (b:=X) hws hdX;have hM:=bf0 (b:=X) hws hdX;have fX2:=hM 2;have fX3:=hM 3;have fX7:=hM 7;clear hM;have zX:X < s32.heap.size:=by omega
    have lX:w.heap.size≤X:=by have:=hBo.size;omega
    replace LA:=eqL (P:=Tryz.prog) HK19 rfl yA;have LX:=eqL (P:=Tryz.prog) HK19 rfl yX;rw [← hws];try rw [← hdX]
    clear hBo;clear hws hsz hdX;have hBo:=hBs;clear hBs
    go_upto_region 38 with (fail)
    obtain ⟨s33,hws⟩:∃ s,s=(((s32.setCell ⟨X,7,none⟩ (.string x)).setCell ⟨X,2,none⟩ (.int .i64 a)).setCell ⟨X,3,none⟩ (.int .i64 b)):=⟨_,rfl⟩;have hBs:Below w.heap.size w s33:=by rw [hws];exact ((((hBo).setCell lX _).setCell lX _).setCell lX _)
    have hsz:s33.heap.size=s32.heap.size:=by rw [hws];simp
    replace yA:=eqE hws (eqS (eqS (eqS yA dXA) dXA) dXA);have hq:∀ {p v},(((s32.setCell ⟨X,7,none⟩ (.string x)).setCell ⟨X,2,none⟩ (.int .i64 a)).setCell ⟨X,3,none⟩ (.int .i64 b)).cell? p=some v→s33.cell? p=some v:=fun h => by rw [hws];exact h
    replace yX:∀ j,s33.cell? ⟨X,j,none⟩=([.int .i64 9,.int .i64 0,.int .i64 a,.int .i64 b,.bool false,.string ⟨#[]⟩,.string ⟨#[]⟩,.string x,.bool false,.string ⟨#[]⟩,.int .i64 0,.int .i64 0,.bool false,.bool false,.string ⟨#[]⟩,.int .i64 0,.int .i64 0,.bool false,.bool false]:List Value)[j]?:=eqE hws (eqI (eqI (eqI yX (of_decide_eq_true rfl)) (of_decide_eq_true rfl)) (of_decide_eq_true rfl));clear hq;have hQF:∀ {p x},s32.frozen? p=x→s33.frozen? p=x:=fun h => by rw [hws];simpa [go_sem] using h
    replace fX2:=hQF fX2;replace fX3:=hQF fX3;replace fX7:=hQF fX7;clear hQF;replace zA:A < s33.heap.size:=by omega
    replace zX:X < s33.heap.size:=by omega
    replace LA:=eqL (P:=Tryz.prog) HK19 rfl yA;replace LX:=eqL (P:=Tryz.prog) HK19 rfl yX;rw [← hws];clear hBo hws hsz;have hBo:=hBs;clear hBs;go_wp2_with fail;refine (HC.out _).mono ?_;rintro e wq ⟨rfl,rfl⟩;go_wp2_with fail
    all_goals go_ret
    all_goals exact ⟨a0d (by simp [*]),hBo⟩
   rw [decide_eq_true b0,Bool.true_and];by_cases b2:b≤20
   case neg =>
    rw [decide_eq_false b2,Bool.false_and];go_enter Tryz.func32,Tryz.ntmps32
    go_upto_region 1 with (fail)
    obtain ⟨s34,hws⟩:∃ s,s=(w.alloc (.cells #[.int .i64 9,.int .i64 o,.int .i64 a,.int .i64 b,.bool qn,.string qa,.string qd,.string x,.bool tr,.string rs,.int .i64 rc,.int .i64 rr,.bool rf,.bool rg,.string ts,.int .i64 tc,.int .i64 tt,.bool tf,.bool tg] 33)):=⟨_,rfl⟩;have hBs:=bs1 (Below.refl w.heap.size w) hws;obtain ⟨A,hdA⟩:∃ b,b=w.heap.size:=⟨_,rfl⟩;have hsz:s34.heap.size=w.heap.size+1:=by rw [hws];simp
    have yA:=by0 (b:=A) hws hdA;have zA:A < s34.heap.size:=by omega
    have lA:w.heap.size≤A:=by omega
    have LA:=eqL (P:=Tryz.prog) HK19 rfl yA;rw [← hws];try rw [← hdA]
    clear hws hsz hdA;have hBo:=hBs;clear hBs
    go_upto_region 2 with (refine a0c rfl _ _ rfl rfl _ _ _ rfl rfl rfl (by rfl) (by rfl) (by rfl) ?_)
    obtain ⟨s35,hws⟩:∃ s,s=(s34.alloc (.cells #[.int .i64 9,.int .i64 0,.int .i64 0,.int .i64 0,.bool false,.string ⟨#[]⟩,.string ⟨#[]⟩,.string ⟨#[]⟩,.bool false,.string ⟨#[]⟩,.int .i64 0,.int .i64 0,.bool false,.bool false,.string ⟨#[]⟩,.int .i64 0,.int .i64 0,.bool false,.bool false] 33)):=⟨_,rfl⟩;have hBs:=bs1 hBo hws;obtain ⟨X,hdX⟩:∃ b,b=s34.heap.size:=⟨_,rfl⟩;have hsz:s35.heap.size=s34.heap.size+1:=by rw [hws];simp
    have dXA:X≠A:=by omega
    have hQC:∀ p v,s34.cell? p=some v→s35.cell? p=some v:=fun p v h => by rw [hws];exact (alK h)
    have hQZ:∀ b,b < s34.heap.size→b < s35.heap.size:=fun b h => by omega
    replace yA:=eqE hws (eqA yA zA);replace zA:=hQZ _ zA;clear hQC hQZ;have yX:=by0 (b:=X) hws hdX;have hM:=bf0 (b:=X) hws hdX;have fX2:=hM 2;have fX3:=hM 3;have fX7:=hM 7;clear hM;have zX:X < s35.heap.size:=by omega
    have lX:w.heap.size≤X:=by have:=hBo.size;omega
    replace LA:=eqL (P:=Tryz.prog) HK19 rfl yA;have LX:=eqL (P:=Tryz.prog) HK19 rfl yX;rw [← hws];try rw [← hdX]
    clear hBo;clear hws hsz hdX;have hBo:=hBs;clear hBs
    go_upto_region 38 with (fail)
    obtain ⟨s36,hws⟩:∃ s,s=(((s35.setCell ⟨X,7,none⟩ (.string x)).setCell ⟨X,2,none⟩ (.int .i64 a)).setCell ⟨X,3,none⟩ (.int .i64 b)):=⟨_,rfl⟩;have hBs:Below w.heap.size w s36:=by rw [hws];exact ((((hBo).setCell lX _).setCell lX _).setCell lX _)
    have hsz:s36.heap.size=s35.heap.size:=by rw [hws];simp
    replace yA:=eqE hws (eqS (eqS (eqS yA dXA) dXA) dXA);have hq:∀ {p v},(((s35.setCell ⟨X,7,none⟩ (.string x)).setCell ⟨X,2,none⟩ (.int .i64 a)).setCell ⟨X,3,none⟩ (.int .i64 b)).cell? p=some v→s36.cell? p=some v:=fun h => by rw [hws];exact h
    replace yX:∀ j,s36.cell? ⟨X,j,none⟩=([.int .i64 9,.int .i64 0,.int .i64 a,.int .i64 b,.bool false,.string ⟨#[]⟩,.string ⟨#[]⟩,.string x,.bool false,.string ⟨#[]⟩,.int .i64 0,.int .i64 0,.bool false,.bool false,.string ⟨#[]⟩,.int .i64 0,.int .i64 0,.bool false,.bool false]:List Value)[j]?:=eqE hws (eqI (eqI (eqI yX (of_decide_eq_true rfl)) (of_decide_eq_true rfl)) (of_decide_eq_true rfl));clear hq;have hQF:∀ {p x},s35.frozen? p=x→s36.frozen? p=x:=fun h => by rw [hws];simpa [go_sem] using h
    replace fX2:=hQF fX2;replace fX3:=hQF fX3;replace fX7:=hQF fX7;clear hQF;replace zA:A < s36.heap.size:=by omega
    replace zX:X < s36.heap.size:=by omega
    replace LA:=eqL (P:=Tryz.prog) HK19 rfl yA;replace LX:=eqL (P:=Tryz.prog) HK19 rfl yX;rw [← hws];clear hBo hws hsz;have hBo:=hBs;clear hBs;go_wp2_with fail;refine (HC.out _).mono ?_;rintro e wq ⟨rfl,rfl⟩;go_wp2_with fail
    all_goals go_ret
    all_goals exact ⟨a0d (by simp [*]),hBo⟩
   rw [decide_eq_true b2,Bool.true_and];by_cases b1:0 < b
   ·
    rw [decide_eq_false (show ¬ b=0 by omega)];go_enter Tryz.func32,Tryz.ntmps32
    go_upto_region 1 with (fail)
    obtain ⟨s37,hws⟩:∃ s,s=(w.alloc (.cells #[.int .i64 9,.int .i64 o,.int .i64 a,.int .i64 b,.bool qn,.string qa,.string qd,.string x,.bool tr,.string rs,.int .i64 rc,.int .i64 rr,.bool rf,.bool rg,.string ts,.int .i64 tc,.int .i64 tt,.bool tf,.bool tg] 33)):=⟨_,rfl⟩;have hBs:=bs1 (Below.refl w.heap.size w) hws;obtain ⟨A,hdA⟩:∃ b,b=w.heap.size:=⟨_,rfl⟩;have hsz:s37.heap.size=w.heap.size+1:=by rw [hws];simp
    have yA:=by0 (b:=A) hws hdA;have zA:A < s37.heap.size:=by omega
    have lA:w.heap.size≤A:=by omega
    have LA:=eqL (P:=Tryz.prog) HK19 rfl yA;rw [← hws];try rw [← hdA]
    clear hws hsz hdA;have hBo:=hBs;clear hBs
    go_upto_region 2 with (refine a0c rfl _ _ rfl rfl _ _ _ rfl rfl rfl (by rfl) (by rfl) (by rfl) ?_)
    obtain ⟨s38,hws⟩:∃ s,s=(s37.alloc (.cells #[.int .i64 9,.int .i64 0,.int .i64 0,.int .i64 0,.bool false,.string ⟨#[]⟩,.string ⟨#[]⟩,.string ⟨#[]⟩,.bool false,.string ⟨#[]⟩,.int .i64 0,.int .i64 0,.bool false,.bool false,.string ⟨#[]⟩,.int .i64 0,.int .i64 0,.bool false,.bool false] 33)):=⟨_,rfl⟩;have hBs:=bs1 hBo hws;obtain ⟨X,hdX⟩:∃ b,b=s37.heap.size:=⟨_,rfl⟩;have hsz:s38.heap.size=s37.heap.size+1:=by rw [hws];simp
    have dXA:X≠A:=by omega
    have hQC:∀ p v,s37.cell? p=some v→s38.cell? p=some v:=fun p v h => by rw [hws];exact (alK h)
    have hQZ:∀ b,b < s37.heap.size→b < s38.heap.size:=fun b h => by omega
    replace yA:=eqE hws (eqA yA zA);replace zA:=hQZ _ zA;clear hQC hQZ;have yX:=by0 (b:=X) hws hdX;have hM:=bf0 (b:=X) hws hdX;have fX2:=hM 2;have fX3:=hM 3;have fX7:=hM 7;clear hM;have zX:X < s38.heap.size:=by omega
    have lX:w.heap.size≤X:=by have:=hBo.size;omega
    replace LA:=eqL (P:=Tryz.prog) HK19 rfl yA;have LX:=eqL (P:=Tryz.prog) HK19 rfl yX;rw [← hws];try rw [← hdX]
    clear hBo;clear hws hsz hdX;have hBo:=hBs;clear hBs
    go_upto_region 38 with (fail)
    obtain ⟨s39,hws⟩:∃ s,s=(((s38.setCell ⟨X,7,none⟩ (.string x)).setCell ⟨X,2,none⟩ (.int .i64 a)).setCell ⟨X,3,none⟩ (.int .i64 b)):=⟨_,rfl⟩;have hBs:Below w.heap.size w s39:=by rw [hws];exact ((((hBo).setCell lX _).setCell lX _).setCell lX _)
    have hsz:s39.heap.size=s38.heap.size:=by rw [hws];simp
    replace yA:=eqE hws (eqS (eqS (eqS yA dXA) dXA) dXA);have hq:∀ {p v},(((s38.setCell ⟨X,7,none⟩ (.string x)).setCell ⟨X,2,none⟩ (.int .i64 a)).setCell ⟨X,3,none⟩ (.int .i64 b)).cell? p=some v→s39.cell? p=some v:=fun h => by rw [hws];exact h
    replace yX:∀ j,s39.cell? ⟨X,j,none⟩=([.int .i64 9,.int .i64 0,.int .i64 a,.int .i64 b,.bool false,.string ⟨#[]⟩,.string ⟨#[]⟩,.string x,.bool false,.string ⟨#[]⟩,.int .i64 0,.int .i64 0,.bool false,.bool false,.string ⟨#[]⟩,.int .i64 0,.int .i64 0,.bool false,.bool false]:List Value)[j]?:=eqE hws (eqI (eqI (eqI yX (of_decide_eq_true rfl)) (of_decide_eq_true rfl)) (of_decide_eq_true rfl));clear hq;have hQF:∀ {p x},s38.frozen? p=x→s39.frozen? p=x:=fun h => by rw [hws];simpa [go_sem] using h
    replace fX2:=hQF fX2;replace fX3:=hQF fX3;replace fX7:=hQF fX7;clear hQF;replace zA:A < s39.heap.size:=by omega
    replace zX:X < s39.heap.size:=by omega
    replace LA:=eqL (P:=Tryz.prog) HK19 rfl yA;replace LX:=eqL (P:=Tryz.prog) HK19 rfl yX;rw [← hws];clear hBo hws hsz;have hBo:=hBs;clear hBs;go_wp2_with fail;refine (HC.out _).mono ?_;rintro e wq ⟨rfl,rfl⟩;go_wp2_with fail
    all_goals go_ret
    all_goals exact ⟨a0d (by simp [*]),hBo⟩
   ·
    obtain rfl:b=0:=by omega
    by_cases a0:a=0
    ·
     subst a0;go_enter Tryz.func32,Tryz.ntmps32
     go_upto_region 1 with (fail)
     obtain ⟨s40,hws⟩:∃ s,s=(w.alloc (.cells #[.int .i64 9,.int .i64 o,.int .i64 0,.int .i64 0,.bool qn,.string qa,.string qd,.string x,.bool tr,.string rs,.int .i64 rc,.int .i64 rr,.bool rf,.bool rg,.string ts,.int .i64 tc,.int .i64 tt,.bool tf,.bool tg] 33)):=⟨_,rfl⟩;have hBs:=bs1 (Below.refl w.heap.size w) hws;obtain ⟨A,hdA⟩:∃ b,b=w.heap.size:=⟨_,rfl⟩;have hsz:s40.heap.size=w.heap.size+1:=by rw [hws];simp
     have yA:=by0 (b:=A) hws hdA;have zA:A < s40.heap.size:=by omega
     have lA:w.heap.size≤A:=by omega
     have LA:=eqL (P:=Tryz.prog) HK19 rfl yA;rw [← hws];try rw [← hdA]
     clear hws hsz hdA;have hBo:=hBs;clear hBs
     go_upto_region 2 with (refine a0c rfl _ _ rfl rfl _ _ _ rfl rfl rfl (by rfl) (by rfl) (by rfl) ?_)
     obtain ⟨s41,hws⟩:∃ s,s=(s40.alloc (.cells #[.int .i64 9,.int .i64 0,.int .i64 0,.int .i64 0,.bool false,.string ⟨#[]⟩,.string ⟨#[]⟩,.string ⟨#[]⟩,.bool false,.string ⟨#[]⟩,.int .i64 0,.int .i64 0,.bool false,.bool false,.string ⟨#[]⟩,.int .i64 0,.int .i64 0,.bool false,.bool false] 33)):=⟨_,rfl⟩;have hBs:=bs1 hBo hws;obtain ⟨X,hdX⟩:∃ b,b=s40.heap.size:=⟨_,rfl⟩;have hsz:s41.heap.size=s40.heap.size+1:=by rw [hws];simp
     have dXA:X≠A:=by omega
     have hQC:∀ p v,s40.cell? p=some v→s41.cell? p=some v:=fun p v h => by rw [hws];exact (alK h)
     have hQZ:∀ b,b < s40.heap.size→b < s41.heap.size:=fun b h => by omega
     replace yA:=eqE hws (eqA yA zA);replace zA:=hQZ _ zA;clear hQC hQZ;have yX:=by0 (b:=X) hws hdX;have hM:=bf0 (b:=X) hws hdX;have fX2:=hM 2;have fX3:=hM 3;have fX7:=hM 7;clear hM;have zX:X < s41.heap.size:=by omega
     have lX:w.heap.size≤X:=by have:=hBo.size;omega
     replace LA:=eqL (P:=Tryz.prog) HK19 rfl yA;have LX:=eqL (P:=Tryz.prog) HK19 rfl yX;rw [← hws];try rw [← hdX]
     clear hBo;clear hws hsz hdX;have hBo:=hBs;clear hBs
     go_upto_region 38 with (fail)
     obtain ⟨s42,hws⟩:∃ s,s=(((s41.setCell ⟨X,7,none⟩ (.string x)).setCell ⟨X,2,none⟩ (.int .i64 0)).setCell ⟨X,3,none⟩ (.int .i64 0)):=⟨_,rfl⟩;have hBs:Below w.heap.size w s42:=by rw [hws];exact ((((hBo).setCell lX _).setCell lX _).setCell lX _)
     have hsz:s42.heap.size=s41.heap.size:=by rw [hws];simp
     replace yA:=eqE hws (eqS (eqS (eqS yA dXA) dXA) dXA);have hq:∀ {p v},(((s41.setCell ⟨X,7,none⟩ (.string x)).setCell ⟨X,2,none⟩ (.int .i64 0)).setCell ⟨X,3,none⟩ (.int .i64 0)).cell? p=some v→s42.cell? p=some v:=fun h => by rw [hws];exact h
     replace yX:∀ j,s42.cell? ⟨X,j,none⟩=([.int .i64 9,.int .i64 0,.int .i64 0,.int .i64 0,.bool false,.string ⟨#[]⟩,.string ⟨#[]⟩,.string x,.bool false,.string ⟨#[]⟩,.int .i64 0,.int .i64 0,.bool false,.bool false,.string ⟨#[]⟩,.int .i64 0,.int .i64 0,.bool false,.bool false]:List Value)[j]?:=eqE hws (eqI (eqI (eqI yX (of_decide_eq_true rfl)) (of_decide_eq_true rfl)) (of_decide_eq_true rfl));clear hq;have hQF:∀ {p x},s41.frozen? p=x→s42.frozen? p=x:=fun h => by rw [hws];simpa [go_sem] using h
     replace fX2:=hQF fX2;replace fX3:=hQF fX3;replace fX7:=hQF fX7;clear hQF;replace zA:A < s42.heap.size:=by omega
     replace zX:X < s42.heap.size:=by omega
     replace LA:=eqL (P:=Tryz.prog) HK19 rfl yA;replace LX:=eqL (P:=Tryz.prog) HK19 rfl yX;rw [← hws];clear hBo hws hsz;have hBo:=hBs;clear hBs;go_wp2_with fail;refine (HC.out _).mono ?_;rintro e wq ⟨rfl,rfl⟩;go_wp2_with fail
     all_goals go_ret
     all_goals exact ⟨a0d (by simp [*]),hBo⟩
    ·
     have ha0:(a == 0)=false:=by simpa using a0
     rw [decide_eq_false a0];clear a0;go_enter Tryz.func32,Tryz.ntmps32
     go_upto_region 1 with (fail)
     obtain ⟨s43,hws⟩:∃ s,s=(w.alloc (.cells #[.int .i64 9,.int .i64 o,.int .i64 a,.int .i64 0,.bool qn,.string qa,.string qd,.string x,.bool tr,.string rs,.int .i64 rc,.int .i64 rr,.bool rf,.bool rg,.string ts,.int .i64 tc,.int .i64 tt,.bool tf,.bool tg] 33)):=⟨_,rfl⟩;have hBs:=bs1 (Below.refl w.heap.size w) hws;obtain ⟨A,hdA⟩:∃ b,b=w.heap.size:=⟨_,rfl⟩;have hsz:s43.heap.size=w.heap.size+1:=by rw [hws];simp
     have yA:=by0 (b:=A) hws hdA;have zA:A < s43.heap.size:=by omega
     have lA:w.heap.size≤A:=by omega
     have LA:=eqL (P:=Tryz.prog) HK19 rfl yA;rw [← hws];try rw [← hdA]
     clear hws hsz hdA;have hBo:=hBs;clear hBs
     go_upto_region 2 with (refine a0c rfl _ _ rfl rfl _ _ _ rfl rfl rfl (by rfl) (by rfl) (by rfl) ?_)
     obtain ⟨s44,hws⟩:∃ s,s=(s43.alloc (.cells #[.int .i64 9,.int .i64 0,.int .i64 0,.int .i64 0,.bool false,.string ⟨#[]⟩,.string ⟨#[]⟩,.string ⟨#[]⟩,.bool false,.string ⟨#[]⟩,.int .i64 0,.int .i64 0,.bool false,.bool false,.string ⟨#[]⟩,.int .i64 0,.int .i64 0,.bool false,.bool false] 33)):=⟨_,rfl⟩;have hBs:=bs1 hBo hws;obtain ⟨X,hdX⟩:∃ b,b=s43.heap.size:=⟨_,rfl⟩;have hsz:s44.heap.size=s43.heap.size+1:=by rw [hws];simp
     have dXA:X≠A:=by omega
     have hQC:∀ p v,s43.cell? p=some v→s44.cell? p=some v:=fun p v h => by rw [hws];exact (alK h)
     have hQZ:∀ b,b < s43.heap.size→b < s44.heap.size:=fun b h => by omega
     replace yA:=eqE hws (eqA yA zA);replace zA:=hQZ _ zA;clear hQC hQZ;have yX:=by0 (b:=X) hws hdX;have hM:=bf0 (b:=X) hws hdX;have fX2:=hM 2;have fX3:=hM 3;have fX7:=hM 7;clear hM;have zX:X < s44.heap.size:=by omega
     have lX:w.heap.size≤X:=by have:=hBo.size;omega
     replace LA:=eqL (P:=Tryz.prog) HK19 rfl yA;have LX:=eqL (P:=Tryz.prog) HK19 rfl yX;rw [← hws];try rw [← hdX]
     clear hBo;clear hws hsz hdX;have hBo:=hBs;clear hBs
     go_upto_region 38 with (fail)
     obtain ⟨s45,hws⟩:∃ s,s=(((s44.setCell ⟨X,7,none⟩ (.string x)).setCell ⟨X,2,none⟩ (.int .i64 a)).setCell ⟨X,3,none⟩ (.int .i64 0)):=⟨_,rfl⟩;have hBs:Below w.heap.size w s45:=by rw [hws];exact ((((hBo).setCell lX _).setCell lX _).setCell lX _)
     have hsz:s45.heap.size=s44.heap.size:=by rw [hws];simp
     replace yA:=eqE hws (eqS (eqS (eqS yA dXA) dXA) dXA);have hq:∀ {p v},(((s44.setCell ⟨X,7,none⟩ (.string x)).setCell ⟨X,2,none⟩ (.int .i64 a)).setCell ⟨X,3,none⟩ (.int .i64 0)).cell? p=some v→s45.cell? p=some v:=fun h => by rw [hws];exact h
     replace yX:∀ j,s45.cell? ⟨X,j,none⟩=([.int .i64 9,.int .i64 0,.int .i64 a,.int .i64 0,.bool false,.string ⟨#[]⟩,.string ⟨#[]⟩,.string x,.bool false,.string ⟨#[]⟩,.int .i64 0,.int .i64 0,.bool false,.bool false,.string ⟨#[]⟩,.int .i64 0,.int .i64 0,.bool false,.bool false]:List Value)[j]?:=eqE hws (eqI (eqI (eqI yX (of_decide_eq_true rfl)) (of_decide_eq_true rfl)) (of_decide_eq_true rfl));clear hq;have hQF:∀ {p x},s44.frozen? p=x→s45.frozen? p=x:=fun h => by rw [hws];simpa [go_sem] using h
     replace fX2:=hQF fX2;replace fX3:=hQF fX3;replace fX7:=hQF fX7;clear hQF;replace zA:A < s45.heap.size:=by omega
     replace zX:X < s45.heap.size:=by omega
     replace LA:=eqL (P:=Tryz.prog) HK19 rfl yA;replace LX:=eqL (P:=Tryz.prog) HK19 rfl yX;rw [← hws];clear hBo hws hsz;have hBo:=hBs;clear hBs;go_wp2_with fail;refine (HC.out _).mono ?_;rintro e wq ⟨rfl,rfl⟩;go_wp2_with fail
     all_goals go_ret
     all_goals exact ⟨a0d (by simp [*]),hBo⟩
end Go.Proofs.YtfbgmokjemmceaaGreatDoor
