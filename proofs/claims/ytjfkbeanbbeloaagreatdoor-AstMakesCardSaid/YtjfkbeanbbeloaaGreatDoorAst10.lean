import Derived.Test.YtjfkbeanbbeloaaGreatDoorAst8
set_option maxHeartbeats 16000000
set_option maxRecDepth 100000
namespace Go.Proofs.YtjfkbeanbbeloaaGreatDoor
open Go.RowKit Go.Shelf
set_option linter.unusedSimpArgs false
set_option linter.unusedVariables false
theorem c5d (o a b:Int) (qn:Bool) (qa qd x:ByteArray) (tr:Bool) (rs:ByteArray) (rc rr:Int) (rf rg:Bool) (ts:ByteArray) (tc tt:Int) (tf tg:Bool) (w:World) (hf:Fits ⟨7,o,a,b,qn,qa,qd,x,tr,⟨rs,rc,rr,rf,rg⟩,⟨ts,tc,tt,tf,tg⟩⟩) :
  Calls Tryz.prog 34 #[.agg #[.int .i64 7,.int .i64 o,.int .i64 a,.int .i64 b,.bool qn,.string qa,.string qd,.string x,.bool tr,.string rs,.int .i64 rc,.int .i64 rr,.bool rf,.bool rg,.string ts,.int .i64 tc,.int .i64 tt,.bool tf,.bool tg]] w fun e w' => e=.returned (.bool (a1x ⟨7,o,a,b,qn,qa,qd,x,tr,⟨rs,rc,rr,rf,rg⟩,⟨ts,tc,tt,tf,tg⟩⟩))∧Below w.heap.size w w':=by
 unfold a1x;obtain ⟨h1,h2,h3,h4,h5⟩:=hf;dsimp only at *;have hud:undef=Value.tuple #[]:=rfl;obtain ⟨K19,hz19,HK19⟩:=a0q;have hb:a0s ⟨7,o,a,b,qn,qa,qd,x,tr,⟨rs,rc,rr,rf,rg⟩,⟨ts,tc,tt,tf,tg⟩⟩=⟨7,o,a,0,false,⟨#[]⟩,⟨#[]⟩,⟨#[]⟩,false,rf0,rf0⟩:=rfl;have hE:∀ w,Sem.run Tryz.prog (binOp .eql 30 (.agg #[.int .i64 7,.int .i64 o,.int .i64 a,.int .i64 b,.bool qn,.string qa,.string qd,.string x,.bool tr,.string rs,.int .i64 rc,.int .i64 rr,.bool rf,.bool rg,.string ts,.int .i64 tc,.int .i64 tt,.bool tf,.bool tg]) (.agg #[.int .i64 7,.int .i64 o,.int .i64 a,.int .i64 0,.bool false,.string ⟨#[]⟩,.string ⟨#[]⟩,.string ⟨#[]⟩,.bool false,.string ⟨#[]⟩,.int .i64 0,.int .i64 0,.bool false,.bool false,.string ⟨#[]⟩,.int .i64 0,.int .i64 0,.bool false,.bool false])) w=.ok (.bool (a2r ⟨7,o,a,b,qn,qa,qd,x,tr,⟨rs,rc,rr,rf,rg⟩,⟨ts,tc,tt,tf,tg⟩⟩ (a0s ⟨7,o,a,b,qn,qa,qd,x,tr,⟨rs,rc,rr,rf,rg⟩,⟨ts,tc,tt,tf,tg⟩⟩))) w:=fun w => by rw [hb];exact a1b ⟨7,o,a,b,qn,qa,qd,x,tr,⟨rs,rc,rr,rf,rg⟩,⟨ts,tc,tt,tf,tg⟩⟩ ⟨7,o,a,0,false,⟨#[]⟩,⟨#[]⟩,⟨#[]⟩,false,rf0,rf0⟩ w
 clear hb;generalize a2r ⟨7,o,a,b,qn,qa,qd,x,tr,⟨rs,rc,rr,rf,rg⟩,⟨ts,tc,tt,tf,tg⟩⟩ (a0s ⟨7,o,a,b,qn,qa,qd,x,tr,⟨rs,rc,rr,rf,rg⟩,⟨ts,tc,tt,tf,tg⟩⟩)=z at *;have hu:a4i ⟨7,o,a,b,qn,qa,qd,x,tr,⟨rs,rc,rr,rf,rg⟩,⟨ts,tc,tt,tf,tg⟩⟩=decide (lvI 7 o < 8):=rfl;rw [hu];have hC:=fun w => a1z ⟨7,o,a,b,qn,qa,qd,x,tr,⟨rs,rc,rr,rf,rg⟩,⟨ts,tc,tt,tf,tg⟩⟩ w
 dsimp only at hC;obtain ⟨v,hv⟩:∃ v,v=lvI 7 o:=⟨_,rfl⟩;rw [← hv] at hC ⊢;have HC:=zh hC;clear hC hu h1 h2 h3 h4 h5 hv;by_cases hlt:v < 8
 ·
  rw [decide_eq_true hlt];have hl:=decide_eq_true hlt;go_enter Tryz.func34,Tryz.ntmps34
  go_upto_region 1 with (fail)
  obtain ⟨s1,hws⟩:∃ s,s=(w.alloc (.cells #[.int .i64 7,.int .i64 o,.int .i64 a,.int .i64 b,.bool qn,.string qa,.string qd,.string x,.bool tr,.string rs,.int .i64 rc,.int .i64 rr,.bool rf,.bool rg,.string ts,.int .i64 tc,.int .i64 tt,.bool tf,.bool tg] 30)):=⟨_,rfl⟩;have hBs:=bs1 (Below.refl w.heap.size w) hws;obtain ⟨A,hdA⟩:∃ b,b=w.heap.size:=⟨_,rfl⟩;have hsz:s1.heap.size=w.heap.size+1:=by rw [hws];simp
  have yA:=by0 (b:=A) hws hdA;have zA:A < s1.heap.size:=by omega
  have lA:w.heap.size≤A:=by omega
  have LA:=eqL (P:=Tryz.prog) HK19 rfl yA;rw [← hws];try rw [← hdA]
  clear hws hsz hdA;have hBo:=hBs;clear hBs;go_wp2_with fail;refine (HC.out _).mono ?_;rintro e s2 ⟨rfl,hb⟩;replace yA:=eqB hb yA zA;replace zA:=zHl hb zA;replace hBo:=hBo.trans (hb.mono hBo.size);clear hb;replace LA:=eqL (P:=Tryz.prog) HK19 rfl yA
  all_goals go_wp2_with fail
  all_goals first | go_ret | go_ret2
  all_goals exact ⟨rfl,hBo⟩
 ·
  rw [decide_eq_false hlt];have hl:=decide_eq_false hlt;clear hE;go_enter Tryz.func34,Tryz.ntmps34
  go_upto_region 1 with (fail)
  obtain ⟨s3,hws⟩:∃ s,s=(w.alloc (.cells #[.int .i64 7,.int .i64 o,.int .i64 a,.int .i64 b,.bool qn,.string qa,.string qd,.string x,.bool tr,.string rs,.int .i64 rc,.int .i64 rr,.bool rf,.bool rg,.string ts,.int .i64 tc,.int .i64 tt,.bool tf,.bool tg] 30)):=⟨_,rfl⟩;have hBs:=bs1 (Below.refl w.heap.size w) hws;obtain ⟨A,hdA⟩:∃ b,b=w.heap.size:=⟨_,rfl⟩;have hsz:s3.heap.size=w.heap.size+1:=by rw [hws];simp
  have yA:=by0 (b:=A) hws hdA;have zA:A < s3.heap.size:=by omega
  have lA:w.heap.size≤A:=by omega
  have LA:=eqL (P:=Tryz.prog) HK19 rfl yA;rw [← hws];try rw [← hdA]
  clear hws hsz hdA;have hBo:=hBs;clear hBs;go_wp2_with fail;refine (HC.out _).mono ?_;rintro e s4 ⟨rfl,hb⟩;replace yA:=eqB hb yA zA;replace zA:=zHl hb zA;replace hBo:=hBo.trans (hb.mono hBo.size);clear hb;replace LA:=eqL (P:=Tryz.prog) HK19 rfl yA
  all_goals go_wp2_with fail
  all_goals first | go_ret | go_ret2
  all_goals exact ⟨rfl,hBo⟩
theorem c5e (o a b:Int) (qn:Bool) (qa qd x:ByteArray) (tr:Bool) (rs:ByteArray) (rc rr:Int) (rf rg:Bool) (ts:ByteArray) (tc tt:Int) (tf tg:Bool) (w:World) (hf:Fits ⟨8,o,a,b,qn,qa,qd,x,tr,⟨rs,rc,rr,rf,rg⟩,⟨ts,tc,tt,tf,tg⟩⟩) :
  Calls Tryz.prog 34 #[.agg #[.int .i64 8,.int .i64 o,.int .i64 a,.int .i64 b,.bool qn,.string qa,.string qd,.string x,.bool tr,.string rs,.int .i64 rc,.int .i64 rr,.bool rf,.bool rg,.string ts,.int .i64 tc,.int .i64 tt,.bool tf,.bool tg]] w fun e w' => e=.returned (.bool (a1x ⟨8,o,a,b,qn,qa,qd,x,tr,⟨rs,rc,rr,rf,rg⟩,⟨ts,tc,tt,tf,tg⟩⟩))∧Below w.heap.size w w':=by
 unfold a1x;obtain ⟨h1,h2,h3,h4,h5⟩:=hf;dsimp only at *;have hud:undef=Value.tuple #[]:=rfl;obtain ⟨K19,hz19,HK19⟩:=a0q;have hb:a0s ⟨8,o,a,b,qn,qa,qd,x,tr,⟨rs,rc,rr,rf,rg⟩,⟨ts,tc,tt,tf,tg⟩⟩=⟨8,o,a,b,false,⟨#[]⟩,⟨#[]⟩,⟨#[]⟩,false,rf0,rf0⟩:=rfl;have hE:∀ w,Sem.run Tryz.prog (binOp .eql 30 (.agg #[.int .i64 8,.int .i64 o,.int .i64 a,.int .i64 b,.bool qn,.string qa,.string qd,.string x,.bool tr,.string rs,.int .i64 rc,.int .i64 rr,.bool rf,.bool rg,.string ts,.int .i64 tc,.int .i64 tt,.bool tf,.bool tg]) (.agg #[.int .i64 8,.int .i64 o,.int .i64 a,.int .i64 b,.bool false,.string ⟨#[]⟩,.string ⟨#[]⟩,.string ⟨#[]⟩,.bool false,.string ⟨#[]⟩,.int .i64 0,.int .i64 0,.bool false,.bool false,.string ⟨#[]⟩,.int .i64 0,.int .i64 0,.bool false,.bool false])) w=.ok (.bool (a2r ⟨8,o,a,b,qn,qa,qd,x,tr,⟨rs,rc,rr,rf,rg⟩,⟨ts,tc,tt,tf,tg⟩⟩ (a0s ⟨8,o,a,b,qn,qa,qd,x,tr,⟨rs,rc,rr,rf,rg⟩,⟨ts,tc,tt,tf,tg⟩⟩))) w:=fun w => by rw [hb];exact a1b ⟨8,o,a,b,qn,qa,qd,x,tr,⟨rs,rc,rr,rf,rg⟩,⟨ts,tc,tt,tf,tg⟩⟩ ⟨8,o,a,b,false,⟨#[]⟩,⟨#[]⟩,⟨#[]⟩,false,rf0,rf0⟩ w
 clear hb;generalize a2r ⟨8,o,a,b,qn,qa,qd,x,tr,⟨rs,rc,rr,rf,rg⟩,⟨ts,tc,tt,tf,tg⟩⟩ (a0s ⟨8,o,a,b,qn,qa,qd,x,tr,⟨rs,rc,rr,rf,rg⟩,⟨ts,tc,tt,tf,tg⟩⟩)=z at *;have hu:a4i ⟨8,o,a,b,qn,qa,qd,x,tr,⟨rs,rc,rr,rf,rg⟩,⟨ts,tc,tt,tf,tg⟩⟩=decide (lvI 8 o < 8):=rfl;rw [hu];have hC:=fun w => a1z ⟨8,o,a,b,qn,qa,qd,x,tr,⟨rs,rc,rr,rf,rg⟩,⟨ts,tc,tt,tf,tg⟩⟩ w
 dsimp only at hC;obtain ⟨v,hv⟩:∃ v,v=lvI 8 o:=⟨_,rfl⟩;rw [← hv] at hC ⊢;have HC:=zh hC;clear hC hu h1 h2 h3 h4 h5 hv;by_cases hlt:v < 8
 ·
  rw [decide_eq_true hlt];have hl:=decide_eq_true hlt;go_enter Tryz.func34,Tryz.ntmps34
  go_upto_region 1 with (fail)
  obtain ⟨s5,hws⟩:∃ s,s=(w.alloc (.cells #[.int .i64 8,.int .i64 o,.int .i64 a,.int .i64 b,.bool qn,.string qa,.string qd,.string x,.bool tr,.string rs,.int .i64 rc,.int .i64 rr,.bool rf,.bool rg,.string ts,.int .i64 tc,.int .i64 tt,.bool tf,.bool tg] 30)):=⟨_,rfl⟩;have hBs:=bs1 (Below.refl w.heap.size w) hws;obtain ⟨A,hdA⟩:∃ b,b=w.heap.size:=⟨_,rfl⟩;have hsz:s5.heap.size=w.heap.size+1:=by rw [hws];simp
  have yA:=by0 (b:=A) hws hdA;have zA:A < s5.heap.size:=by omega
  have lA:w.heap.size≤A:=by omega
  have LA:=eqL (P:=Tryz.prog) HK19 rfl yA;rw [← hws];try rw [← hdA]
  clear hws hsz hdA;have hBo:=hBs;clear hBs;go_wp2_with fail;refine (HC.out _).mono ?_;rintro e s6 ⟨rfl,hb⟩;replace yA:=eqB hb yA zA;replace zA:=zHl hb zA;replace hBo:=hBo.trans (hb.mono hBo.size);clear hb;replace LA:=eqL (P:=Tryz.prog) HK19 rfl yA
  all_goals go_wp2_with fail
  all_goals first | go_ret | go_ret2
  all_goals exact ⟨rfl,hBo⟩
 ·
  rw [decide_eq_false hlt];have hl:=decide_eq_false hlt;clear hE;go_enter Tryz.func34,Tryz.ntmps34
  go_upto_region 1 with (fail)
  obtain ⟨s7,hws⟩:∃ s,s=(w.alloc (.cells #[.int .i64 8,.int .i64 o,.int .i64 a,.int .i64 b,.bool qn,.string qa,.string qd,.string x,.bool tr,.string rs,.int .i64 rc,.int .i64 rr,.bool rf,.bool rg,.string ts,.int .i64 tc,.int .i64 tt,.bool tf,.bool tg] 30)):=⟨_,rfl⟩;have hBs:=bs1 (Below.refl w.heap.size w) hws;obtain ⟨A,hdA⟩:∃ b,b=w.heap.size:=⟨_,rfl⟩;have hsz:s7.heap.size=w.heap.size+1:=by rw [hws];simp
  have yA:=by0 (b:=A) hws hdA;have zA:A < s7.heap.size:=by omega
  have lA:w.heap.size≤A:=by omega
  have LA:=eqL (P:=Tryz.prog) HK19 rfl yA;rw [← hws];try rw [← hdA]
  clear hws hsz hdA;have hBo:=hBs;clear hBs;go_wp2_with fail;refine (HC.out _).mono ?_;rintro e s8 ⟨rfl,hb⟩;replace yA:=eqB hb yA zA;replace zA:=zHl hb zA;replace hBo:=hBo.trans (hb.mono hBo.size);clear hb;replace LA:=eqL (P:=Tryz.prog) HK19 rfl yA
  all_goals go_wp2_with fail
  all_goals first | go_ret | go_ret2
  all_goals exact ⟨rfl,hBo⟩
theorem c5f (o a b:Int) (qn:Bool) (qa qd x:ByteArray) (tr:Bool) (rs:ByteArray) (rc rr:Int) (rf rg:Bool) (ts:ByteArray) (tc tt:Int) (tf tg:Bool) (w:World) (hf:Fits ⟨9,o,a,b,qn,qa,qd,x,tr,⟨rs,rc,rr,rf,rg⟩,⟨ts,tc,tt,tf,tg⟩⟩) :
  Calls Tryz.prog 34 #[.agg #[.int .i64 9,.int .i64 o,.int .i64 a,.int .i64 b,.bool qn,.string qa,.string qd,.string x,.bool tr,.string rs,.int .i64 rc,.int .i64 rr,.bool rf,.bool rg,.string ts,.int .i64 tc,.int .i64 tt,.bool tf,.bool tg]] w fun e w' => e=.returned (.bool (a1x ⟨9,o,a,b,qn,qa,qd,x,tr,⟨rs,rc,rr,rf,rg⟩,⟨ts,tc,tt,tf,tg⟩⟩))∧Below w.heap.size w w':=by
 unfold a1x;obtain ⟨h1,h2,h3,h4,h5⟩:=hf;dsimp only at *;have hud:undef=Value.tuple #[]:=rfl;obtain ⟨K19,hz19,HK19⟩:=a0q;have hb:a0s ⟨9,o,a,b,qn,qa,qd,x,tr,⟨rs,rc,rr,rf,rg⟩,⟨ts,tc,tt,tf,tg⟩⟩=⟨9,0,a,b,false,⟨#[]⟩,⟨#[]⟩,x,false,rf0,rf0⟩:=rfl;have hE:∀ w,Sem.run Tryz.prog (binOp .eql 30 (.agg #[.int .i64 9,.int .i64 o,.int .i64 a,.int .i64 b,.bool qn,.string qa,.string qd,.string x,.bool tr,.string rs,.int .i64 rc,.int .i64 rr,.bool rf,.bool rg,.string ts,.int .i64 tc,.int .i64 tt,.bool tf,.bool tg]) (.agg #[.int .i64 9,.int .i64 0,.int .i64 a,.int .i64 b,.bool false,.string ⟨#[]⟩,.string ⟨#[]⟩,.string x,.bool false,.string ⟨#[]⟩,.int .i64 0,.int .i64 0,.bool false,.bool false,.string ⟨#[]⟩,.int .i64 0,.int .i64 0,.bool false,.bool false])) w=.ok (.bool (a2r ⟨9,o,a,b,qn,qa,qd,x,tr,⟨rs,rc,rr,rf,rg⟩,⟨ts,tc,tt,tf,tg⟩⟩ (a0s ⟨9,o,a,b,qn,qa,qd,x,tr,⟨rs,rc,rr,rf,rg⟩,⟨ts,tc,tt,tf,tg⟩⟩))) w:=fun w => by rw [hb];exact a1b ⟨9,o,a,b,qn,qa,qd,x,tr,⟨rs,rc,rr,rf,rg⟩,⟨ts,tc,tt,tf,tg⟩⟩ ⟨9,0,a,b,false,⟨#[]⟩,⟨#[]⟩,x,false,rf0,rf0⟩ w
 clear hb;generalize a2r ⟨9,o,a,b,qn,qa,qd,x,tr,⟨rs,rc,rr,rf,rg⟩,⟨ts,tc,tt,tf,tg⟩⟩ (a0s ⟨9,o,a,b,qn,qa,qd,x,tr,⟨rs,rc,rr,rf,rg⟩,⟨ts,tc,tt,tf,tg⟩⟩)=z at *;have hu:a4i ⟨9,o,a,b,qn,qa,qd,x,tr,⟨rs,rc,rr,rf,rg⟩,⟨ts,tc,tt,tf,tg⟩⟩=(decide (0≤b) && decide (b≤20) && !(decide (b=0) && !decide (a=0)) && b9e x.data.toList):=rfl;rw [hu];have hC:=fun w => b6v x w (by unfold maxLen;omega)
 generalize b9e x.data.toList=y at *;have HC:=zh hC;have hBo:=Below.refl w.heap.size w;clear hC hu h1 h2 h3 h4 h5;by_cases b0:0≤b
 case neg =>
  rw [decide_eq_false b0];clear hE;go_enter Tryz.func34,Tryz.ntmps34
  go_wp2
  go_ret
  exact ⟨a0d (by simp),hBo.alloc (Nat.le_refl _) _⟩
 rw [decide_eq_true b0,Bool.true_and];by_cases b2:b≤20
 case neg =>
  rw [decide_eq_false b2];clear hE;go_enter Tryz.func34,Tryz.ntmps34
  go_wp2
  go_ret
  exact ⟨a0d (by simp),hBo.alloc (Nat.le_refl _) _⟩
 rw [decide_eq_true b2,Bool.true_and];by_cases b1:b=0
 ·
  subst b1;by_cases a0:a=0
  ·
   subst a0;clear hBo;rw [show (!(decide ((0:Int)=0) && !decide ((0:Int)=0)))=true from rfl,Bool.true_and]
   cases y with
   | false =>
    clear hE;go_enter Tryz.func34,Tryz.ntmps34;go_wp2_with fail;obtain ⟨s9,hws⟩:∃ s,s=(w.alloc (.cells #[.int .i64 9,.int .i64 o,.int .i64 0,.int .i64 0,.bool qn,.string qa,.string qd,.string x,.bool tr,.string rs,.int .i64 rc,.int .i64 rr,.bool rf,.bool rg,.string ts,.int .i64 tc,.int .i64 tt,.bool tf,.bool tg] 30)):=⟨_,rfl⟩;have hBs:=bs1 (Below.refl w.heap.size w) hws;obtain ⟨A,hdA⟩:∃ b,b=w.heap.size:=⟨_,rfl⟩;have hsz:s9.heap.size=w.heap.size+1:=by rw [hws];simp
    have yA:=by0 (b:=A) hws hdA;have zA:A < s9.heap.size:=by omega
    have lA:w.heap.size≤A:=by omega
    have LA:=eqL (P:=Tryz.prog) HK19 rfl yA;rw [← hws];try rw [← hdA]
    clear hws hsz hdA;have hBo:=hBs;clear hBs;refine (HC.out _).mono ?_;rintro e s10 ⟨rfl,hb⟩;replace yA:=eqB hb yA zA;replace zA:=zHl hb zA;replace hBo:=hBo.trans (hb.mono hBo.size);clear hb;replace LA:=eqL (P:=Tryz.prog) HK19 rfl yA
    all_goals go_wp2_with fail
    all_goals first | go_ret | go_ret2
    all_goals exact ⟨rfl,hBo⟩
   | true =>
    go_enter Tryz.func34,Tryz.ntmps34;go_wp2_with fail;obtain ⟨s11,hws⟩:∃ s,s=(w.alloc (.cells #[.int .i64 9,.int .i64 o,.int .i64 0,.int .i64 0,.bool qn,.string qa,.string qd,.string x,.bool tr,.string rs,.int .i64 rc,.int .i64 rr,.bool rf,.bool rg,.string ts,.int .i64 tc,.int .i64 tt,.bool tf,.bool tg] 30)):=⟨_,rfl⟩;have hBs:=bs1 (Below.refl w.heap.size w) hws;obtain ⟨A,hdA⟩:∃ b,b=w.heap.size:=⟨_,rfl⟩;have hsz:s11.heap.size=w.heap.size+1:=by rw [hws];simp
    have yA:=by0 (b:=A) hws hdA;have zA:A < s11.heap.size:=by omega
    have lA:w.heap.size≤A:=by omega
    have LA:=eqL (P:=Tryz.prog) HK19 rfl yA;rw [← hws];try rw [← hdA]
    clear hws hsz hdA;have hBo:=hBs;clear hBs;refine (HC.out _).mono ?_;rintro e s12 ⟨rfl,hb⟩;replace yA:=eqB hb yA zA;replace zA:=zHl hb zA;replace hBo:=hBo.trans (hb.mono hBo.size);clear hb;replace LA:=eqL (P:=Tryz.prog) HK19 rfl yA
    all_goals go_wp2_with fail
    all_goals first | go_ret | go_ret2
    all_goals exact ⟨rfl,hBo⟩
  ·
   have ha0:(a == 0)=false:=by simpa using a0
   have ha1:(a != 0)=true:=by simpa using a0
   rw [show (!(decide ((0:Int)=0) && !decide (a=0)))=false by rw [decide_eq_false a0];rfl];clear hE a0;go_enter Tryz.func34,Tryz.ntmps34
   go_wp2
   go_ret
   exact ⟨a0d (by simp),hBo.alloc (Nat.le_refl _) _⟩
 ·
  have hb0:(b == 0)=false:=by simpa using b1
  rw [show (!(decide (b=0) && !decide (a=0)))=true by rw [decide_eq_false b1];rfl,Bool.true_and];clear hBo b1
  cases y with
  | false =>
   clear hE;go_enter Tryz.func34,Tryz.ntmps34;go_wp2_with fail;obtain ⟨s13,hws⟩:∃ s,s=(w.alloc (.cells #[.int .i64 9,.int .i64 o,.int .i64 a,.int .i64 b,.bool qn,.string qa,.string qd,.string x,.bool tr,.string rs,.int .i64 rc,.int .i64 rr,.bool rf,.bool rg,.string ts,.int .i64 tc,.int .i64 tt,.bool tf,.bool tg] 30)):=⟨_,rfl⟩;have hBs:=bs1 (Below.refl w.heap.size w) hws;obtain ⟨A,hdA⟩:∃ b,b=w.heap.size:=⟨_,rfl⟩;have hsz:s13.heap.size=w.heap.size+1:=by rw [hws];simp
   have yA:=by0 (b:=A) hws hdA;have zA:A < s13.heap.size:=by omega
   have lA:w.heap.size≤A:=by omega
   have LA:=eqL (P:=Tryz.prog) HK19 rfl yA;rw [← hws];try rw [← hdA]
   clear hws hsz hdA;have hBo:=hBs;clear hBs;refine (HC.out _).mono ?_;rintro e s14 ⟨rfl,hb⟩;replace yA:=eqB hb yA zA;replace zA:=zHl hb zA;replace hBo:=hBo.trans (hb.mono hBo.size);clear hb;replace LA:=eqL (P:=Tryz.prog) HK19 rfl yA
   all_goals go_wp2_with fail
   all_goals first | go_ret | go_ret2
   all_goals exact ⟨rfl,hBo⟩
  | true =>
   go_enter Tryz.func34,Tryz.ntmps34;go_wp2_with fail;obtain ⟨s15,hws⟩:∃ s,s=(w.alloc (.cells #[.int .i64 9,.int .i64 o,.int .i64 a,.int .i64 b,.bool qn,.string qa,.string qd,.string x,.bool tr,.string rs,.int .i64 rc,.int .i64 rr,.bool rf,.bool rg,.string ts,.int .i64 tc,.int .i64 tt,.bool tf,.bool tg] 30)):=⟨_,rfl⟩;have hBs:=bs1 (Below.refl w.heap.size w) hws;obtain ⟨A,hdA⟩:∃ b,b=w.heap.size:=⟨_,rfl⟩;have hsz:s15.heap.size=w.heap.size+1:=by rw [hws];simp
   have yA:=by0 (b:=A) hws hdA;have zA:A < s15.heap.size:=by omega
   have lA:w.heap.size≤A:=by omega
   have LA:=eqL (P:=Tryz.prog) HK19 rfl yA;rw [← hws];try rw [← hdA]
   clear hws hsz hdA;have hBo:=hBs;clear hBs;refine (HC.out _).mono ?_;rintro e s16 ⟨rfl,hb⟩;replace yA:=eqB hb yA zA;replace zA:=zHl hb zA;replace hBo:=hBo.trans (hb.mono hBo.size);clear hb;replace LA:=eqL (P:=Tryz.prog) HK19 rfl yA
   all_goals go_wp2_with fail
   all_goals first | go_ret | go_ret2
   all_goals exact ⟨rfl,hBo⟩
theorem b1m {n:Nd} (hk7:n.k≠7) (hk8:n.k≠8) (hk9:n.k≠9):a1x n=a3b n:=by
 by_cases h6:n.k≤6
 ·
  rw [a3p h6];rfl
 ·
  rw [b0i (by omega) (by omega) (by omega) (by omega) (by omega) (by omega)];unfold a1x a4i;rw [if_neg (by omega),if_neg (by omega),if_neg (by omega),if_neg (by omega),if_neg (by omega),if_neg (by omega),if_neg hk7,if_neg hk8,if_neg hk9];rfl
theorem b3r (k:Int) (o a b:Int) (qn:Bool) (qa qd x:ByteArray) (tr:Bool) (rs:ByteArray) (rc rr:Int) (rf rg:Bool) (ts:ByteArray) (tc tt:Int) (tf tg:Bool) (w:World) (hf:Fits ⟨k,o,a,b,qn,qa,qd,x,tr,⟨rs,rc,rr,rf,rg⟩,⟨ts,tc,tt,tf,tg⟩⟩) (hN:NamesAt w) (hk7:k≠7) (hk8:k≠8) (hk9:k≠9) :
  Calls Tryz.prog 34 #[.agg #[.int .i64 k,.int .i64 o,.int .i64 a,.int .i64 b,.bool qn,.string qa,.string qd,.string x,.bool tr,.string rs,.int .i64 rc,.int .i64 rr,.bool rf,.bool rg,.string ts,.int .i64 tc,.int .i64 tt,.bool tf,.bool tg]] w fun e w' => e=.returned (.bool (a3b ⟨k,o,a,b,qn,qa,qd,x,tr,⟨rs,rc,rr,rf,rg⟩,⟨ts,tc,tt,tf,tg⟩⟩))∧Below w.heap.size w w':=by
 have hud:undef=Value.tuple #[]:=rfl;obtain ⟨K19,hz19,HK19⟩:=a0q;have hC:=fun w hN => a9i ⟨k,o,a,b,qn,qa,qd,x,tr,⟨rs,rc,rr,rf,rg⟩,⟨ts,tc,tt,tf,tg⟩⟩ w hf hN
 generalize a3b ⟨k,o,a,b,qn,qa,qd,x,tr,⟨rs,rc,rr,rf,rg⟩,⟨ts,tc,tt,tf,tg⟩⟩=y at *;have HC:=zh hC;have HNN:=zh hN;have g7:(k == 7)=false:=by simpa using hk7
 have g8:(k == 8)=false:=by simpa using hk8
 have g9:(k == 9)=false:=by simpa using hk9
 clear hC hk7 hk8 hk9 hf hN;go_enter Tryz.func34,Tryz.ntmps34
 go_upto_region 1 with (fail)
 obtain ⟨s17,hws⟩:∃ s,s=(w.alloc (.cells #[.int .i64 k,.int .i64 o,.int .i64 a,.int .i64 b,.bool qn,.string qa,.string qd,.string x,.bool tr,.string rs,.int .i64 rc,.int .i64 rr,.bool rf,.bool rg,.string ts,.int .i64 tc,.int .i64 tt,.bool tf,.bool tg] 30)):=⟨_,rfl⟩;have hBs:=bs1 (Below.refl w.heap.size w) hws;obtain ⟨A,hdA⟩:∃ b,b=w.heap.size:=⟨_,rfl⟩;have hsz:s17.heap.size=w.heap.size+1:=by rw [hws];simp
 have yA:=by0 (b:=A) hws hdA;have zA:A < s17.heap.size:=by omega
 have lA:w.heap.size≤A:=by omega
 have LA:=eqL (P:=Tryz.prog) HK19 rfl yA;rw [← hws];try rw [← hdA]
 clear hws hsz hdA;have hBo:=hBs;clear hBs;go_wp2_with fail;refine (HC.out _ (HNN.out.below hBo)).mono ?_;rintro e s18 ⟨rfl,hb⟩;replace yA:=eqB hb yA zA;replace zA:=zHl hb zA;replace hBo:=hBo.trans (hb.mono hBo.size);clear hb;replace LA:=eqL (P:=Tryz.prog) HK19 rfl yA
 all_goals go_wp2_with fail
 all_goals first | go_ret | go_ret2
 all_goals exact ⟨rfl,hBo⟩
theorem a4c (n:Nd) (w:World) (hf:Fits n) (hN:NamesAt w) :
  Calls Tryz.prog 34 #[ndV n] w fun e w' => e=.returned (.bool (a1x n))∧Below w.heap.size w w':=by
 obtain ⟨k,o,a,b,qn,qa,qd,x,tr,⟨rs,rc,rr,rf,rg⟩,⟨ts,tc,tt,tf,tg⟩⟩:=n;by_cases hk7:k=7
 ·
  subst hk7;exact c5d o a b qn qa qd x tr rs rc rr rf rg ts tc tt tf tg w hf
 by_cases hk8:k=8
 ·
  subst hk8;exact c5e o a b qn qa qd x tr rs rc rr rf rg ts tc tt tf tg w hf
 by_cases hk9:k=9
 ·
  subst hk9;exact c5f o a b qn qa qd x tr rs rc rr rf rg ts tc tt tf tg w hf
 rw [b1m hk7 hk8 hk9];exact b3r k o a b qn qa qd x tr rs rc rr rf rg ts tc tt tf tg w hf hN hk7 hk8 hk9
end Go.Proofs.YtjfkbeanbbeloaaGreatDoor
