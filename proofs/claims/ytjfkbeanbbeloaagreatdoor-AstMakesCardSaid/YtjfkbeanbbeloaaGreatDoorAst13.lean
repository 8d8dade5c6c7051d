/-
  
  
-/
import Derived.Test.YtjfkbeanbbeloaaGreatDoorAst11
import Derived.Test.YtjfkbeanbbeloaaGreatDoorAst12
set_option maxHeartbeats 16000000
set_option maxRecDepth 100000
namespace Go.Proofs.YtjfkbeanbbeloaaGreatDoor
open Go.RowKit Go.Shelf
set_option linter.unusedSimpArgs false
set_option linter.unusedVariables false
theorem c5g (r t:Rf) (w:World) :
  Calls Tryz.prog 53 #[.agg #[.string r.sh,.int .i64 r.c,.int .i64 r.r,.bool r.fc,.bool r.fr],.agg #[.string t.sh,.int .i64 t.c,.int .i64 t.r,.bool t.fc,.bool t.fr]] w fun e w' => e=.returned (a1e r.c r.r t.c t.r)∧Below w.heap.size w w':=by
 have hud:undef=Value.tuple #[]:=rfl;go_enter Tryz.func53,Tryz.ntmps53
 go_wp2
 refine bodyPost_ret (v:=a1e r.c r.r t.c t.r) (by simp [results,Tryz.results53,go_sem]) rfl ⟨rfl,?_⟩
 repeat (with_reducible first | exact Below.refl _ _ | apply a0i | refine c0x ?_ (by (try dsimp only);simp;try omega))
theorem b8s (a b:Int) (o:Int) (qn:Bool) (qa qd x:ByteArray) (tr:Bool) (r t:Rf):a1x ⟨6,o,a,b,qn,qa,qd,x,tr,r,t⟩=(arB r t && a2r ⟨6,o,a,b,qn,qa,qd,x,tr,r,t⟩ (a0s ⟨6,o,a,b,qn,qa,qd,x,tr,r,t⟩)):=rfl
theorem b1p (s:ByteArray):(s.size=0) ↔ s.toList=[]:=by
 rw [ByteArray.toList_eq];constructor
 ·
  intro h;exact List.eq_nil_of_length_eq_zero (by simpa using h)
 ·
  intro h;have:=congrArg List.length h;simpa using this
theorem c9c (o a b:Int) (qn:Bool) (qa qd x:ByteArray) (tr:Bool) (rs:ByteArray) (rc rr:Int) (rf rg:Bool) (ts:ByteArray) (tc tt:Int) (tf tg:Bool) (w:World) (hf:Fits ⟨6,o,a,b,qn,qa,qd,x,tr,⟨rs,rc,rr,rf,rg⟩,⟨ts,tc,tt,tf,tg⟩⟩) :
  Calls Tryz.prog 30 #[.agg #[.int .i64 6,.int .i64 o,.int .i64 a,.int .i64 b,.bool qn,.string qa,.string qd,.string x,.bool tr,.string rs,.int .i64 rc,.int .i64 rr,.bool rf,.bool rg,.string ts,.int .i64 tc,.int .i64 tt,.bool tf,.bool tg]] w fun e w' => e=.returned (.bool (a1x ⟨6,o,a,b,qn,qa,qd,x,tr,⟨rs,rc,rr,rf,rg⟩,⟨ts,tc,tt,tf,tg⟩⟩))∧Below w.heap.size w w':=by
 obtain ⟨Rs,hRs⟩:∃ Rs,Rs=a1x ⟨6,o,a,b,qn,qa,qd,x,tr,⟨rs,rc,rr,rf,rg⟩,⟨ts,tc,tt,tf,tg⟩⟩:=⟨_,rfl⟩;rw [← hRs];rw [b8s] at hRs;obtain ⟨h1,h2,h3,h4,h5⟩:=hf;dsimp only at h1 h2 h3 h4 h5;have hb:a0s ⟨6,o,a,b,qn,qa,qd,x,tr,⟨rs,rc,rr,rf,rg⟩,⟨ts,tc,tt,tf,tg⟩⟩=⟨6,0,0,0,false,⟨#[]⟩,⟨#[]⟩,⟨#[]⟩,false,⟨rs,rc,rr,rf,rg⟩,⟨ts,tc,tt,tf,tg⟩⟩:=rfl;have hE:∀ w,Sem.run Tryz.prog (binOp .eql 30 (.agg #[.int .i64 6,.int .i64 o,.int .i64 a,.int .i64 b,.bool qn,.string qa,.string qd,.string x,.bool tr,.string rs,.int .i64 rc,.int .i64 rr,.bool rf,.bool rg,.string ts,.int .i64 tc,.int .i64 tt,.bool tf,.bool tg]) (.agg #[.int .i64 6,.int .i64 0,.int .i64 0,.int .i64 0,.bool false,.string ⟨#[]⟩,.string ⟨#[]⟩,.string ⟨#[]⟩,.bool false,.string rs,.int .i64 rc,.int .i64 rr,.bool rf,.bool rg,.string ts,.int .i64 tc,.int .i64 tt,.bool tf,.bool tg])) w=.ok (.bool (a2r ⟨6,o,a,b,qn,qa,qd,x,tr,⟨rs,rc,rr,rf,rg⟩,⟨ts,tc,tt,tf,tg⟩⟩ (a0s ⟨6,o,a,b,qn,qa,qd,x,tr,⟨rs,rc,rr,rf,rg⟩,⟨ts,tc,tt,tf,tg⟩⟩))) w:=fun w => by rw [hb];exact a1b ⟨6,o,a,b,qn,qa,qd,x,tr,⟨rs,rc,rr,rf,rg⟩,⟨ts,tc,tt,tf,tg⟩⟩ ⟨6,0,0,0,false,⟨#[]⟩,⟨#[]⟩,⟨#[]⟩,false,⟨rs,rc,rr,rf,rg⟩,⟨ts,tc,tt,tf,tg⟩⟩ w
 clear hb;generalize a2r ⟨6,o,a,b,qn,qa,qd,x,tr,⟨rs,rc,rr,rf,rg⟩,⟨ts,tc,tt,tf,tg⟩⟩ (a0s ⟨6,o,a,b,qn,qa,qd,x,tr,⟨rs,rc,rr,rf,rg⟩,⟨ts,tc,tt,tf,tg⟩⟩)=z at *;have hB:=fun w => c5g ⟨rs,rc,rr,rf,rg⟩ ⟨ts,tc,tt,tf,tg⟩ w
 have hN:=fun w => b3l rc rr tc tt w
 have hR:=fun w => a6m ⟨rs,rc,rr,rf,rg⟩ (a8g rs rc rr) w (by show rs.size≤maxLen;unfold maxLen;omega) rfl
 have hT:=fun w => a6m ⟨ts,tc,tt,tf,tg⟩ (a8g ts tc tt) w (by show ts.size≤maxLen;unfold maxLen;omega) rfl
 obtain ⟨u1,u2,u3,u4,hv⟩:=b5d rc rr tc tt;have hud:undef=Value.tuple #[]:=rfl;obtain ⟨K19,hz19,HK19⟩:=a0q;have hV:=hv;rw [hv] at hN;have HB:=zh hB;have HN:=zh hN;have HR:=zh hR;have HT:=zh hT;have HRs:=zh hRs;have HV:=zh hV;obtain ⟨e6,he6⟩:∃ z,z=a8z rc rr tc tt:=⟨_,rfl⟩;rw [← he6] at HN;have HE6:=zh he6;clear hB hN hR hT hRs hv hV h1 h2 h3 h4 h5 he6;go_enter Tryz.func30,Tryz.ntmps30
 go_upto_region 1 with (fail)
 obtain ⟨s1,hws⟩:∃ s,s=(w.alloc (.cells #[.int .i64 6,.int .i64 o,.int .i64 a,.int .i64 b,.bool qn,.string qa,.string qd,.string x,.bool tr,.string rs,.int .i64 rc,.int .i64 rr,.bool rf,.bool rg,.string ts,.int .i64 tc,.int .i64 tt,.bool tf,.bool tg] 30)):=⟨_,rfl⟩;have hBs:=bs1 (Below.refl w.heap.size w) hws;obtain ⟨A,hdA⟩:∃ b,b=w.heap.size:=⟨_,rfl⟩;have hsz:s1.heap.size=w.heap.size+1:=by rw [hws];simp
 have yA:=by0 (b:=A) hws hdA;have zA:A < s1.heap.size:=by omega
 have lA:w.heap.size≤A:=by omega
 have LA:=eqL (P:=Tryz.prog) HK19 rfl yA;rw [← hws];try rw [← hdA]
 clear hws hsz hdA;have hBo:=hBs;clear hBs
 go_upto_region 2 with (refine a0c rfl _ _ rfl rfl _ _ _ rfl rfl rfl (by rfl) (by rfl) (by rfl) ?_)
 obtain ⟨s2,hws⟩:∃ s,s=(s1.alloc (.cells #[.int .i64 6,.int .i64 0,.int .i64 0,.int .i64 0,.bool false,.string ⟨#[]⟩,.string ⟨#[]⟩,.string ⟨#[]⟩,.bool false,.string ⟨#[]⟩,.int .i64 0,.int .i64 0,.bool false,.bool false,.string ⟨#[]⟩,.int .i64 0,.int .i64 0,.bool false,.bool false] 30)):=⟨_,rfl⟩;have hBs:=bs1 hBo hws;obtain ⟨X,hdX⟩:∃ b,b=s1.heap.size:=⟨_,rfl⟩;have hsz:s2.heap.size=s1.heap.size+1:=by rw [hws];simp
 have dXA:X≠A:=by omega
 have hQC:∀ p v,s1.cell? p=some v→s2.cell? p=some v:=fun p v h => by rw [hws];exact (alK h)
 have hQZ:∀ b,b < s1.heap.size→b < s2.heap.size:=fun b h => by omega
 replace yA:=eqE hws (eqA yA zA);replace zA:=hQZ _ zA;clear hQC hQZ;have yX:=by0 (b:=X) hws hdX;have hM:=bf0 (b:=X) hws hdX;have fX9:=hM 9;have fX10:=hM 10;have fX11:=hM 11;have fX12:=hM 12;have fX13:=hM 13;have fX14:=hM 14;have fX15:=hM 15;have fX16:=hM 16;have fX17:=hM 17;have fX18:=hM 18;clear hM;have zX:X < s2.heap.size:=by omega
 have lX:w.heap.size≤X:=by have:=hBo.size;omega
 replace LA:=eqL (P:=Tryz.prog) HK19 rfl yA;have LX:=eqL (P:=Tryz.prog) HK19 rfl yX;rw [← hws];try rw [← hdX]
 clear hBo;clear hws hsz hdX;have hBo:=hBs;clear hBs
 go_upto_region 23 with (fail)
 obtain ⟨s3,hws⟩:∃ s,s=((((((((((s2.setCell ⟨X,9,none⟩ (.string rs)).setCell ⟨X,10,none⟩ (.int .i64 rc)).setCell ⟨X,11,none⟩ (.int .i64 rr)).setCell ⟨X,12,none⟩ (.bool rf)).setCell ⟨X,13,none⟩ (.bool rg)).setCell ⟨X,14,none⟩ (.string ts)).setCell ⟨X,15,none⟩ (.int .i64 tc)).setCell ⟨X,16,none⟩ (.int .i64 tt)).setCell ⟨X,17,none⟩ (.bool tf)).setCell ⟨X,18,none⟩ (.bool tg)):=⟨_,rfl⟩;have hBs:Below w.heap.size w s3:=by rw [hws];exact (((((((((((hBo).setCell lX _).setCell lX _).setCell lX _).setCell lX _).setCell lX _).setCell lX _).setCell lX _).setCell lX _).setCell lX _).setCell lX _)
 have hsz:s3.heap.size=s2.heap.size:=by rw [hws];simp
 replace yA:=eqE hws (eqS (eqS (eqS (eqS (eqS (eqS (eqS (eqS (eqS (eqS yA dXA) dXA) dXA) dXA) dXA) dXA) dXA) dXA) dXA) dXA);have hq:∀ {p v},((((((((((s2.setCell ⟨X,9,none⟩ (.string rs)).setCell ⟨X,10,none⟩ (.int .i64 rc)).setCell ⟨X,11,none⟩ (.int .i64 rr)).setCell ⟨X,12,none⟩ (.bool rf)).setCell ⟨X,13,none⟩ (.bool rg)).setCell ⟨X,14,none⟩ (.string ts)).setCell ⟨X,15,none⟩ (.int .i64 tc)).setCell ⟨X,16,none⟩ (.int .i64 tt)).setCell ⟨X,17,none⟩ (.bool tf)).setCell ⟨X,18,none⟩ (.bool tg)).cell? p=some v→s3.cell? p=some v:=fun h => by rw [hws];exact h
 replace yX:∀ j,s3.cell? ⟨X,j,none⟩=([.int .i64 6,.int .i64 0,.int .i64 0,.int .i64 0,.bool false,.string ⟨#[]⟩,.string ⟨#[]⟩,.string ⟨#[]⟩,.bool false,.string rs,.int .i64 rc,.int .i64 rr,.bool rf,.bool rg,.string ts,.int .i64 tc,.int .i64 tt,.bool tf,.bool tg]:List Value)[j]?:=eqE hws (eqI (eqI (eqI (eqI (eqI (eqI (eqI (eqI (eqI (eqI yX (of_decide_eq_true rfl)) (of_decide_eq_true rfl)) (of_decide_eq_true rfl)) (of_decide_eq_true rfl)) (of_decide_eq_true rfl)) (of_decide_eq_true rfl)) (of_decide_eq_true rfl)) (of_decide_eq_true rfl)) (of_decide_eq_true rfl)) (of_decide_eq_true rfl));clear hq;have hQF:∀ {p x},s2.frozen? p=x→s3.frozen? p=x:=fun h => by rw [hws];simpa [go_sem] using h
 replace fX9:=hQF fX9;replace fX10:=hQF fX10;replace fX11:=hQF fX11;replace fX12:=hQF fX12;replace fX13:=hQF fX13;replace fX14:=hQF fX14;replace fX15:=hQF fX15;replace fX16:=hQF fX16;replace fX17:=hQF fX17;replace fX18:=hQF fX18;clear hQF;replace zA:A < s3.heap.size:=by omega
 replace zX:X < s3.heap.size:=by omega
 replace LA:=eqL (P:=Tryz.prog) HK19 rfl yA;replace LX:=eqL (P:=Tryz.prog) HK19 rfl yX;rw [← hws];clear hBo hws hsz;have hBo:=hBs;clear hBs;go_wp2_with fail;refine (HB.out _).mono ?_;rintro e s4 ⟨rfl,hb⟩;replace yA:=eqB hb yA zA;replace zA:=zHl hb zA;replace yX:=eqB hb yX zX;replace fX9:=a0g hb fX9 zX;replace fX10:=a0g hb fX10 zX;replace fX11:=a0g hb fX11 zX;replace fX12:=a0g hb fX12 zX;replace fX13:=a0g hb fX13 zX;replace fX14:=a0g hb fX14 zX;replace fX15:=a0g hb fX15 zX;replace fX16:=a0g hb fX16 zX;replace fX17:=a0g hb fX17 zX;replace fX18:=a0g hb fX18 zX;replace zX:=zHl hb zX;replace hBo:=hBo.trans (hb.mono hBo.size);clear hb;replace LA:=eqL (P:=Tryz.prog) HK19 rfl yA;replace LX:=eqL (P:=Tryz.prog) HK19 rfl yX;go_wp2_with fail;refine (HN.out _).mono ?_;rintro e s5 ⟨rfl,hb⟩;replace yA:=eqB hb yA zA;replace zA:=zHl hb zA;replace yX:=eqB hb yX zX;replace fX9:=a0g hb fX9 zX;replace fX10:=a0g hb fX10 zX;replace fX11:=a0g hb fX11 zX;replace fX12:=a0g hb fX12 zX;replace fX13:=a0g hb fX13 zX;replace fX14:=a0g hb fX14 zX;replace fX15:=a0g hb fX15 zX;replace fX16:=a0g hb fX16 zX;replace fX17:=a0g hb fX17 zX;replace fX18:=a0g hb fX18 zX;replace zX:=zHl hb zX;replace hBo:=hBo.trans (hb.mono hBo.size);clear hb;replace LA:=eqL (P:=Tryz.prog) HK19 rfl yA;replace LX:=eqL (P:=Tryz.prog) HK19 rfl yX
 go_upto_region 24 with (fail)
 obtain ⟨s6,hws⟩:∃ s,s=(s5.alloc (.cells #[.int .i64 u1,.int .i64 u2,.int .i64 u3,.int .i64 u4] 89)):=⟨_,rfl⟩;have hBs:=bs1 hBo hws;obtain ⟨G,hdG⟩:∃ b,b=s5.heap.size:=⟨_,rfl⟩;have hsz:s6.heap.size=s5.heap.size+1:=by rw [hws];simp
 have dXG:X≠G:=by omega
 have hQC:∀ p v,s5.cell? p=some v→s6.cell? p=some v:=fun p v h => by rw [hws];exact (alK h)
 have hQZ:∀ b,b < s5.heap.size→b < s6.heap.size:=fun b h => by omega
 have hQF:∀ b j,b < s5.heap.size→s5.frozen? ⟨b,j,none⟩=false→s6.frozen? ⟨b,j,none⟩=false:=fun b j z h => by rw [hws];exact (alF z h)
 replace yA:=eqE hws (eqA yA zA);replace zA:=hQZ _ zA;replace yX:=eqE hws (eqA yX zX);replace fX9:=hQF _ _ zX fX9;replace fX10:=hQF _ _ zX fX10;replace fX11:=hQF _ _ zX fX11;replace fX12:=hQF _ _ zX fX12;replace fX13:=hQF _ _ zX fX13;replace fX14:=hQF _ _ zX fX14;replace fX15:=hQF _ _ zX fX15;replace fX16:=hQF _ _ zX fX16;replace fX17:=hQF _ _ zX fX17;replace fX18:=hQF _ _ zX fX18;replace zX:=hQZ _ zX;clear hQC hQZ hQF;have hN:=bx0 (b:=G) hws hdG;have kG0:=hN 0 _ rfl;have kG1:=hN 1 _ rfl;have kG2:=hN 2 _ rfl;have kG3:=hN 3 _ rfl;clear hN;have zG:G < s6.heap.size:=by omega
 have lG:w.heap.size≤G:=by have:=hBo.size;omega
 replace LA:=eqL (P:=Tryz.prog) HK19 rfl yA;replace LX:=eqL (P:=Tryz.prog) HK19 rfl yX;rw [← hws];try rw [← hdG]
 clear hBo;clear hws hsz hdG;have hBo:=hBs;clear hBs;have HF:Hid (∀ W,Below s6.heap.size s6 W→Below w.heap.size w W):=fun W hW => hBo.trans (hW.mono hBo.size)
 clear hBo;refine wrp (S:=fun w' => (∀ j,w'.cell? ⟨A,j,none⟩=([.int .i64 6,.int .i64 o,.int .i64 a,.int .i64 b,.bool qn,.string qa,.string qd,.string x,.bool tr,.string rs,.int .i64 rc,.int .i64 rr,.bool rf,.bool rg,.string ts,.int .i64 tc,.int .i64 tt,.bool tf,.bool tg]:List Value)[j]?)∧(∀ j,w'.cell? ⟨X,j,none⟩=([.int .i64 6,.int .i64 0,.int .i64 0,.int .i64 0,.bool false,.string ⟨#[]⟩,.string ⟨#[]⟩,.string ⟨#[]⟩,.bool false,.string rs,.int .i64 rc,.int .i64 rr,.bool rf,.bool rg,.string ts,.int .i64 tc,.int .i64 tt,.bool tf,.bool tg]:List Value)[j]?)∧w'.cell? ⟨G,0,none⟩=some (.int .i64 u1)∧w'.cell? ⟨G,1,none⟩=some (.int .i64 u2)∧w'.cell? ⟨G,2,none⟩=some (.int .i64 u3)∧w'.cell? ⟨G,3,none⟩=some (.int .i64 u4)∧Sem.run Tryz.prog (loadCellsFrom ⟨A,0,none⟩ 0 K19 #[]) w'=.ok #[.int .i64 6,.int .i64 o,.int .i64 a,.int .i64 b,.bool qn,.string qa,.string qd,.string x,.bool tr,.string rs,.int .i64 rc,.int .i64 rr,.bool rf,.bool rg,.string ts,.int .i64 tc,.int .i64 tt,.bool tf,.bool tg] w'∧Sem.run Tryz.prog (loadCellsFrom ⟨X,0,none⟩ 0 K19 #[]) w'=.ok #[.int .i64 6,.int .i64 0,.int .i64 0,.int .i64 0,.bool false,.string ⟨#[]⟩,.string ⟨#[]⟩,.string ⟨#[]⟩,.bool false,.string rs,.int .i64 rc,.int .i64 rr,.bool rf,.bool rg,.string ts,.int .i64 tc,.int .i64 tt,.bool tf,.bool tg] w') (by kernel_rfl) (fun w' hx => by obtain ⟨hcx,hfx⟩:=a0k hx;((try dsimp only);((repeat' apply And.intro) <;> first | assumption | exact yA | exact eqL HK19 rfl (yA) | exact fun j => (hcx A j (by assumption)).trans (yA j) | exact eqL HK19 rfl (fun j => (hcx A j (by assumption)).trans (yA j)) | exact eqS yA (by dsimp only;omega) | exact eqL HK19 rfl (eqS yA (by dsimp only;omega)) | exact eqS (fun j => (hcx A j (by assumption)).trans (yA j)) (by dsimp only;omega) | exact eqL HK19 rfl (eqS (fun j => (hcx A j (by assumption)).trans (yA j)) (by dsimp only;omega)) | exact yX | exact eqL HK19 rfl (yX) | exact fun j => (hcx X j (by assumption)).trans (yX j) | exact eqL HK19 rfl (fun j => (hcx X j (by assumption)).trans (yX j)) | exact eqS yX (by dsimp only;omega) | exact eqL HK19 rfl (eqS yX (by dsimp only;omega)) | exact eqS (fun j => (hcx X j (by assumption)).trans (yX j)) (by dsimp only;omega) | exact eqL HK19 rfl (eqS (fun j => (hcx X j (by assumption)).trans (yX j)) (by dsimp only;omega)) | ((repeat (with_reducible first | apply a0b | apply a0x | refine a0e ?_ (by (try dsimp only);omega))) <;> first | assumption | (rw [hcx _ _ (by assumption)];assumption))))) (fun HKP hHeld => ?_)
 refine tk 0 ?_;try simp only [pz]
 refine tk 1 ?_;try simp only [pz]
 refine tk 2 ?_;try simp only [pz]
 refine tk 3 ?_;try simp only [pz]
 cases z with
 | false =>
  refine tSk 4 ?_;try simp only [pz]
  refine tSk 5 ?_;try simp only [pz]
  refine tSk 6 ?_;try simp only [pz]
  refine tk 7 ?_;try simp only [pz]
  refine tk 8 ?_;try simp only [pz]
  refine tSk 9 ?_;try simp only [pz]
  refine tSk 10 ?_;try simp only [pz]
  refine tSk 11 ?_;try simp only [pz]
  refine tk 12 ?_;try simp only [pz]
  refine tk 13 ?_;try simp only [pz]
  refine tSk 14 ?_;try simp only [pz]
  refine tSk 15 ?_;try simp only [pz]
  refine tSk 16 ?_;try simp only [pz]
  refine tSk 17 ?_;try simp only [pz]
  refine tk 18 ?_;try simp only [pz]
  refine tk 19 ?_;try simp only [pz]
  refine tSk 20 ?_;try simp only [pz]
  refine tSk 21 ?_;try simp only [pz]
  refine tk 22 ?_;try simp only [pz]
  refine tk 23 ?_;try simp only [pz]
  refine tSk 24 ?_;try simp only [pz]
  refine tSk 25 ?_;try simp only [pz]
  refine tSk 26 ?_;try simp only [pz]
  refine tSk 27 ?_;try simp only [pz]
  refine tSk 28 ?_;try simp only [pz]
  refine tSk 29 ?_;try simp only [pz]
  refine tSk 30 ?_;try simp only [pz]
  refine tk 31 ?_;try simp only [pz]
  refine tk 32 ?_;try simp only [pz]
  refine wpAnyH_done (by kernel_rfl) ?_ _;have hBo:=HF.out _ (Below.refl _ _);clear HF;go_wp2_with fail
  go_ret
  exact ⟨a0d (HRs.out.trans (Bool.and_false _)).symm,Below.drew hBo⟩
 | true =>
  have hRs:=HRs.out;rw [Bool.and_true] at hRs;unfold arB at hRs;dsimp only at hRs;have HR1:=zh hRs;clear hRs;refine tk 4 ?_;try simp only [pz]
  refine tk 5 ?_;try simp only [pz]
  refine rd1 6 (by kernel_rfl) rfl fun K hK => ?_
  go_simp
  (go_at_call 52;refine (HR.out _).mono ?_;rintro e x7 ⟨rfl,hbx⟩;have hTx:Below s6.heap.size s6 x7:=bHb hbx;obtain ⟨hcx,hfx⟩:=a0k hTx)
  try (go_wp2_with fail)
  refine hK.out _ _ (kHp HKP) (fun hHeld => ?_);clear hK K;try simp only [pz]
  cases hr:a8g rs rc rr with
  | false =>
   have hRs:=HR1.out;rw [hr,Bool.and_false,Bool.false_and,Bool.false_and] at hRs;clear hr;refine tk 7 ?_;try simp only [pz]
   refine tk 8 ?_;try simp only [pz]
   refine tSk 9 ?_;try simp only [pz]
   refine tSk 10 ?_;try simp only [pz]
   refine tSk 11 ?_;try simp only [pz]
   refine tk 12 ?_;try simp only [pz]
   refine tk 13 ?_;try simp only [pz]
   refine tSk 14 ?_;try simp only [pz]
   refine tSk 15 ?_;try simp only [pz]
   refine tSk 16 ?_;try simp only [pz]
   refine tSk 17 ?_;try simp only [pz]
   refine tk 18 ?_;try simp only [pz]
   refine tk 19 ?_;try simp only [pz]
   refine tSk 20 ?_;try simp only [pz]
   refine tSk 21 ?_;try simp only [pz]
   refine tk 22 ?_;try simp only [pz]
   refine tk 23 ?_;try simp only [pz]
   refine tSk 24 ?_;try simp only [pz]
   refine tSk 25 ?_;try simp only [pz]
   refine tSk 26 ?_;try simp only [pz]
   refine tSk 27 ?_;try simp only [pz]
   refine tSk 28 ?_;try simp only [pz]
   refine tSk 29 ?_;try simp only [pz]
   refine tSk 30 ?_;try simp only [pz]
   refine tk 31 ?_;try simp only [pz]
   refine tk 32 ?_;try simp only [pz]
   refine wpAnyH_done (by kernel_rfl) ?_ _;go_wp2_with fail
   go_ret
   exact ⟨a0d hRs.symm,HF.out _ (by assumption)⟩
  | true =>
   have hRs:=HR1.out;rw [hr] at hRs;have HR2:=zh hRs;clear hRs hr HR1;refine tk 7 ?_;try simp only [pz]
   refine tk 8 ?_;try simp only [pz]
   refine tk 9 ?_;try simp only [pz]
   refine tk 10 ?_;try simp only [pz]
   refine rd1 11 (by kernel_rfl) rfl fun K hK => ?_
   go_simp
   (go_at_call 52;refine (HT.out _).mono ?_;rintro e x7 ⟨rfl,hbx⟩;have hTx:Below s6.heap.size s6 x7:=bHb hbx;obtain ⟨hcx,hfx⟩:=a0k hTx)
   try (go_wp2_with fail)
   refine hK.out _ _ (kHp HKP) (fun hHeld => ?_);clear hK K;try simp only [pz]
   cases ht:a8g ts tc tt with
   | false =>
    have hRs:=HR2.out;rw [ht,Bool.and_false,Bool.false_and] at hRs;clear ht;refine tk 12 ?_;try simp only [pz]
    refine tk 13 ?_;try simp only [pz]
    refine tSk 14 ?_;try simp only [pz]
    refine tSk 15 ?_;try simp only [pz]
    refine tSk 16 ?_;try simp only [pz]
    refine tSk 17 ?_;try simp only [pz]
    refine tk 18 ?_;try simp only [pz]
    refine tk 19 ?_;try simp only [pz]
    refine tSk 20 ?_;try simp only [pz]
    refine tSk 21 ?_;try simp only [pz]
    refine tk 22 ?_;try simp only [pz]
    refine tk 23 ?_;try simp only [pz]
    refine tSk 24 ?_;try simp only [pz]
    refine tSk 25 ?_;try simp only [pz]
    refine tSk 26 ?_;try simp only [pz]
    refine tSk 27 ?_;try simp only [pz]
    refine tSk 28 ?_;try simp only [pz]
    refine tSk 29 ?_;try simp only [pz]
    refine tSk 30 ?_;try simp only [pz]
    refine tk 31 ?_;try simp only [pz]
    refine tk 32 ?_;try simp only [pz]
    refine wpAnyH_done (by kernel_rfl) ?_ _;go_wp2_with fail
    go_ret
    exact ⟨a0d hRs.symm,HF.out _ (by assumption)⟩
   | true =>
    have hRs:=HR2.out;rw [ht,Bool.and_true,Bool.and_true] at hRs;have HR3:=zh hRs;clear hRs ht HR2;by_cases hs1:ts.toList=[]
    rotate_left
    ·
     have hs2:ts.toList.isEmpty=false:=by simpa using hs1
     have hRs:=HR3.out;rw [decide_eq_false (fun h => hs1 ((b1p ts).1 h)),Bool.and_false] at hRs;refine tk 12 ?_;try simp only [pz]
     refine tk 13 ?_;try simp only [pz]
     refine tk 14 ?_;try simp only [pz]
     refine tk 15 ?_;try simp only [pz]
     refine tk 16 ?_;try simp only [pz]
     refine tk 17 ?_;try simp only [pz]
     refine tk 18 ?_;try simp only [pz]
     refine tk 19 ?_;try simp only [pz]
     refine tSk 20 ?_;try simp only [pz]
     refine tSk 21 ?_;try simp only [pz]
     refine tk 22 ?_;try simp only [pz]
     refine tk 23 ?_;try simp only [pz]
     refine tSk 24 ?_;try simp only [pz]
     refine tSk 25 ?_;try simp only [pz]
     refine tSk 26 ?_;try simp only [pz]
     refine tSk 27 ?_;try simp only [pz]
     refine tSk 28 ?_;try simp only [pz]
     refine tSk 29 ?_;try simp only [pz]
     refine tSk 30 ?_;try simp only [pz]
     refine tk 31 ?_;try simp only [pz]
     refine tk 32 ?_;try simp only [pz]
     refine wpAnyH_done (by kernel_rfl) ?_ _;go_wp2_with fail
     go_ret
     exact ⟨a0d hRs.symm,HF.out _ (by assumption)⟩
    ·
     have hRs:=HR3.out;rw [decide_eq_true ((b1p ts).2 hs1),Bool.and_true] at hRs;have HR4:=zh hRs;clear hRs HR3;by_cases h0:e6=0
     rotate_left
     ·
      have he:(e6 == 0)=false:=by simpa using h0
      have hRs:=HR4.out;rw [b8l fun h => h0 (HE6.out.trans h.1)] at hRs
      clear h0;refine tk 12 ?_;try simp only [pz]
      refine tk 13 ?_;try simp only [pz]
      refine tk 14 ?_;try simp only [pz]
      refine tk 15 ?_;try simp only [pz]
      refine tk 16 ?_;try simp only [pz]
      refine tk 17 ?_;try simp only [pz]
      refine tk 18 ?_;try simp only [pz]
      refine tk 19 ?_;try simp only [pz]
      refine tk 20 ?_;try simp only [pz]
      refine tk 21 ?_;try simp only [pz]
      refine tk 22 ?_;try simp only [pz]
      refine tk 23 ?_;try simp only [pz]
      refine tSk 24 ?_;try simp only [pz]
      refine tSk 25 ?_;try simp only [pz]
      refine tSk 26 ?_;try simp only [pz]
      refine tSk 27 ?_;try simp only [pz]
      refine tSk 28 ?_;try simp only [pz]
      refine tSk 29 ?_;try simp only [pz]
      refine tSk 30 ?_;try simp only [pz]
      refine tk 31 ?_;try simp only [pz]
      refine tk 32 ?_;try simp only [pz]
      refine wpAnyH_done (by kernel_rfl) ?_ _;go_wp2_with fail
      go_ret
      exact ⟨a0d hRs.symm,HF.out _ (by assumption)⟩
     ·
      subst h0;have hv2:=HV.out.symm.trans (if_pos HE6.out.symm);have HU:Hid (u1=min rc tc∧u2=min rr tt∧u3=max rc tc∧u4=max rr tt):=zh (by simpa using hv2);clear hv2;refine tk 12 ?_;try simp only [pz]
      refine tk 13 ?_;try simp only [pz]
      refine tk 14 ?_;try simp only [pz]
      refine tk 15 ?_;try simp only [pz]
      refine tk 16 ?_;try simp only [pz]
      refine tk 17 ?_;try simp only [pz]
      refine tk 18 ?_;try simp only [pz]
      refine tk 19 ?_;try simp only [pz]
      refine tk 20 ?_;try simp only [pz]
      refine tk 21 ?_;try simp only [pz]
      refine tk 22 ?_;try simp only [pz]
      refine tk 23 ?_;try simp only [pz]
      refine tk 24 ?_;try simp only [pz]
      refine tk 25 ?_;try simp only [pz]
      refine tk 26 ?_;try simp only [pz]
      refine tk 27 ?_;try simp only [pz]
      refine tk 28 ?_;try simp only [pz]
      refine rd1 29 (by kernel_rfl) rfl fun K hK => ?_
      go_simp
      (go_at_call 53;refine (HB.out _).mono ?_;rintro e x7 ⟨rfl,hbx⟩;have hTx:Below s6.heap.size s6 x7:=bHb hbx;obtain ⟨hcx,hfx⟩:=a0k hTx)
      try (go_wp2_with fail)
      refine hK.out _ _ (kHp HKP) (fun hHeld => ?_);clear hK K;try simp only [pz]
      obtain ⟨e1,e2,e3,e4⟩:=HU.out;by_cases hab:rc≤tc∧rr≤tt
      ·
       have hRs:=HR4.out;rw [(a7h _ _ _ _).2 ⟨HE6.out.symm,hab⟩] at hRs;obtain rfl:u1=rc:=by omega
       obtain rfl:u2=rr:=by omega
       obtain rfl:u3=tc:=by omega
       obtain rfl:u4=tt:=by omega
       clear e1 e2 e3 e4 hab;refine tk 30 ?_;try simp only [pz]
       refine tk 31 ?_;try simp only [pz]
       refine tk 32 ?_;try simp only [pz]
       refine wpAnyH_done (by kernel_rfl) ?_ _;go_wp2_with fail
       go_ret
       exact ⟨a0d hRs.symm,HF.out _ (by assumption)⟩
      ·
       have hRs:=HR4.out;rw [b8l fun h => hab h.2] at hRs
       by_cases hp:u1=rc
       ·
        have hq:(u2 == rr)=false:=by simp;omega
        subst hp;clear e1 e2 e3 e4 hab;refine tk 30 ?_;try simp only [pz]
        refine tk 31 ?_;try simp only [pz]
        refine tk 32 ?_;try simp only [pz]
        refine wpAnyH_done (by kernel_rfl) ?_ _;go_wp2_with fail
        go_ret
        exact ⟨a0d hRs.symm,HF.out _ (by assumption)⟩
       ·
        have hq:(u1 == rc)=false:=by simpa using hp
        clear e1 e2 e3 e4 hab hp;refine tk 30 ?_;try simp only [pz]
        refine tk 31 ?_;try simp only [pz]
        refine tk 32 ?_;try simp only [pz]
        refine wpAnyH_done (by kernel_rfl) ?_ _;go_wp2_with fail
        go_ret
        exact ⟨a0d hRs.symm,HF.out _ (by assumption)⟩
set_option maxHeartbeats 4000000
theorem c7h (k:Int) (o a b:Int) (qn:Bool) (qa qd x:ByteArray) (tr:Bool) (rs:ByteArray) (rc rr:Int) (rf rg:Bool) (ts:ByteArray) (tc tt:Int) (tf tg:Bool) (w:World) (hk1:k≠1) (hk2:k≠2) (hk3:k≠3) (hk4:k≠4) (hk5:k≠5) (hk6:k≠6) (hk7:k≠7) (hk8:k≠8) (hk9:k≠9) :
  Calls Tryz.prog 30 #[.agg #[.int .i64 k,.int .i64 o,.int .i64 a,.int .i64 b,.bool qn,.string qa,.string qd,.string x,.bool tr,.string rs,.int .i64 rc,.int .i64 rr,.bool rf,.bool rg,.string ts,.int .i64 tc,.int .i64 tt,.bool tf,.bool tg]] w fun e w' => e=.returned (.bool false)∧Below w.heap.size w w':=by
 have hud:undef=Value.tuple #[]:=rfl;obtain ⟨K19,hz19,HK19⟩:=a0q;have g1:(k == 1)=false:=by simpa using hk1
 have g2:(k == 2)=false:=by simpa using hk2
 have g3:(k == 3)=false:=by simpa using hk3
 have g4:(k == 4)=false:=by simpa using hk4
 have g5:(k == 5)=false:=by simpa using hk5
 have g6:(k == 6)=false:=by simpa using hk6
 have g7:(k == 7)=false:=by simpa using hk7
 have g8:(k == 8)=false:=by simpa using hk8
 have g9:(k == 9)=false:=by simpa using hk9
 clear hk1 hk2 hk3 hk4 hk5 hk6 hk7 hk8 hk9;go_enter Tryz.func30,Tryz.ntmps30
 go_upto_region 1 with (fail)
 obtain ⟨s1,hws⟩:∃ s,s=(w.alloc (.cells #[.int .i64 k,.int .i64 o,.int .i64 a,.int .i64 b,.bool qn,.string qa,.string qd,.string x,.bool tr,.string rs,.int .i64 rc,.int .i64 rr,.bool rf,.bool rg,.string ts,.int .i64 tc,.int .i64 tt,.bool tf,.bool tg] 30)):=⟨_,rfl⟩;have hBs:=bs1 (Below.refl w.heap.size w) hws;obtain ⟨A,hdA⟩:∃ b,b=w.heap.size:=⟨_,rfl⟩;have hsz:s1.heap.size=w.heap.size+1:=by rw [hws];simp
 have yA:=by0 (b:=A) hws hdA;have zA:A < s1.heap.size:=by omega
 have lA:w.heap.size≤A:=by omega
 have LA:=eqL (P:=Tryz.prog) HK19 rfl yA;rw [← hws];try rw [← hdA]
 clear hws hsz hdA;have hBo:=hBs;clear hBs
 go_upto_region 2 with (refine a0c rfl _ _ rfl rfl _ _ _ rfl rfl rfl (by rfl) (by rfl) (by rfl) ?_)
 obtain ⟨s2,hws⟩:∃ s,s=(s1.alloc (.cells #[.int .i64 k,.int .i64 0,.int .i64 0,.int .i64 0,.bool false,.string ⟨#[]⟩,.string ⟨#[]⟩,.string ⟨#[]⟩,.bool false,.string ⟨#[]⟩,.int .i64 0,.int .i64 0,.bool false,.bool false,.string ⟨#[]⟩,.int .i64 0,.int .i64 0,.bool false,.bool false] 30)):=⟨_,rfl⟩;have hBs:=bs1 hBo hws;obtain ⟨X,hdX⟩:∃ b,b=s1.heap.size:=⟨_,rfl⟩;have hsz:s2.heap.size=s1.heap.size+1:=by rw [hws];simp
 have dXA:X≠A:=by omega
 have hQC:∀ p v,s1.cell? p=some v→s2.cell? p=some v:=fun p v h => by rw [hws];exact (alK h)
 have hQZ:∀ b,b < s1.heap.size→b < s2.heap.size:=fun b h => by omega
 replace yA:=eqE hws (eqA yA zA);replace zA:=hQZ _ zA;clear hQC hQZ;have yX:=by0 (b:=X) hws hdX;have hM:=bf0 (b:=X) hws hdX;clear hM;have zX:X < s2.heap.size:=by omega
 have lX:w.heap.size≤X:=by have:=hBo.size;omega
 replace LA:=eqL (P:=Tryz.prog) HK19 rfl yA;have LX:=eqL (P:=Tryz.prog) HK19 rfl yX;rw [← hws];try rw [← hdX]
 clear hBo;clear hws hsz hdX;have hBo:=hBs;clear hBs;go_wp2_with fail
 go_ret
 exact ⟨rfl,hBo⟩
theorem c5h (n:Nd) (hk1:n.k≠1) (hk2:n.k≠2) (hk3:n.k≠3) (hk4:n.k≠4) (hk5:n.k≠5) (hk6:n.k≠6) (hk7:n.k≠7) (hk8:n.k≠8) (hk9:n.k≠9):a1x n=false:=by
 rw [b1m hk7 hk8 hk9,b0i hk1 hk2 hk3 hk4 hk5 hk6]
theorem b8t (n:Nd) (w:World) (hf:Fits n) :
  Calls Tryz.prog 30 #[ndV n] w fun e w' => e=.returned (.bool (a1x n))∧Below w.heap.size w w':=by
 obtain ⟨k,o,a,b,qn,qa,qd,x,tr,⟨rs,rc,rr,rf,rg⟩,⟨ts,tc,tt,tf,tg⟩⟩:=n;by_cases hk1:k=1
 ·
  subst hk1;exact c8u o a b qn qa qd x tr rs rc rr rf rg ts tc tt tf tg w hf
 by_cases hk2:k=2
 ·
  subst hk2;exact c8v o a b qn qa qd x tr rs rc rr rf rg ts tc tt tf tg w hf
 by_cases hk3:k=3
 ·
  subst hk3;exact c8w o a b qn qa qd x tr rs rc rr rf rg ts tc tt tf tg w hf
 by_cases hk4:k=4
 ·
  subst hk4;exact c8x o a b qn qa qd x tr rs rc rr rf rg ts tc tt tf tg w hf
 by_cases hk5:k=5
 ·
  subst hk5;exact c8y o a b qn qa qd x tr rs rc rr rf rg ts tc tt tf tg w hf
 by_cases hk6:k=6
 ·
  subst hk6;exact c9c o a b qn qa qd x tr rs rc rr rf rg ts tc tt tf tg w hf
 by_cases hk7:k=7
 ·
  subst hk7;exact c8z o a b qn qa qd x tr rs rc rr rf rg ts tc tt tf tg w hf
 by_cases hk8:k=8
 ·
  subst hk8;exact c9a o a b qn qa qd x tr rs rc rr rf rg ts tc tt tf tg w hf
 by_cases hk9:k=9
 ·
  subst hk9;exact c9b o a b qn qa qd x tr rs rc rr rf rg ts tc tt tf tg w hf
 rw [c5h _ hk1 hk2 hk3 hk4 hk5 hk6 hk7 hk8 hk9];exact c7h k o a b qn qa qd x tr rs rc rr rf rg ts tc tt tf tg w hk1 hk2 hk3 hk4 hk5 hk6 hk7 hk8 hk9
end Go.Proofs.YtjfkbeanbbeloaaGreatDoor
