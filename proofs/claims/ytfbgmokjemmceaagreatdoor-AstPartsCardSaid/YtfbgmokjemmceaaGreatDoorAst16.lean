/-
  
  
-/
import Derived.Test.YtfbgmokjemmceaaGreatDoorAst13
set_option maxHeartbeats 16000000
set_option maxRecDepth 100000
namespace Go.Proofs.YtfbgmokjemmceaaGreatDoor
open Go.RowKit Go.Shelf
set_option linter.unusedSimpArgs false
set_option linter.unusedVariables false
theorem c7d (o a b:Int) (qn:Bool) (qa qd x:ByteArray) (tr:Bool) (rs:ByteArray) (rc rr:Int) (rf rg:Bool) (ts:ByteArray) (tc tt:Int) (tf tg:Bool) (w:World) (u1 u2 u3 u4 e6:Int) (hE:∀ w,Sem.run Tryz.prog (binOp .eql 33 (.agg #[.int .i64 6,.int .i64 o,.int .i64 a,.int .i64 b,.bool qn,.string qa,.string qd,.string x,.bool tr,.string rs,.int .i64 rc,.int .i64 rr,.bool rf,.bool rg,.string ts,.int .i64 tc,.int .i64 tt,.bool tf,.bool tg]) (.agg #[.int .i64 6,.int .i64 0,.int .i64 0,.int .i64 0,.bool false,.string ⟨#[]⟩,.string ⟨#[]⟩,.string ⟨#[]⟩,.bool false,.string rs,.int .i64 rc,.int .i64 rr,.bool rf,.bool rg,.string ts,.int .i64 tc,.int .i64 tt,.bool tf,.bool tg])) w=.ok (.bool true) w)
  (hB:∀ w,Calls Tryz.prog 57 #[.agg #[.string rs,.int .i64 rc,.int .i64 rr,.bool rf,.bool rg],.agg #[.string ts,.int .i64 tc,.int .i64 tt,.bool tf,.bool tg]] w fun e w' => e=.returned (a1e rc rr tc tt)∧Below w.heap.size w w')
  (hN:∀ w,Calls Tryz.prog 58 #[a1e rc rr tc tt] w fun e w' => e=.returned (.tuple #[a1e u1 u2 u3 u4,.int .i64 e6])∧Below w.heap.size w w')
  (hR:∀ w,Calls Tryz.prog 56 #[.agg #[.string rs,.int .i64 rc,.int .i64 rr,.bool rf,.bool rg]] w fun e w' => e=.returned (.bool true)∧Below w.heap.size w w')
  (hT:∀ w,Calls Tryz.prog 56 #[.agg #[.string ts,.int .i64 tc,.int .i64 tt,.bool tf,.bool tg]] w fun e w' => e=.returned (.bool true)∧Below w.heap.size w w')
  (hs1:ts.toList=[]) (he:(e6 == 0)=false)
  : Calls Tryz.prog 32 #[.agg #[.int .i64 6,.int .i64 o,.int .i64 a,.int .i64 b,.bool qn,.string qa,.string qd,.string x,.bool tr,.string rs,.int .i64 rc,.int .i64 rr,.bool rf,.bool rg,.string ts,.int .i64 tc,.int .i64 tt,.bool tf,.bool tg]] w fun e w' => e=.returned (.bool false)∧Below w.heap.size w w':=by
 have hud:undef=Value.tuple #[]:=rfl;obtain ⟨K19,hz19,HK19⟩:=a0q;have HB:=Lib.hid hB;have HN:=Lib.hid hN;clear hB hN;have HR:=Lib.hid hR;clear hR;have HT:=Lib.hid hT;clear hT;go_enter Tryz.func32,Tryz.ntmps32
 go_upto_region 1 with (fail)
 obtain ⟨s1,hws⟩:∃ s,s=(w.alloc (.cells #[.int .i64 6,.int .i64 o,.int .i64 a,.int .i64 b,.bool qn,.string qa,.string qd,.string x,.bool tr,.string rs,.int .i64 rc,.int .i64 rr,.bool rf,.bool rg,.string ts,.int .i64 tc,.int .i64 tt,.bool tf,.bool tg] 33)):=⟨_,rfl⟩;have hBs:=bs1 (Below.refl w.heap.size w) hws;obtain ⟨A,hdA⟩:∃ b,b=w.heap.size:=⟨_,rfl⟩;have hsz:s1.heap.size=w.heap.size+1:=by rw [hws];simp
 have yA:=by0 (b:=A) hws hdA;have zA:A < s1.heap.size:=by omega
 have lA:w.heap.size≤A:=by omega
 have LA:=eqL (P:=Tryz.prog) HK19 rfl yA;rw [← hws];try rw [← hdA]
 clear hws hsz hdA;have hBo:=hBs;clear hBs
 go_upto_region 2 with (refine a0c rfl _ _ rfl rfl _ _ _ rfl rfl rfl (by rfl) (by rfl) (by rfl) ?_)
 obtain ⟨s2,hws⟩:∃ s,s=(s1.alloc (.cells #[.int .i64 6,.int .i64 0,.int .i64 0,.int .i64 0,.bool false,.string ⟨#[]⟩,.string ⟨#[]⟩,.string ⟨#[]⟩,.bool false,.string ⟨#[]⟩,.int .i64 0,.int .i64 0,.bool false,.bool false,.string ⟨#[]⟩,.int .i64 0,.int .i64 0,.bool false,.bool false] 33)):=⟨_,rfl⟩;have hBs:=bs1 hBo hws;obtain ⟨X,hdX⟩:∃ b,b=s1.heap.size:=⟨_,rfl⟩;have hsz:s2.heap.size=s1.heap.size+1:=by rw [hws];simp
 have dXA:X≠A:=by omega
 have hQC:∀ p v,s1.cell? p=some v→s2.cell? p=some v:=fun p v h => by rw [hws];exact (alK h)
 have hQZ:∀ b,b < s1.heap.size→b < s2.heap.size:=fun b h => by omega
 replace yA:=eqE hws (eqA yA zA);replace zA:=hQZ _ zA;clear hQC hQZ;have yX:=by0 (b:=X) hws hdX;have hM:=bf0 (b:=X) hws hdX;have fX9:=hM 9;have fX10:=hM 10;have fX11:=hM 11;have fX12:=hM 12;have fX13:=hM 13;have fX14:=hM 14;have fX15:=hM 15;have fX16:=hM 16;have fX17:=hM 17;have fX18:=hM 18;clear hM;have zX:X < s2.heap.size:=by omega
 have lX:w.heap.size≤X:=by have:=hBo.size;omega
 replace LA:=eqL (P:=Tryz.prog) HK19 rfl yA;have LX:=eqL (P:=Tryz.prog) HK19 rfl yX;rw [← hws];try rw [← hdX]
 clear hBo;clear hws hsz hdX;have hBo:=hBs;clear hBs
 go_upto_region 23 with (fail)
 obtain ⟨s3,hws⟩:∃ s,s=((((((((((s2.setCell ⟨X,9,none⟩ (.string rs)).setCell ⟨X,10,none⟩ (.int .i64 rc)).setCell ⟨X,11,none⟩ (.int .i64 rr)).setCell ⟨X,12,none⟩ (.bool rf)).setCell ⟨X,13,none⟩ (.bool rg)).setCell ⟨X,14,none⟩ (.string ts)).setCell ⟨X,15,none⟩ (.int .i64 tc)).setCell ⟨X,16,none⟩ (.int .i64 tt)).setCell ⟨X,17,none⟩ (.bool tf)).setCell ⟨X,18,none⟩ (.bool tg)):=⟨_,rfl⟩;have hBs:Below w.heap.size w s3:=by rw [hws];exact (((((((((((hBo).setCell lX _).setCell lX _).setCell lX _).setCell lX _).setCell lX _).setCell lX _).setCell lX _).setCell lX _).setCell lX _).setCell lX _)
 have hsz:s3.heap.size=s2.heap.size:=by rw [hws];simp
 replace yA:=eqE hws (eqS (eqS (eqS (eqS (eqS (eqS (eqS (eqS (eqS (eqS yA dXA) dXA) dXA) dXA) dXA) dXA) dXA) dXA) dXA) dXA);have hq:∀ {p v},((((((((((s2.setCell ⟨X,9,none⟩ (.string rs)).setCell ⟨X,10,none⟩ (.int .i64 rc)).setCell ⟨X,11,none⟩ (.int .i64 rr)).setCell ⟨X,12,none⟩ (.bool rf)).setCell ⟨X,13,none⟩ (.bool rg)).setCell ⟨X,14,none⟩ (.string ts)).setCell ⟨X,15,none⟩ (.int .i64 tc)).setCell ⟨X,16,none⟩ (.int .i64 tt)).setCell ⟨X,17,none⟩ (.bool tf)).setCell ⟨X,18,none⟩ (.bool tg)).cell? p=some v→s3.cell? p=some v:=fun h => by rw [hws];exact h
 replace yX:∀ j,s3.cell? ⟨X,j,none⟩=([.int .i64 6,.int .i64 0,.int .i64 0,.int .i64 0,.bool false,.string ⟨#[]⟩,.string ⟨#[]⟩,.string ⟨#[]⟩,.bool false,.string rs,.int .i64 rc,.int .i64 rr,.bool rf,.bool rg,.string ts,.int .i64 tc,.int .i64 tt,.bool tf,.bool tg]:List Value)[j]?:=eqE hws (eqI (eqI (eqI (eqI (eqI (eqI (eqI (eqI (eqI (eqI yX (of_decide_eq_true rfl)) (of_decide_eq_true rfl)) (of_decide_eq_true rfl)) (of_decide_eq_true rfl)) (of_decide_eq_true rfl)) (of_decide_eq_true rfl)) (of_decide_eq_true rfl)) (of_decide_eq_true rfl)) (of_decide_eq_true rfl)) (of_decide_eq_true rfl));clear hq;have hQF:∀ {p x},s2.frozen? p=x→s3.frozen? p=x:=fun h => by rw [hws];simpa [go_sem] using h
 replace fX9:=hQF fX9;replace fX10:=hQF fX10;replace fX11:=hQF fX11;replace fX12:=hQF fX12;replace fX13:=hQF fX13;replace fX14:=hQF fX14;replace fX15:=hQF fX15;replace fX16:=hQF fX16;replace fX17:=hQF fX17;replace fX18:=hQF fX18;clear hQF;replace zA:A < s3.heap.size:=by omega
 replace zX:X < s3.heap.size:=by omega
 replace LA:=eqL (P:=Tryz.prog) HK19 rfl yA;replace LX:=eqL (P:=Tryz.prog) HK19 rfl yX;rw [← hws];clear hBo hws hsz;have hBo:=hBs;clear hBs;go_wp2_with fail;refine (HB.out _).mono ?_;rintro e s4 ⟨rfl,hb⟩;replace yA:=eqB hb yA zA;replace zA:=zHl hb zA;replace yX:=eqB hb yX zX;replace fX9:=a0g hb fX9 zX;replace fX10:=a0g hb fX10 zX;replace fX11:=a0g hb fX11 zX;replace fX12:=a0g hb fX12 zX;replace fX13:=a0g hb fX13 zX;replace fX14:=a0g hb fX14 zX;replace fX15:=a0g hb fX15 zX;replace fX16:=a0g hb fX16 zX;replace fX17:=a0g hb fX17 zX;replace fX18:=a0g hb fX18 zX;replace zX:=zHl hb zX;replace hBo:=hBo.trans (hb.mono hBo.size);clear hb;replace LA:=eqL (P:=Tryz.prog) HK19 rfl yA;replace LX:=eqL (P:=Tryz.prog) HK19 rfl yX;go_wp2_with fail;refine (HN.out _).mono ?_;rintro e s5 ⟨rfl,hb⟩;replace yA:=eqB hb yA zA;replace zA:=zHl hb zA;replace yX:=eqB hb yX zX;replace fX9:=a0g hb fX9 zX;replace fX10:=a0g hb fX10 zX;replace fX11:=a0g hb fX11 zX;replace fX12:=a0g hb fX12 zX;replace fX13:=a0g hb fX13 zX;replace fX14:=a0g hb fX14 zX;replace fX15:=a0g hb fX15 zX;replace fX16:=a0g hb fX16 zX;replace fX17:=a0g hb fX17 zX;replace fX18:=a0g hb fX18 zX;replace zX:=zHl hb zX;replace hBo:=hBo.trans (hb.mono hBo.size);clear hb;replace LA:=eqL (P:=Tryz.prog) HK19 rfl yA;replace LX:=eqL (P:=Tryz.prog) HK19 rfl yX
 go_upto_region 24 with (fail)
 obtain ⟨s6,hws⟩:∃ s,s=(s5.alloc (.cells #[.int .i64 u1,.int .i64 u2,.int .i64 u3,.int .i64 u4] 86)):=⟨_,rfl⟩;have hBs:=bs1 hBo hws;obtain ⟨G,hdG⟩:∃ b,b=s5.heap.size:=⟨_,rfl⟩;have hsz:s6.heap.size=s5.heap.size+1:=by rw [hws];simp
 have dXG:X≠G:=by omega
 have hQC:∀ p v,s5.cell? p=some v→s6.cell? p=some v:=fun p v h => by rw [hws];exact (alK h)
 have hQZ:∀ b,b < s5.heap.size→b < s6.heap.size:=fun b h => by omega
 have hQF:∀ b j,b < s5.heap.size→s5.frozen? ⟨b,j,none⟩=false→s6.frozen? ⟨b,j,none⟩=false:=fun b j z h => by rw [hws];exact (alF z h)
 replace yA:=eqE hws (eqA yA zA);replace zA:=hQZ _ zA;replace yX:=eqE hws (eqA yX zX);replace fX9:=hQF _ _ zX fX9;replace fX10:=hQF _ _ zX fX10;replace fX11:=hQF _ _ zX fX11;replace fX12:=hQF _ _ zX fX12;replace fX13:=hQF _ _ zX fX13;replace fX14:=hQF _ _ zX fX14;replace fX15:=hQF _ _ zX fX15;replace fX16:=hQF _ _ zX fX16;replace fX17:=hQF _ _ zX fX17;replace fX18:=hQF _ _ zX fX18;replace zX:=hQZ _ zX;clear hQC hQZ hQF;have hN:=bx0 (b:=G) hws hdG;have kG0:=hN 0 _ rfl;have kG1:=hN 1 _ rfl;have kG2:=hN 2 _ rfl;have kG3:=hN 3 _ rfl;clear hN;have zG:G < s6.heap.size:=by omega
 have lG:w.heap.size≤G:=by have:=hBo.size;omega
 replace LA:=eqL (P:=Tryz.prog) HK19 rfl yA;replace LX:=eqL (P:=Tryz.prog) HK19 rfl yX;rw [← hws];try rw [← hdG]
 clear hBo;clear hws hsz hdG;have hBo:=hBs;clear hBs;have HF:Hid (∀ W,Below s6.heap.size s6 W→Below w.heap.size w W):=fun W hW => hBo.trans (hW.mono hBo.size)
 clear hBo;refine wrp (S:=fun w' => (∀ j,w'.cell? ⟨A,j,none⟩=([.int .i64 6,.int .i64 o,.int .i64 a,.int .i64 b,.bool qn,.string qa,.string qd,.string x,.bool tr,.string rs,.int .i64 rc,.int .i64 rr,.bool rf,.bool rg,.string ts,.int .i64 tc,.int .i64 tt,.bool tf,.bool tg]:List Value)[j]?)∧(∀ j,w'.cell? ⟨X,j,none⟩=([.int .i64 6,.int .i64 0,.int .i64 0,.int .i64 0,.bool false,.string ⟨#[]⟩,.string ⟨#[]⟩,.string ⟨#[]⟩,.bool false,.string rs,.int .i64 rc,.int .i64 rr,.bool rf,.bool rg,.string ts,.int .i64 tc,.int .i64 tt,.bool tf,.bool tg]:List Value)[j]?)∧w'.cell? ⟨G,0,none⟩=some (.int .i64 u1)∧w'.cell? ⟨G,1,none⟩=some (.int .i64 u2)∧w'.cell? ⟨G,2,none⟩=some (.int .i64 u3)∧w'.cell? ⟨G,3,none⟩=some (.int .i64 u4)∧Sem.run Tryz.prog (loadCellsFrom ⟨A,0,none⟩ 0 K19 #[]) w'=.ok #[.int .i64 6,.int .i64 o,.int .i64 a,.int .i64 b,.bool qn,.string qa,.string qd,.string x,.bool tr,.string rs,.int .i64 rc,.int .i64 rr,.bool rf,.bool rg,.string ts,.int .i64 tc,.int .i64 tt,.bool tf,.bool tg] w'∧Sem.run Tryz.prog (loadCellsFrom ⟨X,0,none⟩ 0 K19 #[]) w'=.ok #[.int .i64 6,.int .i64 0,.int .i64 0,.int .i64 0,.bool false,.string ⟨#[]⟩,.string ⟨#[]⟩,.string ⟨#[]⟩,.bool false,.string rs,.int .i64 rc,.int .i64 rr,.bool rf,.bool rg,.string ts,.int .i64 tc,.int .i64 tt,.bool tf,.bool tg] w') (by kernel_rfl) (fun w' hx => by obtain ⟨hcx,hfx⟩:=a0k hx;((try dsimp only);((repeat' apply And.intro) <;> first | assumption | exact yA | exact eqL HK19 rfl (yA) | exact fun j => (hcx A j (by assumption)).trans (yA j) | exact eqL HK19 rfl (fun j => (hcx A j (by assumption)).trans (yA j)) | exact eqS yA (by dsimp only;omega) | exact eqL HK19 rfl (eqS yA (by dsimp only;omega)) | exact eqS (fun j => (hcx A j (by assumption)).trans (yA j)) (by dsimp only;omega) | exact eqL HK19 rfl (eqS (fun j => (hcx A j (by assumption)).trans (yA j)) (by dsimp only;omega)) | exact yX | exact eqL HK19 rfl (yX) | exact fun j => (hcx X j (by assumption)).trans (yX j) | exact eqL HK19 rfl (fun j => (hcx X j (by assumption)).trans (yX j)) | exact eqS yX (by dsimp only;omega) | exact eqL HK19 rfl (eqS yX (by dsimp only;omega)) | exact eqS (fun j => (hcx X j (by assumption)).trans (yX j)) (by dsimp only;omega) | exact eqL HK19 rfl (eqS (fun j => (hcx X j (by assumption)).trans (yX j)) (by dsimp only;omega)) | ((repeat (with_reducible first | apply a0b | apply a0x | refine a0e ?_ (by (try dsimp only);omega))) <;> first | assumption | (rw [hcx _ _ (by assumption)];assumption))))) (fun HKP hHeld => ?_)
 refine tk 0 ?_;try simp only [pz]
 refine tk 1 ?_;try simp only [pz]
 refine tk 2 ?_;try simp only [pz]
 refine tk 3 ?_;try simp only [pz]
 refine tk 4 ?_;try simp only [pz]
 refine tk 5 ?_;try simp only [pz]
 refine rd1 6 (by kernel_rfl) rfl fun K hK => ?_
 go_simp
 (go_at_call 56;refine (HR.out _).mono ?_;rintro e x7 ⟨rfl,hbx⟩;have hTx:Below s6.heap.size s6 x7:=bHb hbx;obtain ⟨hcx,hfx⟩:=a0k hTx)
 try (go_wp2_with fail)
 refine hK.out _ _ (kHp HKP) (fun hHeld => ?_);clear hK K;try simp only [pz]
 refine tk 7 ?_;try simp only [pz]
 refine tk 8 ?_;try simp only [pz]
 refine tk 9 ?_;try simp only [pz]
 refine tk 10 ?_;try simp only [pz]
 refine rd1 11 (by kernel_rfl) rfl fun K hK => ?_
 go_simp
 (go_at_call 56;refine (HT.out _).mono ?_;rintro e x7 ⟨rfl,hbx⟩;have hTx:Below s6.heap.size s6 x7:=bHb hbx;obtain ⟨hcx,hfx⟩:=a0k hTx)
 try (go_wp2_with fail)
 refine hK.out _ _ (kHp HKP) (fun hHeld => ?_);clear hK K;try simp only [pz]
 refine tk 12 ?_;try simp only [pz]
 refine tk 13 ?_;try simp only [pz]
 refine tk 14 ?_;try simp only [pz]
 refine tk 15 ?_;try simp only [pz]
 refine tk 16 ?_;try simp only [pz]
 refine tk 17 ?_;try simp only [pz]
 refine tk 18 ?_;try simp only [pz]
 refine tk 19 ?_;try simp only [pz]
 refine tk 20 ?_;try simp only [pz]
 refine tk 21 ?_;try simp only [pz]
 refine tk 22 ?_;try simp only [pz]
 refine tk 23 ?_;try simp only [pz]
 refine tSk 24 ?_;try simp only [pz]
 refine tSk 25 ?_;try simp only [pz]
 refine tSk 26 ?_;try simp only [pz]
 refine tSk 27 ?_;try simp only [pz]
 refine tSk 28 ?_;try simp only [pz]
 refine tSk 29 ?_;try simp only [pz]
 refine tSk 30 ?_;try simp only [pz]
 refine tk 31 ?_;try simp only [pz]
 refine tk 32 ?_;try simp only [pz]
 refine wpAnyH_done (by kernel_rfl) ?_ _
 all_goals go_wp2_with fail
 all_goals first | go_ret | go_ret2
 all_goals exact ⟨rfl,HF.out _ (by assumption)⟩
theorem c7e (o a b:Int) (qn:Bool) (qa qd x:ByteArray) (tr:Bool) (rs:ByteArray) (rc rr:Int) (rf rg:Bool) (ts:ByteArray) (tc tt:Int) (tf tg:Bool) (w:World) (u1 u2 u3 u4 e6:Int) (hE:∀ w,Sem.run Tryz.prog (binOp .eql 33 (.agg #[.int .i64 6,.int .i64 o,.int .i64 a,.int .i64 b,.bool qn,.string qa,.string qd,.string x,.bool tr,.string rs,.int .i64 rc,.int .i64 rr,.bool rf,.bool rg,.string ts,.int .i64 tc,.int .i64 tt,.bool tf,.bool tg]) (.agg #[.int .i64 6,.int .i64 0,.int .i64 0,.int .i64 0,.bool false,.string ⟨#[]⟩,.string ⟨#[]⟩,.string ⟨#[]⟩,.bool false,.string rs,.int .i64 rc,.int .i64 rr,.bool rf,.bool rg,.string ts,.int .i64 tc,.int .i64 tt,.bool tf,.bool tg])) w=.ok (.bool true) w)
  (hB:∀ w,Calls Tryz.prog 57 #[.agg #[.string rs,.int .i64 rc,.int .i64 rr,.bool rf,.bool rg],.agg #[.string ts,.int .i64 tc,.int .i64 tt,.bool tf,.bool tg]] w fun e w' => e=.returned (a1e rc rr tc tt)∧Below w.heap.size w w')
  (hN:∀ w,Calls Tryz.prog 58 #[a1e rc rr tc tt] w fun e w' => e=.returned (.tuple #[a1e rc rr tc tt,.int .i64 0])∧Below w.heap.size w w')
  (hR:∀ w,Calls Tryz.prog 56 #[.agg #[.string rs,.int .i64 rc,.int .i64 rr,.bool rf,.bool rg]] w fun e w' => e=.returned (.bool true)∧Below w.heap.size w w')
  (hT:∀ w,Calls Tryz.prog 56 #[.agg #[.string ts,.int .i64 tc,.int .i64 tt,.bool tf,.bool tg]] w fun e w' => e=.returned (.bool true)∧Below w.heap.size w w')
  (hs1:ts.toList=[])
  : Calls Tryz.prog 32 #[.agg #[.int .i64 6,.int .i64 o,.int .i64 a,.int .i64 b,.bool qn,.string qa,.string qd,.string x,.bool tr,.string rs,.int .i64 rc,.int .i64 rr,.bool rf,.bool rg,.string ts,.int .i64 tc,.int .i64 tt,.bool tf,.bool tg]] w fun e w' => e=.returned (.bool true)∧Below w.heap.size w w':=by
 have hud:undef=Value.tuple #[]:=rfl;obtain ⟨K19,hz19,HK19⟩:=a0q;have HB:=Lib.hid hB;have HN:=Lib.hid hN;clear hB hN;have HR:=Lib.hid hR;clear hR;have HT:=Lib.hid hT;clear hT;go_enter Tryz.func32,Tryz.ntmps32
 go_upto_region 1 with (fail)
 obtain ⟨s8,hws⟩:∃ s,s=(w.alloc (.cells #[.int .i64 6,.int .i64 o,.int .i64 a,.int .i64 b,.bool qn,.string qa,.string qd,.string x,.bool tr,.string rs,.int .i64 rc,.int .i64 rr,.bool rf,.bool rg,.string ts,.int .i64 tc,.int .i64 tt,.bool tf,.bool tg] 33)):=⟨_,rfl⟩;have hBs:=bs1 (Below.refl w.heap.size w) hws;obtain ⟨A,hdA⟩:∃ b,b=w.heap.size:=⟨_,rfl⟩;have hsz:s8.heap.size=w.heap.size+1:=by rw [hws];simp
 have yA:=by0 (b:=A) hws hdA;have zA:A < s8.heap.size:=by omega
 have lA:w.heap.size≤A:=by omega
 have LA:=eqL (P:=Tryz.prog) HK19 rfl yA;rw [← hws];try rw [← hdA]
 clear hws hsz hdA;have hBo:=hBs;clear hBs
 go_upto_region 2 with (refine a0c rfl _ _ rfl rfl _ _ _ rfl rfl rfl (by rfl) (by rfl) (by rfl) ?_)
 obtain ⟨s9,hws⟩:∃ s,s=(s8.alloc (.cells #[.int .i64 6,.int .i64 0,.int .i64 0,.int .i64 0,.bool false,.string ⟨#[]⟩,.string ⟨#[]⟩,.string ⟨#[]⟩,.bool false,.string ⟨#[]⟩,.int .i64 0,.int .i64 0,.bool false,.bool false,.string ⟨#[]⟩,.int .i64 0,.int .i64 0,.bool false,.bool false] 33)):=⟨_,rfl⟩;have hBs:=bs1 hBo hws;obtain ⟨X,hdX⟩:∃ b,b=s8.heap.size:=⟨_,rfl⟩;have hsz:s9.heap.size=s8.heap.size+1:=by rw [hws];simp
 have dXA:X≠A:=by omega
 have hQC:∀ p v,s8.cell? p=some v→s9.cell? p=some v:=fun p v h => by rw [hws];exact (alK h)
 have hQZ:∀ b,b < s8.heap.size→b < s9.heap.size:=fun b h => by omega
 replace yA:=eqE hws (eqA yA zA);replace zA:=hQZ _ zA;clear hQC hQZ;have yX:=by0 (b:=X) hws hdX;have hM:=bf0 (b:=X) hws hdX;have fX9:=hM 9;have fX10:=hM 10;have fX11:=hM 11;have fX12:=hM 12;have fX13:=hM 13;have fX14:=hM 14;have fX15:=hM 15;have fX16:=hM 16;have fX17:=hM 17;have fX18:=hM 18;clear hM;have zX:X < s9.heap.size:=by omega
 have lX:w.heap.size≤X:=by have:=hBo.size;omega
 replace LA:=eqL (P:=Tryz.prog) HK19 rfl yA;have LX:=eqL (P:=Tryz.prog) HK19 rfl yX;rw [← hws];try rw [← hdX]
 clear hBo;clear hws hsz hdX;have hBo:=hBs;clear hBs
 go_upto_region 23 with (fail)
 obtain ⟨s10,hws⟩:∃ s,s=((((((((((s9.setCell ⟨X,9,none⟩ (.string rs)).setCell ⟨X,10,none⟩ (.int .i64 rc)).setCell ⟨X,11,none⟩ (.int .i64 rr)).setCell ⟨X,12,none⟩ (.bool rf)).setCell ⟨X,13,none⟩ (.bool rg)).setCell ⟨X,14,none⟩ (.string ts)).setCell ⟨X,15,none⟩ (.int .i64 tc)).setCell ⟨X,16,none⟩ (.int .i64 tt)).setCell ⟨X,17,none⟩ (.bool tf)).setCell ⟨X,18,none⟩ (.bool tg)):=⟨_,rfl⟩;have hBs:Below w.heap.size w s10:=by rw [hws];exact (((((((((((hBo).setCell lX _).setCell lX _).setCell lX _).setCell lX _).setCell lX _).setCell lX _).setCell lX _).setCell lX _).setCell lX _).setCell lX _)
 have hsz:s10.heap.size=s9.heap.size:=by rw [hws];simp
 replace yA:=eqE hws (eqS (eqS (eqS (eqS (eqS (eqS (eqS (eqS (eqS (eqS yA dXA) dXA) dXA) dXA) dXA) dXA) dXA) dXA) dXA) dXA);have hq:∀ {p v},((((((((((s9.setCell ⟨X,9,none⟩ (.string rs)).setCell ⟨X,10,none⟩ (.int .i64 rc)).setCell ⟨X,11,none⟩ (.int .i64 rr)).setCell ⟨X,12,none⟩ (.bool rf)).setCell ⟨X,13,none⟩ (.bool rg)).setCell ⟨X,14,none⟩ (.string ts)).setCell ⟨X,15,none⟩ (.int .i64 tc)).setCell ⟨X,16,none⟩ (.int .i64 tt)).setCell ⟨X,17,none⟩ (.bool tf)).setCell ⟨X,18,none⟩ (.bool tg)).cell? p=some v→s10.cell? p=some v:=fun h => by rw [hws];exact h
 replace yX:∀ j,s10.cell? ⟨X,j,none⟩=([.int .i64 6,.int .i64 0,.int .i64 0,.int .i64 0,.bool false,.string ⟨#[]⟩,.string ⟨#[]⟩,.string ⟨#[]⟩,.bool false,.string rs,.int .i64 rc,.int .i64 rr,.bool rf,.bool rg,.string ts,.int .i64 tc,.int .i64 tt,.bool tf,.bool tg]:List Value)[j]?:=eqE hws (eqI (eqI (eqI (eqI (eqI (eqI (eqI (eqI (eqI (eqI yX (of_decide_eq_true rfl)) (of_decide_eq_true rfl)) (of_decide_eq_true rfl)) (of_decide_eq_true rfl)) (of_decide_eq_true rfl)) (of_decide_eq_true rfl)) (of_decide_eq_true rfl)) (of_decide_eq_true rfl)) (of_decide_eq_true rfl)) (of_decide_eq_true rfl));clear hq;have hQF:∀ {p x},s9.frozen? p=x→s10.frozen? p=x:=fun h => by rw [hws];simpa [go_sem] using h
 replace fX9:=hQF fX9;replace fX10:=hQF fX10;replace fX11:=hQF fX11;replace fX12:=hQF fX12;replace fX13:=hQF fX13;replace fX14:=hQF fX14;replace fX15:=hQF fX15;replace fX16:=hQF fX16;replace fX17:=hQF fX17;replace fX18:=hQF fX18;clear hQF;replace zA:A < s10.heap.size:=by omega
 replace zX:X < s10.heap.size:=by omega
 replace LA:=eqL (P:=Tryz.prog) HK19 rfl yA;replace LX:=eqL (P:=Tryz.prog) HK19 rfl yX;rw [← hws];clear hBo hws hsz;have hBo:=hBs;clear hBs;go_wp2_with fail;refine (HB.out _).mono ?_;rintro e s11 ⟨rfl,hb⟩;replace yA:=eqB hb yA zA;replace zA:=zHl hb zA;replace yX:=eqB hb yX zX;replace fX9:=a0g hb fX9 zX;replace fX10:=a0g hb fX10 zX;replace fX11:=a0g hb fX11 zX;replace fX12:=a0g hb fX12 zX;replace fX13:=a0g hb fX13 zX;replace fX14:=a0g hb fX14 zX;replace fX15:=a0g hb fX15 zX;replace fX16:=a0g hb fX16 zX;replace fX17:=a0g hb fX17 zX;replace fX18:=a0g hb fX18 zX;replace zX:=zHl hb zX;replace hBo:=hBo.trans (hb.mono hBo.size);clear hb;replace LA:=eqL (P:=Tryz.prog) HK19 rfl yA;replace LX:=eqL (P:=Tryz.prog) HK19 rfl yX;go_wp2_with fail;refine (HN.out _).mono ?_;rintro e s12 ⟨rfl,hb⟩;replace yA:=eqB hb yA zA;replace zA:=zHl hb zA;replace yX:=eqB hb yX zX;replace fX9:=a0g hb fX9 zX;replace fX10:=a0g hb fX10 zX;replace fX11:=a0g hb fX11 zX;replace fX12:=a0g hb fX12 zX;replace fX13:=a0g hb fX13 zX;replace fX14:=a0g hb fX14 zX;replace fX15:=a0g hb fX15 zX;replace fX16:=a0g hb fX16 zX;replace fX17:=a0g hb fX17 zX;replace fX18:=a0g hb fX18 zX;replace zX:=zHl hb zX;replace hBo:=hBo.trans (hb.mono hBo.size);clear hb;replace LA:=eqL (P:=Tryz.prog) HK19 rfl yA;replace LX:=eqL (P:=Tryz.prog) HK19 rfl yX
 go_upto_region 24 with (fail)
 obtain ⟨s13,hws⟩:∃ s,s=(s12.alloc (.cells #[.int .i64 rc,.int .i64 rr,.int .i64 tc,.int .i64 tt] 86)):=⟨_,rfl⟩;have hBs:=bs1 hBo hws;obtain ⟨G,hdG⟩:∃ b,b=s12.heap.size:=⟨_,rfl⟩;have hsz:s13.heap.size=s12.heap.size+1:=by rw [hws];simp
 have dXG:X≠G:=by omega
 have hQC:∀ p v,s12.cell? p=some v→s13.cell? p=some v:=fun p v h => by rw [hws];exact (alK h)
 have hQZ:∀ b,b < s12.heap.size→b < s13.heap.size:=fun b h => by omega
 have hQF:∀ b j,b < s12.heap.size→s12.frozen? ⟨b,j,none⟩=false→s13.frozen? ⟨b,j,none⟩=false:=fun b j z h => by rw [hws];exact (alF z h)
 replace yA:=eqE hws (eqA yA zA);replace zA:=hQZ _ zA;replace yX:=eqE hws (eqA yX zX);replace fX9:=hQF _ _ zX fX9;replace fX10:=hQF _ _ zX fX10;replace fX11:=hQF _ _ zX fX11;replace fX12:=hQF _ _ zX fX12;replace fX13:=hQF _ _ zX fX13;replace fX14:=hQF _ _ zX fX14;replace fX15:=hQF _ _ zX fX15;replace fX16:=hQF _ _ zX fX16;replace fX17:=hQF _ _ zX fX17;replace fX18:=hQF _ _ zX fX18;replace zX:=hQZ _ zX;clear hQC hQZ hQF;have hN:=bx0 (b:=G) hws hdG;have kG0:=hN 0 _ rfl;have kG1:=hN 1 _ rfl;have kG2:=hN 2 _ rfl;have kG3:=hN 3 _ rfl;clear hN;have zG:G < s13.heap.size:=by omega
 have lG:w.heap.size≤G:=by have:=hBo.size;omega
 replace LA:=eqL (P:=Tryz.prog) HK19 rfl yA;replace LX:=eqL (P:=Tryz.prog) HK19 rfl yX;rw [← hws];try rw [← hdG]
 clear hBo;clear hws hsz hdG;have hBo:=hBs;clear hBs;have HF:Hid (∀ W,Below s13.heap.size s13 W→Below w.heap.size w W):=fun W hW => hBo.trans (hW.mono hBo.size)
 clear hBo;refine wrp (S:=fun w' => (∀ j,w'.cell? ⟨A,j,none⟩=([.int .i64 6,.int .i64 o,.int .i64 a,.int .i64 b,.bool qn,.string qa,.string qd,.string x,.bool tr,.string rs,.int .i64 rc,.int .i64 rr,.bool rf,.bool rg,.string ts,.int .i64 tc,.int .i64 tt,.bool tf,.bool tg]:List Value)[j]?)∧(∀ j,w'.cell? ⟨X,j,none⟩=([.int .i64 6,.int .i64 0,.int .i64 0,.int .i64 0,.bool false,.string ⟨#[]⟩,.string ⟨#[]⟩,.string ⟨#[]⟩,.bool false,.string rs,.int .i64 rc,.int .i64 rr,.bool rf,.bool rg,.string ts,.int .i64 tc,.int .i64 tt,.bool tf,.bool tg]:List Value)[j]?)∧w'.cell? ⟨G,0,none⟩=some (.int .i64 rc)∧w'.cell? ⟨G,1,none⟩=some (.int .i64 rr)∧w'.cell? ⟨G,2,none⟩=some (.int .i64 tc)∧w'.cell? ⟨G,3,none⟩=some (.int .i64 tt)∧Sem.run Tryz.prog (loadCellsFrom ⟨A,0,none⟩ 0 K19 #[]) w'=.ok #[.int .i64 6,.int .i64 o,.int .i64 a,.int .i64 b,.bool qn,.string qa,.string qd,.string x,.bool tr,.string rs,.int .i64 rc,.int .i64 rr,.bool rf,.bool rg,.string ts,.int .i64 tc,.int .i64 tt,.bool tf,.bool tg] w'∧Sem.run Tryz.prog (loadCellsFrom ⟨X,0,none⟩ 0 K19 #[]) w'=.ok #[.int .i64 6,.int .i64 0,.int .i64 0,.int .i64 0,.bool false,.string ⟨#[]⟩,.string ⟨#[]⟩,.string ⟨#[]⟩,.bool false,.string rs,.int .i64 rc,.int .i64 rr,.bool rf,.bool rg,.string ts,.int .i64 tc,.int .i64 tt,.bool tf,.bool tg] w') (by kernel_rfl) (fun w' hx => by obtain ⟨hcx,hfx⟩:=a0k hx;((try dsimp only);((repeat' apply And.intro) <;> first | assumption | exact yA | exact eqL HK19 rfl (yA) | exact fun j => (hcx A j (by assumption)).trans (yA j) | exact eqL HK19 rfl (fun j => (hcx A j (by assumption)).trans (yA j)) | exact eqS yA (by dsimp only;omega) | exact eqL HK19 rfl (eqS yA (by dsimp only;omega)) | exact eqS (fun j => (hcx A j (by assumption)).trans (yA j)) (by dsimp only;omega) | exact eqL HK19 rfl (eqS (fun j => (hcx A j (by assumption)).trans (yA j)) (by dsimp only;omega)) | exact yX | exact eqL HK19 rfl (yX) | exact fun j => (hcx X j (by assumption)).trans (yX j) | exact eqL HK19 rfl (fun j => (hcx X j (by assumption)).trans (yX j)) | exact eqS yX (by dsimp only;omega) | exact eqL HK19 rfl (eqS yX (by dsimp only;omega)) | exact eqS (fun j => (hcx X j (by assumption)).trans (yX j)) (by dsimp only;omega) | exact eqL HK19 rfl (eqS (fun j => (hcx X j (by assumption)).trans (yX j)) (by dsimp only;omega)) | ((repeat (with_reducible first | apply a0b | apply a0x | refine a0e ?_ (by (try dsimp only);omega))) <;> first | assumption | (rw [hcx _ _ (by assumption)];assumption))))) (fun HKP hHeld => ?_)
 refine tk 0 ?_;try simp only [pz]
 refine tk 1 ?_;try simp only [pz]
 refine tk 2 ?_;try simp only [pz]
 refine tk 3 ?_;try simp only [pz]
 refine tk 4 ?_;try simp only [pz]
 refine tk 5 ?_;try simp only [pz]
 refine rd1 6 (by kernel_rfl) rfl fun K hK => ?_
 go_simp
 (go_at_call 56;refine (HR.out _).mono ?_;rintro e x14 ⟨rfl,hbx⟩;have hTx:Below s13.heap.size s13 x14:=bHb hbx;obtain ⟨hcx,hfx⟩:=a0k hTx)
 try (go_wp2_with fail)
 refine hK.out _ _ (kHp HKP) (fun hHeld => ?_);clear hK K;try simp only [pz]
 refine tk 7 ?_;try simp only [pz]
 refine tk 8 ?_;try simp only [pz]
 refine tk 9 ?_;try simp only [pz]
 refine tk 10 ?_;try simp only [pz]
 refine rd1 11 (by kernel_rfl) rfl fun K hK => ?_
 go_simp
 (go_at_call 56;refine (HT.out _).mono ?_;rintro e x14 ⟨rfl,hbx⟩;have hTx:Below s13.heap.size s13 x14:=bHb hbx;obtain ⟨hcx,hfx⟩:=a0k hTx)
 try (go_wp2_with fail)
 refine hK.out _ _ (kHp HKP) (fun hHeld => ?_);clear hK K;try simp only [pz]
 refine tk 12 ?_;try simp only [pz]
 refine tk 13 ?_;try simp only [pz]
 refine tk 14 ?_;try simp only [pz]
 refine tk 15 ?_;try simp only [pz]
 refine tk 16 ?_;try simp only [pz]
 refine tk 17 ?_;try simp only [pz]
 refine tk 18 ?_;try simp only [pz]
 refine tk 19 ?_;try simp only [pz]
 refine tk 20 ?_;try simp only [pz]
 refine tk 21 ?_;try simp only [pz]
 refine tk 22 ?_;try simp only [pz]
 refine tk 23 ?_;try simp only [pz]
 refine tk 24 ?_;try simp only [pz]
 refine tk 25 ?_;try simp only [pz]
 refine tk 26 ?_;try simp only [pz]
 refine tk 27 ?_;try simp only [pz]
 refine tk 28 ?_;try simp only [pz]
 refine rd1 29 (by kernel_rfl) rfl fun K hK => ?_
 go_simp
 (go_at_call 57;refine (HB.out _).mono ?_;rintro e x14 ⟨rfl,hbx⟩;have hTx:Below s13.heap.size s13 x14:=bHb hbx;obtain ⟨hcx,hfx⟩:=a0k hTx)
 try (go_wp2_with fail)
 refine hK.out _ _ (kHp HKP) (fun hHeld => ?_);clear hK K;try simp only [pz]
 refine tk 30 ?_;try simp only [pz]
 refine tk 31 ?_;try simp only [pz]
 refine tk 32 ?_;try simp only [pz]
 refine wpAnyH_done (by kernel_rfl) ?_ _
 all_goals go_wp2_with fail
 all_goals first | go_ret | go_ret2
 all_goals exact ⟨rfl,HF.out _ (by assumption)⟩
theorem c7f (o a b:Int) (qn:Bool) (qa qd x:ByteArray) (tr:Bool) (rs:ByteArray) (rc rr:Int) (rf rg:Bool) (ts:ByteArray) (tc tt:Int) (tf tg:Bool) (w:World) (u1 u2 u3 u4 e6:Int) (hE:∀ w,Sem.run Tryz.prog (binOp .eql 33 (.agg #[.int .i64 6,.int .i64 o,.int .i64 a,.int .i64 b,.bool qn,.string qa,.string qd,.string x,.bool tr,.string rs,.int .i64 rc,.int .i64 rr,.bool rf,.bool rg,.string ts,.int .i64 tc,.int .i64 tt,.bool tf,.bool tg]) (.agg #[.int .i64 6,.int .i64 0,.int .i64 0,.int .i64 0,.bool false,.string ⟨#[]⟩,.string ⟨#[]⟩,.string ⟨#[]⟩,.bool false,.string rs,.int .i64 rc,.int .i64 rr,.bool rf,.bool rg,.string ts,.int .i64 tc,.int .i64 tt,.bool tf,.bool tg])) w=.ok (.bool true) w)
  (hB:∀ w,Calls Tryz.prog 57 #[.agg #[.string rs,.int .i64 rc,.int .i64 rr,.bool rf,.bool rg],.agg #[.string ts,.int .i64 tc,.int .i64 tt,.bool tf,.bool tg]] w fun e w' => e=.returned (a1e rc rr tc tt)∧Below w.heap.size w w')
  (hN:∀ w,Calls Tryz.prog 58 #[a1e rc rr tc tt] w fun e w' => e=.returned (.tuple #[a1e u1 u2 u3 u4,.int .i64 0])∧Below w.heap.size w w')
  (hR:∀ w,Calls Tryz.prog 56 #[.agg #[.string rs,.int .i64 rc,.int .i64 rr,.bool rf,.bool rg]] w fun e w' => e=.returned (.bool true)∧Below w.heap.size w w')
  (hT:∀ w,Calls Tryz.prog 56 #[.agg #[.string ts,.int .i64 tc,.int .i64 tt,.bool tf,.bool tg]] w fun e w' => e=.returned (.bool true)∧Below w.heap.size w w')
  (hs1:ts.toList=[]) (hp:(u1 == rc)=false)
  : Calls Tryz.prog 32 #[.agg #[.int .i64 6,.int .i64 o,.int .i64 a,.int .i64 b,.bool qn,.string qa,.string qd,.string x,.bool tr,.string rs,.int .i64 rc,.int .i64 rr,.bool rf,.bool rg,.string ts,.int .i64 tc,.int .i64 tt,.bool tf,.bool tg]] w fun e w' => e=.returned (.bool false)∧Below w.heap.size w w':=by
 have hud:undef=Value.tuple #[]:=rfl;obtain ⟨K19,hz19,HK19⟩:=a0q;have HB:=Lib.hid hB;have HN:=Lib.hid hN;clear hB hN;have HR:=Lib.hid hR;clear hR;have HT:=Lib.hid hT;clear hT;go_enter Tryz.func32,Tryz.ntmps32
 go_upto_region 1 with (fail)
 obtain ⟨s15,hws⟩:∃ s,s=(w.alloc (.cells #[.int .i64 6,.int .i64 o,.int .i64 a,.int .i64 b,.bool qn,.string qa,.string qd,.string x,.bool tr,.string rs,.int .i64 rc,.int .i64 rr,.bool rf,.bool rg,.string ts,.int .i64 tc,.int .i64 tt,.bool tf,.bool tg] 33)):=⟨_,rfl⟩;have hBs:=bs1 (Below.refl w.heap.size w) hws;obtain ⟨A,hdA⟩:∃ b,b=w.heap.size:=⟨_,rfl⟩;have hsz:s15.heap.size=w.heap.size+1:=by rw [hws];simp
 have yA:=by0 (b:=A) hws hdA;have zA:A < s15.heap.size:=by omega
 have lA:w.heap.size≤A:=by omega
 have LA:=eqL (P:=Tryz.prog) HK19 rfl yA;rw [← hws];try rw [← hdA]
 clear hws hsz hdA;have hBo:=hBs;clear hBs
 go_upto_region 2 with (refine a0c rfl _ _ rfl rfl _ _ _ rfl rfl rfl (by rfl) (by rfl) (by rfl) ?_)
 obtain ⟨s16,hws⟩:∃ s,s=(s15.alloc (.cells #[.int .i64 6,.int .i64 0,.int .i64 0,.int .i64 0,.bool false,.string ⟨#[]⟩,.string ⟨#[]⟩,.string ⟨#[]⟩,.bool false,.string ⟨#[]⟩,.int .i64 0,.int .i64 0,.bool false,.bool false,.string ⟨#[]⟩,.int .i64 0,.int .i64 0,.bool false,.bool false] 33)):=⟨_,rfl⟩;have hBs:=bs1 hBo hws;obtain ⟨X,hdX⟩:∃ b,b=s15.heap.size:=⟨_,rfl⟩;have hsz:s16.heap.size=s15.heap.size+1:=by rw [hws];simp
 have dXA:X≠A:=by omega
 have hQC:∀ p v,s15.cell? p=some v→s16.cell? p=some v:=fun p v h => by rw [hws];exact (alK h)
 have hQZ:∀ b,b < s15.heap.size→b < s16.heap.size:=fun b h => by omega
 replace yA:=eqE hws (eqA yA zA);replace zA:=hQZ _ zA;clear hQC hQZ;have yX:=by0 (b:=X) hws hdX;have hM:=bf0 (b:=X) hws hdX;have fX9:=hM 9;have fX10:=hM 10;have fX11:=hM 11;have fX12:=hM 12;have fX13:=hM 13;have fX14:=hM 14;have fX15:=hM 15;have fX16:=hM 16;have fX17:=hM 17;have fX18:=hM 18;clear hM;have zX:X < s16.heap.size:=by omega
 have lX:w.heap.size≤X:=by have:=hBo.size;omega
 replace LA:=eqL (P:=Tryz.prog) HK19 rfl yA;have LX:=eqL (P:=Tryz.prog) HK19 rfl yX;rw [← hws];try rw [← hdX]
 clear hBo;clear hws hsz hdX;have hBo:=hBs;clear hBs
 go_upto_region 23 with (fail)
 obtain ⟨s17,hws⟩:∃ s,s=((((((((((s16.setCell ⟨X,9,none⟩ (.string rs)).setCell ⟨X,10,none⟩ (.int .i64 rc)).setCell ⟨X,11,none⟩ (.int .i64 rr)).setCell ⟨X,12,none⟩ (.bool rf)).setCell ⟨X,13,none⟩ (.bool rg)).setCell ⟨X,14,none⟩ (.string ts)).setCell ⟨X,15,none⟩ (.int .i64 tc)).setCell ⟨X,16,none⟩ (.int .i64 tt)).setCell ⟨X,17,none⟩ (.bool tf)).setCell ⟨X,18,none⟩ (.bool tg)):=⟨_,rfl⟩;have hBs:Below w.heap.size w s17:=by rw [hws];exact (((((((((((hBo).setCell lX _).setCell lX _).setCell lX _).setCell lX _).setCell lX _).setCell lX _).setCell lX _).setCell lX _).setCell lX _).setCell lX _)
 have hsz:s17.heap.size=s16.heap.size:=by rw [hws];simp
 replace yA:=eqE hws (eqS (eqS (eqS (eqS (eqS (eqS (eqS (eqS (eqS (eqS yA dXA) dXA) dXA) dXA) dXA) dXA) dXA) dXA) dXA) dXA);have hq:∀ {p v},((((((((((s16.setCell ⟨X,9,none⟩ (.string rs)).setCell ⟨X,10,none⟩ (.int .i64 rc)).setCell ⟨X,11,none⟩ (.int .i64 rr)).setCell ⟨X,12,none⟩ (.bool rf)).setCell ⟨X,13,none⟩ (.bool rg)).setCell ⟨X,14,none⟩ (.string ts)).setCell ⟨X,15,none⟩ (.int .i64 tc)).setCell ⟨X,16,none⟩ (.int .i64 tt)).setCell ⟨X,17,none⟩ (.bool tf)).setCell ⟨X,18,none⟩ (.bool tg)).cell? p=some v→s17.cell? p=some v:=fun h => by rw [hws];exact h
 replace yX:∀ j,s17.cell? ⟨X,j,none⟩=([.int .i64 6,.int .i64 0,.int .i64 0,.int .i64 0,.bool false,.string ⟨#[]⟩,.string ⟨#[]⟩,.string ⟨#[]⟩,.bool false,.string rs,.int .i64 rc,.int .i64 rr,.bool rf,.bool rg,.string ts,.int .i64 tc,.int .i64 tt,.bool tf,.bool tg]:List Value)[j]?:=eqE hws (eqI (eqI (eqI (eqI (eqI (eqI (eqI (eqI (eqI (eqI yX (of_decide_eq_true rfl)) (of_decide_eq_true rfl)) (of_decide_eq_true rfl)) (of_decide_eq_true rfl)) (of_decide_eq_true rfl)) (of_decide_eq_true rfl)) (of_decide_eq_true rfl)) (of_decide_eq_true rfl)) (of_decide_eq_true rfl)) (of_decide_eq_true rfl));clear hq;have hQF:∀ {p x},s16.frozen? p=x→s17.frozen? p=x:=fun h => by rw [hws];simpa [go_sem] using h
 replace fX9:=hQF fX9;replace fX10:=hQF fX10;replace fX11:=hQF fX11;replace fX12:=hQF fX12;replace fX13:=hQF fX13;replace fX14:=hQF fX14;replace fX15:=hQF fX15;replace fX16:=hQF fX16;replace fX17:=hQF fX17;replace fX18:=hQF fX18;clear hQF;replace zA:A < s17.heap.size:=by omega
 replace zX:X < s17.heap.size:=by omega
 replace LA:=eqL (P:=Tryz.prog) HK19 rfl yA;replace LX:=eqL (P:=Tryz.prog) HK19 rfl yX;rw [← hws];clear hBo hws hsz;have hBo:=hBs;clear hBs;go_wp2_with fail;refine (HB.out _).mono ?_;rintro e s18 ⟨rfl,hb⟩;replace yA:=eqB hb yA zA;replace zA:=zHl hb zA;replace yX:=eqB hb yX zX;replace fX9:=a0g hb fX9 zX;replace fX10:=a0g hb fX10 zX;replace fX11:=a0g hb fX11 zX;replace fX12:=a0g hb fX12 zX;replace fX13:=a0g hb fX13 zX;replace fX14:=a0g hb fX14 zX;replace fX15:=a0g hb fX15 zX;replace fX16:=a0g hb fX16 zX;replace fX17:=a0g hb fX17 zX;replace fX18:=a0g hb fX18 zX;replace zX:=zHl hb zX;replace hBo:=hBo.trans (hb.mono hBo.size);clear hb;replace LA:=eqL (P:=Tryz.prog) HK19 rfl yA;replace LX:=eqL (P:=Tryz.prog) HK19 rfl yX;go_wp2_with fail;refine (HN.out _).mono ?_;rintro e s19 ⟨rfl,hb⟩;replace yA:=eqB hb yA zA;replace zA:=zHl hb zA;replace yX:=eqB hb yX zX;replace fX9:=a0g hb fX9 zX;replace fX10:=a0g hb fX10 zX;replace fX11:=a0g hb fX11 zX;replace fX12:=a0g hb fX12 zX;replace fX13:=a0g hb fX13 zX;replace fX14:=a0g hb fX14 zX;replace fX15:=a0g hb fX15 zX;replace fX16:=a0g hb fX16 zX;replace fX17:=a0g hb fX17 zX;replace fX18:=a0g hb fX18 zX;replace zX:=zHl hb zX;replace hBo:=hBo.trans (hb.mono hBo.size);clear hb;replace LA:=eqL (P:=Tryz.prog) HK19 rfl yA;replace LX:=eqL (P:=Tryz.prog) HK19 rfl yX
 go_upto_region 24 with (fail)
 obtain ⟨s20,hws⟩:∃ s,s=(s19.alloc (.cells #[.int .i64 u1,.int .i64 u2,.int .i64 u3,.int .i64 u4] 86)):=⟨_,rfl⟩;have hBs:=bs1 hBo hws;obtain ⟨G,hdG⟩:∃ b,b=s19.heap.size:=⟨_,rfl⟩;have hsz:s20.heap.size=s19.heap.size+1:=by rw [hws];simp
 have dXG:X≠G:=by omega
 have hQC:∀ p v,s19.cell? p=some v→s20.cell? p=some v:=fun p v h => by rw [hws];exact (alK h)
 have hQZ:∀ b,b < s19.heap.size→b < s20.heap.size:=fun b h => by omega
 have hQF:∀ b j,b < s19.heap.size→s19.frozen? ⟨b,j,none⟩=false→s20.frozen? ⟨b,j,none⟩=false:=fun b j z h => by rw [hws];exact (alF z h)
 replace yA:=eqE hws (eqA yA zA);replace zA:=hQZ _ zA;replace yX:=eqE hws (eqA yX zX);replace fX9:=hQF _ _ zX fX9;replace fX10:=hQF _ _ zX fX10;replace fX11:=hQF _ _ zX fX11;replace fX12:=hQF _ _ zX fX12;replace fX13:=hQF _ _ zX fX13;replace fX14:=hQF _ _ zX fX14;replace fX15:=hQF _ _ zX fX15;replace fX16:=hQF _ _ zX fX16;replace fX17:=hQF _ _ zX fX17;replace fX18:=hQF _ _ zX fX18;replace zX:=hQZ _ zX;clear hQC hQZ hQF;have hN:=bx0 (b:=G) hws hdG;have kG0:=hN 0 _ rfl;have kG1:=hN 1 _ rfl;have kG2:=hN 2 _ rfl;have kG3:=hN 3 _ rfl;clear hN;have zG:G < s20.heap.size:=by omega
 have lG:w.heap.size≤G:=by have:=hBo.size;omega
 replace LA:=eqL (P:=Tryz.prog) HK19 rfl yA;replace LX:=eqL (P:=Tryz.prog) HK19 rfl yX;rw [← hws];try rw [← hdG]
 clear hBo;clear hws hsz hdG;have hBo:=hBs;clear hBs;have HF:Hid (∀ W,Below s20.heap.size s20 W→Below w.heap.size w W):=fun W hW => hBo.trans (hW.mono hBo.size)
 clear hBo;refine wrp (S:=fun w' => (∀ j,w'.cell? ⟨A,j,none⟩=([.int .i64 6,.int .i64 o,.int .i64 a,.int .i64 b,.bool qn,.string qa,.string qd,.string x,.bool tr,.string rs,.int .i64 rc,.int .i64 rr,.bool rf,.bool rg,.string ts,.int .i64 tc,.int .i64 tt,.bool tf,.bool tg]:List Value)[j]?)∧(∀ j,w'.cell? ⟨X,j,none⟩=([.int .i64 6,.int .i64 0,.int .i64 0,.int .i64 0,.bool false,.string ⟨#[]⟩,.string ⟨#[]⟩,.string ⟨#[]⟩,.bool false,.string rs,.int .i64 rc,.int .i64 rr,.bool rf,.bool rg,.string ts,.int .i64 tc,.int .i64 tt,.bool tf,.bool tg]:List Value)[j]?)∧w'.cell? ⟨G,0,none⟩=some (.int .i64 u1)∧w'.cell? ⟨G,1,none⟩=some (.int .i64 u2)∧w'.cell? ⟨G,2,none⟩=some (.int .i64 u3)∧w'.cell? ⟨G,3,none⟩=some (.int .i64 u4)∧Sem.run Tryz.prog (loadCellsFrom ⟨A,0,none⟩ 0 K19 #[]) w'=.ok #[.int .i64 6,.int .i64 o,.int .i64 a,.int .i64 b,.bool qn,.string qa,.string qd,.string x,.bool tr,.string rs,.int .i64 rc,.int .i64 rr,.bool rf,.bool rg,.string ts,.int .i64 tc,.int .i64 tt,.bool tf,.bool tg] w'∧Sem.run Tryz.prog (loadCellsFrom ⟨X,0,none⟩ 0 K19 #[]) w'=.ok #[.int .i64 6,.int .i64 0,.int .i64 0,.int .i64 0,.bool false,.string ⟨#[]⟩,.string ⟨#[]⟩,.string ⟨#[]⟩,.bool false,.string rs,.int .i64 rc,.int .i64 rr,.bool rf,.bool rg,.string ts,.int .i64 tc,.int .i64 tt,.bool tf,.bool tg] w') (by kernel_rfl) (fun w' hx => by obtain ⟨hcx,hfx⟩:=a0k hx;((try dsimp only);((repeat' apply And.intro) <;> first | assumption | exact yA | exact eqL HK19 rfl (yA) | exact fun j => (hcx A j (by assumption)).trans (yA j) | exact eqL HK19 rfl (fun j => (hcx A j (by assumption)).trans (yA j)) | exact eqS yA (by dsimp only;omega) | exact eqL HK19 rfl (eqS yA (by dsimp only;omega)) | exact eqS (fun j => (hcx A j (by assumption)).trans (yA j)) (by dsimp only;omega) | exact eqL HK19 rfl (eqS (fun j => (hcx A j (by assumption)).trans (yA j)) (by dsimp only;omega)) | exact yX | exact eqL HK19 rfl (yX) | exact fun j => (hcx X j (by assumption)).trans (yX j) | exact eqL HK19 rfl (fun j => (hcx X j (by assumption)).trans (yX j)) | exact eqS yX (by dsimp only;omega) | exact eqL HK19 rfl (eqS yX (by dsimp only;omega)) | exact eqS (fun j => (hcx X j (by assumption)).trans (yX j)) (by dsimp only;omega) | exact eqL HK19 rfl (eqS (fun j => (hcx X j (by assumption)).trans (yX j)) (by dsimp only;omega)) | ((repeat (with_reducible first | apply a0b | apply a0x | refine a0e ?_ (by (try dsimp only);omega))) <;> first | assumption | (rw [hcx _ _ (by assumption)];assumption))))) (fun HKP hHeld => ?_)
 refine tk 0 ?_;try simp only [pz]
 refine tk 1 ?_;try simp only [pz]
 refine tk 2 ?_;try simp only [pz]
 refine tk 3 ?_;try simp only [pz]
 refine tk 4 ?_;try simp only [pz]
 refine tk 5 ?_;try simp only [pz]
 refine rd1 6 (by kernel_rfl) rfl fun K hK => ?_
 go_simp
 (go_at_call 56;refine (HR.out _).mono ?_;rintro e x21 ⟨rfl,hbx⟩;have hTx:Below s20.heap.size s20 x21:=bHb hbx;obtain ⟨hcx,hfx⟩:=a0k hTx)
 try (go_wp2_with fail)
 refine hK.out _ _ (kHp HKP) (fun hHeld => ?_);clear hK K;try simp only [pz]
 refine tk 7 ?_;try simp only [pz]
 refine tk 8 ?_;try simp only [pz]
 refine tk 9 ?_;try simp only [pz]
 refine tk 10 ?_;try simp only [pz]
 refine rd1 11 (by kernel_rfl) rfl fun K hK => ?_
 go_simp
 (go_at_call 56;refine (HT.out _).mono ?_;rintro e x21 ⟨rfl,hbx⟩;have hTx:Below s20.heap.size s20 x21:=bHb hbx;obtain ⟨hcx,hfx⟩:=a0k hTx)
 try (go_wp2_with fail)
 refine hK.out _ _ (kHp HKP) (fun hHeld => ?_);clear hK K;try simp only [pz]
 refine tk 12 ?_;try simp only [pz]
 refine tk 13 ?_;try simp only [pz]
 refine tk 14 ?_;try simp only [pz]
 refine tk 15 ?_;try simp only [pz]
 refine tk 16 ?_;try simp only [pz]
 refine tk 17 ?_;try simp only [pz]
 refine tk 18 ?_;try simp only [pz]
 refine tk 19 ?_;try simp only [pz]
 refine tk 20 ?_;try simp only [pz]
 refine tk 21 ?_;try simp only [pz]
 refine tk 22 ?_;try simp only [pz]
 refine tk 23 ?_;try simp only [pz]
 refine tk 24 ?_;try simp only [pz]
 refine tk 25 ?_;try simp only [pz]
 refine tk 26 ?_;try simp only [pz]
 refine tk 27 ?_;try simp only [pz]
 refine tk 28 ?_;try simp only [pz]
 refine rd1 29 (by kernel_rfl) rfl fun K hK => ?_
 go_simp
 (go_at_call 57;refine (HB.out _).mono ?_;rintro e x21 ⟨rfl,hbx⟩;have hTx:Below s20.heap.size s20 x21:=bHb hbx;obtain ⟨hcx,hfx⟩:=a0k hTx)
 try (go_wp2_with fail)
 refine hK.out _ _ (kHp HKP) (fun hHeld => ?_);clear hK K;try simp only [pz]
 refine tk 30 ?_;try simp only [pz]
 refine tk 31 ?_;try simp only [pz]
 refine tk 32 ?_;try simp only [pz]
 refine wpAnyH_done (by kernel_rfl) ?_ _
 all_goals go_wp2_with fail
 all_goals first | go_ret | go_ret2
 all_goals exact ⟨rfl,HF.out _ (by assumption)⟩
theorem c7g (o a b:Int) (qn:Bool) (qa qd x:ByteArray) (tr:Bool) (rs:ByteArray) (rc rr:Int) (rf rg:Bool) (ts:ByteArray) (tc tt:Int) (tf tg:Bool) (w:World) (u1 u2 u3 u4 e6:Int) (hE:∀ w,Sem.run Tryz.prog (binOp .eql 33 (.agg #[.int .i64 6,.int .i64 o,.int .i64 a,.int .i64 b,.bool qn,.string qa,.string qd,.string x,.bool tr,.string rs,.int .i64 rc,.int .i64 rr,.bool rf,.bool rg,.string ts,.int .i64 tc,.int .i64 tt,.bool tf,.bool tg]) (.agg #[.int .i64 6,.int .i64 0,.int .i64 0,.int .i64 0,.bool false,.string ⟨#[]⟩,.string ⟨#[]⟩,.string ⟨#[]⟩,.bool false,.string rs,.int .i64 rc,.int .i64 rr,.bool rf,.bool rg,.string ts,.int .i64 tc,.int .i64 tt,.bool tf,.bool tg])) w=.ok (.bool true) w)
  (hB:∀ w,Calls Tryz.prog 57 #[.agg #[.string rs,.int .i64 rc,.int .i64 rr,.bool rf,.bool rg],.agg #[.string ts,.int .i64 tc,.int .i64 tt,.bool tf,.bool tg]] w fun e w' => e=.returned (a1e rc rr tc tt)∧Below w.heap.size w w')
  (hN:∀ w,Calls Tryz.prog 58 #[a1e rc rr tc tt] w fun e w' => e=.returned (.tuple #[a1e rc u2 u3 u4,.int .i64 0])∧Below w.heap.size w w')
  (hR:∀ w,Calls Tryz.prog 56 #[.agg #[.string rs,.int .i64 rc,.int .i64 rr,.bool rf,.bool rg]] w fun e w' => e=.returned (.bool true)∧Below w.heap.size w w')
  (hT:∀ w,Calls Tryz.prog 56 #[.agg #[.string ts,.int .i64 tc,.int .i64 tt,.bool tf,.bool tg]] w fun e w' => e=.returned (.bool true)∧Below w.heap.size w w')
  (hs1:ts.toList=[]) (hp:(u2 == rr)=false)
  : Calls Tryz.prog 32 #[.agg #[.int .i64 6,.int .i64 o,.int .i64 a,.int .i64 b,.bool qn,.string qa,.string qd,.string x,.bool tr,.string rs,.int .i64 rc,.int .i64 rr,.bool rf,.bool rg,.string ts,.int .i64 tc,.int .i64 tt,.bool tf,.bool tg]] w fun e w' => e=.returned (.bool false)∧Below w.heap.size w w':=by
 have hud:undef=Value.tuple #[]:=rfl;obtain ⟨K19,hz19,HK19⟩:=a0q;have HB:=Lib.hid hB;have HN:=Lib.hid hN;clear hB hN;have HR:=Lib.hid hR;clear hR;have HT:=Lib.hid hT;clear hT;go_enter Tryz.func32,Tryz.ntmps32
 go_upto_region 1 with (fail)
 obtain ⟨s22,hws⟩:∃ s,s=(w.alloc (.cells #[.int .i64 6,.int .i64 o,.int .i64 a,.int .i64 b,.bool qn,.string qa,.string qd,.string x,.bool tr,.string rs,.int .i64 rc,.int .i64 rr,.bool rf,.bool rg,.string ts,.int .i64 tc,.int .i64 tt,.bool tf,.bool tg] 33)):=⟨_,rfl⟩;have hBs:=bs1 (Below.refl w.heap.size w) hws;obtain ⟨A,hdA⟩:∃ b,b=w.heap.size:=⟨_,rfl⟩;have hsz:s22.heap.size=w.heap.size+1:=by rw [hws];simp
 have yA:=by0 (b:=A) hws hdA;have zA:A < s22.heap.size:=by omega
 have lA:w.heap.size≤A:=by omega
 have LA:=eqL (P:=Tryz.prog) HK19 rfl yA;rw [← hws];try rw [← hdA]
 clear hws hsz hdA;have hBo:=hBs;clear hBs
 go_upto_region 2 with (refine a0c rfl _ _ rfl rfl _ _ _ rfl rfl rfl (by rfl) (by rfl) (by rfl) ?_)
 obtain ⟨s23,hws⟩:∃ s,s=(s22.alloc (.cells #[.int .i64 6,.int .i64 0,.int .i64 0,.int .i64 0,.bool false,.string ⟨#[]⟩,.string ⟨#[]⟩,.string ⟨#[]⟩,.bool false,.string ⟨#[]⟩,.int .i64 0,.int .i64 0,.bool false,.bool false,.string ⟨#[]⟩,.int .i64 0,.int .i64 0,.bool false,.bool false] 33)):=⟨_,rfl⟩;have hBs:=bs1 hBo hws;obtain ⟨X,hdX⟩:∃ b,b=s22.heap.size:=⟨_,rfl⟩;have hsz:s23.heap.size=s22.heap.size+1:=by rw [hws];simp
 have dXA:X≠A:=by omega
 have hQC:∀ p v,s22.cell? p=some v→s23.cell? p=some v:=fun p v h => by rw [hws];exact (alK h)
 have hQZ:∀ b,b < s22.heap.size→b < s23.heap.size:=fun b h => by omega
 replace yA:=eqE hws (eqA yA zA);replace zA:=hQZ _ zA;clear hQC hQZ;have yX:=by0 (b:=X) hws hdX;have hM:=bf0 (b:=X) hws hdX;have fX9:=hM 9;have fX10:=hM 10;have fX11:=hM 11;have fX12:=hM 12;have fX13:=hM 13;have fX14:=hM 14;have fX15:=hM 15;have fX16:=hM 16;have fX17:=hM 17;have fX18:=hM 18;clear hM;have zX:X < s23.heap.size:=by omega
 have lX:w.heap.size≤X:=by have:=hBo.size;omega
 replace LA:=eqL (P:=Tryz.prog) HK19 rfl yA;have LX:=eqL (P:=Tryz.prog) HK19 rfl yX;rw [← hws];try rw [← hdX]
 clear hBo;clear hws hsz hdX;have hBo:=hBs;clear hBs
 go_upto_region 23 with (fail)
 obtain ⟨s24,hws⟩:∃ s,s=((((((((((s23.setCell ⟨X,9,none⟩ (.string rs)).setCell ⟨X,10,none⟩ (.int .i64 rc)).setCell ⟨X,11,none⟩ (.int .i64 rr)).setCell ⟨X,12,none⟩ (.bool rf)).setCell ⟨X,13,none⟩ (.bool rg)).setCell ⟨X,14,none⟩ (.string ts)).setCell ⟨X,15,none⟩ (.int .i64 tc)).setCell ⟨X,16,none⟩ (.int .i64 tt)).setCell ⟨X,17,none⟩ (.bool tf)).setCell ⟨X,18,none⟩ (.bool tg)):=⟨_,rfl⟩;have hBs:Below w.heap.size w s24:=by rw [hws];exact (((((((((((hBo).setCell lX _).setCell lX _).setCell lX _).setCell lX _).setCell lX _).setCell lX _).setCell lX _).setCell lX _).setCell lX _).setCell lX _)
 have hsz:s24.heap.size=s23.heap.size:=by rw [hws];simp
 replace yA:=eqE hws (eqS (eqS (eqS (eqS (eqS (eqS (eqS (eqS (eqS (eqS yA dXA) dXA) dXA) dXA) dXA) dXA) dXA) dXA) dXA) dXA);have hq:∀ {p v},((((((((((s23.setCell ⟨X,9,none⟩ (.string rs)).setCell ⟨X,10,none⟩ (.int .i64 rc)).setCell ⟨X,11,none⟩ (.int .i64 rr)).setCell ⟨X,12,none⟩ (.bool rf)).setCell ⟨X,13,none⟩ (.bool rg)).setCell ⟨X,14,none⟩ (.string ts)).setCell ⟨X,15,none⟩ (.int .i64 tc)).setCell ⟨X,16,none⟩ (.int .i64 tt)).setCell ⟨X,17,none⟩ (.bool tf)).setCell ⟨X,18,none⟩ (.bool tg)).cell? p=some v→s24.cell? p=some v:=fun h => by rw [hws];exact h
 replace yX:∀ j,s24.cell? ⟨X,j,none⟩=([.int .i64 6,.int .i64 0,.int .i64 0,.int .i64 0,.bool false,.string ⟨#[]⟩,.string ⟨#[]⟩,.string ⟨#[]⟩,.bool false,.string rs,.int .i64 rc,.int .i64 rr,.bool rf,.bool rg,.string ts,.int .i64 tc,.int .i64 tt,.bool tf,.bool tg]:List Value)[j]?:=eqE hws (eqI (eqI (eqI (eqI (eqI (eqI (eqI (eqI (eqI (eqI yX (of_decide_eq_true rfl)) (of_decide_eq_true rfl)) (of_decide_eq_true rfl)) (of_decide_eq_true rfl)) (of_decide_eq_true rfl)) (of_decide_eq_true rfl)) (of_decide_eq_true rfl)) (of_decide_eq_true rfl)) (of_decide_eq_true rfl)) (of_decide_eq_true rfl));clear hq;have hQF:∀ {p x},s23.frozen? p=x→s24.frozen? p=x:=fun h => by rw [hws];simpa [go_sem] using h
 replace fX9:=hQF fX9;replace fX10:=hQF fX10;replace fX11:=hQF fX11;replace fX12:=hQF fX12;replace fX13:=hQF fX13;replace fX14:=hQF fX14;replace fX15:=hQF fX15;replace fX16:=hQF fX16;replace fX17:=hQF fX17;replace fX18:=hQF fX18;clear hQF;replace zA:A < s24.heap.size:=by omega
 replace zX:X < s24.heap.size:=by omega
 replace LA:=eqL (P:=Tryz.prog) HK19 rfl yA;replace LX:=eqL (P:=Tryz.prog) HK19 rfl yX;rw [← hws];clear hBo hws hsz;have hBo:=hBs;clear hBs;go_wp2_with fail;refine (HB.out _).mono ?_;rintro e s25 ⟨rfl,hb⟩;replace yA:=eqB hb yA zA;replace zA:=zHl hb zA;replace yX:=eqB hb yX zX;replace fX9:=a0g hb fX9 zX;replace fX10:=a0g hb fX10 zX;replace fX11:=a0g hb fX11 zX;replace fX12:=a0g hb fX12 zX;replace fX13:=a0g hb fX13 zX;replace fX14:=a0g hb fX14 zX;replace fX15:=a0g hb fX15 zX;replace fX16:=a0g hb fX16 zX;replace fX17:=a0g hb fX17 zX;replace fX18:=a0g hb fX18 zX;replace zX:=zHl hb zX;replace hBo:=hBo.trans (hb.mono hBo.size);clear hb;replace LA:=eqL (P:=Tryz.prog) HK19 rfl yA;replace LX:=eqL (P:=Tryz.prog) HK19 rfl yX;go_wp2_with fail;refine (HN.out _).mono ?_;rintro e s26 ⟨rfl,hb⟩;replace yA:=eqB hb yA zA;replace zA:=zHl hb zA;replace yX:=eqB hb yX zX;replace fX9:=a0g hb fX9 zX;replace fX10:=a0g hb fX10 zX;replace fX11:=a0g hb fX11 zX;replace fX12:=a0g hb fX12 zX;replace fX13:=a0g hb fX13 zX;replace fX14:=a0g hb fX14 zX;replace fX15:=a0g hb fX15 zX;replace fX16:=a0g hb fX16 zX;replace fX17:=a0g hb fX17 zX;replace fX18:=a0g hb fX18 zX;replace zX:=zHl hb zX;replace hBo:=hBo.trans (hb.mono hBo.size);clear hb;replace LA:=eqL (P:=Tryz.prog) HK19 rfl yA;replace LX:=eqL (P:=Tryz.prog) HK19 rfl yX
 go_upto_region 24 with (fail)
 obtain ⟨s27,hws⟩:∃ s,s=(s26.alloc (.cells #[.int .i64 rc,.int .i64 u2,.int .i64 u3,.int .i64 u4] 86)):=⟨_,rfl⟩;have hBs:=bs1 hBo hws;obtain ⟨G,hdG⟩:∃ b,b=s26.heap.size:=⟨_,rfl⟩;have hsz:s27.heap.size=s26.heap.size+1:=by rw [hws];simp
 have dXG:X≠G:=by omega
 have hQC:∀ p v,s26.cell? p=some v→s27.cell? p=some v:=fun p v h => by rw [hws];exact (alK h)
 have hQZ:∀ b,b < s26.heap.size→b < s27.heap.size:=fun b h => by omega
 have hQF:∀ b j,b < s26.heap.size→s26.frozen? ⟨b,j,none⟩=false→s27.frozen? ⟨b,j,none⟩=false:=fun b j z h => by rw [hws];exact (alF z h)
 replace yA:=eqE hws (eqA yA zA);replace zA:=hQZ _ zA;replace yX:=eqE hws (eqA yX zX);replace fX9:=hQF _ _ zX fX9;replace fX10:=hQF _ _ zX fX10;replace fX11:=hQF _ _ zX fX11;replace fX12:=hQF _ _ zX fX12;replace fX13:=hQF _ _ zX fX13;replace fX14:=hQF _ _ zX fX14;replace fX15:=hQF _ _ zX fX15;replace fX16:=hQF _ _ zX fX16;replace fX17:=hQF _ _ zX fX17;replace fX18:=hQF _ _ zX fX18;replace zX:=hQZ _ zX;clear hQC hQZ hQF;have hN:=bx0 (b:=G) hws hdG;have kG0:=hN 0 _ rfl;have kG1:=hN 1 _ rfl;have kG2:=hN 2 _ rfl;have kG3:=hN 3 _ rfl;clear hN;have zG:G < s27.heap.size:=by omega
 have lG:w.heap.size≤G:=by have:=hBo.size;omega
 replace LA:=eqL (P:=Tryz.prog) HK19 rfl yA;replace LX:=eqL (P:=Tryz.prog) HK19 rfl yX;rw [← hws];try rw [← hdG]
 clear hBo;clear hws hsz hdG;have hBo:=hBs;clear hBs;have HF:Hid (∀ W,Below s27.heap.size s27 W→Below w.heap.size w W):=fun W hW => hBo.trans (hW.mono hBo.size)
 clear hBo;refine wrp (S:=fun w' => (∀ j,w'.cell? ⟨A,j,none⟩=([.int .i64 6,.int .i64 o,.int .i64 a,.int .i64 b,.bool qn,.string qa,.string qd,.string x,.bool tr,.string rs,.int .i64 rc,.int .i64 rr,.bool rf,.bool rg,.string ts,.int .i64 tc,.int .i64 tt,.bool tf,.bool tg]:List Value)[j]?)∧(∀ j,w'.cell? ⟨X,j,none⟩=([.int .i64 6,.int .i64 0,.int .i64 0,.int .i64 0,.bool false,.string ⟨#[]⟩,.string ⟨#[]⟩,.string ⟨#[]⟩,.bool false,.string rs,.int .i64 rc,.int .i64 rr,.bool rf,.bool rg,.string ts,.int .i64 tc,.int .i64 tt,.bool tf,.bool tg]:List Value)[j]?)∧w'.cell? ⟨G,0,none⟩=some (.int .i64 rc)∧w'.cell? ⟨G,1,none⟩=some (.int .i64 u2)∧w'.cell? ⟨G,2,none⟩=some (.int .i64 u3)∧w'.cell? ⟨G,3,none⟩=some (.int .i64 u4)∧Sem.run Tryz.prog (loadCellsFrom ⟨A,0,none⟩ 0 K19 #[]) w'=.ok #[.int .i64 6,.int .i64 o,.int .i64 a,.int .i64 b,.bool qn,.string qa,.string qd,.string x,.bool tr,.string rs,.int .i64 rc,.int .i64 rr,.bool rf,.bool rg,.string ts,.int .i64 tc,.int .i64 tt,.bool tf,.bool tg] w'∧Sem.run Tryz.prog (loadCellsFrom ⟨X,0,none⟩ 0 K19 #[]) w'=.ok #[.int .i64 6,.int .i64 0,.int .i64 0,.int .i64 0,.bool false,.string ⟨#[]⟩,.string ⟨#[]⟩,.string ⟨#[]⟩,.bool false,.string rs,.int .i64 rc,.int .i64 rr,.bool rf,.bool rg,.string ts,.int .i64 tc,.int .i64 tt,.bool tf,.bool tg] w') (by kernel_rfl) (fun w' hx => by obtain ⟨hcx,hfx⟩:=a0k hx;((try dsimp only);((repeat' apply And.intro) <;> first | assumption | exact yA | exact eqL HK19 rfl (yA) | exact fun j => (hcx A j (by assumption)).trans (yA j) | exact eqL HK19 rfl (fun j => (hcx A j (by assumption)).trans (yA j)) | exact eqS yA (by dsimp only;omega) | exact eqL HK19 rfl (eqS yA (by dsimp only;omega)) | exact eqS (fun j => (hcx A j (by assumption)).trans (yA j)) (by dsimp only;omega) | exact eqL HK19 rfl (eqS (fun j => (hcx A j (by assumption)).trans (yA j)) (by dsimp only;omega)) | exact yX | exact eqL HK19 rfl (yX) | exact fun j => (hcx X j (by assumption)).trans (yX j) | exact eqL HK19 rfl (fun j => (hcx X j (by assumption)).trans (yX j)) | exact eqS yX (by dsimp only;omega) | exact eqL HK19 rfl (eqS yX (by dsimp only;omega)) | exact eqS (fun j => (hcx X j (by assumption)).trans (yX j)) (by dsimp only;omega) | exact eqL HK19 rfl (eqS (fun j => (hcx X j (by assumption)).trans (yX j)) (by dsimp only;omega)) | ((repeat (with_reducible first | apply a0b | apply a0x | refine a0e ?_ (by (try dsimp only);omega))) <;> first | assumption | (rw [hcx _ _ (by assumption)];assumption))))) (fun HKP hHeld => ?_)
 refine tk 0 ?_;try simp only [pz]
 refine tk 1 ?_;try simp only [pz]
 refine tk 2 ?_;try simp only [pz]
 refine tk 3 ?_;try simp only [pz]
 refine tk 4 ?_;try simp only [pz]
 refine tk 5 ?_;try simp only [pz]
 refine rd1 6 (by kernel_rfl) rfl fun K hK => ?_
 go_simp
 (go_at_call 56;refine (HR.out _).mono ?_;rintro e x28 ⟨rfl,hbx⟩;have hTx:Below s27.heap.size s27 x28:=bHb hbx;obtain ⟨hcx,hfx⟩:=a0k hTx)
 try (go_wp2_with fail)
 refine hK.out _ _ (kHp HKP) (fun hHeld => ?_);clear hK K;try simp only [pz]
 refine tk 7 ?_;try simp only [pz]
 refine tk 8 ?_;try simp only [pz]
 refine tk 9 ?_;try simp only [pz]
 refine tk 10 ?_;try simp only [pz]
 refine rd1 11 (by kernel_rfl) rfl fun K hK => ?_
 go_simp
 (go_at_call 56;refine (HT.out _).mono ?_;rintro e x28 ⟨rfl,hbx⟩;have hTx:Below s27.heap.size s27 x28:=bHb hbx;obtain ⟨hcx,hfx⟩:=a0k hTx)
 try (go_wp2_with fail)
 refine hK.out _ _ (kHp HKP) (fun hHeld => ?_);clear hK K;try simp only [pz]
 refine tk 12 ?_;try simp only [pz]
 refine tk 13 ?_;try simp only [pz]
 refine tk 14 ?_;try simp only [pz]
 refine tk 15 ?_;try simp only [pz]
 refine tk 16 ?_;try simp only [pz]
 refine tk 17 ?_;try simp only [pz]
 refine tk 18 ?_;try simp only [pz]
 refine tk 19 ?_;try simp only [pz]
 refine tk 20 ?_;try simp only [pz]
 refine tk 21 ?_;try simp only [pz]
 refine tk 22 ?_;try simp only [pz]
 refine tk 23 ?_;try simp only [pz]
 refine tk 24 ?_;try simp only [pz]
 refine tk 25 ?_;try simp only [pz]
 refine tk 26 ?_;try simp only [pz]
 refine tk 27 ?_;try simp only [pz]
 refine tk 28 ?_;try simp only [pz]
 refine rd1 29 (by kernel_rfl) rfl fun K hK => ?_
 go_simp
 (go_at_call 57;refine (HB.out _).mono ?_;rintro e x28 ⟨rfl,hbx⟩;have hTx:Below s27.heap.size s27 x28:=bHb hbx;obtain ⟨hcx,hfx⟩:=a0k hTx)
 try (go_wp2_with fail)
 refine hK.out _ _ (kHp HKP) (fun hHeld => ?_);clear hK K;try simp only [pz]
 refine tk 30 ?_;try simp only [pz]
 refine tk 31 ?_;try simp only [pz]
 refine tk 32 ?_;try simp only [pz]
 refine wpAnyH_done (by kernel_rfl) ?_ _
 all_goals go_wp2_with fail
 all_goals first | go_ret | go_ret2
 all_goals exact ⟨rfl,HF.out _ (by assumption)⟩
end Go.Proofs.YtfbgmokjemmceaaGreatDoor
set_option maxHeartbeats 4000000
set_option maxRecDepth 100000
namespace Go.Proofs.YtfbgmokjemmceaaGreatDoor
open Go.RowKit Go.Shelf
set_option linter.unusedSimpArgs false
set_option linter.unusedVariables false
theorem c7h (k:Int) (o a b:Int) (qn:Bool) (qa qd x:ByteArray) (tr:Bool) (rs:ByteArray) (rc rr:Int) (rf rg:Bool) (ts:ByteArray) (tc tt:Int) (tf tg:Bool) (w:World) (hk1:k≠1) (hk2:k≠2) (hk3:k≠3) (hk4:k≠4) (hk5:k≠5) (hk6:k≠6) (hk7:k≠7) (hk8:k≠8) (hk9:k≠9) :
  Calls Tryz.prog 32 #[.agg #[.int .i64 k,.int .i64 o,.int .i64 a,.int .i64 b,.bool qn,.string qa,.string qd,.string x,.bool tr,.string rs,.int .i64 rc,.int .i64 rr,.bool rf,.bool rg,.string ts,.int .i64 tc,.int .i64 tt,.bool tf,.bool tg]] w fun e w' => e=.returned (.bool false)∧Below w.heap.size w w':=by
 have hud:undef=Value.tuple #[]:=rfl;obtain ⟨K19,hz19,HK19⟩:=a0q;have g1:(k == 1)=false:=by simpa using hk1
 have g2:(k == 2)=false:=by simpa using hk2
 have g3:(k == 3)=false:=by simpa using hk3
 have g4:(k == 4)=false:=by simpa using hk4
 have g5:(k == 5)=false:=by simpa using hk5
 have g6:(k == 6)=false:=by simpa using hk6
 have g7:(k == 7)=false:=by simpa using hk7
 have g8:(k == 8)=false:=by simpa using hk8
 have g9:(k == 9)=false:=by simpa using hk9
 clear hk1 hk2 hk3 hk4 hk5 hk6 hk7 hk8 hk9;go_enter Tryz.func32,Tryz.ntmps32
 go_upto_region 1 with (fail)
 obtain ⟨s1,hws⟩:∃ s,s=(w.alloc (.cells #[.int .i64 k,.int .i64 o,.int .i64 a,.int .i64 b,.bool qn,.string qa,.string qd,.string x,.bool tr,.string rs,.int .i64 rc,.int .i64 rr,.bool rf,.bool rg,.string ts,.int .i64 tc,.int .i64 tt,.bool tf,.bool tg] 33)):=⟨_,rfl⟩;have hBs:=bs1 (Below.refl w.heap.size w) hws;obtain ⟨A,hdA⟩:∃ b,b=w.heap.size:=⟨_,rfl⟩;have hsz:s1.heap.size=w.heap.size+1:=by rw [hws];simp
 have yA:=by0 (b:=A) hws hdA;have zA:A < s1.heap.size:=by omega
 have lA:w.heap.size≤A:=by omega
 have LA:=eqL (P:=Tryz.prog) HK19 rfl yA;rw [← hws];try rw [← hdA]
 clear hws hsz hdA;have hBo:=hBs;clear hBs
 go_upto_region 2 with (refine a0c rfl _ _ rfl rfl _ _ _ rfl rfl rfl (by rfl) (by rfl) (by rfl) ?_)
 obtain ⟨s2,hws⟩:∃ s,s=(s1.alloc (.cells #[.int .i64 k,.int .i64 0,.int .i64 0,.int .i64 0,.bool false,.string ⟨#[]⟩,.string ⟨#[]⟩,.string ⟨#[]⟩,.bool false,.string ⟨#[]⟩,.int .i64 0,.int .i64 0,.bool false,.bool false,.string ⟨#[]⟩,.int .i64 0,.int .i64 0,.bool false,.bool false] 33)):=⟨_,rfl⟩;have hBs:=bs1 hBo hws;obtain ⟨X,hdX⟩:∃ b,b=s1.heap.size:=⟨_,rfl⟩;have hsz:s2.heap.size=s1.heap.size+1:=by rw [hws];simp
 have dXA:X≠A:=by omega
 have hQC:∀ p v,s1.cell? p=some v→s2.cell? p=some v:=fun p v h => by rw [hws];exact (alK h)
 have hQZ:∀ b,b < s1.heap.size→b < s2.heap.size:=fun b h => by omega
 replace yA:=eqE hws (eqA yA zA);replace zA:=hQZ _ zA;clear hQC hQZ;have yX:=by0 (b:=X) hws hdX;have hM:=bf0 (b:=X) hws hdX;clear hM;have zX:X < s2.heap.size:=by omega
 have lX:w.heap.size≤X:=by have:=hBo.size;omega
 replace LA:=eqL (P:=Tryz.prog) HK19 rfl yA;have LX:=eqL (P:=Tryz.prog) HK19 rfl yX;rw [← hws];try rw [← hdX]
 clear hBo;clear hws hsz hdX;have hBo:=hBs;clear hBs;go_wp2_with fail
 go_ret
 exact ⟨rfl,hBo⟩
theorem c5h (n:Nd) (hk1:n.k≠1) (hk2:n.k≠2) (hk3:n.k≠3) (hk4:n.k≠4) (hk5:n.k≠5) (hk6:n.k≠6) (hk7:n.k≠7) (hk8:n.k≠8) (hk9:n.k≠9):a1x n=false:=by
 rw [b1m hk7 hk8 hk9,b0i hk1 hk2 hk3 hk4 hk5 hk6]
theorem b8s (a b:Int) (o:Int) (qn:Bool) (qa qd x:ByteArray) (tr:Bool) (r t:Rf):a1x ⟨6,o,a,b,qn,qa,qd,x,tr,r,t⟩=(arB r t && a2r ⟨6,o,a,b,qn,qa,qd,x,tr,r,t⟩ (a0s ⟨6,o,a,b,qn,qa,qd,x,tr,r,t⟩)):=rfl
theorem b1p (s:ByteArray):(s.size=0) ↔ s.toList=[]:=by
 rw [ByteArray.toList_eq];constructor
 ·
  intro h;exact List.eq_nil_of_length_eq_zero (by simpa using h)
 ·
  intro h;have:=congrArg List.length h;simpa using this
theorem c9c (o a b:Int) (qn:Bool) (qa qd x:ByteArray) (tr:Bool) (rs:ByteArray) (rc rr:Int) (rf rg:Bool) (ts:ByteArray) (tc tt:Int) (tf tg:Bool) (w:World) (hf:a2b ⟨6,o,a,b,qn,qa,qd,x,tr,⟨rs,rc,rr,rf,rg⟩,⟨ts,tc,tt,tf,tg⟩⟩) :
  Calls Tryz.prog 32 #[.agg #[.int .i64 6,.int .i64 o,.int .i64 a,.int .i64 b,.bool qn,.string qa,.string qd,.string x,.bool tr,.string rs,.int .i64 rc,.int .i64 rr,.bool rf,.bool rg,.string ts,.int .i64 tc,.int .i64 tt,.bool tf,.bool tg]] w fun e w' => e=.returned (.bool (a1x ⟨6,o,a,b,qn,qa,qd,x,tr,⟨rs,rc,rr,rf,rg⟩,⟨ts,tc,tt,tf,tg⟩⟩))∧Below w.heap.size w w':=by
 rw [b8s];obtain ⟨h1,h2,h3,h4,h5⟩:=hf;dsimp only at h1 h2 h3 h4 h5;have hb:a0s ⟨6,o,a,b,qn,qa,qd,x,tr,⟨rs,rc,rr,rf,rg⟩,⟨ts,tc,tt,tf,tg⟩⟩=⟨6,0,0,0,false,⟨#[]⟩,⟨#[]⟩,⟨#[]⟩,false,⟨rs,rc,rr,rf,rg⟩,⟨ts,tc,tt,tf,tg⟩⟩:=rfl;have hE:∀ w,Sem.run Tryz.prog (binOp .eql 33 (.agg #[.int .i64 6,.int .i64 o,.int .i64 a,.int .i64 b,.bool qn,.string qa,.string qd,.string x,.bool tr,.string rs,.int .i64 rc,.int .i64 rr,.bool rf,.bool rg,.string ts,.int .i64 tc,.int .i64 tt,.bool tf,.bool tg]) (.agg #[.int .i64 6,.int .i64 0,.int .i64 0,.int .i64 0,.bool false,.string ⟨#[]⟩,.string ⟨#[]⟩,.string ⟨#[]⟩,.bool false,.string rs,.int .i64 rc,.int .i64 rr,.bool rf,.bool rg,.string ts,.int .i64 tc,.int .i64 tt,.bool tf,.bool tg])) w=.ok (.bool (a2r ⟨6,o,a,b,qn,qa,qd,x,tr,⟨rs,rc,rr,rf,rg⟩,⟨ts,tc,tt,tf,tg⟩⟩ (a0s ⟨6,o,a,b,qn,qa,qd,x,tr,⟨rs,rc,rr,rf,rg⟩,⟨ts,tc,tt,tf,tg⟩⟩))) w:=fun w => by rw [hb];exact a1b ⟨6,o,a,b,qn,qa,qd,x,tr,⟨rs,rc,rr,rf,rg⟩,⟨ts,tc,tt,tf,tg⟩⟩ ⟨6,0,0,0,false,⟨#[]⟩,⟨#[]⟩,⟨#[]⟩,false,⟨rs,rc,rr,rf,rg⟩,⟨ts,tc,tt,tf,tg⟩⟩ w
 clear hb;generalize a2r ⟨6,o,a,b,qn,qa,qd,x,tr,⟨rs,rc,rr,rf,rg⟩,⟨ts,tc,tt,tf,tg⟩⟩ (a0s ⟨6,o,a,b,qn,qa,qd,x,tr,⟨rs,rc,rr,rf,rg⟩,⟨ts,tc,tt,tf,tg⟩⟩)=z at *;have hB:=fun w => c5g ⟨rs,rc,rr,rf,rg⟩ ⟨ts,tc,tt,tf,tg⟩ w
 have hN:=fun w => b3l rc rr tc tt w
 have hR:=fun w => a6m ⟨rs,rc,rr,rf,rg⟩ (a8g rs rc rr) w (by show rs.size≤maxLen;unfold maxLen;omega) rfl
 have hT:=fun w => a6m ⟨ts,tc,tt,tf,tg⟩ (a8g ts tc tt) w (by show ts.size≤maxLen;unfold maxLen;omega) rfl
 obtain ⟨u1,u2,u3,u4,hv⟩:=b5d rc rr tc tt;have hN':=hN;rw [hv] at hN'
 cases z with
 | false =>
  rw [Bool.and_false];exact c6z o a b qn qa qd x tr rs rc rr rf rg ts tc tt tf tg w u1 u2 u3 u4 _ hE hB hN'
 | true =>
  rw [Bool.and_true];unfold arB;dsimp only
  cases hr:a8g rs rc rr with
  | false =>
   rw [hr] at hR;rw [Bool.and_false,Bool.false_and,Bool.false_and];exact c7a o a b qn qa qd x tr rs rc rr rf rg ts tc tt tf tg w u1 u2 u3 u4 _ hE hB hN' hR
  | true =>
   rw [hr] at hR
   cases ht:a8g ts tc tt with
   | false =>
    rw [ht] at hT;rw [Bool.and_false,Bool.false_and];exact c7b o a b qn qa qd x tr rs rc rr rf rg ts tc tt tf tg w u1 u2 u3 u4 _ hE hB hN' hR hT
   | true =>
    rw [ht] at hT;rw [Bool.and_true,Bool.and_true];by_cases hs:ts.size=0
    ·
     have hs1:=(b1p ts).1 hs;rw [decide_eq_true hs,Bool.and_true];by_cases h0:a8z rc rr tc tt=0
     ·
      have hv2:b6k rc rr tc tt=a1e (min rc tc) (min rr tt) (max rc tc) (max rr tt):=if_pos h0;rw [hv2,h0] at hN;by_cases hab:rc≤tc∧rr≤tt
      ·
       rw [(a7h _ _ _ _).2 ⟨h0,hab⟩];rw [Int.min_eq_left hab.1,Int.min_eq_left hab.2,Int.max_eq_right hab.1,Int.max_eq_right hab.2] at hN;exact c7e o a b qn qa qd x tr rs rc rr rf rg ts tc tt tf tg w u1 u2 u3 u4 0 hE hB hN hR hT hs1
      ·
       rw [b8l fun h => hab h.2]
       by_cases hp:min rc tc=rc
       ·
        rw [hp] at hN;exact c7g o a b qn qa qd x tr rs rc rr rf rg ts tc tt tf tg w rc (min rr tt) (max rc tc) (max rr tt) 0 hE hB hN hR hT hs1 (by simp;omega)
       ·
        exact c7f o a b qn qa qd x tr rs rc rr rf rg ts tc tt tf tg w (min rc tc) (min rr tt) (max rc tc) (max rr tt) 0 hE hB hN hR hT hs1 (by simp;omega)
     ·
      rw [b8l fun h => h0 h.1]
      exact c7d o a b qn qa qd x tr rs rc rr rf rg ts tc tt tf tg w u1 u2 u3 u4 _ hE hB hN' hR hT hs1 (b8m h0)
    ·
     have hs1 : ¬ ts.toList=[]:=fun h => hs ((b1p ts).2 h)
     rw [decide_eq_false hs,Bool.and_false];exact c7c o a b qn qa qd x tr rs rc rr rf rg ts tc tt tf tg w u1 u2 u3 u4 _ hE hB hN' hR hT hs1 (by simpa using hs1)
theorem b8t (n:Nd) (w:World) (hf:a2b n) :
  Calls Tryz.prog 32 #[ndV n] w fun e w' => e=.returned (.bool (a1x n))∧Below w.heap.size w w':=by
 obtain ⟨k,o,a,b,qn,qa,qd,x,tr,⟨rs,rc,rr,rf,rg⟩,⟨ts,tc,tt,tf,tg⟩⟩:=n;by_cases hk1:k=1
 ·
  subst hk1;exact c8u o a b qn qa qd x tr rs rc rr rf rg ts tc tt tf tg w hf
 by_cases hk2:k=2
 ·
  subst hk2;exact c8v o a b qn qa qd x tr rs rc rr rf rg ts tc tt tf tg w hf
 by_cases hk3:k=3
 ·
  subst hk3;exact c8w o a b qn qa qd x tr rs rc rr rf rg ts tc tt tf tg w hf
 by_cases hk4:k=4
 ·
  subst hk4;exact c8x o a b qn qa qd x tr rs rc rr rf rg ts tc tt tf tg w hf
 by_cases hk5:k=5
 ·
  subst hk5;exact c8y o a b qn qa qd x tr rs rc rr rf rg ts tc tt tf tg w hf
 by_cases hk6:k=6
 ·
  subst hk6;exact c9c o a b qn qa qd x tr rs rc rr rf rg ts tc tt tf tg w hf
 by_cases hk7:k=7
 ·
  subst hk7;exact c8z o a b qn qa qd x tr rs rc rr rf rg ts tc tt tf tg w hf
 by_cases hk8:k=8
 ·
  subst hk8;exact c9a o a b qn qa qd x tr rs rc rr rf rg ts tc tt tf tg w hf
 by_cases hk9:k=9
 ·
  subst hk9;exact c9b o a b qn qa qd x tr rs rc rr rf rg ts tc tt tf tg w hf
 rw [c5h _ hk1 hk2 hk3 hk4 hk5 hk6 hk7 hk8 hk9];exact c7h k o a b qn qa qd x tr rs rc rr rf rg ts tc tt tf tg w hk1 hk2 hk3 hk4 hk5 hk6 hk7 hk8 hk9
end Go.Proofs.YtfbgmokjemmceaaGreatDoor
