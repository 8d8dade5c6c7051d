import Derived.Test.YtjfkbeanbbeloaaGreatDoorAst76
import Derived.Deep.CutBlock
set_option maxHeartbeats 64000000
set_option maxRecDepth 100000
namespace Go.Proofs.YtjfkbeanbbeloaaGreatDoor
open Go.RowKit Go.Shelf
set_option linter.unusedSimpArgs false
set_option linter.unusedVariables false
theorem d2z (v:Value) (l:List Ac) (w:World) (hv:ActsAt w v l) (hnm:NamesAt w) :
  Calls Tryz.prog 3 #[v] w fun e w' => e=.returned (.bool true)∧Below w.heap.size w w':=by
 have hud:undef=Value.tuple #[]:=rfl;have HKN:=zh b4l;have HNM:=zh hnm;obtain ⟨K19,hz19,HK19⟩:=a0q;obtain ⟨K23,hz23,HK23⟩:=d5s;have hk19:K19≠0:=by rw [HK19.out];decide
 obtain ⟨bt,ct,rfl,hac⟩:=d3t hv;have HAC:=zh hac;obtain ⟨L,hL⟩:∃ L,L=l.length:=⟨_,rfl⟩;rw [← hL];have HL:=zh hL;clear hv hnm hac hL;by_cases h60:60 < L
 ·
  have h60':(60:Int) < L:=by omega
  clear h60 HAC;go_enter Tryz.func3,Tryz.ntmps3;go_wp2_with fail;refine (HKN.out _ HNM.out).mono ?_;rintro e w7 ⟨rfl,hb⟩;go_wp2_with fail
  go_ret
  exact ⟨rfl,hb⟩
 ·
  have h60' : ¬ (60:Int) < L:=by omega
  have HL60:Hid (L≤60):=zh (by omega);clear h60;go_enter Tryz.func3,Tryz.ntmps3;go_wp2_with fail
  go_loopw [3,4] (d6n w l) (fun _ r _ => L - (intOf r).toNat)
  case atStart => exact ⟨0,[],Nat.zero_le _,rfl,Or.inl ⟨rfl,rfl⟩,Nat.le_refl _,fun g h => (by cases h),Below.refl _ _⟩
  case round =>
   obtain ⟨k,F,hk,rfl,hF,hFl,hok,hW⟩:=hrel;rw [← HL.out] at hk;obtain ⟨bp,cp,rfl,_⟩:=hF.slice;obtain ⟨tp,htp⟩:∃ z,z=F.length:=⟨_,rfl⟩;rw [← htp] at hF hFl ⊢;have HTP:=zh htp;have HFO:=zh hF;have HOK:=zh hok;have HW:=zh hW;have HFL:=zh hFl;clear htp hF hok hFl hud;by_cases hlt:k < L
   ·
    obtain ⟨a,ha⟩:∃ a,l[k]?=some a:=⟨_,List.getElem?_eq_getElem (by rw [← HL.out];exact hlt)⟩;obtain ⟨ga,oa,rfl,hca⟩:=HAC.out k a ha;have LA0:Sem.run Tryz.prog (loadCellsFrom ⟨ga,oa+k * K23,none⟩ 0 K23 #[]) wr=.ok #[.int .i64 a.k,.int .i64 a.n.k,.int .i64 a.n.o,.int .i64 a.n.a,.int .i64 a.n.b,.bool a.n.qn,.string a.n.qa,.string a.n.qd,.string a.n.s,.bool a.n.tr,.string a.n.r.sh,.int .i64 a.n.r.c,.int .i64 a.n.r.r,.bool a.n.r.fc,.bool a.n.r.fr,.string a.n.t.sh,.int .i64 a.n.t.c,.int .i64 a.n.t.r,.bool a.n.t.fc,.bool a.n.t.fr,.int .i64 a.o,.string a.s,.int .i64 a.c] wr:=d5t wr ga (oa+k * K23) HK23 a (fun j u hu => by rw [HK23.out];exact a0f hW (hca j u hu) (a0j (hca j u hu)));clear hca ha hW;have hBo:=HW.out
    go_upto_region 8 with (refine d2j rfl _ _ rfl rfl _ _ _ rfl rfl rfl (by rfl) (by rfl) (by rfl) ?_)
    obtain ⟨s1,hws⟩:∃ s,s=(wr.alloc (.cells #[.int .i64 a.k,.int .i64 a.n.k,.int .i64 a.n.o,.int .i64 a.n.a,.int .i64 a.n.b,.bool a.n.qn,.string a.n.qa,.string a.n.qd,.string a.n.s,.bool a.n.tr,.string a.n.r.sh,.int .i64 a.n.r.c,.int .i64 a.n.r.r,.bool a.n.r.fc,.bool a.n.r.fr,.string a.n.t.sh,.int .i64 a.n.t.c,.int .i64 a.n.t.r,.bool a.n.t.fc,.bool a.n.t.fr,.int .i64 a.o,.string a.s,.int .i64 a.c] 32)):=⟨_,rfl⟩;have hBs:=bs1 hBo hws;obtain ⟨P,hdP⟩:∃ b,b=wr.heap.size:=⟨_,rfl⟩;have hUp:Below wr.heap.size wr s1:=by rw [hws];exact (a0i (Below.refl _ _))
    have hAP:wr.heap.size≤P:=by omega
    have hsz:s1.heap.size=wr.heap.size+1:=by rw [hws];simp
    have yP:=by0 (b:=P) hws hdP;have zP:P < s1.heap.size:=by omega
    have lP:w.heap.size≤P:=by have:=hBo.size;omega
    rw [← hws];try rw [← hdP]
    clear hBo;clear hws hsz hdP;have hBo:=hBs;clear hBs;obtain ⟨s0,hs0⟩:∃ z,z=s1:=⟨_,rfl⟩;subst hs0;have HPC:Hid (∀ j u,(acL a)[j]?=some u→s0.cell? ⟨P,j,none⟩=some u):=zh (fun j u hu => (yP j).trans hu);have HUP:=zh hUp;have HPA:=zh hAP;have HZP:=zh zP;have p8:s0.cell? ⟨P,8,none⟩=some (.string a.n.s):=yP 8;have p21:s0.cell? ⟨P,21,none⟩=some (.string a.s):=yP 21;have p10:s0.cell? ⟨P,10,none⟩=some (.string a.n.r.sh):=yP 10;have p15:s0.cell? ⟨P,15,none⟩=some (.string a.n.t.sh):=yP 15;have p6:s0.cell? ⟨P,6,none⟩=some (.string a.n.qa):=yP 6;have p7:s0.cell? ⟨P,7,none⟩=some (.string a.n.qd):=yP 7;clear LA0 yP hUp hAP;by_cases hsm:a.n.s.size≤500∧a.s.size≤100∧a.n.r.sh.size≤100∧a.n.t.sh.size≤100∧a.n.qa.size≤100∧a.n.qd.size≤100
    rotate_left
    ·
     have HB:=zh (HW.out.trans (HUP.out.mono HW.out.size));have hno:(500:Int) < a.n.s.size ∨ ¬ (500:Int) < a.n.s.size∧(100:Int) < a.s.size ∨ ¬ (500:Int) < a.n.s.size∧¬ (100:Int) < a.s.size∧(100:Int) < a.n.r.sh.size ∨ ¬ (500:Int) < a.n.s.size∧¬ (100:Int) < a.s.size∧¬ (100:Int) < a.n.r.sh.size∧(100:Int) < a.n.t.sh.size ∨ ¬ (500:Int) < a.n.s.size∧¬ (100:Int) < a.s.size∧¬ (100:Int) < a.n.r.sh.size∧¬ (100:Int) < a.n.t.sh.size∧(100:Int) < a.n.qa.size ∨ ¬ (500:Int) < a.n.s.size∧¬ (100:Int) < a.s.size∧¬ (100:Int) < a.n.r.sh.size∧¬ (100:Int) < a.n.t.sh.size∧¬ (100:Int) < a.n.qa.size∧(100:Int) < a.n.qd.size:=by omega
     clear hsm HPC hBo hlt hk HAC
     -- DEV
     rcases hno with d1 | ⟨d1,d2⟩ | ⟨d1,d2,d3⟩ | ⟨d1,d2,d3,d4⟩ | ⟨d1,d2,d3,d4,d5⟩ | ⟨d1,d2,d3,d4,d5,d6⟩
     all_goals
      go_wp2_with fail;refine (HKN.out _ (HNM.out.below HB.out)).mono ?_;rintro e w7 ⟨rfl,hb⟩;have HB7:=zh (HB.out.trans (hb.mono HB.out.size));clear hb;go_wp2_with fail
      go_ret
      exact ⟨rfl,HB7.out⟩
     -- END
    ·
     obtain ⟨d1,d2,d3,d4,d5,d6⟩ : ¬ (500:Int) < a.n.s.size∧¬ (100:Int) < a.s.size∧¬ (100:Int) < a.n.r.sh.size∧¬ (100:Int) < a.n.t.sh.size∧¬ (100:Int) < a.n.qa.size∧¬ (100:Int) < a.n.qd.size:=by omega
     have HFT:Hid (Fits a.n∧a.s.size≤500):=zh (⟨⟨hsm.2.2.2.2.1,hsm.2.2.2.2.2,hsm.1,hsm.2.2.1,hsm.2.2.2.1⟩,by omega⟩);have HLT:=zh hlt;clear hsm hlt
     go_upto_region 12 with (fail)
     obtain ⟨s1,hws⟩:∃ s,s=((s0.alloc (.cells #[.slice none 0 0,.slice none 0 0] 36)).alloc (.cells #[.slice none 0 0,.slice none 0 0] 36)):=⟨_,rfl⟩;obtain ⟨X,hdX⟩:∃ b,b=s0.heap.size:=⟨_,rfl⟩;obtain ⟨Y,hdY⟩:∃ b,b=s0.heap.size+1:=⟨_,rfl⟩;have hB1:Below s0.heap.size s0 s1:=by rw [hws];exact a0i (a0i (Below.refl _ _))
     have HNX:Hid (NoInt s1 X):=zh (by rw [hws,hdX];exact noInt_new.alloc (by simp));have HNY:Hid (NoInt s1 Y):=zh (by rw [hws,hdY];have h:=noInt_new (W:=s0.alloc (.cells #[.slice none 0 0,.slice none 0 0] 36)) (a:=none) (b:=none) (n1:=0) (n2:=0) (c1:=0) (c2:=0) (t:=36);simpa using h);have hN:=bx1 (b:=X) hws hdX;have hM:=bf1 (b:=X) hws hdX;have kX0:=hN 0 _ rfl;have kX1:=hN 1 _ rfl;have fX0:=hM 0;have fX1:=hM 1;clear hN hM;have hN:=bx0 (b:=Y) hws (by simp [hdY]);have hM:=bf0 (b:=Y) hws (by simp [hdY]);have kY0:=hN 0 _ rfl;have kY1:=hN 1 _ rfl;have fY0:=hM 0;have fY1:=hM 1;clear hN hM;have HXY:Hid (X < Y∧P < X∧Y < s1.heap.size∧s0.heap.size≤X∧wr.heap.size≤P):=zh (by have:=HZP.out;have:=HPA.out;have e:s1.heap.size=s0.heap.size+1+1:=(by rw [hws];simp);omega);have zX:X < s1.heap.size:=by have:=HXY.out;omega
     have zY:Y < s1.heap.size:=by have:=HXY.out;omega
     rw [← hws];try rw [← hdY]
     try rw [← hdX]
     clear hws hdX hdY hBo;have HWS:Hid (Below wr.heap.size wr s1):=zh (HUP.out.trans (hB1.mono HUP.out.size));have HBS:Hid (Below w.heap.size w s1):=zh (HW.out.trans (HWS.out.mono HW.out.size));have HN1:Hid (NamesAt s1):=zh (HNM.out.below HBS.out);have HF1:Hid (FormsAt s1 (.slice bp tp cp) F):=zh (HFO.out.below HWS.out);have HP1:Hid (∀ j u,(acL a)[j]?=some u→s1.cell? ⟨P,j,none⟩=some u):=zh (fun j u hu => a0f hB1 (HPC.out j u hu) HZP.out);have p0:=HP1.out 0 _ rfl;have zP1:=a0j p0;have HNW:Hid (NamesAt wr):=zh (HNM.out.below HW.out);have HKX:=zh (And.intro kX0 kX1);have HLX:Hid (w.heap.size≤X):=zh (by have:=HW.out.size;have:=HXY.out;have:=HPA.out;omega);have HWX:Hid (wr.heap.size≤X):=zh (by have:=HXY.out;have:=HPA.out;omega);have HW0:Hid (w.heap.size≤wr.heap.size):=zh HW.out.size;clear hB1 d1 d2 d3 d4 d5 d6 p8 p21 p10 p15 p6 p7 HPC HAC HUP HW zP
     go_upto_block 2 with (fail)
     refine d6m (F:=F) (a:=a) (P:=P) (X:=X) (Y:=Y) (wr:=wr) (w:=w) ⟨HBS.out,HWS.out,by have:=HW0.out;omega,HXY.out.1,HXY.out.2.1,HXY.out.2.2.1,HXY.out.2.2.2.2,HFO.out,HTP.out,by have:=HL60.out;have:=HFL.out;have:=HLT.out;omega,HOK.out,HNW.out,HP1.out,HFT.out,kX0,kX1,fX0,fX1,kY0,kY1,fY0,fY1,HNX.out,HNY.out⟩ ?_ ?_
     rotate_left
     ·
      intros
      clear kX0 kX1 fX0 fX1 kY0 kY1 fY0 fY1;go_wp2_with fail
      go_roundw
      case rel => exact ⟨k+1,F,by rw [← HL.out];have:=HLT.out;omega,by go_num,HF1.out,by rw [← HTP.out];have:=HFL.out;omega,HOK.out,HBS.out⟩
      case measure => have:=HLT.out;simp [intOf];omega
     ·
      intro A9 B0 B1 H7 H8 H9 I0 I1 I2 I3 I4 I5 I6 I7 I8 I9 J0 J1 J2 J3 J4 J5 J6 J7 J8 J9 K0 K1 K2 K3 K4 K5 K6 K7 K8 K9 L0 L1 L2 L3 L4 L5 L6 L7 L8 L9 M0 M1 M2 M3 M4 M5 M6 M7 M8 M9 N0 N1 N2 N3 N4 N5 N6 N7 N8 N9 O0 O1 O2 O3 O4 O5 O6 O7 O8 O9 P0 P1 P2 P3 P4 P5 P6 P7 P8 P9 Q0 Q1 Q2 Q3 Q4 Q5 Q6 Q7 Q8 Q9 R0 R1 R2 R3 R4 R5 R6 R7 R8 R9 S0 S1 S2 S3 S4 S5 S6 S7 S8 S9 T0 T1 T2 T3 T4 T5 T6 T7 T8 T9 U0 U1 U2 U3 U4 U5 U6 U7 U8 U9 V0 V1 V2 V3 wc hcut;obtain ⟨R,c,b1,b2,b3,b4,c1,c2,c3,c4,hg,rfl,rfl,rfl,hc,x0,x1,y0,y1,n1,i1,n2,i2,hb⟩:=hcut;have HG:=zh hg;have HCT:=zh hc;have HSM:=zh (fun W (hW:Below wc.heap.size wc W) => b4c (.slice b1 R.1.length c1) (.slice b2 R.2.1.length c2) (.slice b3 R.1.length c3) (.slice b4 R.2.1.length c4) R.1 R.1 R.2.1 R.2.1 W (n1.below hW) (i1.below hW) (n2.below hW) (i2.below hW) (by have:=hg.2.2;omega) (by have:=hg.2.2;omega) (by have:=hg.2.2;omega) (by have:=hg.2.2;omega));rw [d3q] at HSM;have HRT:=zh (fun W (hW:Below wc.heap.size wc W) (hN:NamesAt W) => a3y (.slice b1 R.1.length c1) (.slice b2 R.2.1.length c2) R.1 R.2.1 W (n1.below hW) (i1.below hW) hg.2.1 hN (by have:=hg.2.2;omega) (by have:=hg.2.2;omega));have HN2:=zh n2;have HI2:=zh i2;have HBC:Hid (Below w.heap.size w wc):=zh (HBS.out.trans (hb.mono HLX.out));have HWC:Hid (Below wr.heap.size wr wc):=zh (HWS.out.trans (hb.mono HWX.out));have zX:=a0j x0;have zY:=a0j y0;obtain ⟨l1,hl1⟩:∃ z,z=R.1.length:=⟨_,rfl⟩;obtain ⟨l2,hl2⟩:∃ z,z=R.2.1.length:=⟨_,rfl⟩;obtain ⟨E,hE⟩:∃ z,z=R.2.2:=⟨_,rfl⟩;rw [← hl1] at x0 y0 HSM HRT HN2;rw [← hl2] at x1 y1 HSM HRT HI2;rw [← hE];have HE:=zh hE;have htl:tp≤60:=by have:=HL60.out;have:=HFL.out;have:=HLT.out;omega
      clear hg hc n1 i1 n2 i2 hb hE hl1 hl2 kX0 kX1 fX0 fX1 kY0 kY1 fY0 fY1 p0 zP1 HP1 HKX HNX HNY HXY HLX HWX;go_wp2_with fail;refine (HSM.out _ (Below.refl _ _)).mono ?_;rintro e w5 ⟨rfl,hb5⟩;have HB5:=zh hb5;replace x0:=a0f hb5 x0 zX;replace x1:=a0f hb5 x1 zX;replace y0:=a0f hb5 y0 zY;replace y1:=a0f hb5 y1 zY;replace zX:=Nat.lt_of_lt_of_le zX hb5.size;replace zY:=Nat.lt_of_lt_of_le zY hb5.size;clear hb5 HSM;by_cases hE0:E=0
      rotate_left
      ·
       have hEb:(E == 0)=false:=by simpa using hE0
       clear hE0;go_wp2_with fail
       go_roundw
       case rel => exact ⟨k+1,F,by rw [← HL.out];have:=HLT.out;omega,by go_num,HFO.out.below (HWC.out.trans (HB5.out.mono HWC.out.size)),by rw [← HTP.out];have:=HFL.out;omega,HOK.out,HBC.out.trans (HB5.out.mono HBC.out.size)⟩
       case measure => have:=HLT.out;simp [intOf];omega
      ·
       subst hE0;have hrt:=HG.out.1 HE.out.symm;have HR1:=zh hrt;rw [hrt] at HRT;clear hrt;go_wp2_with fail;refine (HRT.out _ HB5.out (HNM.out.below (HBC.out.trans (HB5.out.mono HBC.out.size)))).mono ?_;rintro e w6 ⟨rfl,hb6⟩;have HB6:=zh (HB5.out.trans (hb6.mono HB5.out.size));replace y0:=a0f hb6 y0 zY;replace y1:=a0f hb6 y1 zY;replace zY:=Nat.lt_of_lt_of_le zY hb6.size;have HWW:Hid (Below w.heap.size w w6):=zh (HBC.out.trans (HB6.out.mono HBC.out.size));have HWR:Hid (Below wr.heap.size wr w6):=zh (HWC.out.trans (HB6.out.mono HWC.out.size));clear hb6 x0 x1 zX HRT;obtain ⟨q,hq⟩:∃ q,q=tp - c:=⟨_,rfl⟩;have hct:=HCT.out;have hw:IntKind.i64.wrap ((tp:Int) - (c:Int))=(q:Int):=by rw [IntWalk.i64_in _ (by omega)];omega
       obtain ⟨sv,hsv,hfs⟩:=d3r (l:=F) (bt:=bp) (ct:=cp) (by rw [← HTP.out];exact HFO.out) (k:=q) (by rw [← HTP.out];omega);rw [← HTP.out] at hsv;obtain ⟨es,hes,hrow⟩:=(hfs.below HWR.out).cells;have hlq:(F.take q).length=q:=by rw [List.length_take,← HTP.out];omega
       rw [hlq] at hrow;have HES:=zh hes;have HROW:=zh hrow;have HQ:Hid (q≤k∧q≤60):=zh (by have:=HFL.out;omega);have HLQ:=zh hlq;clear hq hct hfs hes hrow hlq htl
       go_upto_region 41 with (at_builtin;refine d1y rfl _ _ rfl (base:=w6.heap.size) (n:=0) (m:=q) (v:=.slice none 0 0) (ds:=[]) (es:=es) (by rfl) (World.ownsRow_nil _ _ _ _) (by rfl) HROW.out (by omega) (by have:=HQ.out;omega) (Nat.le_refl _) ?_;intro v7 w7 hown7 hgrow7 hnear7;have hb7:Below w6.heap.size w6 w7:=a3m (Below.refl _ _) (World.ownsRow_nil w6 w6.heap.size 36 2) (Nat.le_refl _) (Nat.le_refl _) hgrow7;have HOW7:=zh hown7;have HB7:=zh hb7;replace y0:=a0f hb7 y0 zY;replace y1:=a0f hb7 y1 zY;replace zY:=Nat.lt_of_lt_of_le zY hb7.size;clear hb7 hown7 hnear7)
       go_wp2_with (at_builtin;refine d1y rfl _ _ rfl (base:=w6.heap.size) (n:=0+q) (m:=1) (v:=v7) (ds:=[] ++ es) (es:=[.slice b3 l1 c3,.slice b4 l2 c4]) (by rfl) (HOW7.out.alloc _) (by rfl) (d5r w7 _) (by have:=HQ.out;omega) (by omega) (by have:=HB7.out.size;simp;omega) ?_;intro v8 w8 hown8 hgrow8 hnear8)
       go_roundw
       case rel =>
        have hb8:Below w6.heap.size w6 w8:=a3m (HB7.out.alloc HB7.out.size _) (HOW7.out.alloc _) (Nat.le_refl _) (by have:=HB7.out.size;simp;omega) hgrow8
        have hC:CellsF w8 (([] ++ es) ++ [.slice b3 l1 c3,.slice b4 l2 c4]) (F.take q ++ [(R.1,R.2.1)]):=by
         rw [List.nil_append];exact CellsF.snoc (f:=(R.1,R.2.1)) (HES.out.below hb8) ((HN2.out.below HB6.out).below hb8) ((HI2.out.below HB6.out).below hb8)
        obtain ⟨_,hF8⟩:=FormsAt.of_owns hown8 hC;refine ⟨k+1,F.take q ++ [(R.1,R.2.1)],by rw [← HL.out];have:=HLT.out;omega,by go_num,hF8,by rw [List.length_append,HLQ.out];have:=HQ.out;simp;omega,fun g hg => ?_,HWW.out.trans (hb8.mono HWW.out.size)⟩
        rcases List.mem_append.1 hg with h | h
        ·
         exact HOK.out g (List.mem_of_mem_take h)
        ·
         rw [List.mem_singleton.1 h];exact ⟨HR1.out,HG.out.2.1⟩
       case measure => have:=HLT.out;simp [intOf];omega
   ·
    obtain rfl:k=L:=by omega
    clear HAC hlt hk;go_wp2_with fail;refine (HKN.out _ (HNM.out.below HW.out)).mono ?_;rintro e w7 ⟨rfl,hb⟩;have HB:=zh (HW.out.trans (hb.mono HW.out.size));clear hb;go_wp2_with fail
    go_ret
    exact ⟨rfl,HB.out⟩
end Go.Proofs.YtjfkbeanbbeloaaGreatDoor
