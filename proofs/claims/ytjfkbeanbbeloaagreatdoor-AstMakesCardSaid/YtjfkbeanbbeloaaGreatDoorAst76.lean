import Derived.Test.YtjfkbeanbbeloaaGreatDoorAst72
import Derived.Test.YtjfkbeanbbeloaaGreatDoorAst73
import Derived.Test.YtjfkbeanbbeloaaGreatDoorAst74
import Derived.Test.YtjfkbeanbbeloaaGreatDoorAst75
set_option maxHeartbeats 64000000
set_option maxRecDepth 100000
namespace Go.Proofs.YtjfkbeanbbeloaaGreatDoor
open Go.RowKit Go.Shelf
set_option linter.unusedSimpArgs false
set_option linter.unusedVariables false
section
variable {A0 A1 A2 A4 B2 B3 B4 B5 B6 B7 B8 B9 C0 C1 C2 C3 C4 C5 C6 C7 C8 C9 D0 D1 D2 D3 D4 D5 D6 D7 D8 D9 E0 E1 E2 E3 E4 E5 E6 E7 E8 E9 F0 F1 F2 F3 F4 F5 F6 F7 F8 F9 G0 G1 G2 G3 G4 G5 G6 G7 G8 G9 H0 H1 H2 H3 H4 H5 H7 H8 H9 I0 I1 I2 I3 I4 I5 I6 I7 I8 I9 J0 J1 J2 J3 J4 J5 J6 J7 J8 J9 K0 K1 K2 K3 K4 K5 K6 K7 K8 K9 L0 L1 L2 L3 L4 L5 L6 L7 L8 L9 M0 M1 M2 M3 M4 M5 M6 M7 M8 M9 N0 N1 N2 N3 N4 N5 N6 N7 N8 N9 O0 O1 O2 O3 O4 O5 O6 O7 O8 O9 P0 P1 P2 P3 P4 P5 P6 P7 P8 P9 Q0 Q1 Q2 Q3 Q4 Q5 Q6 Q7 Q8 Q9 R0 R1 R2 R3 R4 R5 R6 R7 R8 R9 S0 S1 S2 S3 S4 S5 S6 S7 S8 S9 T0 T1 T2 T3 T4 T5 T6 T7 T8 T9 U0 U1 U2 U3 U4 U5 U6 U7 U8 U9 V0 V1 V2 V3 V4 V5 V6 V7 V8 V9 W0 W1 W2 W3 W4 W5 W6 W7 W8 W9 X0 X1 X2 X3 X4 X5 X6 X7 X8 X9 Y0 Y1 Y2 Y3 Y4 Y5:Value} {Q:Exit→Act→World→Prop} {w wr s1:World} {P X Y tp cp:Nat} {bp:Option Addr} {F:List (List Nd × List Int)} {a:Ac}
theorem d6m (h:SwIn w wr s1 P X Y tp cp bp F a) (hN:∀ (A9 B0 B1 H7 H8 H9 I0 I1 I2 I3 I4 I5 I6 I7 I8 I9 J0 J1 J2 J3 J4 J5 J6 J7 J8 J9 K0 K1 K2 K3 K4 K5 K6 K7 K8 K9 L0 L1 L2 L3 L4 L5 L6 L7 L8 L9 M0 M1 M2 M3 M4 M5 M6 M7 M8 M9 N0 N1 N2 N3 N4 N5 N6 N7 N8 N9 O0 O1 O2 O3 O4 O5 O6 O7 O8 O9 P0 P1 P2 P3 P4 P5 P6 P7 P8 P9 Q0 Q1 Q2 Q3 Q4 Q5 Q6 Q7 Q8 Q9 R0 R1 R2 R3 R4 R5 R6 R7 R8 R9 S0 S1 S2 S3 S4 S5 S6 S7 S8 S9 T0 T1 T2 T3 T4 T5 T6 T7 T8 T9 U0 U1 U2 U3 U4 U5 U6 U7 U8 U9 V0 V1 V2 V3:Value) (w':World),d6i s1 X Y tp A9 B0 B1 w'→Q .normal ⟨#[A0,A1,A2,(.slice bp tp cp),A4,(.pointer (some ⟨P,0,none⟩)),(.int .i64 (tp:Int)),(.pointer (some ⟨X,0,none⟩)),(.pointer (some ⟨Y,0,none⟩)),A9,B0,B1,B2,B3,B4,B5,B6,B7,B8,B9,C0,C1,C2,C3,C4,C5,C6,C7,C8,C9,D0,D1,D2,D3,D4,D5,D6,D7,D8,D9,E0,E1,E2,E3,E4,E5,E6,E7,E8,E9,F0,F1,F2,F3,F4,F5,F6,F7,F8,F9,G0,G1,G2,G3,G4,G5,G6,G7,G8,G9,H0,H1,H2,H3,H4,H5,(.int .i64 a.k),H7,H8,H9,I0,I1,I2,I3,I4,I5,I6,I7,I8,I9,J0,J1,J2,J3,J4,J5,J6,J7,J8,J9,K0,K1,K2,K3,K4,K5,K6,K7,K8,K9,L0,L1,L2,L3,L4,L5,L6,L7,L8,L9,M0,M1,M2,M3,M4,M5,M6,M7,M8,M9,N0,N1,N2,N3,N4,N5,N6,N7,N8,N9,O0,O1,O2,O3,O4,O5,O6,O7,O8,O9,P0,P1,P2,P3,P4,P5,P6,P7,P8,P9,Q0,Q1,Q2,Q3,Q4,Q5,Q6,Q7,Q8,Q9,R0,R1,R2,R3,R4,R5,R6,R7,R8,R9,S0,S1,S2,S3,S4,S5,S6,S7,S8,S9,T0,T1,T2,T3,T4,T5,T6,T7,T8,T9,U0,U1,U2,U3,U4,U5,U6,U7,U8,U9,V0,V1,V2,V3,V4,V5,V6,V7,V8,V9,W0,W1,W2,W3,W4,W5,W6,W7,W8,W9,X0,X1,X2,X3,X4,X5,X6,X7,X8,X9,Y0,Y1,Y2,Y3,Y4,Y5],[]⟩ w') (hE:∀ (A9 B0 B1 H7 H8 H9 I0 I1 I2 I3 I4 I5 I6 I7 I8 I9 J0 J1 J2 J3 J4 J5 J6 J7 J8 J9 K0 K1 K2 K3 K4 K5 K6 K7 K8 K9 L0 L1 L2 L3 L4 L5 L6 L7 L8 L9 M0 M1 M2 M3 M4 M5 M6 M7 M8 M9 N0 N1 N2 N3 N4 N5 N6 N7 N8 N9 O0 O1 O2 O3 O4 O5 O6 O7 O8 O9 P0 P1 P2 P3 P4 P5 P6 P7 P8 P9 Q0 Q1 Q2 Q3 Q4 Q5 Q6 Q7 Q8 Q9 R0 R1 R2 R3 R4 R5 R6 R7 R8 R9 S0 S1 S2 S3 S4 S5 S6 S7 S8 S9 T0 T1 T2 T3 T4 T5 T6 T7 T8 T9 U0 U1 U2 U3 U4 U5 U6 U7 U8 U9 V0 V1 V2 V3:Value),Q (.exit 1) ⟨#[A0,A1,A2,(.slice bp tp cp),A4,(.pointer (some ⟨P,0,none⟩)),(.int .i64 (tp:Int)),(.pointer (some ⟨X,0,none⟩)),(.pointer (some ⟨Y,0,none⟩)),A9,B0,B1,B2,B3,B4,B5,B6,B7,B8,B9,C0,C1,C2,C3,C4,C5,C6,C7,C8,C9,D0,D1,D2,D3,D4,D5,D6,D7,D8,D9,E0,E1,E2,E3,E4,E5,E6,E7,E8,E9,F0,F1,F2,F3,F4,F5,F6,F7,F8,F9,G0,G1,G2,G3,G4,G5,G6,G7,G8,G9,H0,H1,H2,H3,H4,H5,(.int .i64 a.k),H7,H8,H9,I0,I1,I2,I3,I4,I5,I6,I7,I8,I9,J0,J1,J2,J3,J4,J5,J6,J7,J8,J9,K0,K1,K2,K3,K4,K5,K6,K7,K8,K9,L0,L1,L2,L3,L4,L5,L6,L7,L8,L9,M0,M1,M2,M3,M4,M5,M6,M7,M8,M9,N0,N1,N2,N3,N4,N5,N6,N7,N8,N9,O0,O1,O2,O3,O4,O5,O6,O7,O8,O9,P0,P1,P2,P3,P4,P5,P6,P7,P8,P9,Q0,Q1,Q2,Q3,Q4,Q5,Q6,Q7,Q8,Q9,R0,R1,R2,R3,R4,R5,R6,R7,R8,R9,S0,S1,S2,S3,S4,S5,S6,S7,S8,S9,T0,T1,T2,T3,T4,T5,T6,T7,T8,T9,U0,U1,U2,U3,U4,U5,U6,U7,U8,U9,V0,V1,V2,V3,V4,V5,V6,V7,V8,V9,W0,W1,W2,W3,W4,W5,W6,W7,W8,W9,X0,X1,X2,X3,X4,X5,X6,X7,X8,X9,Y0,Y1,Y2,Y3,Y4,Y5],[]⟩ s1) :
  Code.wp Tryz.prog (blC 2) Q ⟨#[A0,A1,A2,(.slice bp tp cp),A4,(.pointer (some ⟨P,0,none⟩)),(.int .i64 (tp:Int)),(.pointer (some ⟨X,0,none⟩)),(.pointer (some ⟨Y,0,none⟩)),(.int .i64 0),(.int .i64 0),(.int .i64 0),B2,B3,B4,B5,B6,B7,B8,B9,C0,C1,C2,C3,C4,C5,C6,C7,C8,C9,D0,D1,D2,D3,D4,D5,D6,D7,D8,D9,E0,E1,E2,E3,E4,E5,E6,E7,E8,E9,F0,F1,F2,F3,F4,F5,F6,F7,F8,F9,G0,G1,G2,G3,G4,G5,G6,G7,G8,G9,H0,H1,H2,H3,H4,H5,(.int .i64 a.k),H7,H8,H9,I0,I1,I2,I3,I4,I5,I6,I7,I8,I9,J0,J1,J2,J3,J4,J5,J6,J7,J8,J9,K0,K1,K2,K3,K4,K5,K6,K7,K8,K9,L0,L1,L2,L3,L4,L5,L6,L7,L8,L9,M0,M1,M2,M3,M4,M5,M6,M7,M8,M9,N0,N1,N2,N3,N4,N5,N6,N7,N8,N9,O0,O1,O2,O3,O4,O5,O6,O7,O8,O9,P0,P1,P2,P3,P4,P5,P6,P7,P8,P9,Q0,Q1,Q2,Q3,Q4,Q5,Q6,Q7,Q8,Q9,R0,R1,R2,R3,R4,R5,R6,R7,R8,R9,S0,S1,S2,S3,S4,S5,S6,S7,S8,S9,T0,T1,T2,T3,T4,T5,T6,T7,T8,T9,U0,U1,U2,U3,U4,U5,U6,U7,U8,U9,V0,V1,V2,V3,V4,V5,V6,V7,V8,V9,W0,W1,W2,W3,W4,W5,W6,W7,W8,W9,X0,X1,X2,X3,X4,X5,X6,X7,X8,X9,Y0,Y1,Y2,Y3,Y4,Y5],[]⟩ s1:=by
 obtain ⟨K19,hz19,HK19⟩:=a0q;have hk19:K19≠0:=by rw [HK19.out];decide
 have H:=zh h;have HN:=zh hN;have HE:=zh hE;have htl:=h.h60;clear h hN hE;refine d5c ?_;show Code.wp Tryz.prog (Code.block 2 _) _ _ _;by_cases hk:a.k=1
 ·
  have hk1:(a.k == 1)=true:=by rw [hk];rfl
  have hk2:(a.k == 2)=false:=by rw [hk];rfl
  have hk3:(a.k == 3)=false:=by rw [hk];rfl
  have hk4:(a.k == 4)=false:=by rw [hk];rfl
  clear hk;have p22:=H.out.hP 22 _ rfl;have zP1:=a0j p22;by_cases ht:tp < 1
  ·
   have ht1:(tp:Int) < 1:=by omega
   clear ht;go_wp2_with fail;exact ⟨rfl,HE.out _ _ _ _ _ _ _ _ _ _ _ _ _ _ _ _ _ _ _ _ _ _ _ _ _ _ _ _ _ _ _ _ _ _ _ _ _ _ _ _ _ _ _ _ _ _ _ _ _ _ _ _ _ _ _ _ _ _ _ _ _ _ _ _ _ _ _ _ _ _ _ _ _ _ _ _ _ _ _ _ _ _ _ _ _ _ _ _ _ _ _ _ _ _ _ _ _ _ _ _ _ _ _ _ _ _ _ _ _ _ _ _ _ _ _ _ _ _ _ _ _ _ _ _ _ _ _ _ _ _ _ _ _ _ _ _ _ _ _ _⟩
  have ht1 : ¬ (tp:Int) < 1:=by omega
  obtain ⟨q,hq⟩:∃ q,q=tp - 1:=⟨_,rfl⟩;obtain ⟨gg,oo,us,vs,f,rfl,hf,e0,e1,n1,n2,zw⟩:=d2v H.out.hF H.out.ht H.out.hWS (show q < tp by omega);have hw:IntKind.i64.wrap ((tp:Int) - 1)=(q:Int):=by rw [IntWalk.i64_in _ (by omega)];omega
  have hqt:q < tp:=by omega
  have hq0:(0:Int)≤(q:Int):=Int.natCast_nonneg q;obtain ⟨R,hg,h1,h2⟩:=d5a (op:=a.o) H.out.hok hf n1 n2 H.out.hnm;have p20:=H.out.hP 20 _ rfl;have zg:=a0j e0;have hXg:X≠gg:=by have:=H.out.px;have:=H.out.wp;omega
  have hYg:Y≠gg:=by have:=H.out.px;have:=H.out.xy;have:=H.out.wp;omega
  have hXP:X≠P:=by have:=H.out.px;omega
  have hYP:Y≠P:=by have:=H.out.px;have:=H.out.xy;omega
  clear hq n1 n2 hf zw;have HG:=zh hg;have HC1:=zh (fun W (h:Below s1.heap.size s1 W) => h1 W (H.out.hWS.trans (h.mono H.out.hWS.size)));have HC2:=zh h2;clear hg h1 h2 ht htl
  go_upto_region 20 with (fail)
  refine d5d gg oo q us vs a.o H.out.hBS H.out.x0 H.out.x1 H.out.xf0 H.out.xf1 (a0j H.out.x0) H.out.nx p20 e0 e1 hw hqt hq0 zP1 hXP zg hXg HC1.out ?_;intro J3 J4 J5 J6 J7 J8 J9 K0 K1 K2 K3 wc hput;have HPR:=zh hput;obtain ⟨_,_,_,_,_,_,_,_,_,hq,hfz,hsz,hbl⟩:=hput;have hYX:Y≠X:=by have:=H.out.xy;omega
  have zY:=H.out.ys;have HKY:=zh (And.intro ((hq Y 0 hYX zY).trans H.out.y0) ((hq Y 1 hYX zY).trans H.out.y1));have HFY:=zh (And.intro ((hfz Y 0 hYX zY).trans H.out.yf0) ((hfz Y 1 hYX zY).trans H.out.yf1));have HNY:=zh (HPR.out.noInt H.out.ny hYX zY);replace p20:=(hq _ _ (Ne.symm hXP) zP1).trans p20;replace e0:=(hq _ _ (Ne.symm hXg) zg).trans e0;replace e1:=(hq _ _ (Ne.symm hXg) zg).trans e1;replace zP1:=Nat.lt_of_lt_of_le zP1 hsz;replace zg:=Nat.lt_of_lt_of_le zg hsz;have HBc:Hid (Below w.heap.size w wc):=zh (H.out.hBS.trans (hbl.mono (by have:=H.out;have:=this.hw;have:=H.out.wp;have:=H.out.px;omega)));have hWC:Below wr.heap.size wr wc:=H.out.hWS.trans (hbl.mono (by have:=H.out.wp;have:=H.out.px;omega));have HC3:=zh (fun W (h:Below wc.heap.size wc W) => HC2.out W (hWC.trans (h.mono hWC.size)));clear hq hfz hsz hbl HC1 HC2 hYX hWC zY
  go_upto_region 21 with (fail)
  refine d5e gg oo q us vs a.o HBc.out HKY.out.1 HKY.out.2 HFY.out.1 HFY.out.2 (a0j HKY.out.1) HNY.out p20 e0 e1 hw hqt hq0 zP1 hYP zg hYg HC3.out ?_
  intros
  rename_i hput
  have HPT:=zh hput;clear hput;go_wp2_with fail;exact HN.out _ _ _ _ _ _ _ _ _ _ _ _ _ _ _ _ _ _ _ _ _ _ _ _ _ _ _ _ _ _ _ _ _ _ _ _ _ _ _ _ _ _ _ _ _ _ _ _ _ _ _ _ _ _ _ _ _ _ _ _ _ _ _ _ _ _ _ _ _ _ _ _ _ _ _ _ _ _ _ _ _ _ _ _ _ _ _ _ _ _ _ _ _ _ _ _ _ _ _ _ _ _ _ _ _ _ _ _ _ _ _ _ _ _ _ _ _ _ _ _ _ _ _ _ _ _ _ _ _ _ _ _ _ _ _ _ _ _ _ _ _ (d2o (c:=1) HG.out (by have:=hqt;omega) H.out.xy H.out.ys H.out.ny HPR.out HPT.out)
 have hq1:=hk;clear hk;by_cases hk:a.k=2
 ·
  have hk1:(a.k == 1)=false:=by rw [hk];rfl
  have hk2:(a.k == 2)=true:=by rw [hk];rfl
  have hk3:(a.k == 3)=false:=by rw [hk];rfl
  have hk4:(a.k == 4)=false:=by rw [hk];rfl
  clear hk;have p22:=H.out.hP 22 _ rfl;have zP1:=a0j p22;by_cases ht:tp < 2
  ·
   have ht1:(tp:Int) < 2:=by omega
   clear ht;go_wp2_with fail;exact ⟨rfl,HE.out _ _ _ _ _ _ _ _ _ _ _ _ _ _ _ _ _ _ _ _ _ _ _ _ _ _ _ _ _ _ _ _ _ _ _ _ _ _ _ _ _ _ _ _ _ _ _ _ _ _ _ _ _ _ _ _ _ _ _ _ _ _ _ _ _ _ _ _ _ _ _ _ _ _ _ _ _ _ _ _ _ _ _ _ _ _ _ _ _ _ _ _ _ _ _ _ _ _ _ _ _ _ _ _ _ _ _ _ _ _ _ _ _ _ _ _ _ _ _ _ _ _ _ _ _ _ _ _ _ _ _ _ _ _ _ _ _ _ _ _⟩
  have ht1 : ¬ (tp:Int) < 2:=by omega
  obtain ⟨q,hq⟩:∃ q,q=tp - 1:=⟨_,rfl⟩;obtain ⟨gg,oo,us,vs,f,rfl,hf,e0,e1,n1,n2,zw⟩:=d2v H.out.hF H.out.ht H.out.hWS (show q < tp by omega);obtain ⟨q2,hq2⟩:∃ q,q=tp - 2:=⟨_,rfl⟩;obtain ⟨gg2,oo2,us2,vs2,f2,hbp2,hf2,e20,e21,n21,n22,zw2⟩:=d2v H.out.hF H.out.ht H.out.hWS (show q2 < tp by omega);obtain ⟨rfl,rfl⟩:gg=gg2∧oo=oo2:=by simpa using hbp2
  have hw:IntKind.i64.wrap ((tp:Int) - 1)=(q:Int):=by rw [IntWalk.i64_in _ (by omega)];omega
  have hqt:q < tp:=by omega
  have hq0:(0:Int)≤(q:Int):=Int.natCast_nonneg q;have hw2:IntKind.i64.wrap ((tp:Int) - 2)=(q2:Int):=by rw [IntWalk.i64_in _ (by omega)];omega
  have hqt2:q2 < tp:=by omega
  have hq02:(0:Int)≤(q2:Int):=Int.natCast_nonneg q2;obtain ⟨R,hg,h1,h2⟩:=d5b (op:=a.o) H.out.hok hf2 hf n21 n22 n1 n2 H.out.hnm;have p20:=H.out.hP 20 _ rfl;have zg:=a0j e0;have hXg:X≠gg:=by have:=H.out.px;have:=H.out.wp;omega
  have hYg:Y≠gg:=by have:=H.out.px;have:=H.out.xy;have:=H.out.wp;omega
  have hXP:X≠P:=by have:=H.out.px;omega
  have hYP:Y≠P:=by have:=H.out.px;have:=H.out.xy;omega
  clear hq hq2 n1 n2 n21 n22 hf hf2 zw zw2 hbp2;have HG:=zh hg;have HC1:=zh (fun W (h:Below s1.heap.size s1 W) => h1 W (H.out.hWS.trans (h.mono H.out.hWS.size)));have HC2:=zh h2;clear hg h1 h2 ht htl
  go_upto_region 25 with (fail)
  refine d5f gg oo q q2 us vs us2 vs2 a.o H.out.hBS H.out.x0 H.out.x1 H.out.xf0 H.out.xf1 (a0j H.out.x0) H.out.nx p20 e0 e1 e20 e21 hw hqt hq0 hw2 hqt2 hq02 zP1 hXP zg hXg HC1.out ?_;intro L9 M0 M1 M2 M3 M4 M5 M6 M7 M8 M9 N0 N1 N2 N3 N4 wc hput;have HPR:=zh hput;obtain ⟨_,_,_,_,_,_,_,_,_,hq,hfz,hsz,hbl⟩:=hput;have hYX:Y≠X:=by have:=H.out.xy;omega
  have zY:=H.out.ys;have HKY:=zh (And.intro ((hq Y 0 hYX zY).trans H.out.y0) ((hq Y 1 hYX zY).trans H.out.y1));have HFY:=zh (And.intro ((hfz Y 0 hYX zY).trans H.out.yf0) ((hfz Y 1 hYX zY).trans H.out.yf1));have HNY:=zh (HPR.out.noInt H.out.ny hYX zY);replace p20:=(hq _ _ (Ne.symm hXP) zP1).trans p20;replace e20:=(hq _ _ (Ne.symm hXg) zg).trans e20;replace e21:=(hq _ _ (Ne.symm hXg) zg).trans e21;replace e0:=(hq _ _ (Ne.symm hXg) zg).trans e0;replace e1:=(hq _ _ (Ne.symm hXg) zg).trans e1;replace zP1:=Nat.lt_of_lt_of_le zP1 hsz;replace zg:=Nat.lt_of_lt_of_le zg hsz;have HBc:Hid (Below w.heap.size w wc):=zh (H.out.hBS.trans (hbl.mono (by have:=H.out;have:=this.hw;have:=H.out.wp;have:=H.out.px;omega)));have hWC:Below wr.heap.size wr wc:=H.out.hWS.trans (hbl.mono (by have:=H.out.wp;have:=H.out.px;omega));have HC3:=zh (fun W (h:Below wc.heap.size wc W) => HC2.out W (hWC.trans (h.mono hWC.size)));clear hq hfz hsz hbl HC1 HC2 hYX hWC zY
  go_upto_region 26 with (fail)
  refine d5g gg oo q q2 us vs us2 vs2 a.o HBc.out HKY.out.1 HKY.out.2 HFY.out.1 HFY.out.2 (a0j HKY.out.1) HNY.out p20 e0 e1 e20 e21 hw hqt hq0 hw2 hqt2 hq02 zP1 hYP zg hYg HC3.out ?_
  intros
  rename_i hput
  have HPT:=zh hput;clear hput;go_wp2_with fail;exact HN.out _ _ _ _ _ _ _ _ _ _ _ _ _ _ _ _ _ _ _ _ _ _ _ _ _ _ _ _ _ _ _ _ _ _ _ _ _ _ _ _ _ _ _ _ _ _ _ _ _ _ _ _ _ _ _ _ _ _ _ _ _ _ _ _ _ _ _ _ _ _ _ _ _ _ _ _ _ _ _ _ _ _ _ _ _ _ _ _ _ _ _ _ _ _ _ _ _ _ _ _ _ _ _ _ _ _ _ _ _ _ _ _ _ _ _ _ _ _ _ _ _ _ _ _ _ _ _ _ _ _ _ _ _ _ _ _ _ _ _ _ _ (d2o (c:=2) HG.out (by have:=hqt2;omega) H.out.xy H.out.ys H.out.ny HPR.out HPT.out)
 have hq2:=hk;clear hk;by_cases hk:a.k=3
 ·
  have hk1:(a.k == 1)=false:=by rw [hk];rfl
  have hk2:(a.k == 2)=false:=by rw [hk];rfl
  have hk3:(a.k == 3)=true:=by rw [hk];rfl
  have hk4:(a.k == 4)=false:=by rw [hk];rfl
  clear hk;have p22:=H.out.hP 22 _ rfl;have zP1:=a0j p22;by_cases ht:a.c < 0
  ·
   have ht1:a.c < 0:=ht;clear ht;go_wp2_with fail;exact ⟨rfl,HE.out _ _ _ _ _ _ _ _ _ _ _ _ _ _ _ _ _ _ _ _ _ _ _ _ _ _ _ _ _ _ _ _ _ _ _ _ _ _ _ _ _ _ _ _ _ _ _ _ _ _ _ _ _ _ _ _ _ _ _ _ _ _ _ _ _ _ _ _ _ _ _ _ _ _ _ _ _ _ _ _ _ _ _ _ _ _ _ _ _ _ _ _ _ _ _ _ _ _ _ _ _ _ _ _ _ _ _ _ _ _ _ _ _ _ _ _ _ _ _ _ _ _ _ _ _ _ _ _ _ _ _ _ _ _ _ _ _ _ _ _⟩
  have ht1 : ¬ a.c < 0:=ht;clear ht;by_cases ht:(tp:Int) < a.c
  ·
   have ht2:(tp:Int) < a.c:=ht;clear ht;go_wp2_with fail;exact ⟨rfl,HE.out _ _ _ _ _ _ _ _ _ _ _ _ _ _ _ _ _ _ _ _ _ _ _ _ _ _ _ _ _ _ _ _ _ _ _ _ _ _ _ _ _ _ _ _ _ _ _ _ _ _ _ _ _ _ _ _ _ _ _ _ _ _ _ _ _ _ _ _ _ _ _ _ _ _ _ _ _ _ _ _ _ _ _ _ _ _ _ _ _ _ _ _ _ _ _ _ _ _ _ _ _ _ _ _ _ _ _ _ _ _ _ _ _ _ _ _ _ _ _ _ _ _ _ _ _ _ _ _ _ _ _ _ _ _ _ _ _ _ _ _⟩
  have ht2 : ¬ (tp:Int) < a.c:=ht;obtain ⟨cn,hcn⟩:∃ cn:Nat,a.c=cn:=⟨a.c.toNat,by omega⟩;obtain ⟨q,hq⟩:∃ q,q=tp - cn:=⟨_,rfl⟩;have hw:IntKind.i64.wrap ((tp:Int) - a.c)=(q:Int):=by rw [IntWalk.i64_in _ (by omega)];omega
  have HCN:Hid (a.c=cn∧cn≤tp):=zh ⟨hcn,by omega⟩;obtain ⟨sv,hsv,hfs⟩:=d3s (l:=F) (bt:=bp) (ct:=cp) (by rw [← H.out.ht];exact H.out.hF) (k:=q) (by rw [← H.out.ht];omega);rw [← H.out.ht] at hsv;obtain ⟨R,hg,h1,h2⟩:=d4l (s:=a.s) H.out.hok (fun g hg => List.mem_of_mem_drop hg) hfs H.out.hft.2 (by rw [List.length_drop,← H.out.ht];omega) H.out.hnm;have p21:=H.out.hP 21 _ rfl;have hXP:X≠P:=by have:=H.out.px;omega
  have hYP:Y≠P:=by have:=H.out.px;have:=H.out.xy;omega
  clear hq hcn hfs;have HG:=zh hg;have HC1:=zh (fun W (h:Below s1.heap.size s1 W) => h1 W (H.out.hWS.trans (h.mono H.out.hWS.size)));have HC2:=zh h2;clear hg h1 h2 ht htl
  go_upto_region 30 with (fail)
  refine d5h bp q sv a.s a.c H.out.hBS H.out.x0 H.out.x1 H.out.xf0 H.out.xf1 (a0j H.out.x0) H.out.nx p21 p22 hw hsv zP1 hXP HC1.out ?_;intro Q4 Q5 Q6 Q7 Q8 Q9 R0 R1 R2 R3 R4 R5 wc hput;have HPR:=zh hput;obtain ⟨_,_,_,_,_,_,_,_,_,hq,hfz,hsz,hbl⟩:=hput;have hYX:Y≠X:=by have:=H.out.xy;omega
  have zY:=H.out.ys;have HKY:=zh (And.intro ((hq Y 0 hYX zY).trans H.out.y0) ((hq Y 1 hYX zY).trans H.out.y1));have HFY:=zh (And.intro ((hfz Y 0 hYX zY).trans H.out.yf0) ((hfz Y 1 hYX zY).trans H.out.yf1));have HNY:=zh (HPR.out.noInt H.out.ny hYX zY);replace p21:=(hq _ _ (Ne.symm hXP) zP1).trans p21;replace p22:=(hq _ _ (Ne.symm hXP) zP1).trans p22;replace zP1:=Nat.lt_of_lt_of_le zP1 hsz;have HBc:Hid (Below w.heap.size w wc):=zh (H.out.hBS.trans (hbl.mono (by have:=H.out;have:=this.hw;have:=H.out.wp;have:=H.out.px;omega)));have hWC:Below wr.heap.size wr wc:=H.out.hWS.trans (hbl.mono (by have:=H.out.wp;have:=H.out.px;omega));have HC3:=zh (fun W (h:Below wc.heap.size wc W) => HC2.out W (hWC.trans (h.mono hWC.size)));clear hq hfz hsz hbl HC1 HC2 hYX hWC zY
  go_upto_region 31 with (fail)
  refine d5i bp q sv a.s a.c HBc.out HKY.out.1 HKY.out.2 HFY.out.1 HFY.out.2 (a0j HKY.out.1) HNY.out p21 p22 hw hsv zP1 hYP HC3.out ?_
  intros
  rename_i hput
  have HPT:=zh hput;clear hput;go_wp2_with fail;exact HN.out _ _ _ _ _ _ _ _ _ _ _ _ _ _ _ _ _ _ _ _ _ _ _ _ _ _ _ _ _ _ _ _ _ _ _ _ _ _ _ _ _ _ _ _ _ _ _ _ _ _ _ _ _ _ _ _ _ _ _ _ _ _ _ _ _ _ _ _ _ _ _ _ _ _ _ _ _ _ _ _ _ _ _ _ _ _ _ _ _ _ _ _ _ _ _ _ _ _ _ _ _ _ _ _ _ _ _ _ _ _ _ _ _ _ _ _ _ _ _ _ _ _ _ _ _ _ _ _ _ _ _ _ _ _ _ _ _ _ _ _ _ (by rw [HCN.out.1];exact d2o (c:=cn) HG.out (HCN.out.2) H.out.xy H.out.ys H.out.ny HPR.out HPT.out)
 have hq3:=hk;clear hk;by_cases hk:a.k=4
 ·
  have hk1:(a.k == 1)=false:=by rw [hk];rfl
  have hk2:(a.k == 2)=false:=by rw [hk];rfl
  have hk3:(a.k == 3)=false:=by rw [hk];rfl
  have hk4:(a.k == 4)=true:=by rw [hk];rfl
  clear hk;have p22:=H.out.hP 22 _ rfl;have zP1:=a0j p22;by_cases ht:tp < 1
  ·
   have ht1:(tp:Int) < 1:=by omega
   clear ht;go_wp2_with fail;exact ⟨rfl,HE.out _ _ _ _ _ _ _ _ _ _ _ _ _ _ _ _ _ _ _ _ _ _ _ _ _ _ _ _ _ _ _ _ _ _ _ _ _ _ _ _ _ _ _ _ _ _ _ _ _ _ _ _ _ _ _ _ _ _ _ _ _ _ _ _ _ _ _ _ _ _ _ _ _ _ _ _ _ _ _ _ _ _ _ _ _ _ _ _ _ _ _ _ _ _ _ _ _ _ _ _ _ _ _ _ _ _ _ _ _ _ _ _ _ _ _ _ _ _ _ _ _ _ _ _ _ _ _ _ _ _ _ _ _ _ _ _ _ _ _ _⟩
  have ht1 : ¬ (tp:Int) < 1:=by omega
  obtain ⟨q,hq⟩:∃ q,q=tp - 1:=⟨_,rfl⟩;obtain ⟨gg,oo,us,vs,f,rfl,hf,e0,e1,n1,n2,zw⟩:=d2v H.out.hF H.out.ht H.out.hWS (show q < tp by omega);have hw:IntKind.i64.wrap ((tp:Int) - 1)=(q:Int):=by rw [IntWalk.i64_in _ (by omega)];omega
  have hqt:q < tp:=by omega
  have hq0:(0:Int)≤(q:Int):=Int.natCast_nonneg q;obtain ⟨R,hg,h1,h2⟩:=d4m (c:=a.c) H.out.hok hf n1 n2 H.out.hnm;have zg:=a0j e0;have hXg:X≠gg:=by have:=H.out.px;have:=H.out.wp;omega
  have hYg:Y≠gg:=by have:=H.out.px;have:=H.out.xy;have:=H.out.wp;omega
  have hXP:X≠P:=by have:=H.out.px;omega
  have hYP:Y≠P:=by have:=H.out.px;have:=H.out.xy;omega
  clear hq n1 n2 hf zw;have HG:=zh hg;have HC1:=zh (fun W (h:Below s1.heap.size s1 W) => h1 W (H.out.hWS.trans (h.mono H.out.hWS.size)));have HC2:=zh h2;clear hg h1 h2 ht htl
  go_upto_region 34 with (fail)
  refine d5j gg oo q us vs a.c H.out.hBS H.out.x0 H.out.x1 H.out.xf0 H.out.xf1 (a0j H.out.x0) H.out.nx p22 e0 e1 hw hqt hq0 zP1 hXP zg hXg HC1.out ?_;intro T2 T3 T4 T5 T6 T7 T8 T9 U0 U1 U2 wc hput;have HPR:=zh hput;obtain ⟨_,_,_,_,_,_,_,_,_,hq,hfz,hsz,hbl⟩:=hput;have hYX:Y≠X:=by have:=H.out.xy;omega
  have zY:=H.out.ys;have HKY:=zh (And.intro ((hq Y 0 hYX zY).trans H.out.y0) ((hq Y 1 hYX zY).trans H.out.y1));have HFY:=zh (And.intro ((hfz Y 0 hYX zY).trans H.out.yf0) ((hfz Y 1 hYX zY).trans H.out.yf1));have HNY:=zh (HPR.out.noInt H.out.ny hYX zY);replace e0:=(hq _ _ (Ne.symm hXg) zg).trans e0;replace e1:=(hq _ _ (Ne.symm hXg) zg).trans e1;replace p22:=(hq _ _ (Ne.symm hXP) zP1).trans p22;replace zP1:=Nat.lt_of_lt_of_le zP1 hsz;replace zg:=Nat.lt_of_lt_of_le zg hsz;have HBc:Hid (Below w.heap.size w wc):=zh (H.out.hBS.trans (hbl.mono (by have:=H.out;have:=this.hw;have:=H.out.wp;have:=H.out.px;omega)));have hWC:Below wr.heap.size wr wc:=H.out.hWS.trans (hbl.mono (by have:=H.out.wp;have:=H.out.px;omega));have HC3:=zh (fun W (h:Below wc.heap.size wc W) => HC2.out W (hWC.trans (h.mono hWC.size)));clear hq hfz hsz hbl HC1 HC2 hYX hWC zY
  go_upto_region 35 with (fail)
  refine d5k gg oo q us vs a.c HBc.out HKY.out.1 HKY.out.2 HFY.out.1 HFY.out.2 (a0j HKY.out.1) HNY.out p22 e0 e1 hw hqt hq0 zP1 hYP zg hYg HC3.out ?_
  intros
  rename_i hput
  have HPT:=zh hput;clear hput;go_wp2_with fail;exact HN.out _ _ _ _ _ _ _ _ _ _ _ _ _ _ _ _ _ _ _ _ _ _ _ _ _ _ _ _ _ _ _ _ _ _ _ _ _ _ _ _ _ _ _ _ _ _ _ _ _ _ _ _ _ _ _ _ _ _ _ _ _ _ _ _ _ _ _ _ _ _ _ _ _ _ _ _ _ _ _ _ _ _ _ _ _ _ _ _ _ _ _ _ _ _ _ _ _ _ _ _ _ _ _ _ _ _ _ _ _ _ _ _ _ _ _ _ _ _ _ _ _ _ _ _ _ _ _ _ _ _ _ _ _ _ _ _ _ _ _ _ _ (d2o (c:=0) HG.out (Nat.zero_le _) H.out.xy H.out.ys H.out.ny HPR.out HPT.out)
 have hq4:=hk;clear hk;have hk1:(a.k == 1)=false:=by simpa using hq1
 have hk2:(a.k == 2)=false:=by simpa using hq2
 have hk3:(a.k == 3)=false:=by simpa using hq3
 have hk4:(a.k == 4)=false:=by simpa using hq4
 clear hq1 hq2 hq3 hq4;clear htl;have zP1:=a0j (H.out.hP 0 _ rfl);obtain ⟨R,hg,h1,h2⟩:=d4k H.out.hft.1 H.out.hnm;have HG:=zh hg;have HC1:Hid (∀ W,Below s1.heap.size s1 W→_):=zh (fun W h => h1 W (H.out.hWS.trans (h.mono H.out.hWS.size)));have HC2:=zh h2
 have hpn:∀ j u,(ndL a.n)[j]?=some u→s1.cell? ⟨P,1+j,none⟩=some u:=fun j u hu => H.out.hP (1+j) u (by
  rw [Nat.add_comm];show (ndL a.n ++ [.int .i64 a.o,.string a.s,.int .i64 a.c])[j]?=some u;rw [List.getElem?_append_left (List.getElem?_eq_some_iff.1 hu).1]
  exact hu)
 have LN:Sem.run Tryz.prog (loadCellsFrom ⟨P,1,none⟩ 0 K19 #[]) s1=.ok #[.int .i64 a.n.k,.int .i64 a.n.o,.int .i64 a.n.a,.int .i64 a.n.b,.bool a.n.qn,.string a.n.qa,.string a.n.qd,.string a.n.s,.bool a.n.tr,.string a.n.r.sh,.int .i64 a.n.r.c,.int .i64 a.n.r.r,.bool a.n.r.fc,.bool a.n.r.fr,.string a.n.t.sh,.int .i64 a.n.t.c,.int .i64 a.n.t.r,.bool a.n.t.fc,.bool a.n.t.fr] s1:=a0p s1 P 1 HK19 a.n hpn;have HPN:=zh hpn;clear hg h1 h2 hpn;go_wp2_with fail;refine (HC1.out _ (Below.refl _ _)).mono ?_;rintro e x2 ⟨⟨u5,v5,rfl,hn5,ha5⟩,hbx⟩;obtain ⟨b5,c5,rfl,_⟩:=hn5.slice;obtain ⟨b6,c6,rfl,_⟩:=ha5.slice;have hpr:=d1z hbx H.out.x0 H.out.x1 H.out.nx hn5 ha5;have zX:=a0j H.out.x0;have zY:=H.out.ys;have kX0:=a0f hbx H.out.x0 zX;have kX1:=a0f hbx H.out.x1 zX;have fX0:=a0g hbx H.out.xf0 zX;have fX1:=a0g hbx H.out.xf1 zX;have HPR:=zh hpr;clear hpr hn5 ha5 hbx LN
 go_upto_region 16 with (fail)
 obtain ⟨wq,hwq⟩:∃ z,z=(x2.setCell ⟨X,0,none⟩ (.slice b5 R.1.length c5)).setCell ⟨X,1,none⟩ (.slice b6 R.2.1.length c6):=⟨_,rfl⟩;rw [← hwq] at HPR ⊢;obtain ⟨_,_,_,_,_,_,_,_,_,hq,hfz,hsz,hbl⟩:=HPR.out;have hYX:Y≠X:=by have:=H.out.xy;omega
 have hPX:P≠X:=by have:=H.out.px;omega
 have kY0:=(hq Y 0 hYX zY).trans H.out.y0;have kY1:=(hq Y 1 hYX zY).trans H.out.y1;have fY0:=(hfz Y 0 hYX zY).trans H.out.yf0;have fY1:=(hfz Y 1 hYX zY).trans H.out.yf1;replace zY:=Nat.lt_of_lt_of_le zY hsz;have LN:Sem.run Tryz.prog (loadCellsFrom ⟨P,1,none⟩ 0 K19 #[]) wq=.ok #[.int .i64 a.n.k,.int .i64 a.n.o,.int .i64 a.n.a,.int .i64 a.n.b,.bool a.n.qn,.string a.n.qa,.string a.n.qd,.string a.n.s,.bool a.n.tr,.string a.n.r.sh,.int .i64 a.n.r.c,.int .i64 a.n.r.r,.bool a.n.r.fc,.bool a.n.r.fr,.string a.n.t.sh,.int .i64 a.n.t.c,.int .i64 a.n.t.r,.bool a.n.t.fc,.bool a.n.t.fr] wq:=a0p wq P 1 HK19 a.n (fun j u hu => (hq P _ hPX zP1).trans (HPN.out j u hu));replace zP1:=Nat.lt_of_lt_of_le zP1 hsz;have HWC:Hid (Below wr.heap.size wr wq):=zh (H.out.hWS.trans (hbl.mono (by have:=H.out.wp;have:=H.out.px;omega)));have HKY:=zh (And.intro kY0 kY1);have HNY2:=zh (HPR.out.noInt H.out.ny hYX H.out.ys);clear hwq hq hfz hsz hbl HC1 hYX hPX kX0 kX1 fX0 fX1 zX;go_wp2_with fail;refine (HC2.out _ HWC.out).mono ?_;rintro e x3 ⟨⟨u7,v7,rfl,hn7,ha7⟩,hbx⟩;obtain ⟨b7,c7,rfl,_⟩:=hn7.slice;obtain ⟨b8,c8,rfl,_⟩:=ha7.slice;have hpr:=d1z hbx HKY.out.1 HKY.out.2 HNY2.out hn7 ha7;replace kY0:=a0f hbx kY0 zY;replace kY1:=a0f hbx kY1 zY;replace fY0:=a0g hbx fY0 zY;replace fY1:=a0g hbx fY1 zY;have HPR2:=zh hpr;clear hpr hn7 ha7 hbx LN;go_wp2_with fail;exact HN.out _ _ _ _ _ _ _ _ _ _ _ _ _ _ _ _ _ _ _ _ _ _ _ _ _ _ _ _ _ _ _ _ _ _ _ _ _ _ _ _ _ _ _ _ _ _ _ _ _ _ _ _ _ _ _ _ _ _ _ _ _ _ _ _ _ _ _ _ _ _ _ _ _ _ _ _ _ _ _ _ _ _ _ _ _ _ _ _ _ _ _ _ _ _ _ _ _ _ _ _ _ _ _ _ _ _ _ _ _ _ _ _ _ _ _ _ _ _ _ _ _ _ _ _ _ _ _ _ _ _ _ _ _ _ _ _ _ _ _ _ _ (d2o (c:=0) HG.out (Nat.zero_le _) H.out.xy H.out.ys H.out.ny HPR.out HPR2.out)
end
end Go.Proofs.YtjfkbeanbbeloaaGreatDoor
