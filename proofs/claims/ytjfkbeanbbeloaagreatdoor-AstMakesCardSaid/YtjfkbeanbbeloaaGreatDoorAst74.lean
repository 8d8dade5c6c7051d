import Derived.Test.YtjfkbeanbbeloaaGreatDoorAst67
set_option maxHeartbeats 16000000
set_option maxRecDepth 100000
namespace Go.Proofs.YtjfkbeanbbeloaaGreatDoor
open Go.RowKit Go.Shelf
set_option linter.unusedSimpArgs false
set_option linter.unusedVariables false
section
variable {A0 A1 A2 A4 A7 A8 A9 B0 B1 B2 B3 B4 B5 B6 B7 B8 B9 C0 C1 C2 C3 C4 C5 C6 C7 C8 C9 D0 D1 D2 D3 D4 D5 D6 D7 D8 D9 E0 E1 E2 E3 E4 E5 E6 E7 E8 E9 F0 F1 F2 F3 F4 F5 F6 F7 F8 F9 G0 G1 G2 G3 G4 G5 G6 G7 G8 G9 H0 H1 H2 H3 H4 H5 H6 H7 H8 H9 I0 I1 I2 I3 I4 I5 I6 I7 I8 I9 J0 J1 J2 J3 J4 J5 J6 J7 J8 J9 K0 K1 K2 K3 K4 K5 K6 K7 K8 K9 L0 L1 L2 L3 L4 L5 L6 L7 L8 L9 M0 M1 M2 M3 M4 M5 M6 M7 M8 M9 N0 N1 N2 N3 N4 N5 N6 N7 N8 N9 O0 O1 O2 O3 O4 O5 O6 O7 O8 O9 P0 P1 P2 P3 P4 P5 P6 P7 P8 P9 Q0 Q1 Q2 Q3 Q4 Q5 Q6 Q7 Q8 Q9 R0 R1 R2 R3 R4 R5 R6 R7 R8 R9 S0 S1 S2 S3 S4 S5 S6 S7 S8 S9 T0 T1 T2 T3 T4 T5 T6 T7 T8 T9 U0 U1 U2 U3 U4 U5 U6 U7 U8 U9 V0 V1 V2 V3 V4 V5 V6 V7 V8 V9 W0 W1 W2 W3 W4 W5 W6 W7 W8 W9 X0 X1 X2 X3 X4 X5 X6 X7 X8 X9 Y0 Y1 Y2 Y3 Y4 Y5:Value} {Q:Exit→Act→World→Prop} {w s1:World} {R:List Nd × List Int × Int} {P X tp cp:Nat}
theorem d5h (bp:Option Addr) (q:Nat) (sv:Value) (nm:ByteArray) (ac:Int)
  (hBo:Below w.heap.size w s1) (kX0:s1.cell? ⟨X,0,none⟩=some (.slice none 0 0)) (kX1:s1.cell? ⟨X,1,none⟩=some (.slice none 0 0)) (fX0:s1.frozen? ⟨X,0,none⟩=false) (fX1:s1.frozen? ⟨X,1,none⟩=false) (zX:X < s1.heap.size) (hni:NoInt s1 X)
  (p21:s1.cell? ⟨P,21,none⟩=some (.string nm)) (p22:s1.cell? ⟨P,22,none⟩=some (.int .i64 ac)) (hw:IntKind.i64.wrap ((tp:Int) - ac)=(q:Int)) (hsv:∀ W',Sem.run Tryz.prog (Instr.slice 24 (.slice bp tp cp) (some (.int .i64 (q:Int))) none none) W'=.ok sv W') (zP1:P < s1.heap.size) (hXP:X≠P)
  (hc:∀ W,Below s1.heap.size s1 W→Calls Tryz.prog 9 #[.string nm,sv] W (d1w R W))
  (hQ:∀ (Q4 Q5 Q6 Q7 Q8 Q9 R0 R1 R2 R3 R4 R5:Value) (w':World),PutRel s1 X R (.int .i64 R.2.2) w'→Q .normal ⟨#[A0,A1,A2,(.slice bp tp cp),A4,(.pointer (some ⟨P,0,none⟩)),(.int .i64 (tp:Int)),(.pointer (some ⟨X,0,none⟩)),A8,(.int .i64 R.2.2),B0,B1,B2,B3,B4,B5,B6,B7,B8,B9,C0,C1,C2,C3,C4,C5,C6,C7,C8,C9,D0,D1,D2,D3,D4,D5,D6,D7,D8,D9,E0,E1,E2,E3,E4,E5,E6,E7,E8,E9,F0,F1,F2,F3,F4,F5,F6,F7,F8,F9,G0,G1,G2,G3,G4,G5,G6,G7,G8,G9,H0,H1,H2,H3,H4,H5,H6,H7,H8,H9,I0,I1,I2,I3,I4,I5,I6,I7,I8,I9,J0,J1,J2,J3,J4,J5,J6,J7,J8,J9,K0,K1,K2,K3,K4,K5,K6,K7,K8,K9,L0,L1,L2,L3,L4,L5,L6,L7,L8,L9,M0,M1,M2,M3,M4,M5,M6,M7,M8,M9,N0,N1,N2,N3,N4,N5,N6,N7,N8,N9,O0,O1,O2,O3,O4,O5,O6,O7,O8,O9,P0,P1,P2,P3,P4,P5,P6,P7,P8,P9,Q0,Q1,Q2,Q3,Q4,Q5,Q6,Q7,Q8,Q9,R0,R1,R2,R3,R4,R5,R6,R7,R8,R9,S0,S1,S2,S3,S4,S5,S6,S7,S8,S9,T0,T1,T2,T3,T4,T5,T6,T7,T8,T9,U0,U1,U2,U3,U4,U5,U6,U7,U8,U9,V0,V1,V2,V3,V4,V5,V6,V7,V8,V9,W0,W1,W2,W3,W4,W5,W6,W7,W8,W9,X0,X1,X2,X3,X4,X5,X6,X7,X8,X9,Y0,Y1,Y2,Y3,Y4,Y5],[]⟩ w') :
  Code.wp Tryz.prog (rgC 30) Q ⟨#[A0,A1,A2,(.slice bp tp cp),A4,(.pointer (some ⟨P,0,none⟩)),(.int .i64 (tp:Int)),(.pointer (some ⟨X,0,none⟩)),A8,A9,B0,B1,B2,B3,B4,B5,B6,B7,B8,B9,C0,C1,C2,C3,C4,C5,C6,C7,C8,C9,D0,D1,D2,D3,D4,D5,D6,D7,D8,D9,E0,E1,E2,E3,E4,E5,E6,E7,E8,E9,F0,F1,F2,F3,F4,F5,F6,F7,F8,F9,G0,G1,G2,G3,G4,G5,G6,G7,G8,G9,H0,H1,H2,H3,H4,H5,H6,H7,H8,H9,I0,I1,I2,I3,I4,I5,I6,I7,I8,I9,J0,J1,J2,J3,J4,J5,J6,J7,J8,J9,K0,K1,K2,K3,K4,K5,K6,K7,K8,K9,L0,L1,L2,L3,L4,L5,L6,L7,L8,L9,M0,M1,M2,M3,M4,M5,M6,M7,M8,M9,N0,N1,N2,N3,N4,N5,N6,N7,N8,N9,O0,O1,O2,O3,O4,O5,O6,O7,O8,O9,P0,P1,P2,P3,P4,P5,P6,P7,P8,P9,Q0,Q1,Q2,Q3,Q4,Q5,Q6,Q7,Q8,Q9,R0,R1,R2,R3,R4,R5,R6,R7,R8,R9,S0,S1,S2,S3,S4,S5,S6,S7,S8,S9,T0,T1,T2,T3,T4,T5,T6,T7,T8,T9,U0,U1,U2,U3,U4,U5,U6,U7,U8,U9,V0,V1,V2,V3,V4,V5,V6,V7,V8,V9,W0,W1,W2,W3,W4,W5,W6,W7,W8,W9,X0,X1,X2,X3,X4,X5,X6,X7,X8,X9,Y0,Y1,Y2,Y3,Y4,Y5],[]⟩ s1:=by
 have HQ:=zh hQ;have HC1:=zh hc;have HNX:=zh hni;have HKX:=zh (And.intro kX0 kX1);clear hQ hc hni;refine d2e ?_;show Code.wp Tryz.prog (Code.region 30 _ true) _ _ _;have HF:Hid (∀ W,Below s1.heap.size s1 W→Below w.heap.size w W):=fun W hW => hBo.trans (hW.mono hBo.size)
 clear hBo;refine wp_region_held_drew (S:=fun w' => w'.cell? ⟨P,21,none⟩=some (.string nm)∧w'.cell? ⟨P,22,none⟩=some (.int .i64 ac)) (by kernel_rfl) (by ((repeat' apply And.intro) <;> assumption)) (fun hHeld => ?_);refine tk 0 ?_;try simp only [pz]
 refine tk 1 ?_;try simp only [pz]
 refine tk 2 ?_;try simp only [pz]
 refine tk 3 ?_;try simp only [pz]
 refine tk 4 ?_;try simp only [pz]
 refine tk 5 ?_;try simp only [pz]
 refine tk 6 ?_;try simp only [pz]
 refine tk 7 ?_;try simp only [pz]
 refine rd1 8 (by kernel_rfl) rfl fun K hK => ?_
 go_simp
 (go_at_call 9;refine (HC1.out _ (by repeat (with_reducible apply Below.drew);exact Below.refl _ _)).mono ?_;rintro e x1 ⟨⟨u5,v5,rfl,hn5,ha5⟩,hbx⟩;obtain ⟨b5,c5,rfl,_⟩:=hn5.slice;obtain ⟨b6,c6,rfl,_⟩:=ha5.slice;have HN5:=zh hn5;have HA5:=zh ha5;clear hn5 ha5;have hTx:Below s1.heap.size s1 x1:=bHb hbx;obtain ⟨hcx,hfx⟩:=a0k hTx)
 try (go_wp2_with fail)
 refine sKo hK (fun hHeld => ?_);clear hK K;try simp only [pz]
 refine tk 9 ?_;try simp only [pz]
 refine tk 10 ?_;try simp only [pz]
 refine wpAnyH_ready (rs:=[11,12]) (by kernel_rfl) (by simp) ?_;refine AllReadyH.cons rfl (fun K hK => ?_) (AllReadyH.cons rfl (fun K hK => ?_) AllReadyH.nil)
 focus
  go_simp;try (go_wp2_with fail)
  refine sKo hK (fun hHeld => ?_);clear hK K;try simp only [pz]
  refine rd1 12 (by kernel_rfl) rfl fun K hK => ?_
  go_simp;try (go_wp2_with fail)
  refine sKo hK (fun hHeld => ?_);clear hK K;try simp only [pz]
 rotate_left 1
 focus
  go_simp;try (go_wp2_with fail)
  refine sKo hK (fun hHeld => ?_);clear hK K;try simp only [pz]
  refine rd1 11 (by kernel_rfl) rfl fun K hK => ?_
  go_simp;try (go_wp2_with fail)
  refine sKo hK (fun hHeld => ?_);clear hK K;try simp only [pz]
 rotate_left 1
 all_goals
  refine rd1 13 (by kernel_rfl) rfl fun K hK => ?_
  go_simp;try (go_wp2_with fail)
  refine sKo hK (fun hHeld => ?_);clear hK K;try simp only [pz]
  refine wpAnyH_done (by kernel_rfl) ?_ _
 all_goals exact HQ.out _ _ _ _ _ _ _ _ _ _ _ _ _ (d1z hTx HKX.out.1 HKX.out.2 HNX.out HN5.out HA5.out)
theorem d5i (bp:Option Addr) (q:Nat) (sv:Value) (nm:ByteArray) (ac:Int)
  (hBo:Below w.heap.size w s1) (kX0:s1.cell? ⟨X,0,none⟩=some (.slice none 0 0)) (kX1:s1.cell? ⟨X,1,none⟩=some (.slice none 0 0)) (fX0:s1.frozen? ⟨X,0,none⟩=false) (fX1:s1.frozen? ⟨X,1,none⟩=false) (zX:X < s1.heap.size) (hni:NoInt s1 X)
  (p21:s1.cell? ⟨P,21,none⟩=some (.string nm)) (p22:s1.cell? ⟨P,22,none⟩=some (.int .i64 ac)) (hw:IntKind.i64.wrap ((tp:Int) - ac)=(q:Int)) (hsv:∀ W',Sem.run Tryz.prog (Instr.slice 24 (.slice bp tp cp) (some (.int .i64 (q:Int))) none none) W'=.ok sv W') (zP1:P < s1.heap.size) (hXP:X≠P)
  (hc:∀ W,Below s1.heap.size s1 W→Calls Tryz.prog 10 #[.string nm,sv] W (d1w R W))
  (hQ:∀ (R6 R7 R8 R9 S0 S1 S2 S3 S4 S5 S6 S7:Value) (w':World),PutRel s1 X R (.int .i64 R.2.2) w'→Q .normal ⟨#[A0,A1,A2,(.slice bp tp cp),A4,(.pointer (some ⟨P,0,none⟩)),(.int .i64 (tp:Int)),A7,(.pointer (some ⟨X,0,none⟩)),A9,(.int .i64 R.2.2),B1,B2,B3,B4,B5,B6,B7,B8,B9,C0,C1,C2,C3,C4,C5,C6,C7,C8,C9,D0,D1,D2,D3,D4,D5,D6,D7,D8,D9,E0,E1,E2,E3,E4,E5,E6,E7,E8,E9,F0,F1,F2,F3,F4,F5,F6,F7,F8,F9,G0,G1,G2,G3,G4,G5,G6,G7,G8,G9,H0,H1,H2,H3,H4,H5,H6,H7,H8,H9,I0,I1,I2,I3,I4,I5,I6,I7,I8,I9,J0,J1,J2,J3,J4,J5,J6,J7,J8,J9,K0,K1,K2,K3,K4,K5,K6,K7,K8,K9,L0,L1,L2,L3,L4,L5,L6,L7,L8,L9,M0,M1,M2,M3,M4,M5,M6,M7,M8,M9,N0,N1,N2,N3,N4,N5,N6,N7,N8,N9,O0,O1,O2,O3,O4,O5,O6,O7,O8,O9,P0,P1,P2,P3,P4,P5,P6,P7,P8,P9,Q0,Q1,Q2,Q3,Q4,Q5,Q6,Q7,Q8,Q9,R0,R1,R2,R3,R4,R5,R6,R7,R8,R9,S0,S1,S2,S3,S4,S5,S6,S7,S8,S9,T0,T1,T2,T3,T4,T5,T6,T7,T8,T9,U0,U1,U2,U3,U4,U5,U6,U7,U8,U9,V0,V1,V2,V3,V4,V5,V6,V7,V8,V9,W0,W1,W2,W3,W4,W5,W6,W7,W8,W9,X0,X1,X2,X3,X4,X5,X6,X7,X8,X9,Y0,Y1,Y2,Y3,Y4,Y5],[]⟩ w') :
  Code.wp Tryz.prog (rgC 31) Q ⟨#[A0,A1,A2,(.slice bp tp cp),A4,(.pointer (some ⟨P,0,none⟩)),(.int .i64 (tp:Int)),A7,(.pointer (some ⟨X,0,none⟩)),A9,B0,B1,B2,B3,B4,B5,B6,B7,B8,B9,C0,C1,C2,C3,C4,C5,C6,C7,C8,C9,D0,D1,D2,D3,D4,D5,D6,D7,D8,D9,E0,E1,E2,E3,E4,E5,E6,E7,E8,E9,F0,F1,F2,F3,F4,F5,F6,F7,F8,F9,G0,G1,G2,G3,G4,G5,G6,G7,G8,G9,H0,H1,H2,H3,H4,H5,H6,H7,H8,H9,I0,I1,I2,I3,I4,I5,I6,I7,I8,I9,J0,J1,J2,J3,J4,J5,J6,J7,J8,J9,K0,K1,K2,K3,K4,K5,K6,K7,K8,K9,L0,L1,L2,L3,L4,L5,L6,L7,L8,L9,M0,M1,M2,M3,M4,M5,M6,M7,M8,M9,N0,N1,N2,N3,N4,N5,N6,N7,N8,N9,O0,O1,O2,O3,O4,O5,O6,O7,O8,O9,P0,P1,P2,P3,P4,P5,P6,P7,P8,P9,Q0,Q1,Q2,Q3,Q4,Q5,Q6,Q7,Q8,Q9,R0,R1,R2,R3,R4,R5,R6,R7,R8,R9,S0,S1,S2,S3,S4,S5,S6,S7,S8,S9,T0,T1,T2,T3,T4,T5,T6,T7,T8,T9,U0,U1,U2,U3,U4,U5,U6,U7,U8,U9,V0,V1,V2,V3,V4,V5,V6,V7,V8,V9,W0,W1,W2,W3,W4,W5,W6,W7,W8,W9,X0,X1,X2,X3,X4,X5,X6,X7,X8,X9,Y0,Y1,Y2,Y3,Y4,Y5],[]⟩ s1:=by
 have HQ:=zh hQ;have HC1:=zh hc;have HNX:=zh hni;have HKX:=zh (And.intro kX0 kX1);clear hQ hc hni;refine d2e ?_;show Code.wp Tryz.prog (Code.region 31 _ true) _ _ _;have HF:Hid (∀ W,Below s1.heap.size s1 W→Below w.heap.size w W):=fun W hW => hBo.trans (hW.mono hBo.size)
 clear hBo;refine wp_region_held_drew (S:=fun w' => w'.cell? ⟨P,21,none⟩=some (.string nm)∧w'.cell? ⟨P,22,none⟩=some (.int .i64 ac)) (by kernel_rfl) (by ((repeat' apply And.intro) <;> assumption)) (fun hHeld => ?_);refine tk 0 ?_;try simp only [pz]
 refine tk 1 ?_;try simp only [pz]
 refine tk 2 ?_;try simp only [pz]
 refine tk 3 ?_;try simp only [pz]
 refine tk 4 ?_;try simp only [pz]
 refine tk 5 ?_;try simp only [pz]
 refine tk 6 ?_;try simp only [pz]
 refine tk 7 ?_;try simp only [pz]
 refine rd1 8 (by kernel_rfl) rfl fun K hK => ?_
 go_simp
 (go_at_call 10;refine (HC1.out _ (by repeat (with_reducible apply Below.drew);exact Below.refl _ _)).mono ?_;rintro e x2 ⟨⟨u5,v5,rfl,hn5,ha5⟩,hbx⟩;obtain ⟨b5,c5,rfl,_⟩:=hn5.slice;obtain ⟨b6,c6,rfl,_⟩:=ha5.slice;have HN5:=zh hn5;have HA5:=zh ha5;clear hn5 ha5;have hTx:Below s1.heap.size s1 x2:=bHb hbx;obtain ⟨hcx,hfx⟩:=a0k hTx)
 try (go_wp2_with fail)
 refine sKo hK (fun hHeld => ?_);clear hK K;try simp only [pz]
 refine tk 9 ?_;try simp only [pz]
 refine tk 10 ?_;try simp only [pz]
 refine wpAnyH_ready (rs:=[11,12]) (by kernel_rfl) (by simp) ?_;refine AllReadyH.cons rfl (fun K hK => ?_) (AllReadyH.cons rfl (fun K hK => ?_) AllReadyH.nil)
 focus
  go_simp;try (go_wp2_with fail)
  refine sKo hK (fun hHeld => ?_);clear hK K;try simp only [pz]
  refine rd1 12 (by kernel_rfl) rfl fun K hK => ?_
  go_simp;try (go_wp2_with fail)
  refine sKo hK (fun hHeld => ?_);clear hK K;try simp only [pz]
 rotate_left 1
 focus
  go_simp;try (go_wp2_with fail)
  refine sKo hK (fun hHeld => ?_);clear hK K;try simp only [pz]
  refine rd1 11 (by kernel_rfl) rfl fun K hK => ?_
  go_simp;try (go_wp2_with fail)
  refine sKo hK (fun hHeld => ?_);clear hK K;try simp only [pz]
 rotate_left 1
 all_goals
  refine rd1 13 (by kernel_rfl) rfl fun K hK => ?_
  go_simp;try (go_wp2_with fail)
  refine sKo hK (fun hHeld => ?_);clear hK K;try simp only [pz]
  refine wpAnyH_done (by kernel_rfl) ?_ _
 all_goals exact HQ.out _ _ _ _ _ _ _ _ _ _ _ _ _ (d1z hTx HKX.out.1 HKX.out.2 HNX.out HN5.out HA5.out)
end
end Go.Proofs.YtjfkbeanbbeloaaGreatDoor
