import Derived.Test.YtfbgmokjemmceaaGreatDoorAst37
import Derived.Deep.DrawnRows
set_option maxHeartbeats 64000000
set_option maxRecDepth 100000
namespace Go.Proofs.YtfbgmokjemmceaaGreatDoor
open Go.RowKit Go.Shelf
set_option linter.unusedSimpArgs false
set_option linter.unusedVariables false
attribute [local go_sem ↓] Go.wp_at_zero Go.wp_at_succ
theorem b6x (N:List Nd) (A:List Int):sameB N N A A=true:=by unfold sameB;rw [b3x rfl,decide_eq_true rfl];rfl
theorem b9p (N:List Nd) (A:List Int) (i:Int) (hl:A.length≤1000):(a5e N A i).length≤1000:=by
 unfold a5e
 split
 ·
  exact a3i _ hl
 ·
  simp
theorem b4d (hk:∀ w,NamesAt w→Calls Tryz.prog 7 #[] w fun e w' => e=.returned (.bool true)∧Below w.heap.size w w')
  (u v u2 v2:Value) (N M:List Nd) (A B:List Int) (i:Int) (w:World) (hN:NodesAt w u N) (hA:IntsAt w v A) (hM:NodesAt w u2 M) (hB:IntsAt w v2 B) (hnm:NamesAt w) :
  Calls Tryz.prog 3 #[.agg #[u,v],.agg #[u2,v2],.int .i64 i] w fun e w' => e=.returned (.bool true)∧Below w.heap.size w w':=by
 have hud:undef=Value.tuple #[]:=rfl;obtain ⟨K19,hz19,HK19⟩:=a0q;have HKN:=Lib.hid hk;have HNM:=Lib.hid hnm;have hNC:=Lib.hid hN;have HA:=Lib.hid hA;have HM:=Lib.hid hM;have HB:=Lib.hid hB;obtain ⟨bn,cn,rfl,hN2⟩:=hN.slice;have hl1:=fun w hN hA => b1y (.slice bn N.length cn) v N A w hN hA
 have hl2:=fun w hM hB => b1y u2 v2 M B w hM hB
 clear hk hnm
 cases hx:litB N A with
 | false =>
  rw [hx] at hl1;have HL1:=Lib.hid hl1;clear hl1 hl2 hx hN hA hM hB hN2;generalize N.length=L at *;go_enter Tryz.func3,Tryz.ntmps3
  go_upto_region 1 with (fail)
  obtain ⟨s1,hws⟩:∃ s,s=((w.alloc (.cells #[.slice bn L cn,v] 25)).alloc (.cells #[u2,v2] 25)):=⟨_,rfl⟩;have hBs:=bs2 (Below.refl w.heap.size w) hws;obtain ⟨F,hdF⟩:∃ b,b=w.heap.size:=⟨_,rfl⟩;obtain ⟨G,hdG⟩:∃ b,b=w.heap.size+1:=⟨_,rfl⟩;have hsz:s1.heap.size=w.heap.size+1+1:=by rw [hws];simp
  have hN:=bx1 (b:=F) hws hdF;have kF0:=hN 0 _ rfl;have kF1:=hN 1 _ rfl;clear hN;have zF:F < s1.heap.size:=by omega
  have lF:w.heap.size≤F:=by omega
  have hN:=bx0 (b:=G) hws (by simp [hdG]);have kG0:=hN 0 _ rfl;have kG1:=hN 1 _ rfl;clear hN;have zG:G < s1.heap.size:=by omega
  have lG:w.heap.size≤G:=by omega
  rw [← hws];try rw [← hdG]
  try rw [← hdF]
  clear hws hsz hdF hdG;have hBo:=hBs;clear hBs;go_wp2_with fail;refine (HL1.out _ (hNC.out.below hBo) (HA.out.below hBo)).mono ?_;rintro e w5 ⟨rfl,hb⟩;replace kF0:=a0f hb kF0 zF;replace kF1:=a0f hb kF1 zF;replace zF:=zHl hb zF;replace kG0:=a0f hb kG0 zG;replace kG1:=a0f hb kG1 zG;replace zG:=zHl hb zG;replace hBo:=hBo.trans (hb.mono hBo.size);clear hb;go_wp2_with fail;go_wp2_with fail;refine (HKN.out _ (HNM.out.below hBo)).mono ?_;rintro e w7 ⟨rfl,hb⟩;replace kF0:=a0f hb kF0 zF;replace kF1:=a0f hb kF1 zF;replace zF:=zHl hb zF;replace kG0:=a0f hb kG0 zG;replace kG1:=a0f hb kG1 zG;replace zG:=zHl hb zG;replace hBo:=hBo.trans (hb.mono hBo.size);clear hb;go_wp2_with fail
  go_ret
  exact ⟨rfl,hBo⟩
 | true =>
  rw [hx] at hl1;have HL1:=Lib.hid hl1
  cases hy:litB M B with
  | false =>
   rw [hy] at hl2;have HL2:=Lib.hid hl2;clear hl1 hl2 hx hy hN hA hM hB hN2;generalize N.length=L at *;go_enter Tryz.func3,Tryz.ntmps3
   go_upto_region 1 with (fail)
   obtain ⟨s2,hws⟩:∃ s,s=((w.alloc (.cells #[.slice bn L cn,v] 25)).alloc (.cells #[u2,v2] 25)):=⟨_,rfl⟩;have hBs:=bs2 (Below.refl w.heap.size w) hws;obtain ⟨F,hdF⟩:∃ b,b=w.heap.size:=⟨_,rfl⟩;obtain ⟨G,hdG⟩:∃ b,b=w.heap.size+1:=⟨_,rfl⟩;have hsz:s2.heap.size=w.heap.size+1+1:=by rw [hws];simp
   have hN:=bx1 (b:=F) hws hdF;have kF0:=hN 0 _ rfl;have kF1:=hN 1 _ rfl;clear hN;have zF:F < s2.heap.size:=by omega
   have lF:w.heap.size≤F:=by omega
   have hN:=bx0 (b:=G) hws (by simp [hdG]);have kG0:=hN 0 _ rfl;have kG1:=hN 1 _ rfl;clear hN;have zG:G < s2.heap.size:=by omega
   have lG:w.heap.size≤G:=by omega
   rw [← hws];try rw [← hdG]
   try rw [← hdF]
   clear hws hsz hdF hdG;have hBo:=hBs;clear hBs;go_wp2_with fail;refine (HL1.out _ (hNC.out.below hBo) (HA.out.below hBo)).mono ?_;rintro e w5 ⟨rfl,hb⟩;replace kF0:=a0f hb kF0 zF;replace kF1:=a0f hb kF1 zF;replace zF:=zHl hb zF;replace kG0:=a0f hb kG0 zG;replace kG1:=a0f hb kG1 zG;replace zG:=zHl hb zG;replace hBo:=hBo.trans (hb.mono hBo.size);clear hb;go_wp2_with fail;refine (HL2.out _ (HM.out.below hBo) (HB.out.below hBo)).mono ?_;rintro e w6 ⟨rfl,hb⟩;replace kF0:=a0f hb kF0 zF;replace kF1:=a0f hb kF1 zF;replace zF:=zHl hb zF;replace kG0:=a0f hb kG0 zG;replace kG1:=a0f hb kG1 zG;replace zG:=zHl hb zG;replace hBo:=hBo.trans (hb.mono hBo.size);clear hb;go_wp2_with fail;refine (HKN.out _ (HNM.out.below hBo)).mono ?_;rintro e w7 ⟨rfl,hb⟩;replace kF0:=a0f hb kF0 zF;replace kF1:=a0f hb kF1 zF;replace zF:=zHl hb zF;replace kG0:=a0f hb kG0 zG;replace kG1:=a0f hb kG1 zG;replace zG:=zHl hb zG;replace hBo:=hBo.trans (hb.mono hBo.size);clear hb;go_wp2_with fail
   go_ret
   exact ⟨rfl,hBo⟩
  | true =>
   rw [hy] at hl2;have HL2:=Lib.hid hl2;obtain ⟨n1,n2,n3⟩:=b9o hx;obtain ⟨m1,m2,m3⟩:=b9o hy;have HNN:=Lib.hid hN2;have hla:A.length≤1000:=by omega
   have hln:N.length≤1000:=by omega
   have hlm:M.length≤1000:=by omega
   have hlb:B.length≤1000:=by omega
   have HR1:=Lib.hid (fun w hN hA hnm => a3y (.slice bn N.length cn) v N A w hN hA n3 hnm hla hln);have HR2:=Lib.hid (fun w hN hA => a3t (.slice bn N.length cn) v N A w hN hA n3 hla hln);have HK1:=Lib.hid (fun w hN hA hnm => b9n (.slice bn N.length cn) v N A i w hN hA n3 hnm hla hln);have HK2:=Lib.hid (fun w hN hA => a9v (.slice bn N.length cn) v N A i w hN hA n3 hla hln);have hkl:=b9p N A i hla;have hi':=fun u v w hu hv => b3z u v (a5e N A i) (a5e N A i) w hu hv hkl hkl
   rw [decide_eq_true rfl] at hi';have HI:=Lib.hid hi';have HE1:=Lib.hid (fun w hN hA hnm => b9l (.slice bn N.length cn) v N A w hN hA n3 hnm hla hln);have HE2:=Lib.hid (fun w hN hA => b3w (.slice bn N.length cn) v N A w hN hA n3 hla hln);have HS1:=Lib.hid (fun w hN hA hM hB => b1u (.slice bn N.length cn) v u2 v2 N M A B w hN hA hM hB hln hla hlm hlb);have HS2:=Lib.hid (fun w hN hA hM hB => b4c (.slice bn N.length cn) v u2 v2 N M A B w hN hA hM hB hln hla hlm hlb);have hs3:=fun w hN hA hM hB => b1u (.slice bn N.length cn) v (.slice bn N.length cn) v N N A A w hN hA hM hB hln hla hln hla
   rw [b6x] at hs3;have HS3:=Lib.hid hs3;have HGE:Hid (∀ k,k < N.length→∃ n,N[k]?=some n):=fun k h => ⟨_,List.getElem?_eq_getElem h⟩
   clear hl1 hl2 hx hy hN hA hM hB hN2 hi' hs3 hkl n1 n2 n3 m1 m2 m3 hla hlm hlb;generalize a0w N A=b1 at *;generalize a8t N A=b2 at *;generalize sameB N M A B=b3 at *;generalize N.length=L at *;by_cases h0:0≤i
   ·
    by_cases h1:i < L
    ·
     obtain ⟨j,rfl⟩:∃ j:Nat,i=j:=⟨i.toNat,by omega⟩;have hjL:j < L:=by omega
     obtain ⟨n,hn⟩:=HGE.out j hjL;obtain ⟨gn,on,rfl,hcn⟩:=HNN.out j n hn;have HCN:=Lib.hid hcn;have HLV1:=Lib.hid (fun w => a1z n w);have HLV2:=Lib.hid (fun w => a3w n w);generalize lvI n.k n.o=lv at *;clear hcn hn;go_enter Tryz.func3,Tryz.ntmps3
     go_upto_region 1 with (fail)
     obtain ⟨s3,hws⟩:∃ s,s=((w.alloc (.cells #[.slice (some ⟨gn,on,none⟩) L cn,v] 25)).alloc (.cells #[u2,v2] 25)):=⟨_,rfl⟩;have hBs:=bs2 (Below.refl w.heap.size w) hws;obtain ⟨F,hdF⟩:∃ b,b=w.heap.size:=⟨_,rfl⟩;obtain ⟨G,hdG⟩:∃ b,b=w.heap.size+1:=⟨_,rfl⟩;have hsz:s3.heap.size=w.heap.size+1+1:=by rw [hws];simp
     have hN:=bx1 (b:=F) hws hdF;have kF0:=hN 0 _ rfl;have kF1:=hN 1 _ rfl;clear hN;have zF:F < s3.heap.size:=by omega
     have lF:w.heap.size≤F:=by omega
     have hN:=bx0 (b:=G) hws (by simp [hdG]);have kG0:=hN 0 _ rfl;have kG1:=hN 1 _ rfl;clear hN;have zG:G < s3.heap.size:=by omega
     have lG:w.heap.size≤G:=by omega
     rw [← hws];try rw [← hdG]
     try rw [← hdF]
     clear hws hsz hdF hdG;have hBo:=hBs;clear hBs;go_wp2_with fail;refine (HL1.out _ (hNC.out.below hBo) (HA.out.below hBo)).mono ?_;rintro e w5 ⟨rfl,hb⟩;replace kF0:=a0f hb kF0 zF;replace kF1:=a0f hb kF1 zF;replace zF:=zHl hb zF;replace kG0:=a0f hb kG0 zG;replace kG1:=a0f hb kG1 zG;replace zG:=zHl hb zG;replace hBo:=hBo.trans (hb.mono hBo.size);clear hb;go_wp2_with fail;refine (HL2.out _ (HM.out.below hBo) (HB.out.below hBo)).mono ?_;rintro e w6 ⟨rfl,hb⟩;replace kF0:=a0f hb kF0 zF;replace kF1:=a0f hb kF1 zF;replace zF:=zHl hb zF;replace kG0:=a0f hb kG0 zG;replace kG1:=a0f hb kG1 zG;replace zG:=zHl hb zG;replace hBo:=hBo.trans (hb.mono hBo.size);clear hb
     have LN:∀ o,Sem.run Tryz.prog (loadCellsFrom ⟨gn,on+j * K19,none⟩ 0 K19 #[]) (w6.alloc o)=.ok #[.int .i64 n.k,.int .i64 n.o,.int .i64 n.a,.int .i64 n.b,.bool n.qn,.string n.qa,.string n.qd,.string n.s,.bool n.tr,.string n.r.sh,.int .i64 n.r.c,.int .i64 n.r.r,.bool n.r.fc,.bool n.r.fr,.string n.t.sh,.int .i64 n.t.c,.int .i64 n.t.r,.bool n.t.fc,.bool n.t.fr] (w6.alloc o):=fun o =>
      a0p (w6.alloc o) gn (on+j * K19) HK19 n (fun i u hu => by rw [HK19.out];exact a0b (a0f hBo (HCN.out i u hu) (a0j (HCN.out i u hu))))
     go_upto_region 6 with (refine a0c rfl _ _ rfl rfl _ _ _ rfl rfl rfl (by rfl) (by rfl) (by rfl) ?_)
     obtain ⟨s4,hws⟩:∃ s,s=(w6.alloc (.cells #[.int .i64 n.k,.int .i64 n.o,.int .i64 n.a,.int .i64 n.b,.bool n.qn,.string n.qa,.string n.qd,.string n.s,.bool n.tr,.string n.r.sh,.int .i64 n.r.c,.int .i64 n.r.r,.bool n.r.fc,.bool n.r.fr,.string n.t.sh,.int .i64 n.t.c,.int .i64 n.t.r,.bool n.t.fc,.bool n.t.fr] 33)):=⟨_,rfl⟩;have hBs:=bs1 hBo hws;obtain ⟨X,hdX⟩:∃ b,b=w6.heap.size:=⟨_,rfl⟩;have hsz:s4.heap.size=w6.heap.size+1:=by rw [hws];simp
     have hQC:∀ p v,w6.cell? p=some v→s4.cell? p=some v:=fun p v h => by rw [hws];exact (alK h)
     have hQZ:∀ b,b < w6.heap.size→b < s4.heap.size:=fun b h => by omega
     replace kF0:=hQC _ _ kF0;replace kF1:=hQC _ _ kF1;replace zF:=hQZ _ zF;replace kG0:=hQC _ _ kG0;replace kG1:=hQC _ _ kG1;replace zG:=hQZ _ zG;clear hQC hQZ;have yX:=by0 (b:=X) hws hdX;have zX:X < s4.heap.size:=by omega
     have lX:w.heap.size≤X:=by have:=hBo.size;omega
     have LX:=eqL (P:=Tryz.prog) HK19 rfl yX;rw [← hws];try rw [← hdX]
     clear hBo;clear hws hsz hdX;have hBo:=hBs;clear hBs;clear LN;have hTx:Below s4.heap.size s4 (World.drew s4):=(Below.refl _ _).drew;have HF:Hid (∀ W,Below s4.heap.size s4 W→Below w.heap.size w W):=fun W hW => hBo.trans (hW.mono hBo.size)
     clear hBo;refine wrp (S:=fun w' => w'.cell? ⟨F,0,none⟩=some (.slice (some ⟨gn,on,none⟩) L cn)∧w'.cell? ⟨F,1,none⟩=some (v)∧w'.cell? ⟨G,0,none⟩=some (u2)∧w'.cell? ⟨G,1,none⟩=some (v2)∧(∀ j,w'.cell? ⟨X,j,none⟩=([.int .i64 n.k,.int .i64 n.o,.int .i64 n.a,.int .i64 n.b,.bool n.qn,.string n.qa,.string n.qd,.string n.s,.bool n.tr,.string n.r.sh,.int .i64 n.r.c,.int .i64 n.r.r,.bool n.r.fc,.bool n.r.fr,.string n.t.sh,.int .i64 n.t.c,.int .i64 n.t.r,.bool n.t.fc,.bool n.t.fr]:List Value)[j]?)∧Sem.run Tryz.prog (loadCellsFrom ⟨X,0,none⟩ 0 K19 #[]) w'=.ok #[.int .i64 n.k,.int .i64 n.o,.int .i64 n.a,.int .i64 n.b,.bool n.qn,.string n.qa,.string n.qd,.string n.s,.bool n.tr,.string n.r.sh,.int .i64 n.r.c,.int .i64 n.r.r,.bool n.r.fc,.bool n.r.fr,.string n.t.sh,.int .i64 n.t.c,.int .i64 n.t.r,.bool n.t.fc,.bool n.t.fr] w') (by kernel_rfl) (fun w' hx => by obtain ⟨hcx,hfx⟩:=a0k hx;((try dsimp only);((repeat' apply And.intro) <;> first | assumption | exact yX | exact eqL HK19 rfl (yX) | exact fun j => (hcx X j (by assumption)).trans (yX j) | exact eqL HK19 rfl (fun j => (hcx X j (by assumption)).trans (yX j)) | exact eqS yX (by dsimp only;omega) | exact eqL HK19 rfl (eqS yX (by dsimp only;omega)) | exact eqS (fun j => (hcx X j (by assumption)).trans (yX j)) (by dsimp only;omega) | exact eqL HK19 rfl (eqS (fun j => (hcx X j (by assumption)).trans (yX j)) (by dsimp only;omega)) | ((repeat (with_reducible first | apply a0b | apply a0x | refine a0e ?_ (by (try dsimp only);omega))) <;> first | assumption | (rw [hcx _ _ (by assumption)];assumption))))) (fun HKP hHeld => ?_)
     refine tk 0 ?_;try simp only [pz]
     refine tk 2 ?_;try simp only [pz]
     refine rd1 1 (by kernel_rfl) rfl fun K hK => ?_
     go_simp
     (go_at_call 8;refine (HR1.out _ (hNC.out.below (HF.out _ hTx)) (HA.out.below (HF.out _ hTx)) (HNM.out.below (HF.out _ hTx))).mono ?_;rintro e x5 ⟨rfl,hbx⟩;have hTx:Below s4.heap.size s4 x5:=bHb hbx;obtain ⟨hcx,hfx⟩:=a0k hTx)
     try (go_wp2_with fail)
     refine hK.out _ _ (kHp HKP) (fun hHeld => ?_);clear hK K;try simp only [pz]
     refine rd1 3 (by kernel_rfl) rfl fun K hK => ?_
     go_simp
     (go_at_call 9;refine (HR2.out _ (hNC.out.below (HF.out _ hTx)) (HA.out.below (HF.out _ hTx))).mono ?_;rintro e x5 ⟨rfl,hbx⟩;have hTx:Below s4.heap.size s4 x5:=bHb hbx;obtain ⟨hcx,hfx⟩:=a0k hTx)
     try (go_wp2_with fail)
     refine hK.out _ _ (kHp HKP) (fun hHeld => ?_);clear hK K;try simp only [pz]
     refine tk 4 ?_;try simp only [pz]
     refine tk 5 ?_;try simp only [pz]
     refine tk 6 ?_;try simp only [pz]
     refine tk 7 ?_;try simp only [pz]
     refine tk 9 ?_;try simp only [pz]
     refine tk 10 ?_;try simp only [pz]
     refine rd1 8 (by kernel_rfl) rfl fun K hK => ?_
     go_simp
     (go_at_call 11;refine (HK1.out _ (hNC.out.below (HF.out _ hTx)) (HA.out.below (HF.out _ hTx)) (HNM.out.below (HF.out _ hTx))).mono ?_;rintro e x5 ⟨⟨r1,rfl,hr1⟩,hbx⟩;have hTx:Below s4.heap.size s4 x5:=bHb hbx;obtain ⟨hcx,hfx⟩:=a0k hTx)
     try (go_wp2_with fail)
     refine hK.out _ _ (kHp HKP) (fun hHeld => ?_);clear hK K;try simp only [pz]
     refine rd1 11 (by kernel_rfl) rfl fun K hK => ?_
     go_simp
     (go_at_call 12;refine (HK2.out _ (hNC.out.below (HF.out _ hTx)) (HA.out.below (HF.out _ hTx))).mono ?_;rintro e x5 ⟨⟨r2,rfl,hr2⟩,hbx⟩;replace hr1:=hr1.below hbx;have hTx:Below s4.heap.size s4 x5:=bHb hbx;obtain ⟨hcx,hfx⟩:=a0k hTx)
     try (go_wp2_with fail)
     refine hK.out _ _ (kHp HKP) (fun hHeld => ?_);clear hK K;try simp only [pz]
     refine rd1 12 (by kernel_rfl) rfl fun K hK => ?_
     go_simp
     (go_at_call 10;refine (HI.out _ _ _ hr1 hr2).mono ?_;rintro e x5 ⟨rfl,hbx⟩;have hTx:Below s4.heap.size s4 x5:=bHb hbx;obtain ⟨hcx,hfx⟩:=a0k hTx)
     try (go_wp2_with fail)
     refine hK.out _ _ (kHp HKP) (fun hHeld => ?_);clear hK K;try simp only [pz]
     refine tk 13 ?_;try simp only [pz]
     refine tk 14 ?_;try simp only [pz]
     refine tk 15 ?_;try simp only [pz]
     refine tk 17 ?_;try simp only [pz]
     refine rd1 16 (by kernel_rfl) rfl fun K hK => ?_
     go_simp
     (go_at_call 13;refine (HLV1.out _).mono ?_;rintro e x5 ⟨rfl,hbx⟩;have hTx:Below s4.heap.size s4 x5:=bHb hbx;obtain ⟨hcx,hfx⟩:=a0k hTx)
     try (go_wp2_with fail)
     refine hK.out _ _ (kHp HKP) (fun hHeld => ?_);clear hK K;try simp only [pz]
     refine rd1 18 (by kernel_rfl) rfl fun K hK => ?_
     go_simp
     (go_at_call 14;refine (HLV2.out _).mono ?_;rintro e x5 ⟨rfl,hbx⟩;have hTx:Below s4.heap.size s4 x5:=bHb hbx;obtain ⟨hcx,hfx⟩:=a0k hTx)
     try (go_wp2_with fail)
     refine hK.out _ _ (kHp HKP) (fun hHeld => ?_);clear hK K;try simp only [pz]
     refine tk 19 ?_;try simp only [pz]
     refine tk 20 ?_;try simp only [pz]
     refine tk 21 ?_;try simp only [pz]
     refine tk 22 ?_;try simp only [pz]
     refine tk 24 ?_;try simp only [pz]
     refine rd1 23 (by kernel_rfl) rfl fun K hK => ?_
     go_simp
     (go_at_call 15;refine (HE1.out _ (hNC.out.below (HF.out _ hTx)) (HA.out.below (HF.out _ hTx)) (HNM.out.below (HF.out _ hTx))).mono ?_;rintro e x5 ⟨rfl,hbx⟩;have hTx:Below s4.heap.size s4 x5:=bHb hbx;obtain ⟨hcx,hfx⟩:=a0k hTx)
     try (go_wp2_with fail)
     refine hK.out _ _ (kHp HKP) (fun hHeld => ?_);clear hK K;try simp only [pz]
     refine rd1 25 (by kernel_rfl) rfl fun K hK => ?_
     go_simp
     (go_at_call 16;refine (HE2.out _ (hNC.out.below (HF.out _ hTx)) (HA.out.below (HF.out _ hTx))).mono ?_;rintro e x5 ⟨rfl,hbx⟩;have hTx:Below s4.heap.size s4 x5:=bHb hbx;obtain ⟨hcx,hfx⟩:=a0k hTx)
     try (go_wp2_with fail)
     refine hK.out _ _ (kHp HKP) (fun hHeld => ?_);clear hK K;try simp only [pz]
     refine tk 26 ?_;try simp only [pz]
     refine tk 27 ?_;try simp only [pz]
     refine tk 28 ?_;try simp only [pz]
     refine tk 29 ?_;try simp only [pz]
     refine tk 30 ?_;try simp only [pz]
     refine tk 32 ?_;try simp only [pz]
     refine tk 33 ?_;try simp only [pz]
     refine rd1 31 (by kernel_rfl) rfl fun K hK => ?_
     go_simp
     (go_at_call 17;refine (HS1.out _ (hNC.out.below (HF.out _ hTx)) (HA.out.below (HF.out _ hTx)) (HM.out.below (HF.out _ hTx)) (HB.out.below (HF.out _ hTx))).mono ?_;rintro e x5 ⟨rfl,hbx⟩;have hTx:Below s4.heap.size s4 x5:=bHb hbx;obtain ⟨hcx,hfx⟩:=a0k hTx)
     try (go_wp2_with fail)
     refine hK.out _ _ (kHp HKP) (fun hHeld => ?_);clear hK K;try simp only [pz]
     refine rd1 34 (by kernel_rfl) rfl fun K hK => ?_
     go_simp
     (go_at_call 18;refine (HS2.out _ (hNC.out.below (HF.out _ hTx)) (HA.out.below (HF.out _ hTx)) (HM.out.below (HF.out _ hTx)) (HB.out.below (HF.out _ hTx))).mono ?_;rintro e x5 ⟨rfl,hbx⟩;have hTx:Below s4.heap.size s4 x5:=bHb hbx;obtain ⟨hcx,hfx⟩:=a0k hTx)
     try (go_wp2_with fail)
     refine hK.out _ _ (kHp HKP) (fun hHeld => ?_);clear hK K;try simp only [pz]
     refine tk 35 ?_;try simp only [pz]
     refine tk 36 ?_;try simp only [pz]
     refine tk 37 ?_;try simp only [pz]
     refine tk 38 ?_;try simp only [pz]
     refine tk 39 ?_;try simp only [pz]
     refine rd1 40 (by kernel_rfl) rfl fun K hK => ?_
     go_simp
     (go_at_call 17;refine (HS3.out _ (hNC.out.below (HF.out _ hTx)) (HA.out.below (HF.out _ hTx)) (hNC.out.below (HF.out _ hTx)) (HA.out.below (HF.out _ hTx))).mono ?_;rintro e x5 ⟨rfl,hbx⟩;have hTx:Below s4.heap.size s4 x5:=bHb hbx;obtain ⟨hcx,hfx⟩:=a0k hTx)
     try (go_wp2_with fail)
     refine hK.out _ _ (kHp HKP) (fun hHeld => ?_);clear hK K;try simp only [pz]
     refine tk 41 ?_;try simp only [pz]
     refine tk 42 ?_;try simp only [pz]
     refine rd1 43 (by kernel_rfl) rfl fun K hK => ?_
     go_simp
     (go_at_call 7;refine (HKN.out _ (HNM.out.below (HF.out _ hTx))).mono ?_;rintro e x5 ⟨rfl,hbx⟩;have hTx:Below s4.heap.size s4 x5:=bHb hbx;obtain ⟨hcx,hfx⟩:=a0k hTx)
     try (go_wp2_with fail)
     refine hK.out _ _ (kHp HKP) (fun hHeld => ?_);clear hK K;try simp only [pz]
     refine tk 44 ?_;try simp only [pz]
     refine tk 45 ?_;try simp only [pz]
     refine wpAnyH_done (by kernel_rfl) ?_ _;go_wp2_with fail
     go_ret
     exact ⟨rfl,HF.out _ (by assumption)⟩
    ·
     have h1':(L:Int)≤i:=by omega
     clear h1;have HLV1:Hid (∀ w,Calls Tryz.prog 13 #[.agg #[.int .i64 0,.int .i64 0,.int .i64 0,.int .i64 0,.bool false,.string ⟨#[]⟩,.string ⟨#[]⟩,.string ⟨#[]⟩,.bool false,.string ⟨#[]⟩,.int .i64 0,.int .i64 0,.bool false,.bool false,.string ⟨#[]⟩,.int .i64 0,.int .i64 0,.bool false,.bool false]] w fun e w' => e=.returned (.int .i64 8)∧Below w.heap.size w w'):=fun w => a1z ⟨0,0,0,0,false,⟨#[]⟩,⟨#[]⟩,⟨#[]⟩,false,⟨⟨#[]⟩,0,0,false,false⟩,⟨⟨#[]⟩,0,0,false,false⟩⟩ w
     have HLV2:Hid (∀ w,Calls Tryz.prog 14 #[.agg #[.int .i64 0,.int .i64 0,.int .i64 0,.int .i64 0,.bool false,.string ⟨#[]⟩,.string ⟨#[]⟩,.string ⟨#[]⟩,.bool false,.string ⟨#[]⟩,.int .i64 0,.int .i64 0,.bool false,.bool false,.string ⟨#[]⟩,.int .i64 0,.int .i64 0,.bool false,.bool false]] w fun e w' => e=.returned (.int .i64 8)∧Below w.heap.size w w'):=fun w => a3w ⟨0,0,0,0,false,⟨#[]⟩,⟨#[]⟩,⟨#[]⟩,false,⟨⟨#[]⟩,0,0,false,false⟩,⟨⟨#[]⟩,0,0,false,false⟩⟩ w
     go_enter Tryz.func3,Tryz.ntmps3
     go_upto_region 1 with (fail)
     obtain ⟨s6,hws⟩:∃ s,s=((w.alloc (.cells #[.slice bn L cn,v] 25)).alloc (.cells #[u2,v2] 25)):=⟨_,rfl⟩;have hBs:=bs2 (Below.refl w.heap.size w) hws;obtain ⟨F,hdF⟩:∃ b,b=w.heap.size:=⟨_,rfl⟩;obtain ⟨G,hdG⟩:∃ b,b=w.heap.size+1:=⟨_,rfl⟩;have hsz:s6.heap.size=w.heap.size+1+1:=by rw [hws];simp
     have hN:=bx1 (b:=F) hws hdF;have kF0:=hN 0 _ rfl;have kF1:=hN 1 _ rfl;clear hN;have zF:F < s6.heap.size:=by omega
     have lF:w.heap.size≤F:=by omega
     have hN:=bx0 (b:=G) hws (by simp [hdG]);have kG0:=hN 0 _ rfl;have kG1:=hN 1 _ rfl;clear hN;have zG:G < s6.heap.size:=by omega
     have lG:w.heap.size≤G:=by omega
     rw [← hws];try rw [← hdG]
     try rw [← hdF]
     clear hws hsz hdF hdG;have hBo:=hBs;clear hBs;go_wp2_with fail;refine (HL1.out _ (hNC.out.below hBo) (HA.out.below hBo)).mono ?_;rintro e w5 ⟨rfl,hb⟩;replace kF0:=a0f hb kF0 zF;replace kF1:=a0f hb kF1 zF;replace zF:=zHl hb zF;replace kG0:=a0f hb kG0 zG;replace kG1:=a0f hb kG1 zG;replace zG:=zHl hb zG;replace hBo:=hBo.trans (hb.mono hBo.size);clear hb;go_wp2_with fail;refine (HL2.out _ (HM.out.below hBo) (HB.out.below hBo)).mono ?_;rintro e w6 ⟨rfl,hb⟩;replace kF0:=a0f hb kF0 zF;replace kF1:=a0f hb kF1 zF;replace zF:=zHl hb zF;replace kG0:=a0f hb kG0 zG;replace kG1:=a0f hb kG1 zG;replace zG:=zHl hb zG;replace hBo:=hBo.trans (hb.mono hBo.size);clear hb
     go_upto_region 6 with (refine a0c rfl _ _ rfl rfl _ _ _ rfl rfl rfl (by rfl) (by rfl) (by rfl) ?_)
     obtain ⟨s7,hws⟩:∃ s,s=(w6.alloc (.cells #[.int .i64 0,.int .i64 0,.int .i64 0,.int .i64 0,.bool false,.string ⟨#[]⟩,.string ⟨#[]⟩,.string ⟨#[]⟩,.bool false,.string ⟨#[]⟩,.int .i64 0,.int .i64 0,.bool false,.bool false,.string ⟨#[]⟩,.int .i64 0,.int .i64 0,.bool false,.bool false] 33)):=⟨_,rfl⟩;have hBs:=bs1 hBo hws;obtain ⟨X,hdX⟩:∃ b,b=w6.heap.size:=⟨_,rfl⟩;have hsz:s7.heap.size=w6.heap.size+1:=by rw [hws];simp
     have hQC:∀ p v,w6.cell? p=some v→s7.cell? p=some v:=fun p v h => by rw [hws];exact (alK h)
     have hQZ:∀ b,b < w6.heap.size→b < s7.heap.size:=fun b h => by omega
     replace kF0:=hQC _ _ kF0;replace kF1:=hQC _ _ kF1;replace zF:=hQZ _ zF;replace kG0:=hQC _ _ kG0;replace kG1:=hQC _ _ kG1;replace zG:=hQZ _ zG;clear hQC hQZ;have yX:=by0 (b:=X) hws hdX;have zX:X < s7.heap.size:=by omega
     have lX:w.heap.size≤X:=by have:=hBo.size;omega
     have LX:=eqL (P:=Tryz.prog) HK19 rfl yX;rw [← hws];try rw [← hdX]
     clear hBo;clear hws hsz hdX;have hBo:=hBs;clear hBs;have hTx:Below s7.heap.size s7 (World.drew s7):=(Below.refl _ _).drew;have HF:Hid (∀ W,Below s7.heap.size s7 W→Below w.heap.size w W):=fun W hW => hBo.trans (hW.mono hBo.size)
     clear hBo;refine wrp (S:=fun w' => w'.cell? ⟨F,0,none⟩=some (.slice bn L cn)∧w'.cell? ⟨F,1,none⟩=some (v)∧w'.cell? ⟨G,0,none⟩=some (u2)∧w'.cell? ⟨G,1,none⟩=some (v2)∧(∀ j,w'.cell? ⟨X,j,none⟩=([.int .i64 0,.int .i64 0,.int .i64 0,.int .i64 0,.bool false,.string ⟨#[]⟩,.string ⟨#[]⟩,.string ⟨#[]⟩,.bool false,.string ⟨#[]⟩,.int .i64 0,.int .i64 0,.bool false,.bool false,.string ⟨#[]⟩,.int .i64 0,.int .i64 0,.bool false,.bool false]:List Value)[j]?)∧Sem.run Tryz.prog (loadCellsFrom ⟨X,0,none⟩ 0 K19 #[]) w'=.ok #[.int .i64 0,.int .i64 0,.int .i64 0,.int .i64 0,.bool false,.string ⟨#[]⟩,.string ⟨#[]⟩,.string ⟨#[]⟩,.bool false,.string ⟨#[]⟩,.int .i64 0,.int .i64 0,.bool false,.bool false,.string ⟨#[]⟩,.int .i64 0,.int .i64 0,.bool false,.bool false] w') (by kernel_rfl) (fun w' hx => by obtain ⟨hcx,hfx⟩:=a0k hx;((try dsimp only);((repeat' apply And.intro) <;> first | assumption | exact yX | exact eqL HK19 rfl (yX) | exact fun j => (hcx X j (by assumption)).trans (yX j) | exact eqL HK19 rfl (fun j => (hcx X j (by assumption)).trans (yX j)) | exact eqS yX (by dsimp only;omega) | exact eqL HK19 rfl (eqS yX (by dsimp only;omega)) | exact eqS (fun j => (hcx X j (by assumption)).trans (yX j)) (by dsimp only;omega) | exact eqL HK19 rfl (eqS (fun j => (hcx X j (by assumption)).trans (yX j)) (by dsimp only;omega)) | ((repeat (with_reducible first | apply a0b | apply a0x | refine a0e ?_ (by (try dsimp only);omega))) <;> first | assumption | (rw [hcx _ _ (by assumption)];assumption))))) (fun HKP hHeld => ?_)
     refine tk 0 ?_;try simp only [pz]
     refine tk 2 ?_;try simp only [pz]
     refine rd1 1 (by kernel_rfl) rfl fun K hK => ?_
     go_simp
     (go_at_call 8;refine (HR1.out _ (hNC.out.below (HF.out _ hTx)) (HA.out.below (HF.out _ hTx)) (HNM.out.below (HF.out _ hTx))).mono ?_;rintro e x8 ⟨rfl,hbx⟩;have hTx:Below s7.heap.size s7 x8:=bHb hbx;obtain ⟨hcx,hfx⟩:=a0k hTx)
     try (go_wp2_with fail)
     refine hK.out _ _ (kHp HKP) (fun hHeld => ?_);clear hK K;try simp only [pz]
     refine rd1 3 (by kernel_rfl) rfl fun K hK => ?_
     go_simp
     (go_at_call 9;refine (HR2.out _ (hNC.out.below (HF.out _ hTx)) (HA.out.below (HF.out _ hTx))).mono ?_;rintro e x8 ⟨rfl,hbx⟩;have hTx:Below s7.heap.size s7 x8:=bHb hbx;obtain ⟨hcx,hfx⟩:=a0k hTx)
     try (go_wp2_with fail)
     refine hK.out _ _ (kHp HKP) (fun hHeld => ?_);clear hK K;try simp only [pz]
     refine tk 4 ?_;try simp only [pz]
     refine tk 5 ?_;try simp only [pz]
     refine tk 6 ?_;try simp only [pz]
     refine tk 7 ?_;try simp only [pz]
     refine tk 9 ?_;try simp only [pz]
     refine tk 10 ?_;try simp only [pz]
     refine rd1 8 (by kernel_rfl) rfl fun K hK => ?_
     go_simp
     (go_at_call 11;refine (HK1.out _ (hNC.out.below (HF.out _ hTx)) (HA.out.below (HF.out _ hTx)) (HNM.out.below (HF.out _ hTx))).mono ?_;rintro e x8 ⟨⟨r1,rfl,hr1⟩,hbx⟩;have hTx:Below s7.heap.size s7 x8:=bHb hbx;obtain ⟨hcx,hfx⟩:=a0k hTx)
     try (go_wp2_with fail)
     refine hK.out _ _ (kHp HKP) (fun hHeld => ?_);clear hK K;try simp only [pz]
     refine rd1 11 (by kernel_rfl) rfl fun K hK => ?_
     go_simp
     (go_at_call 12;refine (HK2.out _ (hNC.out.below (HF.out _ hTx)) (HA.out.below (HF.out _ hTx))).mono ?_;rintro e x8 ⟨⟨r2,rfl,hr2⟩,hbx⟩;replace hr1:=hr1.below hbx;have hTx:Below s7.heap.size s7 x8:=bHb hbx;obtain ⟨hcx,hfx⟩:=a0k hTx)
     try (go_wp2_with fail)
     refine hK.out _ _ (kHp HKP) (fun hHeld => ?_);clear hK K;try simp only [pz]
     refine rd1 12 (by kernel_rfl) rfl fun K hK => ?_
     go_simp
     (go_at_call 10;refine (HI.out _ _ _ hr1 hr2).mono ?_;rintro e x8 ⟨rfl,hbx⟩;have hTx:Below s7.heap.size s7 x8:=bHb hbx;obtain ⟨hcx,hfx⟩:=a0k hTx)
     try (go_wp2_with fail)
     refine hK.out _ _ (kHp HKP) (fun hHeld => ?_);clear hK K;try simp only [pz]
     refine tk 13 ?_;try simp only [pz]
     refine tk 14 ?_;try simp only [pz]
     refine tk 15 ?_;try simp only [pz]
     refine tk 17 ?_;try simp only [pz]
     refine rd1 16 (by kernel_rfl) rfl fun K hK => ?_
     go_simp
     (go_at_call 13;refine (HLV1.out _).mono ?_;rintro e x8 ⟨rfl,hbx⟩;have hTx:Below s7.heap.size s7 x8:=bHb hbx;obtain ⟨hcx,hfx⟩:=a0k hTx)
     try (go_wp2_with fail)
     refine hK.out _ _ (kHp HKP) (fun hHeld => ?_);clear hK K;try simp only [pz]
     refine rd1 18 (by kernel_rfl) rfl fun K hK => ?_
     go_simp
     (go_at_call 14;refine (HLV2.out _).mono ?_;rintro e x8 ⟨rfl,hbx⟩;have hTx:Below s7.heap.size s7 x8:=bHb hbx;obtain ⟨hcx,hfx⟩:=a0k hTx)
     try (go_wp2_with fail)
     refine hK.out _ _ (kHp HKP) (fun hHeld => ?_);clear hK K;try simp only [pz]
     refine tk 19 ?_;try simp only [pz]
     refine tk 20 ?_;try simp only [pz]
     refine tk 21 ?_;try simp only [pz]
     refine tk 22 ?_;try simp only [pz]
     refine tk 24 ?_;try simp only [pz]
     refine rd1 23 (by kernel_rfl) rfl fun K hK => ?_
     go_simp
     (go_at_call 15;refine (HE1.out _ (hNC.out.below (HF.out _ hTx)) (HA.out.below (HF.out _ hTx)) (HNM.out.below (HF.out _ hTx))).mono ?_;rintro e x8 ⟨rfl,hbx⟩;have hTx:Below s7.heap.size s7 x8:=bHb hbx;obtain ⟨hcx,hfx⟩:=a0k hTx)
     try (go_wp2_with fail)
     refine hK.out _ _ (kHp HKP) (fun hHeld => ?_);clear hK K;try simp only [pz]
     refine rd1 25 (by kernel_rfl) rfl fun K hK => ?_
     go_simp
     (go_at_call 16;refine (HE2.out _ (hNC.out.below (HF.out _ hTx)) (HA.out.below (HF.out _ hTx))).mono ?_;rintro e x8 ⟨rfl,hbx⟩;have hTx:Below s7.heap.size s7 x8:=bHb hbx;obtain ⟨hcx,hfx⟩:=a0k hTx)
     try (go_wp2_with fail)
     refine hK.out _ _ (kHp HKP) (fun hHeld => ?_);clear hK K;try simp only [pz]
     refine tk 26 ?_;try simp only [pz]
     refine tk 27 ?_;try simp only [pz]
     refine tk 28 ?_;try simp only [pz]
     refine tk 29 ?_;try simp only [pz]
     refine tk 30 ?_;try simp only [pz]
     refine tk 32 ?_;try simp only [pz]
     refine tk 33 ?_;try simp only [pz]
     refine rd1 31 (by kernel_rfl) rfl fun K hK => ?_
     go_simp
     (go_at_call 17;refine (HS1.out _ (hNC.out.below (HF.out _ hTx)) (HA.out.below (HF.out _ hTx)) (HM.out.below (HF.out _ hTx)) (HB.out.below (HF.out _ hTx))).mono ?_;rintro e x8 ⟨rfl,hbx⟩;have hTx:Below s7.heap.size s7 x8:=bHb hbx;obtain ⟨hcx,hfx⟩:=a0k hTx)
     try (go_wp2_with fail)
     refine hK.out _ _ (kHp HKP) (fun hHeld => ?_);clear hK K;try simp only [pz]
     refine rd1 34 (by kernel_rfl) rfl fun K hK => ?_
     go_simp
     (go_at_call 18;refine (HS2.out _ (hNC.out.below (HF.out _ hTx)) (HA.out.below (HF.out _ hTx)) (HM.out.below (HF.out _ hTx)) (HB.out.below (HF.out _ hTx))).mono ?_;rintro e x8 ⟨rfl,hbx⟩;have hTx:Below s7.heap.size s7 x8:=bHb hbx;obtain ⟨hcx,hfx⟩:=a0k hTx)
     try (go_wp2_with fail)
     refine hK.out _ _ (kHp HKP) (fun hHeld => ?_);clear hK K;try simp only [pz]
     refine tk 35 ?_;try simp only [pz]
     refine tk 36 ?_;try simp only [pz]
     refine tk 37 ?_;try simp only [pz]
     refine tk 38 ?_;try simp only [pz]
     refine tk 39 ?_;try simp only [pz]
     refine rd1 40 (by kernel_rfl) rfl fun K hK => ?_
     go_simp
     (go_at_call 17;refine (HS3.out _ (hNC.out.below (HF.out _ hTx)) (HA.out.below (HF.out _ hTx)) (hNC.out.below (HF.out _ hTx)) (HA.out.below (HF.out _ hTx))).mono ?_;rintro e x8 ⟨rfl,hbx⟩;have hTx:Below s7.heap.size s7 x8:=bHb hbx;obtain ⟨hcx,hfx⟩:=a0k hTx)
     try (go_wp2_with fail)
     refine hK.out _ _ (kHp HKP) (fun hHeld => ?_);clear hK K;try simp only [pz]
     refine tk 41 ?_;try simp only [pz]
     refine tk 42 ?_;try simp only [pz]
     refine rd1 43 (by kernel_rfl) rfl fun K hK => ?_
     go_simp
     (go_at_call 7;refine (HKN.out _ (HNM.out.below (HF.out _ hTx))).mono ?_;rintro e x8 ⟨rfl,hbx⟩;have hTx:Below s7.heap.size s7 x8:=bHb hbx;obtain ⟨hcx,hfx⟩:=a0k hTx)
     try (go_wp2_with fail)
     refine hK.out _ _ (kHp HKP) (fun hHeld => ?_);clear hK K;try simp only [pz]
     refine tk 44 ?_;try simp only [pz]
     refine tk 45 ?_;try simp only [pz]
     refine wpAnyH_done (by kernel_rfl) ?_ _;go_wp2_with fail
     go_ret
     exact ⟨rfl,HF.out _ (by assumption)⟩
   ·
    have h0':i < 0:=by omega
    clear h0;have HLV1:Hid (∀ w,Calls Tryz.prog 13 #[.agg #[.int .i64 0,.int .i64 0,.int .i64 0,.int .i64 0,.bool false,.string ⟨#[]⟩,.string ⟨#[]⟩,.string ⟨#[]⟩,.bool false,.string ⟨#[]⟩,.int .i64 0,.int .i64 0,.bool false,.bool false,.string ⟨#[]⟩,.int .i64 0,.int .i64 0,.bool false,.bool false]] w fun e w' => e=.returned (.int .i64 8)∧Below w.heap.size w w'):=fun w => a1z ⟨0,0,0,0,false,⟨#[]⟩,⟨#[]⟩,⟨#[]⟩,false,⟨⟨#[]⟩,0,0,false,false⟩,⟨⟨#[]⟩,0,0,false,false⟩⟩ w
    have HLV2:Hid (∀ w,Calls Tryz.prog 14 #[.agg #[.int .i64 0,.int .i64 0,.int .i64 0,.int .i64 0,.bool false,.string ⟨#[]⟩,.string ⟨#[]⟩,.string ⟨#[]⟩,.bool false,.string ⟨#[]⟩,.int .i64 0,.int .i64 0,.bool false,.bool false,.string ⟨#[]⟩,.int .i64 0,.int .i64 0,.bool false,.bool false]] w fun e w' => e=.returned (.int .i64 8)∧Below w.heap.size w w'):=fun w => a3w ⟨0,0,0,0,false,⟨#[]⟩,⟨#[]⟩,⟨#[]⟩,false,⟨⟨#[]⟩,0,0,false,false⟩,⟨⟨#[]⟩,0,0,false,false⟩⟩ w
    go_enter Tryz.func3,Tryz.ntmps3
    go_upto_region 1 with (fail)
    obtain ⟨s9,hws⟩:∃ s,s=((w.alloc (.cells #[.slice bn L cn,v] 25)).alloc (.cells #[u2,v2] 25)):=⟨_,rfl⟩;have hBs:=bs2 (Below.refl w.heap.size w) hws;obtain ⟨F,hdF⟩:∃ b,b=w.heap.size:=⟨_,rfl⟩;obtain ⟨G,hdG⟩:∃ b,b=w.heap.size+1:=⟨_,rfl⟩;have hsz:s9.heap.size=w.heap.size+1+1:=by rw [hws];simp
    have hN:=bx1 (b:=F) hws hdF;have kF0:=hN 0 _ rfl;have kF1:=hN 1 _ rfl;clear hN;have zF:F < s9.heap.size:=by omega
    have lF:w.heap.size≤F:=by omega
    have hN:=bx0 (b:=G) hws (by simp [hdG]);have kG0:=hN 0 _ rfl;have kG1:=hN 1 _ rfl;clear hN;have zG:G < s9.heap.size:=by omega
    have lG:w.heap.size≤G:=by omega
    rw [← hws];try rw [← hdG]
    try rw [← hdF]
    clear hws hsz hdF hdG;have hBo:=hBs;clear hBs;go_wp2_with fail;refine (HL1.out _ (hNC.out.below hBo) (HA.out.below hBo)).mono ?_;rintro e w5 ⟨rfl,hb⟩;replace kF0:=a0f hb kF0 zF;replace kF1:=a0f hb kF1 zF;replace zF:=zHl hb zF;replace kG0:=a0f hb kG0 zG;replace kG1:=a0f hb kG1 zG;replace zG:=zHl hb zG;replace hBo:=hBo.trans (hb.mono hBo.size);clear hb;go_wp2_with fail;refine (HL2.out _ (HM.out.below hBo) (HB.out.below hBo)).mono ?_;rintro e w6 ⟨rfl,hb⟩;replace kF0:=a0f hb kF0 zF;replace kF1:=a0f hb kF1 zF;replace zF:=zHl hb zF;replace kG0:=a0f hb kG0 zG;replace kG1:=a0f hb kG1 zG;replace zG:=zHl hb zG;replace hBo:=hBo.trans (hb.mono hBo.size);clear hb
    go_upto_region 6 with (refine a0c rfl _ _ rfl rfl _ _ _ rfl rfl rfl (by rfl) (by rfl) (by rfl) ?_)
    obtain ⟨s10,hws⟩:∃ s,s=(w6.alloc (.cells #[.int .i64 0,.int .i64 0,.int .i64 0,.int .i64 0,.bool false,.string ⟨#[]⟩,.string ⟨#[]⟩,.string ⟨#[]⟩,.bool false,.string ⟨#[]⟩,.int .i64 0,.int .i64 0,.bool false,.bool false,.string ⟨#[]⟩,.int .i64 0,.int .i64 0,.bool false,.bool false] 33)):=⟨_,rfl⟩;have hBs:=bs1 hBo hws;obtain ⟨X,hdX⟩:∃ b,b=w6.heap.size:=⟨_,rfl⟩;have hsz:s10.heap.size=w6.heap.size+1:=by rw [hws];simp
    have hQC:∀ p v,w6.cell? p=some v→s10.cell? p=some v:=fun p v h => by rw [hws];exact (alK h)
    have hQZ:∀ b,b < w6.heap.size→b < s10.heap.size:=fun b h => by omega
    replace kF0:=hQC _ _ kF0;replace kF1:=hQC _ _ kF1;replace zF:=hQZ _ zF;replace kG0:=hQC _ _ kG0;replace kG1:=hQC _ _ kG1;replace zG:=hQZ _ zG;clear hQC hQZ;have yX:=by0 (b:=X) hws hdX;have zX:X < s10.heap.size:=by omega
    have lX:w.heap.size≤X:=by have:=hBo.size;omega
    have LX:=eqL (P:=Tryz.prog) HK19 rfl yX;rw [← hws];try rw [← hdX]
    clear hBo;clear hws hsz hdX;have hBo:=hBs;clear hBs;have hTx:Below s10.heap.size s10 (World.drew s10):=(Below.refl _ _).drew;have HF:Hid (∀ W,Below s10.heap.size s10 W→Below w.heap.size w W):=fun W hW => hBo.trans (hW.mono hBo.size)
    clear hBo;refine wrp (S:=fun w' => w'.cell? ⟨F,0,none⟩=some (.slice bn L cn)∧w'.cell? ⟨F,1,none⟩=some (v)∧w'.cell? ⟨G,0,none⟩=some (u2)∧w'.cell? ⟨G,1,none⟩=some (v2)∧(∀ j,w'.cell? ⟨X,j,none⟩=([.int .i64 0,.int .i64 0,.int .i64 0,.int .i64 0,.bool false,.string ⟨#[]⟩,.string ⟨#[]⟩,.string ⟨#[]⟩,.bool false,.string ⟨#[]⟩,.int .i64 0,.int .i64 0,.bool false,.bool false,.string ⟨#[]⟩,.int .i64 0,.int .i64 0,.bool false,.bool false]:List Value)[j]?)∧Sem.run Tryz.prog (loadCellsFrom ⟨X,0,none⟩ 0 K19 #[]) w'=.ok #[.int .i64 0,.int .i64 0,.int .i64 0,.int .i64 0,.bool false,.string ⟨#[]⟩,.string ⟨#[]⟩,.string ⟨#[]⟩,.bool false,.string ⟨#[]⟩,.int .i64 0,.int .i64 0,.bool false,.bool false,.string ⟨#[]⟩,.int .i64 0,.int .i64 0,.bool false,.bool false] w') (by kernel_rfl) (fun w' hx => by obtain ⟨hcx,hfx⟩:=a0k hx;((try dsimp only);((repeat' apply And.intro) <;> first | assumption | exact yX | exact eqL HK19 rfl (yX) | exact fun j => (hcx X j (by assumption)).trans (yX j) | exact eqL HK19 rfl (fun j => (hcx X j (by assumption)).trans (yX j)) | exact eqS yX (by dsimp only;omega) | exact eqL HK19 rfl (eqS yX (by dsimp only;omega)) | exact eqS (fun j => (hcx X j (by assumption)).trans (yX j)) (by dsimp only;omega) | exact eqL HK19 rfl (eqS (fun j => (hcx X j (by assumption)).trans (yX j)) (by dsimp only;omega)) | ((repeat (with_reducible first | apply a0b | apply a0x | refine a0e ?_ (by (try dsimp only);omega))) <;> first | assumption | (rw [hcx _ _ (by assumption)];assumption))))) (fun HKP hHeld => ?_)
    refine tk 0 ?_;try simp only [pz]
    refine tk 2 ?_;try simp only [pz]
    refine rd1 1 (by kernel_rfl) rfl fun K hK => ?_
    go_simp
    (go_at_call 8;refine (HR1.out _ (hNC.out.below (HF.out _ hTx)) (HA.out.below (HF.out _ hTx)) (HNM.out.below (HF.out _ hTx))).mono ?_;rintro e x11 ⟨rfl,hbx⟩;have hTx:Below s10.heap.size s10 x11:=bHb hbx;obtain ⟨hcx,hfx⟩:=a0k hTx)
    try (go_wp2_with fail)
    refine hK.out _ _ (kHp HKP) (fun hHeld => ?_);clear hK K;try simp only [pz]
    refine rd1 3 (by kernel_rfl) rfl fun K hK => ?_
    go_simp
    (go_at_call 9;refine (HR2.out _ (hNC.out.below (HF.out _ hTx)) (HA.out.below (HF.out _ hTx))).mono ?_;rintro e x11 ⟨rfl,hbx⟩;have hTx:Below s10.heap.size s10 x11:=bHb hbx;obtain ⟨hcx,hfx⟩:=a0k hTx)
    try (go_wp2_with fail)
    refine hK.out _ _ (kHp HKP) (fun hHeld => ?_);clear hK K;try simp only [pz]
    refine tk 4 ?_;try simp only [pz]
    refine tk 5 ?_;try simp only [pz]
    refine tk 6 ?_;try simp only [pz]
    refine tk 7 ?_;try simp only [pz]
    refine tk 9 ?_;try simp only [pz]
    refine tk 10 ?_;try simp only [pz]
    refine rd1 8 (by kernel_rfl) rfl fun K hK => ?_
    go_simp
    (go_at_call 11;refine (HK1.out _ (hNC.out.below (HF.out _ hTx)) (HA.out.below (HF.out _ hTx)) (HNM.out.below (HF.out _ hTx))).mono ?_;rintro e x11 ⟨⟨r1,rfl,hr1⟩,hbx⟩;have hTx:Below s10.heap.size s10 x11:=bHb hbx;obtain ⟨hcx,hfx⟩:=a0k hTx)
    try (go_wp2_with fail)
    refine hK.out _ _ (kHp HKP) (fun hHeld => ?_);clear hK K;try simp only [pz]
    refine rd1 11 (by kernel_rfl) rfl fun K hK => ?_
    go_simp
    (go_at_call 12;refine (HK2.out _ (hNC.out.below (HF.out _ hTx)) (HA.out.below (HF.out _ hTx))).mono ?_;rintro e x11 ⟨⟨r2,rfl,hr2⟩,hbx⟩;replace hr1:=hr1.below hbx;have hTx:Below s10.heap.size s10 x11:=bHb hbx;obtain ⟨hcx,hfx⟩:=a0k hTx)
    try (go_wp2_with fail)
    refine hK.out _ _ (kHp HKP) (fun hHeld => ?_);clear hK K;try simp only [pz]
    refine rd1 12 (by kernel_rfl) rfl fun K hK => ?_
    go_simp
    (go_at_call 10;refine (HI.out _ _ _ hr1 hr2).mono ?_;rintro e x11 ⟨rfl,hbx⟩;have hTx:Below s10.heap.size s10 x11:=bHb hbx;obtain ⟨hcx,hfx⟩:=a0k hTx)
    try (go_wp2_with fail)
    refine hK.out _ _ (kHp HKP) (fun hHeld => ?_);clear hK K;try simp only [pz]
    refine tk 13 ?_;try simp only [pz]
    refine tk 14 ?_;try simp only [pz]
    refine tk 15 ?_;try simp only [pz]
    refine tk 17 ?_;try simp only [pz]
    refine rd1 16 (by kernel_rfl) rfl fun K hK => ?_
    go_simp
    (go_at_call 13;refine (HLV1.out _).mono ?_;rintro e x11 ⟨rfl,hbx⟩;have hTx:Below s10.heap.size s10 x11:=bHb hbx;obtain ⟨hcx,hfx⟩:=a0k hTx)
    try (go_wp2_with fail)
    refine hK.out _ _ (kHp HKP) (fun hHeld => ?_);clear hK K;try simp only [pz]
    refine rd1 18 (by kernel_rfl) rfl fun K hK => ?_
    go_simp
    (go_at_call 14;refine (HLV2.out _).mono ?_;rintro e x11 ⟨rfl,hbx⟩;have hTx:Below s10.heap.size s10 x11:=bHb hbx;obtain ⟨hcx,hfx⟩:=a0k hTx)
    try (go_wp2_with fail)
    refine hK.out _ _ (kHp HKP) (fun hHeld => ?_);clear hK K;try simp only [pz]
    refine tk 19 ?_;try simp only [pz]
    refine tk 20 ?_;try simp only [pz]
    refine tk 21 ?_;try simp only [pz]
    refine tk 22 ?_;try simp only [pz]
    refine tk 24 ?_;try simp only [pz]
    refine rd1 23 (by kernel_rfl) rfl fun K hK => ?_
    go_simp
    (go_at_call 15;refine (HE1.out _ (hNC.out.below (HF.out _ hTx)) (HA.out.below (HF.out _ hTx)) (HNM.out.below (HF.out _ hTx))).mono ?_;rintro e x11 ⟨rfl,hbx⟩;have hTx:Below s10.heap.size s10 x11:=bHb hbx;obtain ⟨hcx,hfx⟩:=a0k hTx)
    try (go_wp2_with fail)
    refine hK.out _ _ (kHp HKP) (fun hHeld => ?_);clear hK K;try simp only [pz]
    refine rd1 25 (by kernel_rfl) rfl fun K hK => ?_
    go_simp
    (go_at_call 16;refine (HE2.out _ (hNC.out.below (HF.out _ hTx)) (HA.out.below (HF.out _ hTx))).mono ?_;rintro e x11 ⟨rfl,hbx⟩;have hTx:Below s10.heap.size s10 x11:=bHb hbx;obtain ⟨hcx,hfx⟩:=a0k hTx)
    try (go_wp2_with fail)
    refine hK.out _ _ (kHp HKP) (fun hHeld => ?_);clear hK K;try simp only [pz]
    refine tk 26 ?_;try simp only [pz]
    refine tk 27 ?_;try simp only [pz]
    refine tk 28 ?_;try simp only [pz]
    refine tk 29 ?_;try simp only [pz]
    refine tk 30 ?_;try simp only [pz]
    refine tk 32 ?_;try simp only [pz]
    refine tk 33 ?_;try simp only [pz]
    refine rd1 31 (by kernel_rfl) rfl fun K hK => ?_
    go_simp
    (go_at_call 17;refine (HS1.out _ (hNC.out.below (HF.out _ hTx)) (HA.out.below (HF.out _ hTx)) (HM.out.below (HF.out _ hTx)) (HB.out.below (HF.out _ hTx))).mono ?_;rintro e x11 ⟨rfl,hbx⟩;have hTx:Below s10.heap.size s10 x11:=bHb hbx;obtain ⟨hcx,hfx⟩:=a0k hTx)
    try (go_wp2_with fail)
    refine hK.out _ _ (kHp HKP) (fun hHeld => ?_);clear hK K;try simp only [pz]
    refine rd1 34 (by kernel_rfl) rfl fun K hK => ?_
    go_simp
    (go_at_call 18;refine (HS2.out _ (hNC.out.below (HF.out _ hTx)) (HA.out.below (HF.out _ hTx)) (HM.out.below (HF.out _ hTx)) (HB.out.below (HF.out _ hTx))).mono ?_;rintro e x11 ⟨rfl,hbx⟩;have hTx:Below s10.heap.size s10 x11:=bHb hbx;obtain ⟨hcx,hfx⟩:=a0k hTx)
    try (go_wp2_with fail)
    refine hK.out _ _ (kHp HKP) (fun hHeld => ?_);clear hK K;try simp only [pz]
    refine tk 35 ?_;try simp only [pz]
    refine tk 36 ?_;try simp only [pz]
    refine tk 37 ?_;try simp only [pz]
    refine tk 38 ?_;try simp only [pz]
    refine tk 39 ?_;try simp only [pz]
    refine rd1 40 (by kernel_rfl) rfl fun K hK => ?_
    go_simp
    (go_at_call 17;refine (HS3.out _ (hNC.out.below (HF.out _ hTx)) (HA.out.below (HF.out _ hTx)) (hNC.out.below (HF.out _ hTx)) (HA.out.below (HF.out _ hTx))).mono ?_;rintro e x11 ⟨rfl,hbx⟩;have hTx:Below s10.heap.size s10 x11:=bHb hbx;obtain ⟨hcx,hfx⟩:=a0k hTx)
    try (go_wp2_with fail)
    refine hK.out _ _ (kHp HKP) (fun hHeld => ?_);clear hK K;try simp only [pz]
    refine tk 41 ?_;try simp only [pz]
    refine tk 42 ?_;try simp only [pz]
    refine rd1 43 (by kernel_rfl) rfl fun K hK => ?_
    go_simp
    (go_at_call 7;refine (HKN.out _ (HNM.out.below (HF.out _ hTx))).mono ?_;rintro e x11 ⟨rfl,hbx⟩;have hTx:Below s10.heap.size s10 x11:=bHb hbx;obtain ⟨hcx,hfx⟩:=a0k hTx)
    try (go_wp2_with fail)
    refine hK.out _ _ (kHp HKP) (fun hHeld => ?_);clear hK K;try simp only [pz]
    refine tk 44 ?_;try simp only [pz]
    refine tk 45 ?_;try simp only [pz]
    refine wpAnyH_done (by kernel_rfl) ?_ _;go_wp2_with fail
    go_ret
    exact ⟨rfl,HF.out _ (by assumption)⟩
end Go.Proofs.YtfbgmokjemmceaaGreatDoor
