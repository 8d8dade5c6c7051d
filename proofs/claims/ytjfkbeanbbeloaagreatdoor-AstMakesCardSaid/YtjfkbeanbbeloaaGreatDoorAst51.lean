/-
  
  
-/
import Derived.Test.YtjfkbeanbbeloaaGreatDoorAst49
import Derived.Test.YtjfkbeanbbeloaaGreatDoorAst37
set_option maxHeartbeats 8000000
set_option maxRecDepth 100000
namespace Go.Proofs.YtjfkbeanbbeloaaGreatDoor
open Go.RowKit Go.Shelf
set_option linter.unusedSimpArgs false
set_option linter.unusedVariables false
theorem b2h (n1 n2:Bool) (m1 m2:ByteArray) (q:Rt) (c:Int) (w:World) (h1:m1.size≤1000) (h2:m2.size≤1000) (hyp:0 < sI n2 (Nt.V m2)) (hxn:mkN (sI n1 (Nt.V m1)) (sI n2 (Nt.V m2))≠0) (hbu:Nt.blen (mkN (sI n1 (Nt.V m1)) (sI n2 (Nt.V m2)))≤256) (hbv:Nt.blen (mkD (sI n1 (Nt.V m1)) (sI n2 (Nt.V m2)))≤256)
  (hq:mkR (sI n1 (Nt.V m1)) (sI n2 (Nt.V m2))=q) (hc:mkE (sI n1 (Nt.V m1)) (sI n2 (Nt.V m2))=c) :
  Calls Tryz.prog 32 #[.agg #[.bool n1,.string m1],.agg #[.bool n2,.string m2]] w fun e w' => e=.returned (.tuple #[.agg #[.bool (rb q),.string (rn q),.string (rd q)],.int .i64 c])∧Below w.heap.size w w':=by
 obtain ⟨x,hx⟩:∃ x,sI n1 (Nt.V m1)=x:=⟨_,rfl⟩;obtain ⟨y,hy⟩:∃ y,sI n2 (Nt.V m2)=y:=⟨_,rfl⟩;have zx:=b0u hx h1;have zy:=b0u hy h2;rw [hx,hy] at hq hc hxn hbu hbv;rw [hy] at hyp;have HX:=zh (fun w => a3z n1 m1 x w hx);have HY:=zh (fun w => a3z n2 m2 y w hy);clear hx hy h1 h2;have h0:y≠0:=by omega
 have hyb:zb y=false:=by unfold zb;simp;omega
 rw [hyb] at HY;have hya:y.natAbs≠0:=by omega
 have hg0:Nat.gcd x.natAbs y.natAbs≠0:=fun h => hya (Nat.eq_zero_of_gcd_eq_zero_right h)
 obtain ⟨hny1,hny2⟩:=a5y (fun h => h0 (zt_nil.2 h));have hg:=fun w => a9n (zt x) (zt y) w (by omega) (by omega)
 rw [c8k,c8k] at hg;have hgs:(Nt.E (Nat.gcd x.natAbs y.natAbs)).size≤1000:=Nat.le_trans (Nt.E_size_le (Nat.gcd_le_right _ (Nat.pos_of_ne_zero hya))) zy;have hd1:=fun w => a9m (zt x) (Nt.E (Nat.gcd x.natAbs y.natAbs)) w (by omega) (by omega) (by rw [Nt.V_E];omega)
 have hd2:=fun w => a9m (zt y) (Nt.E (Nat.gcd x.natAbs y.natAbs)) w (by omega) (by omega) (by rw [Nt.V_E];omega)
 rw [Nt.V_E,c8k] at hd1 hd2;have hsn:(Nt.E (x.natAbs / Nat.gcd x.natAbs y.natAbs)).size≤1000:=Nat.le_trans (Nt.E_size_le (Nat.div_le_self _ _)) zx;have hsd:(Nt.E (y.natAbs / Nat.gcd x.natAbs y.natAbs)).size≤1000:=Nat.le_trans (Nt.E_size_le (Nat.div_le_self _ _)) zy;have hb3:=fun w => b3g (Nt.E (x.natAbs / Nat.gcd x.natAbs y.natAbs)) w (by omega)
 have hb4:=fun w => b3g (Nt.E (y.natAbs / Nat.gcd x.natAbs y.natAbs)) w (by omega)
 rw [c9q] at hb3 hb4;have hN:mkN x y=x.natAbs / Nat.gcd x.natAbs y.natAbs:=rfl;have hD:mkD x y=y.natAbs / Nat.gcd x.natAbs y.natAbs:=rfl
 have hnl:x.natAbs / Nat.gcd x.natAbs y.natAbs≠0→Nt.E (x.natAbs / Nat.gcd x.natAbs y.natAbs)≠⟨#[]⟩:=fun h h2 => h (by
  have:=Nt.V_E (x.natAbs / Nat.gcd x.natAbs y.natAbs);rw [h2] at this
  exact this.symm.trans (by decide))
 have hbig1:256 < Nt.blen (mkN x y) ∨ 256 < Nt.blen (mkD x y)→mkR x y=⟨false,0,0⟩∧mkE x y=4:=c8q h0;have hbig2 : ¬ (256 < Nt.blen (mkN x y) ∨ 256 < Nt.blen (mkD x y))→mkR x y=⟨(zb x != zb y) && decide (mkN x y≠0),mkN x y,mkD x y⟩∧mkE x y=0:=c6t h0;rw [hN,hD] at hbig1 hbig2;rw [hN] at hxn hbu;rw [hD] at hbv;rw [hq,hc] at hbig1 hbig2;rw [hyb] at hbig2;clear hq hc hgs hsn hsd hg0 hya h0 zx zy hN hD hyp hyb;generalize htu:Nt.E (x.natAbs / Nat.gcd x.natAbs y.natAbs)=tu at *;generalize htv:Nt.E (y.natAbs / Nat.gcd x.natAbs y.natAbs)=tv at *;generalize x.natAbs / Nat.gcd x.natAbs y.natAbs=u at *;generalize y.natAbs / Nat.gcd x.natAbs y.natAbs=v at *;generalize Nt.E (Nat.gcd x.natAbs y.natAbs)=g at *;generalize zb x=bx at *;generalize zt x=tx at *;generalize zt y=ty at *;have hu1 : ¬ 256 < Nt.blen u:=by omega
 have hv1 : ¬ 256 < Nt.blen v:=by omega
 have hdu:decide ((256:Int) < (Nt.blen u:Int))=false:=decide_eq_false (by omega);have hdv:decide ((256:Int) < (Nt.blen v:Int))=false:=decide_eq_false (by omega);obtain ⟨e1,e2⟩:=hbig2 (by omega);rw [e1,e2];show Calls _ _ _ _ fun e w' => e=.returned (.tuple #[.agg #[.bool ((bx != false) && decide (u≠0)),.string (Nt.E u),.string (Nt.E v)],.int .i64 0])∧_
 rw [htu,htv];have hu:=hxn;clear hxn hbu hbv;obtain ⟨hn1,hn2⟩:=a5y (hnl hu);have hz:((bx != false) && decide (u≠0))=(bx != false):=by simp [hu]
 rw [hz];generalize (Nt.blen u:Int)=bu at *;generalize (Nt.blen v:Int)=bv at *;have HG:=zh hg;have HD1:=zh hd1;have HD2:=zh hd2;have HB3:=zh hb3;have HB4:=zh hb4;clear hg hd1 hd2 hb3 hb4 e1 e2 hu1 hv1 hbig1 hbig2 hnl htu htv hz hu
 cases bx
 case false =>
  simp only [bne_self_eq_false,Bool.false_bne,Bool.true_bne,Bool.not_false];go_enter Tryz.func32,Tryz.ntmps32;go_wp2_with fail;obtain ⟨s1,hws⟩:∃ s,s=(((w.alloc (.cells #[.bool n1,.string m1] 66)).alloc (.cells #[.bool n2,.string m2] 66)).alloc (.cells #[.bool false,.string ⟨#[]⟩,.string ⟨#[]⟩] 26)):=⟨_,rfl⟩;have hBs:=bs3 (Below.refl w.heap.size w) hws;obtain ⟨A,hdA⟩:∃ b,b=w.heap.size:=⟨_,rfl⟩;obtain ⟨B,hdB⟩:∃ b,b=w.heap.size+1:=⟨_,rfl⟩;obtain ⟨C,hdC⟩:∃ b,b=w.heap.size+1+1:=⟨_,rfl⟩;have hsz:s1.heap.size=w.heap.size+1+1+1:=by rw [hws];simp
  have dCA:C≠A:=by omega
  have dCB:C≠B:=by omega
  have hN:=bx2 (b:=A) hws hdA;have kA0:=hN 0 _ rfl;have kA1:=hN 1 _ rfl;clear hN;have zA:A < s1.heap.size:=by omega
  have lA:w.heap.size≤A:=by omega
  have hN:=bx1 (b:=B) hws (by simp [hdB]);have kB0:=hN 0 _ rfl;have kB1:=hN 1 _ rfl;clear hN;have zB:B < s1.heap.size:=by omega
  have lB:w.heap.size≤B:=by omega
  have hN:=bx0 (b:=C) hws (by simp [hdC]);have hM:=bf0 (b:=C) hws (by simp [hdC]);have kC0:=hN 0 _ rfl;have kC1:=hN 1 _ rfl;have kC2:=hN 2 _ rfl;have fC0:=hM 0;have fC1:=hM 1;have fC2:=hM 2;clear hN hM;have zC:C < s1.heap.size:=by omega
  have lC:w.heap.size≤C:=by omega
  rw [← hws];try rw [← hdC]
  try rw [← hdB]
  try rw [← hdA]
  clear hws hsz hdA hdB hdC;have hBo:=hBs;clear hBs;refine (HX.out _).mono ?_;rintro e s2 ⟨rfl,hb⟩;replace kA0:=a0f hb kA0 zA;replace kA1:=a0f hb kA1 zA;replace zA:=zHl hb zA;replace kB0:=a0f hb kB0 zB;replace kB1:=a0f hb kB1 zB;replace zB:=zHl hb zB;replace kC0:=a0f hb kC0 zC;replace kC1:=a0f hb kC1 zC;replace kC2:=a0f hb kC2 zC;replace fC0:=a0g hb fC0 zC;replace fC1:=a0g hb fC1 zC;replace fC2:=a0g hb fC2 zC;replace zC:=zHl hb zC;replace hBo:=hBo.trans (hb.mono hBo.size);clear hb;go_wp2_with fail;obtain ⟨s3,hws⟩:∃ s,s=(s2.alloc (.cells #[.bool false,.string tx] 66)):=⟨_,rfl⟩;have hBs:=bs1 hBo hws;obtain ⟨N,hdN⟩:∃ b,b=s2.heap.size:=⟨_,rfl⟩;have hsz:s3.heap.size=s2.heap.size+1:=by rw [hws];simp
  have dCN:C≠N:=by omega
  have hQC:∀ p v,s2.cell? p=some v→s3.cell? p=some v:=fun p v h => by rw [hws];exact (alK h)
  have hQZ:∀ b,b < s2.heap.size→b < s3.heap.size:=fun b h => by omega
  have hQF:∀ b j,b < s2.heap.size→s2.frozen? ⟨b,j,none⟩=false→s3.frozen? ⟨b,j,none⟩=false:=fun b j z h => by rw [hws];exact (alF z h)
  replace kA0:=hQC _ _ kA0;replace kA1:=hQC _ _ kA1;replace zA:=hQZ _ zA;replace kB0:=hQC _ _ kB0;replace kB1:=hQC _ _ kB1;replace zB:=hQZ _ zB;replace kC0:=hQC _ _ kC0;replace fC0:=hQF _ _ zC fC0;replace kC1:=hQC _ _ kC1;replace fC1:=hQF _ _ zC fC1;replace kC2:=hQC _ _ kC2;replace fC2:=hQF _ _ zC fC2;replace zC:=hQZ _ zC;clear hQC hQZ hQF;have hN:=bx0 (b:=N) hws hdN;have kN0:=hN 0 _ rfl;have kN1:=hN 1 _ rfl;clear hN;have zN:N < s3.heap.size:=by omega
  have lN:w.heap.size≤N:=by have:=hBo.size;omega
  rw [← hws];try rw [← hdN]
  clear hBo;clear hws hsz hdN;have hBo:=hBs;clear hBs;refine (HY.out _).mono ?_;rintro e s4 ⟨rfl,hb⟩;replace kA0:=a0f hb kA0 zA;replace kA1:=a0f hb kA1 zA;replace zA:=zHl hb zA;replace kB0:=a0f hb kB0 zB;replace kB1:=a0f hb kB1 zB;replace zB:=zHl hb zB;replace kC0:=a0f hb kC0 zC;replace kC1:=a0f hb kC1 zC;replace kC2:=a0f hb kC2 zC;replace fC0:=a0g hb fC0 zC;replace fC1:=a0g hb fC1 zC;replace fC2:=a0g hb fC2 zC;replace zC:=zHl hb zC;replace kN0:=a0f hb kN0 zN;replace kN1:=a0f hb kN1 zN;replace zN:=zHl hb zN;replace hBo:=hBo.trans (hb.mono hBo.size);clear hb;go_wp2_with fail;obtain ⟨s5,hws⟩:∃ s,s=(s4.alloc (.cells #[.bool false,.string ty] 66)):=⟨_,rfl⟩;have hBs:=bs1 hBo hws;obtain ⟨M,hdM⟩:∃ b,b=s4.heap.size:=⟨_,rfl⟩;have hsz:s5.heap.size=s4.heap.size+1:=by rw [hws];simp
  have dCM:C≠M:=by omega
  have hQC:∀ p v,s4.cell? p=some v→s5.cell? p=some v:=fun p v h => by rw [hws];exact (alK h)
  have hQZ:∀ b,b < s4.heap.size→b < s5.heap.size:=fun b h => by omega
  have hQF:∀ b j,b < s4.heap.size→s4.frozen? ⟨b,j,none⟩=false→s5.frozen? ⟨b,j,none⟩=false:=fun b j z h => by rw [hws];exact (alF z h)
  replace kA0:=hQC _ _ kA0;replace kA1:=hQC _ _ kA1;replace zA:=hQZ _ zA;replace kB0:=hQC _ _ kB0;replace kB1:=hQC _ _ kB1;replace zB:=hQZ _ zB;replace kC0:=hQC _ _ kC0;replace fC0:=hQF _ _ zC fC0;replace kC1:=hQC _ _ kC1;replace fC1:=hQF _ _ zC fC1;replace kC2:=hQC _ _ kC2;replace fC2:=hQF _ _ zC fC2;replace zC:=hQZ _ zC;replace kN0:=hQC _ _ kN0;replace kN1:=hQC _ _ kN1;replace zN:=hQZ _ zN;clear hQC hQZ hQF;have hN:=bx0 (b:=M) hws hdM;have kM0:=hN 0 _ rfl;have kM1:=hN 1 _ rfl;clear hN;have zM:M < s5.heap.size:=by omega
  have lM:w.heap.size≤M:=by have:=hBo.size;omega
  rw [← hws];try rw [← hdM]
  clear hBo;clear hws hsz hdM;have hBo:=hBs;clear hBs;refine (HG.out _).mono ?_;rintro e s6 ⟨rfl,hb⟩;replace kA0:=a0f hb kA0 zA;replace kA1:=a0f hb kA1 zA;replace zA:=zHl hb zA;replace kB0:=a0f hb kB0 zB;replace kB1:=a0f hb kB1 zB;replace zB:=zHl hb zB;replace kC0:=a0f hb kC0 zC;replace kC1:=a0f hb kC1 zC;replace kC2:=a0f hb kC2 zC;replace fC0:=a0g hb fC0 zC;replace fC1:=a0g hb fC1 zC;replace fC2:=a0g hb fC2 zC;replace zC:=zHl hb zC;replace kN0:=a0f hb kN0 zN;replace kN1:=a0f hb kN1 zN;replace zN:=zHl hb zN;replace kM0:=a0f hb kM0 zM;replace kM1:=a0f hb kM1 zM;replace zM:=zHl hb zM;replace hBo:=hBo.trans (hb.mono hBo.size);clear hb;go_wp2_with fail;refine (HD1.out _).mono ?_;rintro e s7 ⟨rfl,hb⟩;replace kA0:=a0f hb kA0 zA;replace kA1:=a0f hb kA1 zA;replace zA:=zHl hb zA;replace kB0:=a0f hb kB0 zB;replace kB1:=a0f hb kB1 zB;replace zB:=zHl hb zB;replace kC0:=a0f hb kC0 zC;replace kC1:=a0f hb kC1 zC;replace kC2:=a0f hb kC2 zC;replace fC0:=a0g hb fC0 zC;replace fC1:=a0g hb fC1 zC;replace fC2:=a0g hb fC2 zC;replace zC:=zHl hb zC;replace kN0:=a0f hb kN0 zN;replace kN1:=a0f hb kN1 zN;replace zN:=zHl hb zN;replace kM0:=a0f hb kM0 zM;replace kM1:=a0f hb kM1 zM;replace zM:=zHl hb zM;replace hBo:=hBo.trans (hb.mono hBo.size);clear hb;go_wp2_with fail;refine (HD2.out _).mono ?_;rintro e s8 ⟨rfl,hb⟩;replace kA0:=a0f hb kA0 zA;replace kA1:=a0f hb kA1 zA;replace zA:=zHl hb zA;replace kB0:=a0f hb kB0 zB;replace kB1:=a0f hb kB1 zB;replace zB:=zHl hb zB;replace kC0:=a0f hb kC0 zC;replace kC1:=a0f hb kC1 zC;replace kC2:=a0f hb kC2 zC;replace fC0:=a0g hb fC0 zC;replace fC1:=a0g hb fC1 zC;replace fC2:=a0g hb fC2 zC;replace zC:=zHl hb zC;replace kN0:=a0f hb kN0 zN;replace kN1:=a0f hb kN1 zN;replace zN:=zHl hb zN;replace kM0:=a0f hb kM0 zM;replace kM1:=a0f hb kM1 zM;replace zM:=zHl hb zM;replace hBo:=hBo.trans (hb.mono hBo.size);clear hb;go_wp2_with fail;refine (HB3.out _).mono ?_;rintro e s9 ⟨rfl,hb⟩;replace kA0:=a0f hb kA0 zA;replace kA1:=a0f hb kA1 zA;replace zA:=zHl hb zA;replace kB0:=a0f hb kB0 zB;replace kB1:=a0f hb kB1 zB;replace zB:=zHl hb zB;replace kC0:=a0f hb kC0 zC;replace kC1:=a0f hb kC1 zC;replace kC2:=a0f hb kC2 zC;replace fC0:=a0g hb fC0 zC;replace fC1:=a0g hb fC1 zC;replace fC2:=a0g hb fC2 zC;replace zC:=zHl hb zC;replace kN0:=a0f hb kN0 zN;replace kN1:=a0f hb kN1 zN;replace zN:=zHl hb zN;replace kM0:=a0f hb kM0 zM;replace kM1:=a0f hb kM1 zM;replace zM:=zHl hb zM;replace hBo:=hBo.trans (hb.mono hBo.size);clear hb;go_wp2_with fail;refine (HB4.out _).mono ?_;rintro e s10 ⟨rfl,hb⟩;replace kA0:=a0f hb kA0 zA;replace kA1:=a0f hb kA1 zA;replace zA:=zHl hb zA;replace kB0:=a0f hb kB0 zB;replace kB1:=a0f hb kB1 zB;replace zB:=zHl hb zB;replace kC0:=a0f hb kC0 zC;replace kC1:=a0f hb kC1 zC;replace kC2:=a0f hb kC2 zC;replace fC0:=a0g hb fC0 zC;replace fC1:=a0g hb fC1 zC;replace fC2:=a0g hb fC2 zC;replace zC:=zHl hb zC;replace kN0:=a0f hb kN0 zN;replace kN1:=a0f hb kN1 zN;replace zN:=zHl hb zN;replace kM0:=a0f hb kM0 zM;replace kM1:=a0f hb kM1 zM;replace zM:=zHl hb zM;replace hBo:=hBo.trans (hb.mono hBo.size);clear hb
  all_goals go_wp2_with fail
  all_goals refine bodyPost_ret (v:=.tuple #[.agg #[.bool false,.string tu,.string tv],.int .i64 0]) (by simp [results,Tryz.results32,go_sem,kC0,kC1,kC2,zC]) rfl ⟨rfl,?_⟩
  all_goals exact (((hBo.setCell lC _).setCell lC _).setCell lC _)
 case true =>
  simp only [bne_self_eq_false,Bool.false_bne,Bool.true_bne,Bool.not_false];go_enter Tryz.func32,Tryz.ntmps32;go_wp2_with fail;obtain ⟨s11,hws⟩:∃ s,s=(((w.alloc (.cells #[.bool n1,.string m1] 66)).alloc (.cells #[.bool n2,.string m2] 66)).alloc (.cells #[.bool false,.string ⟨#[]⟩,.string ⟨#[]⟩] 26)):=⟨_,rfl⟩;have hBs:=bs3 (Below.refl w.heap.size w) hws;obtain ⟨A,hdA⟩:∃ b,b=w.heap.size:=⟨_,rfl⟩;obtain ⟨B,hdB⟩:∃ b,b=w.heap.size+1:=⟨_,rfl⟩;obtain ⟨C,hdC⟩:∃ b,b=w.heap.size+1+1:=⟨_,rfl⟩;have hsz:s11.heap.size=w.heap.size+1+1+1:=by rw [hws];simp
  have dCA:C≠A:=by omega
  have dCB:C≠B:=by omega
  have hN:=bx2 (b:=A) hws hdA;have kA0:=hN 0 _ rfl;have kA1:=hN 1 _ rfl;clear hN;have zA:A < s11.heap.size:=by omega
  have lA:w.heap.size≤A:=by omega
  have hN:=bx1 (b:=B) hws (by simp [hdB]);have kB0:=hN 0 _ rfl;have kB1:=hN 1 _ rfl;clear hN;have zB:B < s11.heap.size:=by omega
  have lB:w.heap.size≤B:=by omega
  have hN:=bx0 (b:=C) hws (by simp [hdC]);have hM:=bf0 (b:=C) hws (by simp [hdC]);have kC0:=hN 0 _ rfl;have kC1:=hN 1 _ rfl;have kC2:=hN 2 _ rfl;have fC0:=hM 0;have fC1:=hM 1;have fC2:=hM 2;clear hN hM;have zC:C < s11.heap.size:=by omega
  have lC:w.heap.size≤C:=by omega
  rw [← hws];try rw [← hdC]
  try rw [← hdB]
  try rw [← hdA]
  clear hws hsz hdA hdB hdC;have hBo:=hBs;clear hBs;refine (HX.out _).mono ?_;rintro e s12 ⟨rfl,hb⟩;replace kA0:=a0f hb kA0 zA;replace kA1:=a0f hb kA1 zA;replace zA:=zHl hb zA;replace kB0:=a0f hb kB0 zB;replace kB1:=a0f hb kB1 zB;replace zB:=zHl hb zB;replace kC0:=a0f hb kC0 zC;replace kC1:=a0f hb kC1 zC;replace kC2:=a0f hb kC2 zC;replace fC0:=a0g hb fC0 zC;replace fC1:=a0g hb fC1 zC;replace fC2:=a0g hb fC2 zC;replace zC:=zHl hb zC;replace hBo:=hBo.trans (hb.mono hBo.size);clear hb;go_wp2_with fail;obtain ⟨s13,hws⟩:∃ s,s=(s12.alloc (.cells #[.bool true,.string tx] 66)):=⟨_,rfl⟩;have hBs:=bs1 hBo hws;obtain ⟨N,hdN⟩:∃ b,b=s12.heap.size:=⟨_,rfl⟩;have hsz:s13.heap.size=s12.heap.size+1:=by rw [hws];simp
  have dCN:C≠N:=by omega
  have hQC:∀ p v,s12.cell? p=some v→s13.cell? p=some v:=fun p v h => by rw [hws];exact (alK h)
  have hQZ:∀ b,b < s12.heap.size→b < s13.heap.size:=fun b h => by omega
  have hQF:∀ b j,b < s12.heap.size→s12.frozen? ⟨b,j,none⟩=false→s13.frozen? ⟨b,j,none⟩=false:=fun b j z h => by rw [hws];exact (alF z h)
  replace kA0:=hQC _ _ kA0;replace kA1:=hQC _ _ kA1;replace zA:=hQZ _ zA;replace kB0:=hQC _ _ kB0;replace kB1:=hQC _ _ kB1;replace zB:=hQZ _ zB;replace kC0:=hQC _ _ kC0;replace fC0:=hQF _ _ zC fC0;replace kC1:=hQC _ _ kC1;replace fC1:=hQF _ _ zC fC1;replace kC2:=hQC _ _ kC2;replace fC2:=hQF _ _ zC fC2;replace zC:=hQZ _ zC;clear hQC hQZ hQF;have hN:=bx0 (b:=N) hws hdN;have kN0:=hN 0 _ rfl;have kN1:=hN 1 _ rfl;clear hN;have zN:N < s13.heap.size:=by omega
  have lN:w.heap.size≤N:=by have:=hBo.size;omega
  rw [← hws];try rw [← hdN]
  clear hBo;clear hws hsz hdN;have hBo:=hBs;clear hBs;refine (HY.out _).mono ?_;rintro e s14 ⟨rfl,hb⟩;replace kA0:=a0f hb kA0 zA;replace kA1:=a0f hb kA1 zA;replace zA:=zHl hb zA;replace kB0:=a0f hb kB0 zB;replace kB1:=a0f hb kB1 zB;replace zB:=zHl hb zB;replace kC0:=a0f hb kC0 zC;replace kC1:=a0f hb kC1 zC;replace kC2:=a0f hb kC2 zC;replace fC0:=a0g hb fC0 zC;replace fC1:=a0g hb fC1 zC;replace fC2:=a0g hb fC2 zC;replace zC:=zHl hb zC;replace kN0:=a0f hb kN0 zN;replace kN1:=a0f hb kN1 zN;replace zN:=zHl hb zN;replace hBo:=hBo.trans (hb.mono hBo.size);clear hb;go_wp2_with fail;obtain ⟨s15,hws⟩:∃ s,s=(s14.alloc (.cells #[.bool false,.string ty] 66)):=⟨_,rfl⟩;have hBs:=bs1 hBo hws;obtain ⟨M,hdM⟩:∃ b,b=s14.heap.size:=⟨_,rfl⟩;have hsz:s15.heap.size=s14.heap.size+1:=by rw [hws];simp
  have dCM:C≠M:=by omega
  have hQC:∀ p v,s14.cell? p=some v→s15.cell? p=some v:=fun p v h => by rw [hws];exact (alK h)
  have hQZ:∀ b,b < s14.heap.size→b < s15.heap.size:=fun b h => by omega
  have hQF:∀ b j,b < s14.heap.size→s14.frozen? ⟨b,j,none⟩=false→s15.frozen? ⟨b,j,none⟩=false:=fun b j z h => by rw [hws];exact (alF z h)
  replace kA0:=hQC _ _ kA0;replace kA1:=hQC _ _ kA1;replace zA:=hQZ _ zA;replace kB0:=hQC _ _ kB0;replace kB1:=hQC _ _ kB1;replace zB:=hQZ _ zB;replace kC0:=hQC _ _ kC0;replace fC0:=hQF _ _ zC fC0;replace kC1:=hQC _ _ kC1;replace fC1:=hQF _ _ zC fC1;replace kC2:=hQC _ _ kC2;replace fC2:=hQF _ _ zC fC2;replace zC:=hQZ _ zC;replace kN0:=hQC _ _ kN0;replace kN1:=hQC _ _ kN1;replace zN:=hQZ _ zN;clear hQC hQZ hQF;have hN:=bx0 (b:=M) hws hdM;have kM0:=hN 0 _ rfl;have kM1:=hN 1 _ rfl;clear hN;have zM:M < s15.heap.size:=by omega
  have lM:w.heap.size≤M:=by have:=hBo.size;omega
  rw [← hws];try rw [← hdM]
  clear hBo;clear hws hsz hdM;have hBo:=hBs;clear hBs;refine (HG.out _).mono ?_;rintro e s16 ⟨rfl,hb⟩;replace kA0:=a0f hb kA0 zA;replace kA1:=a0f hb kA1 zA;replace zA:=zHl hb zA;replace kB0:=a0f hb kB0 zB;replace kB1:=a0f hb kB1 zB;replace zB:=zHl hb zB;replace kC0:=a0f hb kC0 zC;replace kC1:=a0f hb kC1 zC;replace kC2:=a0f hb kC2 zC;replace fC0:=a0g hb fC0 zC;replace fC1:=a0g hb fC1 zC;replace fC2:=a0g hb fC2 zC;replace zC:=zHl hb zC;replace kN0:=a0f hb kN0 zN;replace kN1:=a0f hb kN1 zN;replace zN:=zHl hb zN;replace kM0:=a0f hb kM0 zM;replace kM1:=a0f hb kM1 zM;replace zM:=zHl hb zM;replace hBo:=hBo.trans (hb.mono hBo.size);clear hb;go_wp2_with fail;refine (HD1.out _).mono ?_;rintro e s17 ⟨rfl,hb⟩;replace kA0:=a0f hb kA0 zA;replace kA1:=a0f hb kA1 zA;replace zA:=zHl hb zA;replace kB0:=a0f hb kB0 zB;replace kB1:=a0f hb kB1 zB;replace zB:=zHl hb zB;replace kC0:=a0f hb kC0 zC;replace kC1:=a0f hb kC1 zC;replace kC2:=a0f hb kC2 zC;replace fC0:=a0g hb fC0 zC;replace fC1:=a0g hb fC1 zC;replace fC2:=a0g hb fC2 zC;replace zC:=zHl hb zC;replace kN0:=a0f hb kN0 zN;replace kN1:=a0f hb kN1 zN;replace zN:=zHl hb zN;replace kM0:=a0f hb kM0 zM;replace kM1:=a0f hb kM1 zM;replace zM:=zHl hb zM;replace hBo:=hBo.trans (hb.mono hBo.size);clear hb;go_wp2_with fail;refine (HD2.out _).mono ?_;rintro e s18 ⟨rfl,hb⟩;replace kA0:=a0f hb kA0 zA;replace kA1:=a0f hb kA1 zA;replace zA:=zHl hb zA;replace kB0:=a0f hb kB0 zB;replace kB1:=a0f hb kB1 zB;replace zB:=zHl hb zB;replace kC0:=a0f hb kC0 zC;replace kC1:=a0f hb kC1 zC;replace kC2:=a0f hb kC2 zC;replace fC0:=a0g hb fC0 zC;replace fC1:=a0g hb fC1 zC;replace fC2:=a0g hb fC2 zC;replace zC:=zHl hb zC;replace kN0:=a0f hb kN0 zN;replace kN1:=a0f hb kN1 zN;replace zN:=zHl hb zN;replace kM0:=a0f hb kM0 zM;replace kM1:=a0f hb kM1 zM;replace zM:=zHl hb zM;replace hBo:=hBo.trans (hb.mono hBo.size);clear hb;go_wp2_with fail;refine (HB3.out _).mono ?_;rintro e s19 ⟨rfl,hb⟩;replace kA0:=a0f hb kA0 zA;replace kA1:=a0f hb kA1 zA;replace zA:=zHl hb zA;replace kB0:=a0f hb kB0 zB;replace kB1:=a0f hb kB1 zB;replace zB:=zHl hb zB;replace kC0:=a0f hb kC0 zC;replace kC1:=a0f hb kC1 zC;replace kC2:=a0f hb kC2 zC;replace fC0:=a0g hb fC0 zC;replace fC1:=a0g hb fC1 zC;replace fC2:=a0g hb fC2 zC;replace zC:=zHl hb zC;replace kN0:=a0f hb kN0 zN;replace kN1:=a0f hb kN1 zN;replace zN:=zHl hb zN;replace kM0:=a0f hb kM0 zM;replace kM1:=a0f hb kM1 zM;replace zM:=zHl hb zM;replace hBo:=hBo.trans (hb.mono hBo.size);clear hb;go_wp2_with fail;refine (HB4.out _).mono ?_;rintro e s20 ⟨rfl,hb⟩;replace kA0:=a0f hb kA0 zA;replace kA1:=a0f hb kA1 zA;replace zA:=zHl hb zA;replace kB0:=a0f hb kB0 zB;replace kB1:=a0f hb kB1 zB;replace zB:=zHl hb zB;replace kC0:=a0f hb kC0 zC;replace kC1:=a0f hb kC1 zC;replace kC2:=a0f hb kC2 zC;replace fC0:=a0g hb fC0 zC;replace fC1:=a0g hb fC1 zC;replace fC2:=a0g hb fC2 zC;replace zC:=zHl hb zC;replace kN0:=a0f hb kN0 zN;replace kN1:=a0f hb kN1 zN;replace zN:=zHl hb zN;replace kM0:=a0f hb kM0 zM;replace kM1:=a0f hb kM1 zM;replace zM:=zHl hb zM;replace hBo:=hBo.trans (hb.mono hBo.size);clear hb
  all_goals go_wp2_with fail
  all_goals refine bodyPost_ret (v:=.tuple #[.agg #[.bool true,.string tu,.string tv],.int .i64 0]) (by simp [results,Tryz.results32,go_sem,kC0,kC1,kC2,zC]) rfl ⟨rfl,?_⟩
  all_goals exact (((hBo.setCell lC _).setCell lC _).setCell lC _)
theorem c6c (n:Int):mkD n 1=1:=by
 unfold mkD;simp
theorem a9f (n:Int) (q:Rt) (w:World) (h1 : -9223372036854775808≤n) (h2:n≤9223372036854775807) (hq:mkR n 1=q) (h0:mkN n 1≠0) (hb:Nt.blen (mkN n 1)≤256) :
  Calls Tryz.prog 18 #[.int .i64 n] w fun e w' => e=.returned (.agg #[.bool (rb q),.string (rn q),.string (rd q)])∧Below w.heap.size w w':=by
 have hs:(zt n).size≤1000:=by
  have:n.natAbs < 256 ^ 8:=by rw [Nt.pow8];omega
  have:=c9m this;omega
 have HO:Hid (∀ (m:Int) (w:World),-9223372036854775808≤m→m≤9223372036854775807→Calls Tryz.prog 33 #[.int .i64 m] w fun e w' => e=.returned (.agg #[.bool (zb m),.string (zt m)])∧Below w.heap.size w w'):=fun m w h1 h2 => c6s m w h1 h2
 have H1:=zh (fun w => HO.out n w h1 h2);have H2:=zh (fun w => HO.out 1 w (by omega) (by omega));have HK:=zh (fun w => b2h (zb n) (zb 1) (zt n) (zt 1) q (mkE n 1) w hs (by decide) (by rw [b3k];decide) (by rw [b3k,b3k];exact h0) (by rw [b3k,b3k];exact hb) (by rw [b3k,b3k,c6c];decide) (by rw [b3k,b3k,hq]) (by rw [b3k,b3k]));rw [c8n,c8m] at H2 HK;generalize mkE n 1=c at *;generalize zb n=bn at *;generalize zt n=tn at *;generalize rb q=b1 at *;generalize rn q=t1 at *;generalize rd q=t2 at *;clear hq h1 h2 hs HO h0 hb;go_enter Tryz.func18,Tryz.ntmps18;go_wp2_with fail;obtain ⟨s21,hws⟩:∃ s,s=(w.alloc (.cells #[.bool false,.string ⟨#[]⟩,.string ⟨#[]⟩] 26)):=⟨_,rfl⟩;have hBs:=bs1 (Below.refl w.heap.size w) hws;obtain ⟨C,hdC⟩:∃ b,b=w.heap.size:=⟨_,rfl⟩;have hsz:s21.heap.size=w.heap.size+1:=by rw [hws];simp
 have hN:=bx0 (b:=C) hws hdC;have hM:=bf0 (b:=C) hws hdC;have kC0:=hN 0 _ rfl;have kC1:=hN 1 _ rfl;have kC2:=hN 2 _ rfl;have fC0:=hM 0;have fC1:=hM 1;have fC2:=hM 2;clear hN hM;have zC:C < s21.heap.size:=by omega
 have lC:w.heap.size≤C:=by omega
 rw [← hws];try rw [← hdC]
 clear hws hsz hdC;have hBo:=hBs;clear hBs;refine (H1.out _).mono ?_;rintro e s22 ⟨rfl,hb⟩;replace kC0:=a0f hb kC0 zC;replace kC1:=a0f hb kC1 zC;replace kC2:=a0f hb kC2 zC;replace fC0:=a0g hb fC0 zC;replace fC1:=a0g hb fC1 zC;replace fC2:=a0g hb fC2 zC;replace zC:=zHl hb zC;replace hBo:=hBo.trans (hb.mono hBo.size);clear hb;go_wp2_with fail;refine (H2.out _).mono ?_;rintro e s23 ⟨rfl,hb⟩;replace kC0:=a0f hb kC0 zC;replace kC1:=a0f hb kC1 zC;replace kC2:=a0f hb kC2 zC;replace fC0:=a0g hb fC0 zC;replace fC1:=a0g hb fC1 zC;replace fC2:=a0g hb fC2 zC;replace zC:=zHl hb zC;replace hBo:=hBo.trans (hb.mono hBo.size);clear hb;go_wp2_with fail;refine (HK.out _).mono ?_;rintro e s24 ⟨rfl,hb⟩;replace kC0:=a0f hb kC0 zC;replace kC1:=a0f hb kC1 zC;replace kC2:=a0f hb kC2 zC;replace fC0:=a0g hb fC0 zC;replace fC1:=a0g hb fC1 zC;replace fC2:=a0g hb fC2 zC;replace zC:=zHl hb zC;replace hBo:=hBo.trans (hb.mono hBo.size);clear hb;go_wp2_with fail;refine bodyPost_ret (v:=.agg #[.bool b1,.string t1,.string t2]) (by simp [results,Tryz.results18,go_sem,kC0,kC1,kC2,zC]) rfl ⟨rfl,?_⟩;exact (((hBo.setCell lC _).setCell lC _).setCell lC _).alloc (by simp;exact hBo.size) _
abbrev a2k (b:Bool) (x y:ByteArray):Nd:=⟨1,0,0,0,b,x,y,⟨#[]⟩,false,⟨⟨#[]⟩,0,0,false,false⟩,⟨⟨#[]⟩,0,0,false,false⟩⟩
def b5q (N:List Nd) (A:List Int) (w:World) (e:Ending) (w':World):Prop:=(∃ us vs,e=.returned (.agg #[us,vs])∧NodesAt w' us N∧IntsAt w' vs A)∧Below w.heap.size w w'
theorem a9g (n:Int) (b:Bool) (x y:ByteArray) (w:World) (h1 : -1000≤n) (h2:n≤1000) (hn0:mkN n 1≠0) (hnb:Nt.blen (mkN n 1)≤256) (hb:rb (mkR n 1)=b) (hx:rn (mkR n 1)=x) (hy:rd (mkR n 1)=y) (hs:x.size≤100) (hs2:y.size≤100) (hl:a3b (a2k b x y)=true) :
  Calls Tryz.prog 17 #[.int .i64 n] w (b5q [a2k b x y] [] w):=by
 have hud:undef=Value.tuple #[]:=rfl;obtain ⟨Po,hPo⟩:∃ Po,Po=b5q [a2k b x y] [] w:=⟨_,rfl⟩;rw [← hPo];have HPO:=zh hPo;have ho:=fun w => a9f n (mkR n 1) w (by omega) (by omega) rfl hn0 hnb
 rw [hb,hx,hy] at ho;have HO:=zh ho
 have HL:Hid (∀ W,Calls Tryz.prog 14 #[.agg #[.int .i64 1,.int .i64 0,.int .i64 0,.int .i64 0,.bool b,.string x,.string y,.string ⟨#[]⟩,.bool false,.string ⟨#[]⟩,.int .i64 0,.int .i64 0,.bool false,.bool false,.string ⟨#[]⟩,.int .i64 0,.int .i64 0,.bool false,.bool false]] W (FormNew [a2k b x y] [] 0 W)):=fun W => by
  have h:=b2d (a2k b x y) W ⟨hs,hs2,by show (ByteArray.mk #[]).size≤500;decide,by show (ByteArray.mk #[]).size≤100;decide,by show (ByteArray.mk #[]).size≤100;decide⟩;rw [if_pos hl] at h;exact h
 clear ho hb hx hy hs hs2 hl hPo;obtain ⟨NN,hNN⟩:∃ z,z=[a2k b x y]:=⟨_,rfl⟩;rw [← hNN] at HL HPO;have HNL:Hid (NN.length=1):=zh (by rw [hNN];rfl);clear hNN;go_enter Tryz.func17,Tryz.ntmps17
 go_upto_region 1 with (fail)
 obtain ⟨s25,hws⟩:∃ s,s=(w.alloc (.cells #[.slice none 0 0,.slice none 0 0] 36)):=⟨_,rfl⟩;have hBs:=bs1 (Below.refl w.heap.size w) hws;obtain ⟨C,hdC⟩:∃ b,b=w.heap.size:=⟨_,rfl⟩;have hsz:s25.heap.size=w.heap.size+1:=by rw [hws];simp
 have hN:=bx0 (b:=C) hws hdC;have hM:=bf0 (b:=C) hws hdC;have kC0:=hN 0 _ rfl;have kC1:=hN 1 _ rfl;have fC0:=hM 0;have fC1:=hM 1;clear hN hM;have zC:C < s25.heap.size:=by omega
 have lC:w.heap.size≤C:=by omega
 rw [← hws];try rw [← hdC]
 clear hws hsz hdC;have hBo:=hBs;clear hBs;go_wp2_with fail;refine (HO.out _).mono ?_;rintro e s26 ⟨rfl,hb⟩;replace kC0:=a0f hb kC0 zC;replace kC1:=a0f hb kC1 zC;replace fC0:=a0g hb fC0 zC;replace fC1:=a0g hb fC1 zC;replace zC:=zHl hb zC;replace hBo:=hBo.trans (hb.mono hBo.size);clear hb;go_wp2_with fail;refine (HL.out _).mono ?_;rintro e w5 ⟨⟨us,vs,rfl,hn5,ha5⟩,hb⟩;rw [HNL.out] at hn5;obtain ⟨b5,c5,rfl⟩:=a0l hn5;obtain ⟨b6,c6,rfl⟩:=a0l ha5;have HN5:=zh hn5;have HA5:=zh ha5;have HZ:=zh zC;have HLB:=zh hBo.size;clear hn5 ha5;replace kC0:=a0f hb kC0 zC;replace kC1:=a0f hb kC1 zC;replace fC0:=a0g hb fC0 zC;replace fC1:=a0g hb fC1 zC;replace zC:=zHl hb zC;replace hBo:=hBo.trans (hb.mono hBo.size);clear hb;have HZ5:=zh zC;go_wp2_with fail;obtain ⟨W6,hW6⟩:∃ z,z=((w5.setCell ⟨C,0,none⟩ (.slice b5 1 c5)).setCell ⟨C,1,none⟩ (.slice b6 0 c6)).alloc (.cells #[.slice b5 1 c5,.slice b6 0 c6] 36):=⟨_,rfl⟩;have hst:∀ {base size n:Nat} {t:TypeId} {v:Value} {xs:List Value},C < base→w5.ownsRow base t size v n xs→W6.ownsRow base t size v n xs:=fun h0 h => by rw [hW6];exact (ownsRow_setCell_below (ownsRow_setCell_below h h0 _) h0 _).alloc _
 refine bodyPost_ret (v:=.agg #[.slice b5 1 c5,.slice b6 0 c6]) (by simp [results,Tryz.results17,go_sem,kC0,kC1,fC0,fC1,zC]) rfl ?_;rw [← hW6,HPO.out];refine ⟨⟨_,_,rfl,?_,?_⟩,?_⟩
 ·
  exact (NodesAt.of_owns (hst HZ.out HN5.out)).2
 ·
  exact (IntsAt.of_owns (A:=[]) (hst HZ.out HA5.out)).2
 ·
  rw [hW6];exact a0i ((hBo.setCell lC _).setCell lC _)
theorem num_one:rb (mkR 1 1)=false∧rn (mkR 1 1)=⟨#[1]⟩∧rd (mkR 1 1)=⟨#[1]⟩:=by
 have h:mkR 1 1=⟨false,1,1⟩:=by kernel_rfl
 rw [h];exact ⟨rfl,by decide,by decide⟩
theorem num_two:rb (mkR 2 1)=false∧rn (mkR 2 1)=⟨#[2]⟩∧rd (mkR 2 1)=⟨#[1]⟩:=by
 have h:mkR 2 1=⟨false,2,1⟩:=by kernel_rfl
 rw [h];exact ⟨rfl,by decide,by decide⟩
theorem num_neg:rb (mkR (-1) 1)=true∧rn (mkR (-1) 1)=⟨#[1]⟩∧rd (mkR (-1) 1)=⟨#[1]⟩:=by
 have h:mkR (-1) 1=⟨true,1,1⟩:=by kernel_rfl
 rw [h];exact ⟨rfl,by decide,by decide⟩
theorem c0o:b4j (Nt.V ⟨#[1]⟩)=true:=by
 have h:Nt.V ⟨#[1]⟩=1:=by decide
 rw [h];unfold b4j;exact decide_eq_true (Nat.one_dvd _)
theorem b5r:a3b (a2k false ⟨#[1]⟩ ⟨#[1]⟩)=true:=by
 unfold a3b;rw [Bool.and_eq_true,Bool.and_eq_true];refine ⟨⟨rfl,?_⟩,(a2o _ _).2 rfl⟩;show amB false ⟨#[1]⟩ ⟨#[1]⟩=true;unfold amB;rw [Bool.and_eq_true,Bool.and_eq_true];exact ⟨⟨(a1p _ _ _).2 ⟨by decide,by decide,by decide⟩,rfl⟩,c0o⟩
theorem b5s:a3b (a2k false ⟨#[2]⟩ ⟨#[1]⟩)=true:=by
 unfold a3b;rw [Bool.and_eq_true,Bool.and_eq_true];refine ⟨⟨rfl,?_⟩,(a2o _ _).2 rfl⟩;show amB false ⟨#[2]⟩ ⟨#[1]⟩=true;unfold amB;rw [Bool.and_eq_true,Bool.and_eq_true];exact ⟨⟨(a1p _ _ _).2 ⟨by decide,by decide,by decide⟩,rfl⟩,c0o⟩
theorem c3l:a3b (a2k true ⟨#[1]⟩ ⟨#[1]⟩)=false:=by
 unfold a3b
 have h:a4i (a2k true ⟨#[1]⟩ ⟨#[1]⟩)=false:=by
  show amB true ⟨#[1]⟩ ⟨#[1]⟩=false;unfold amB;simp
 rw [h];simp
theorem c0p (C:Nat→Bool) (h0:C 0=true) (h1:C 1=true) (h2:C 2=true):a1q C [⟨1,0,0,8⟩,⟨1,0,0,8⟩,⟨8,0,1,3⟩] []=(0,0):=by
 simp [a1q,b1c,a7i,a1f,kidsS,b3j,a2z,a1v,a0n,c4r,brk,h0,h1,h2]
theorem c3m (C:Nat→Bool) (h0:C 0=true):a1q C [⟨1,0,0,8⟩] []=(0,0):=by
 simp [a1q,b1c,a7i,a1f,kidsS,b3j,a2z,a1v,a0n,c4r,brk,h0]
theorem b0f {n:Nd} (h:a3b n=true):a1x n=true:=by
 unfold a3b at h;unfold a1x;rw [Bool.and_assoc,Bool.and_eq_true] at h;exact h.2
theorem b2i {x y:ByteArray} (h:a3b (a2k false x y)=true):a0w [a2k false x y] []=true:=by
 rw [(a3x _ _).1];have hc:cN [a2k false x y] 0=true:=by rw [a3j (n:=a2k false x y) rfl];exact b0f h
 have e:a1q (cN [a2k false x y]) ([a2k false x y].map shN) []=(0,0):=c3m _ hc;rw [e];rfl
abbrev a7l:Nd:=nd0 8 1 ⟨#[]⟩
theorem c6d:a1x a7l=true:=by
 unfold a1x;rw [Bool.and_eq_true];exact ⟨by decide,(a2o _ _).2 rfl⟩
theorem b7g {x y x2 y2:ByteArray} (h1:a3b (a2k false x y)=true) (h2:a3b (a2k false x2 y2)=true) :
  a3a a7l [([a2k false x y],[]),([a2k false x2 y2],[])]=([a2k false x y,a2k false x2 y2,{ a7l with a:=0,b:=1 }],[],0)∧a0w [a2k false x y,a2k false x2 y2,{ a7l with a:=0,b:=1 }] []=true:=by
 have hr:a0w [a2k false x y,a2k false x2 y2,{ a7l with a:=0,b:=1 }] []=true:=by
  rw [(a3x _ _).1];have c0:cN [a2k false x y,a2k false x2 y2,{ a7l with a:=0,b:=1 }] 0=true:=by rw [a3j (n:=a2k false x y) rfl];exact b0f h1
  have c1:cN [a2k false x y,a2k false x2 y2,{ a7l with a:=0,b:=1 }] 1=true:=by rw [a3j (n:=a2k false x2 y2) rfl];exact b0f h2
  have c2:cN [a2k false x y,a2k false x2 y2,{ a7l with a:=0,b:=1 }] 2=true:=by
   rw [a3j (n:={ a7l with a:=0,b:=1 }) rfl];unfold a1x;rw [Bool.and_eq_true];exact ⟨by decide,(a2o _ _).2 rfl⟩
  have e:a1q (cN [a2k false x y,a2k false x2 y2,{ a7l with a:=0,b:=1 }]) ([a2k false x y,a2k false x2 y2,{ a7l with a:=0,b:=1 }].map shN) []=(0,0):=c0p _ c0 c1 c2;rw [e];rfl
 refine ⟨?_,hr⟩
 have hJ:a0u [([a2k false x y],[]),([a2k false x2 y2],[])]=⟨[a2k false x y,a2k false x2 y2],[],[0,1]⟩:=by
  simp [a0u,Jn.next,Jn.nil,mvN]
 have hT:a5k a7l ⟨[a2k false x y,a2k false x2 y2],[],[0,1]⟩={ a7l with a:=0,b:=1 }:=rfl;have hM:a5g a7l ⟨[a2k false x y,a2k false x2 y2],[],[0,1]⟩=[]:=rfl;unfold a3a
 rw [if_pos ⟨c6d,fun g hg => by
  rcases List.mem_cons.1 hg with rfl | hg
  ·
   exact b2i h1
  ·
   rw [List.mem_singleton.1 hg];exact b2i h2⟩,if_neg (by simp),hJ,hT,hM]
 have hd:b2b ([a2k false x y,a2k false x2 y2] ++ [{ a7l with a:=0,b:=1 }]) ([] ++ [])=0:=by
  unfold b2b;rw [if_neg (by simp)];show (if a0w [a2k false x y,a2k false x2 y2,{ a7l with a:=0,b:=1 }] []=true then (0:Int) else 8)=0;rw [hr];rfl
 dsimp only at hd ⊢;rw [if_pos hd];rfl
set_option maxHeartbeats 16000000
theorem c0q:a0w [] []=false:=by unfold a0w a1w;simp
theorem b4l (w:World) (hnm:NamesAt w):Calls Tryz.prog 4 #[] w fun e w' => e=.returned (.bool true)∧Below w.heap.size w w':=by
 have hud:undef=Value.tuple #[]:=rfl;obtain ⟨K19,hz19,HK19⟩:=a0q;have HNM:=zh hnm;have H1:=zh (fun w => a9g 1 false ⟨#[1]⟩ ⟨#[1]⟩ w (by decide) (by decide) (by decide) (by decide) num_one.1 num_one.2.1 num_one.2.2 (by decide) (by decide) b5r);have H2:=zh (fun w => a9g 2 false ⟨#[2]⟩ ⟨#[1]⟩ w (by decide) (by decide) (by decide) (by decide) num_two.1 num_two.2.1 num_two.2.2 (by decide) (by decide) b5s);obtain ⟨hmade,hright⟩:=b7g b5r b5s;have hf1:∀ n ∈ [a2k false ⟨#[1]⟩ ⟨#[1]⟩],Fits n:=fun n hn => by rw [List.mem_singleton.1 hn];exact ⟨by decide,by decide,by decide,by decide,by decide⟩
 have hf2:∀ n ∈ [a2k false ⟨#[2]⟩ ⟨#[1]⟩],Fits n:=fun n hn => by rw [List.mem_singleton.1 hn];exact ⟨by decide,by decide,by decide,by decide,by decide⟩
 have hfk:Fits { a7l with a:=0,b:=1 }:=⟨by decide,by decide,by decide,by decide,by decide⟩
 have HT:Hid (∀ u v u2 v2 W,NodesAt W u [a2k false ⟨#[1]⟩ ⟨#[1]⟩]→IntsAt W v []→NodesAt W u2 [a2k false ⟨#[2]⟩ ⟨#[1]⟩]→IntsAt W v2 []→NamesAt W→Calls Tryz.prog 7 #[.int .i64 1,.agg #[u,v],.agg #[u2,v2]] W (c3i ([a2k false ⟨#[1]⟩ ⟨#[1]⟩,a2k false ⟨#[2]⟩ ⟨#[1]⟩,{ a7l with a:=0,b:=1 }],[],0) W)):=fun u v u2 v2 W h1 h2 h3 h4 h5 => by
  rw [← hmade];exact c3j 1 u v u2 v2 _ _ [] [] W h1 h2 h3 h4 hf1 hf2 (by simp) (by simp) (by simp) (by simp) h5
 have HR:=zh (fun u v W hN hA hnm => a3y u v [a2k false ⟨#[1]⟩ ⟨#[1]⟩,a2k false ⟨#[2]⟩ ⟨#[1]⟩,{ a7l with a:=0,b:=1 }] [] W hN hA (fun n hn => by
  rcases List.mem_cons.1 hn with rfl | hn
  ·
   exact hf1 _ (List.mem_cons_self ..)
  ·
   rcases List.mem_cons.1 hn with rfl | hn
   ·
    exact hf2 _ (List.mem_cons_self ..)
   ·
    rw [List.mem_singleton.1 hn];exact hfk) hnm (by simp) (by simp))
 rw [hright] at HR;have HR0:=zh (fun W hnm => a3y (.slice none 0 0) (.slice none 0 0) [] [] W (Or.inl ⟨rfl,rfl⟩) (Or.inl ⟨rfl,rfl⟩) (fun n hn => by cases hn) hnm (by simp) (by simp));rw [c0q] at HR0;have ho:=fun w => a9f (-1) (mkR (-1) 1) w (by decide) (by decide) rfl (by decide) (by decide)
 rw [num_neg.1,num_neg.2.1,num_neg.2.2] at ho;have HO:=zh ho
 have HL:Hid (∀ W,NamesAt W→Calls Tryz.prog 13 #[.agg #[.int .i64 1,.int .i64 0,.int .i64 0,.int .i64 0,.bool true,.string ⟨#[1]⟩,.string ⟨#[1]⟩,.string ⟨#[]⟩,.bool false,.string ⟨#[]⟩,.int .i64 0,.int .i64 0,.bool false,.bool false,.string ⟨#[]⟩,.int .i64 0,.int .i64 0,.bool false,.bool false]] W (FormNew [] [] 3 W)):=fun W h => by
  have h:=b7e (a2k true ⟨#[1]⟩ ⟨#[1]⟩) W ⟨by decide,by decide,by decide,by decide,by decide⟩ h;rw [if_neg (by rw [c3l];exact Bool.false_ne_true)] at h;exact h
 obtain ⟨NK,hNK⟩:∃ z,z=[a2k false ⟨#[1]⟩ ⟨#[1]⟩,a2k false ⟨#[2]⟩ ⟨#[1]⟩,{ a7l with a:=0,b:=1 }]:=⟨_,rfl⟩;rw [← hNK] at HT HR;have HNK:=zh hNK
 have HEQ:∀ W,(binOp .eql 30 (.agg #[.int .i64 8,.int .i64 1,.int .i64 0,.int .i64 1,.bool false,.string ⟨#[]⟩,.string ⟨#[]⟩,.string ⟨#[]⟩,.bool false,.string ⟨#[]⟩,.int .i64 0,.int .i64 0,.bool false,.bool false,.string ⟨#[]⟩,.int .i64 0,.int .i64 0,.bool false,.bool false]) (.agg #[.int .i64 8,.int .i64 1,.int .i64 0,.int .i64 1,.bool false,.string ⟨#[]⟩,.string ⟨#[]⟩,.string ⟨#[]⟩,.bool false,.string ⟨#[]⟩,.int .i64 0,.int .i64 0,.bool false,.bool false,.string ⟨#[]⟩,.int .i64 0,.int .i64 0,.bool false,.bool false])).run Tryz.prog W=.ok (.bool true) W:=fun W => by
  have h:=a1b { a7l with a:=0,b:=1 } { a7l with a:=0,b:=1 } W;rw [(a2o _ _).2 rfl] at h;exact h
 clear hmade hright hf1 hf2 hfk ho hNK hnm;go_enter Tryz.func4,Tryz.ntmps4;go_wp2_with fail;refine (H1.out w).mono ?_;rintro e w1 ⟨⟨u1,v1,rfl,a1,a2⟩,hb1⟩;have A1:=zh a1;have A2:=zh a2;have B1:=zh hb1;clear a1 a2 hb1;go_wp2_with fail;refine (H2.out w1).mono ?_;rintro e w2 ⟨⟨u2,v2,rfl,a3,a4⟩,hb2⟩;have A3:=zh a3;have A4:=zh a4;have B2:=zh hb2;clear a3 a4 hb2;go_wp2_with fail;refine (HT.out u1 v1 u2 v2 w2 (A1.out.below B2.out) (A2.out.below B2.out) A3.out A4.out ((HNM.out.below B1.out).below B2.out)).mono ?_;rintro e w3 ⟨⟨us,vs,rfl,hn,ha⟩,hb3⟩;dsimp only at hn ha;rw [show NK.length=3 by rw [HNK.out];rfl] at hn;have hnn:=(NodesAt.of_owns (N:=NK) hn).2;have hai:=(IntsAt.of_owns (A:=[]) ha).2;obtain ⟨b5,c5,rfl⟩:=a0l hn;obtain ⟨b6,c6,rfl⟩:=a0l ha;have hBo:Below w.heap.size w w3:=(B1.out.trans (B2.out.mono B1.out.size)).trans (hb3.mono (Nat.le_trans B1.out.size B2.out.size));obtain ⟨bq,cq,hq,hcs⟩:=hnn.slice;obtain ⟨gq,oq,hbq,hc2⟩:=hcs 2 { a7l with a:=0,b:=1 } (by rw [HNK.out];rfl);obtain ⟨rfl,h3,rfl⟩:b5=bq∧3=NK.length∧c5=cq:=by simpa using hq
 clear h3;subst hbq;have HN3:=zh hnn;have HA3:=zh hai;have HC2:=zh hc2;clear hn ha hnn hai hb3 hq hcs hc2 H1 H2 HT A1 A2 A3 A4 B1 B2
 go_upto_region 2 with (fail)
 obtain ⟨s1,hws⟩:∃ s,s=(w3.alloc (.cells #[.slice (some ⟨gq,oq,none⟩) 3 c5,.slice b6 0 c6] 36)):=⟨_,rfl⟩;have hBs:=bs1 hBo hws;obtain ⟨F,hdF⟩:∃ b,b=w3.heap.size:=⟨_,rfl⟩;have hUp:Below w3.heap.size w3 s1:=by rw [hws];exact (a0i (Below.refl _ _))
 have hAF:w3.heap.size≤F:=by omega
 have hsz:s1.heap.size=w3.heap.size+1:=by rw [hws];simp
 have hN:=bx0 (b:=F) hws hdF;have kF0:=hN 0 _ rfl;have kF1:=hN 1 _ rfl;clear hN;have zF:F < s1.heap.size:=by omega
 have lF:w.heap.size≤F:=by have:=hBo.size;omega
 rw [← hws];try rw [← hdF]
 clear hBo;clear hws hsz hdF;have hBo:=hBs;clear hBs;have HU:=zh hUp;clear hUp hAF;go_wp2_with fail;obtain ⟨wf,hwf⟩:∃ z,z=s1:=⟨_,rfl⟩;subst hwf;refine (HO.out wf).mono ?_;rintro e w5 ⟨rfl,hb⟩;have HU5:=zh (HU.out.trans (hb.mono HU.out.size));replace kF0:=a0f hb kF0 zF;replace kF1:=a0f hb kF1 zF;replace zF:=zHl hb zF;replace hBo:=hBo.trans (hb.mono hBo.size);clear hb;go_wp2_with fail;refine (HL.out w5 (HNM.out.below hBo)).mono ?_;rintro e w6 ⟨⟨u4,v4,rfl,hn,ha⟩,hb⟩;obtain ⟨b7,c7,rfl⟩:=a0l hn;obtain ⟨b8,c8,rfl⟩:=a0l ha;have HU6:=zh (HU5.out.trans (hb.mono HU5.out.size));clear hn ha;replace kF0:=a0f hb kF0 zF;replace kF1:=a0f hb kF1 zF;replace zF:=zHl hb zF;replace hBo:=hBo.trans (hb.mono hBo.size);clear hb
 go_upto_region 3 with (fail)
 obtain ⟨s2,hws⟩:∃ s,s=(w6.alloc (.cells #[.slice b7 0 c7,.slice b8 0 c8] 36)):=⟨_,rfl⟩;have hBs:=bs1 hBo hws;obtain ⟨H,hdH⟩:∃ b,b=w6.heap.size:=⟨_,rfl⟩;have hUp:Below w6.heap.size w6 s2:=by rw [hws];exact (a0i (Below.refl _ _))
 have hAH:w6.heap.size≤H:=by omega
 have hsz:s2.heap.size=w6.heap.size+1:=by rw [hws];simp
 have hQC:∀ p v,w6.cell? p=some v→s2.cell? p=some v:=fun p v h => by rw [hws];exact (alK h)
 have hQZ:∀ b,b < w6.heap.size→b < s2.heap.size:=fun b h => by omega
 replace kF0:=hQC _ _ kF0;replace kF1:=hQC _ _ kF1;replace zF:=hQZ _ zF;clear hQC hQZ;have hN:=bx0 (b:=H) hws hdH;have kH0:=hN 0 _ rfl;have kH1:=hN 1 _ rfl;clear hN;have zH:H < s2.heap.size:=by omega
 have lH:w.heap.size≤H:=by have:=hBo.size;omega
 rw [← hws];try rw [← hdH]
 clear hBo;clear hws hsz hdH;have hBo:=hBs;clear hBs;have HU7:=zh (HU6.out.trans (hUp.mono HU6.out.size));have LN:Sem.run Tryz.prog (loadCellsFrom ⟨gq,oq+2 * K19,none⟩ 0 K19 #[]) s2=.ok #[.int .i64 8,.int .i64 1,.int .i64 0,.int .i64 1,.bool false,.string ⟨#[]⟩,.string ⟨#[]⟩,.string ⟨#[]⟩,.bool false,.string ⟨#[]⟩,.int .i64 0,.int .i64 0,.bool false,.bool false,.string ⟨#[]⟩,.int .i64 0,.int .i64 0,.bool false,.bool false] s2:=a0p _ gq (oq+2 * K19) HK19 { a7l with a:=0,b:=1 } (fun j u hu => by rw [HK19.out];exact a0f HU7.out (HC2.out j u hu) (a0j (HC2.out j u hu)));have HN7:=zh (HN3.out.below HU7.out);have HA7:=zh (HA3.out.below HU7.out);have HM7:=zh (HNM.out.below hBo);clear hUp hAH;go_wp2_with fail;refine (HR.out _ _ _ HN7.out HA7.out HM7.out).mono ?_;rintro e w8 ⟨rfl,hb⟩;replace kF0:=a0f hb kF0 zF;replace kF1:=a0f hb kF1 zF;replace zF:=zHl hb zF;replace kH0:=a0f hb kH0 zH;replace kH1:=a0f hb kH1 zH;replace zH:=zHl hb zH;replace hBo:=hBo.trans (hb.mono hBo.size);clear hb;have HM8:=zh (HNM.out.below hBo);go_wp2_with fail;refine (HR0.out _ HM8.out).mono ?_;rintro e w9 ⟨rfl,hb⟩;replace kF0:=a0f hb kF0 zF;replace kF1:=a0f hb kF1 zF;replace zF:=zHl hb zF;replace kH0:=a0f hb kH0 zH;replace kH1:=a0f hb kH1 zH;replace zH:=zHl hb zH;replace hBo:=hBo.trans (hb.mono hBo.size);clear hb;go_wp2_with fail
 go_ret
 exact ⟨rfl,hBo⟩
end Go.Proofs.YtjfkbeanbbeloaaGreatDoor
