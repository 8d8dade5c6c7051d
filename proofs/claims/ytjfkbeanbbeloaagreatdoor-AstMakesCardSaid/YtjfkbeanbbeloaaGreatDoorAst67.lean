/-
  
  
  
  
-/
import Derived.Test.YtjfkbeanbbeloaaGreatDoorAst63
import Derived.Test.YtjfkbeanbbeloaaGreatDoorAst57
import Derived.Test.YtjfkbeanbbeloaaGreatDoorAggC
import Derived.Test.YtjfkbeanbbeloaaGreatDoorAst51
import Derived.Test.YtjfkbeanbbeloaaGreatDoorAst69
set_option maxHeartbeats 64000000
set_option maxRecDepth 100000
namespace Go.Proofs.YtjfkbeanbbeloaaGreatDoor
open Go.RowKit Go.Shelf
set_option linter.unusedSimpArgs false
set_option linter.unusedVariables false
def d6f (t0:World) (G s a i:Nat) (N:List Nd) (A:List Int) (x r:Value) (wr:World):Prop:=∃ (k:Nat) (u1 v1:Value),s≤k∧k≤i+1∧r=.int .i64 k∧x=.int .i64 (if pC N s k=0 then -1 else (a:Int))∧FAt wr G (G+1) (pN N s a k) (pA A s a (pC N s k)) [] u1 v1 (.slice none 0 0)∧Below G t0 wr
def d6g (t0:World) (G X s a c:Nat) (n:Nd) (NN:List Nd) (A:List Int) (u1 r:Value) (wr:World):Prop:=∃ (j:Nat) (v1:Value),(j:Int)≤n.b∧r=.int .i64 j∧FAt wr G (G+1) NN (pA A s a (c+j)) [] u1 v1 (.slice none 0 0)∧NdAt wr X n∧wr.frozen? ⟨X,2,none⟩=false∧(∀ g,v1.ownBlock=some g→X≠g)∧(∀ g,u1.ownBlock=some g→X≠g)∧G < X∧X < wr.heap.size∧Below G t0 wr
theorem d4y {W:World} {bn:Option Addr} {cn:Nat} {N:List Nd} (h:NodesAt W (.slice bn N.length cn) N) (h0:0 < N.length):∃ g o,bn=some ⟨g,o,none⟩∧∀ (k:Nat) (n:Nd),N[k]?=some n→∀ j u,(ndL n)[j]?=some u→W.cell? ⟨g,o+k * 19+j,none⟩=some u:=by
 rcases h with ⟨hv,rfl⟩ | ⟨g,o,cap,hv,h1,h2,hc⟩
 ·
  simp at h0
 ·
  obtain ⟨rfl,rfl⟩:bn=some ⟨g,o,none⟩∧cn=cap:=by simpa using hv
  exact ⟨g,o,rfl,hc⟩
theorem d3k {W:World} {base size n:Nat} {e:TypeId} {xs:List Value} {v x:Value} {b o:Nat} (h:W.ownsRow base e size v n xs) (hne:∀ g,v.ownBlock=some g→b≠g):(W.setCell ⟨b,o,none⟩ x).ownsRow base e size v n xs:=by
 refine h.kept (b0b W b o x) ?_
 cases hv:v.ownBlock with
 | none => exact Or.inl rfl
 | some g => exact Or.inr (fun e => hne g hv (Option.some.inj e).symm)
theorem FAt.setOff {W:World} {P base:Nat} {N:List Nd} {A:List Int} {u v:Value} (h:FAt W P base N A [] u v (.slice none 0 0)) {b o:Nat} {x:Value} (h1:b≠P) (h2:∀ g,u.ownBlock=some g→b≠g) (h3:∀ g,v.ownBlock=some g→b≠g):FAt (W.setCell ⟨b,o,none⟩ x) P base N A [] u v (.slice none 0 0) :=
 ⟨a0e h.c0 h1,a0e h.c1 h1,frz_set.trans h.f0,frz_set.trans h.f1,d3k h.ou h2,d3k h.ov h3,World.ownsRow_nil _ _ _ _,h.uv,h.ut,h.vt,h.pb,by simpa using h.bw⟩
theorem d3c (u v:Value) (N:List Nd) (A:List Int) (i s:Nat) (w:World) (hN:NodesAt w u N) (hA:IntsAt w v A) (hf:∀ n ∈ N,Fits n) (hr:a0w N A=true) (hi:i < N.length) (hF:Forest (N.map shN) A s [(i:Int)] (i+1)) :
  Calls Tryz.prog 12 #[.agg #[u,v],.int .i64 (i:Int)] w (d1w ((c9u N A s i).1,(c9u N A s i).2,0) w):=by
 have hud:undef=Value.tuple #[]:=rfl;obtain ⟨K19,hz19,HK19⟩:=a0q;obtain ⟨l1,l2,l3⟩:=a4v hr;have hn9:=b8z (c0b hr)
 have hsi:s < i+1:=by
  obtain ⟨m,k,_,e2,f1,f2,_⟩:=Forest.last (l:=[]) hF;have:=f1.le;have:=f2.le;omega
 have hb9:∀ n ∈ N,n.k=9→0≤n.b:=fun n hn h9 => (hn9 n hn h9).1
 have g0:0≤clS (N.take s):=d0o fun n hn => hb9 n (List.mem_of_mem_take hn)
 obtain ⟨a,ha⟩:∃ a:Nat,clS (N.take s)=a:=⟨_,(Int.toNat_of_nonneg g0).symm⟩;have hwk:=d4e hF (Nat.le_refl _) (show i < 300 by omega);have hrt:=fun W hN hA => a3t u v N A W hN hA hf (by omega) (by omega)
 rw [hr] at hrt;have hw2:=fun W hN hA => b8x N A (by omega) (by omega) (i+1) u v (i:Int) 300 W hN hA (by omega) (by omega) (by omega)
 rw [hwk] at hw2;have HW2:Hid (∀ W,Below w.heap.size w W→Calls Tryz.prog 28 #[.agg #[u,v],.int .i64 (i:Int),.int .i64 300] W (a5r (some (rng s (i+1 - s))) W)):=fun W h => hw2 W (hN.below h) (hA.below h)
 have HR:Hid (∀ W,Below w.heap.size w W→Calls Tryz.prog 20 #[.agg #[u,v]] W fun e w' => e=.returned (.bool true)∧Below W.heap.size W w'):=fun W h => hrt W (hN.below h) (hA.below h)
 have HST:Hid (∀ k n,s≤k→N[k]?=some n→pN N s a (k+1)=pN N s a k ++ [mvN (-(s:Int)) (-(a:Int)) n]∧((pC N s (k+1):Nat):Int)=pC N s k+(if n.k=9 then n.b else 0)):=fun k n hk hn => ⟨d5m hk hn,d5n hk hn hb9⟩
 have HCA:Hid (∀ k n,s≤k→N[k]?=some n→n.k=9→0 < n.b→n.a=((a+pC N s k:Nat):Int)∧((a+pC N s k:Nat):Int)+n.b≤A.length):=fun k n hk hn h9 hb => d4f hr hk ha hn h9 hb
 have HB9:=zh (fun n (hn:n ∈ N) h9 => hb9 n hn h9);have HMV:=zh (c0c hr);have HAR:=zh (b7b hr);have HEN:=zh (d4x (A:=A) (i:=i) ha);have HPL:Hid (∀ k,k≤N.length→(pN N s a k).length=k - s):=fun k hk => d6c hk
 obtain ⟨Po,hPo⟩:∃ Po,Po=d1w ((c9u N A s i).1,(c9u N A s i).2,0) w:=⟨_,rfl⟩;rw [← hPo];have HPO:=zh hPo;obtain ⟨bn,cn,rfl,_⟩:=hN.slice;obtain ⟨bv,cv,rfl,_⟩:=hA.slice;obtain ⟨gn,on,rfl,hnc⟩:=d4y hN (by omega);have HNC:=zh hnc;have HAC:=zh hA
 have HAA:Hid (∀ m x,A[m]?=some x→∃ g o,bv=some ⟨g,o,none⟩∧w.cell? ⟨g,o+m,none⟩=some (.int .i64 x)):=fun m x hx => by
  have hm:=(List.getElem?_eq_some_iff.1 hx).1
  rcases hA with ⟨_,rfl⟩ | ⟨g,o,cap,hv,h1,h2,hc⟩
  ·
   simp at hm
  ·
   obtain ⟨rfl,rfl⟩:bv=some ⟨g,o,none⟩∧cv=cap:=by simpa using hv
   refine ⟨g,o,rfl,?_⟩;have:=hc m hm;rw [List.getD_eq_getElem?_getD,hx] at this;exact this
 have HSA:=zh (show s < i+1∧i < N.length∧N.length≤300∧A.length≤300 by omega);have hilt:(decide ((i:Int) < 0))=false:=decide_eq_false (by omega);obtain ⟨LN,hLN⟩:∃ L,L=N.length:=⟨_,rfl⟩;obtain ⟨LA,hLA⟩:∃ L,L=A.length:=⟨_,rfl⟩;rw [← hLN] at HW2 HR HSA ⊢;rw [← hLA] at HW2 HR HSA HAC ⊢;have hige : ¬ ((LN:Int)≤(i:Int)):=by have:=HSA.out;omega
 have HLN:=zh hLN;have HLA:=zh hLA;clear hPo hN hA hf hr hi hF l1 l2 l3 hn9 hsi hb9 g0 ha hwk hrt hw2 hnc hLN hLA;go_enter Tryz.func12,Tryz.ntmps12;go_wp2_with fail;obtain ⟨s1,hws⟩:∃ s,s=((w.alloc (.cells #[.slice (some ⟨gn,on,none⟩) LN cn,.slice bv LA cv] 36)).alloc (.cells #[.slice none 0 0,.slice none 0 0] 36)):=⟨_,rfl⟩;have hBs:=bs2 (Below.refl w.heap.size w) hws;obtain ⟨F,hdF⟩:∃ b,b=w.heap.size:=⟨_,rfl⟩;obtain ⟨R,hdR⟩:∃ b,b=w.heap.size+1:=⟨_,rfl⟩;have hsz:s1.heap.size=w.heap.size+1+1:=by rw [hws];simp
 have dRF:R≠F:=by omega
 have hN:=bx1 (b:=F) hws hdF;have kF0:=hN 0 _ rfl;have kF1:=hN 1 _ rfl;clear hN;have zF:F < s1.heap.size:=by omega
 have lF:w.heap.size≤F:=by omega
 have hN:=bx0 (b:=R) hws (by simp [hdR]);have hM:=bf0 (b:=R) hws (by simp [hdR]);have kR0:=hN 0 _ rfl;have kR1:=hN 1 _ rfl;have fR0:=hM 0;have fR1:=hM 1;clear hN hM;have zR:R < s1.heap.size:=by omega
 have lR:w.heap.size≤R:=by omega
 rw [← hws];try rw [← hdR]
 try rw [← hdF]
 clear hws hsz hdF hdR;have hBo:=hBs;clear hBs;go_wp2_with fail;refine (HR.out _ hBo).mono ?_;rintro e s2 ⟨rfl,hb⟩;replace kF0:=a0f hb kF0 zF;replace kF1:=a0f hb kF1 zF;replace zF:=zHl hb zF;replace kR0:=a0f hb kR0 zR;replace kR1:=a0f hb kR1 zR;replace fR0:=a0g hb fR0 zR;replace fR1:=a0g hb fR1 zR;replace zR:=zHl hb zR;replace hBo:=hBo.trans (hb.mono hBo.size);clear hb;go_wp2_with fail;refine (HW2.out _ hBo).mono ?_;rintro e w5 ⟨⟨r,rfl,hr5⟩,hb⟩;have hr5:=hr5 _ rfl;obtain ⟨qn,hqn⟩:∃ z,z=i+1 - s:=⟨_,rfl⟩;rw [← hqn] at hr5;have hq1:0 < qn:=by have:=HSA.out;omega
 obtain ⟨gr,or,cr,rfl,hc0⟩:∃ g o c,r=.slice (some ⟨g,o,none⟩) qn c∧w5.cell? ⟨g,o,none⟩=some (.int .i64 (s:Int)):=by
  rcases hr5 with ⟨_,h0⟩ | ⟨g,o,cap,hv,h1,h2,hc⟩
  ·
   have:=congrArg List.length h0;rw [a1o] at this;simp at this;omega
  ·
   rw [a1o] at hv h1 hc;refine ⟨g,o,cap,hv,?_⟩;have:=hc 0 hq1;rw [List.getD_eq_getElem?_getD,b8q _ _ _ hq1] at this;exact this
 clear hr5 hqn;have zc0:=a0j hc0;replace kF0:=a0f hb kF0 zF;replace kF1:=a0f hb kF1 zF;replace zF:=zHl hb zF;replace kR0:=a0f hb kR0 zR;replace kR1:=a0f hb kR1 zR;replace fR0:=a0g hb fR0 zR;replace fR1:=a0g hb fR1 zR;replace zR:=zHl hb zR;replace hBo:=hBo.trans (hb.mono hBo.size);clear hb
 go_upto_region 8 with (fail)
 have zF1:=zF;have zR1:=zR;obtain ⟨s3,hws⟩:∃ s,s=(w5.alloc (.cells #[.slice none 0 0,.slice none 0 0] 36)):=⟨_,rfl⟩;have hBs:=bs1 hBo hws;obtain ⟨G,hdG⟩:∃ b,b=w5.heap.size:=⟨_,rfl⟩;have hUp:Below w5.heap.size w5 s3:=by rw [hws];exact (a0i (Below.refl _ _))
 have hAG:w5.heap.size≤G:=by omega
 have hsz:s3.heap.size=w5.heap.size+1:=by rw [hws];simp
 have dRG:R≠G:=by omega
 have dGF:G≠F:=by omega
 have dGR:G≠R:=by omega
 have hQC:∀ p v,w5.cell? p=some v→s3.cell? p=some v:=fun p v h => by rw [hws];exact (alK h)
 have hQZ:∀ b,b < w5.heap.size→b < s3.heap.size:=fun b h => by omega
 have hQF:∀ b j,b < w5.heap.size→w5.frozen? ⟨b,j,none⟩=false→s3.frozen? ⟨b,j,none⟩=false:=fun b j z h => by rw [hws];exact (alF z h)
 replace kF0:=hQC _ _ kF0;replace kF1:=hQC _ _ kF1;replace zF:=hQZ _ zF;replace kR0:=hQC _ _ kR0;replace fR0:=hQF _ _ zR fR0;replace kR1:=hQC _ _ kR1;replace fR1:=hQF _ _ zR fR1;replace zR:=hQZ _ zR;clear hQC hQZ hQF;have hN:=bx0 (b:=G) hws hdG;have hM:=bf0 (b:=G) hws hdG;have kG0:=hN 0 _ rfl;have kG1:=hN 1 _ rfl;have fG0:=hM 0;have fG1:=hM 1;clear hN hM;have zG:G < s3.heap.size:=by omega
 have lG:w.heap.size≤G:=by have:=hBo.size;omega
 rw [← hws];try rw [← hdG]
 clear hBo;clear hws hsz hdG;have hBo:=hBs;clear hBs;have hFG:F < G:=by omega
 have hRG:R < G:=by omega
 have HFA:Hid (FAt s3 G (G+1) [] [] [] (.slice none 0 0) (.slice none 0 0) (.slice none 0 0)):=⟨kG0,kG1,fG0,fG1,World.ownsRow_nil _ _ _ _,World.ownsRow_nil _ _ _ _,World.ownsRow_nil _ _ _ _,fun g h => by simp [Value.ownBlock] at h,fun g h => by simp [Value.ownBlock] at h,fun g h => by simp [Value.ownBlock] at h,Nat.lt_succ_self G,zG⟩
 obtain ⟨t0,ht0⟩:∃ t,t=s3:=⟨_,rfl⟩;subst ht0;have HZ:Hid (∀ W,Below G t0 W→Below w.heap.size w W):=fun W h => hBo.trans (h.mono lG)
 have HF1:Hid (∀ W,Below G t0 W→W.cell? ⟨F,0,none⟩=some (.slice (some ⟨gn,on,none⟩) LN cn)∧W.cell? ⟨F,1,none⟩=some (.slice bv LA cv)):=fun W h => ⟨(h.cell (p:=⟨F,0,none⟩) hFG).trans kF0,(h.cell (p:=⟨F,1,none⟩) hFG).trans kF1⟩
 have HR1:Hid (∀ W,Below G t0 W→W.cell? ⟨R,0,none⟩=some (.slice none 0 0)∧W.cell? ⟨R,1,none⟩=some (.slice none 0 0)∧W.frozen? ⟨R,0,none⟩=false∧W.frozen? ⟨R,1,none⟩=false):=fun W h => ⟨(h.cell (p:=⟨R,0,none⟩) hRG).trans kR0,(h.cell (p:=⟨R,1,none⟩) hRG).trans kR1,(h.frozen (p:=⟨R,0,none⟩) hRG).trans fR0,(h.frozen (p:=⟨R,1,none⟩) hRG).trans fR1⟩
 have HLR:=zh lR;have HLG:=zh lG;have HFG:=zh hFG;have HRG:=zh hRG;clear hud hUp hAG zF1 zR1 hBo kF0 kF1 zF lF kR0 kR1 fR0 fR1 zR lR kG0 kG1 fG0 fG1 zG lG hFG hRG hc0 zc0 HW2 HR hilt hige hq1;go_wp2_with fail
 go_loopw [10,11] (d6f t0 G s a i N A) (fun _ r _ => i+1 - (intOf r).toNat)
 case atStart => exact ⟨s,_,_,Nat.le_refl _,by have:=HSA.out;omega,rfl,by rw [d3i];rfl,by rw [d4v,d3i,d4w];exact HFA.out,Below.refl _ _⟩
 case round =>
  obtain ⟨k,u1,v1,hsk,hk,rfl,rfl,hfa,hW⟩:=hrel;obtain ⟨at0,hat0⟩:∃ z,z=(if pC N s k=0 then (-1:Int) else (a:Int)):=⟨_,rfl⟩;rw [← hat0];have HAT0:=zh hat0;have HW:=zh hW;have HWK:=zh hfa;obtain ⟨p0,p1⟩:=HF1.out _ hW;have zF:=a0j p0;have hBo:=HZ.out _ hW;have HSK:=zh hsk;clear hW hfa hat0 hsk HFA;by_cases hlt:k≤i
  ·
   have HKL:Hid (k < LN):=zh (by have:=HSA.out;omega);have hkl:=HKL.out;have hkb:k≤300:=by have:=HSA.out;omega
   obtain ⟨n,hn⟩:∃ n,N[k]?=some n:=⟨_,List.getElem?_eq_getElem (by have:=HKL.out;have:=HLN.out;omega)⟩;have hcn:=HNC.out k n hn;have LN0:=a0p wr gn (on+k * K19) HK19 n (fun j u hu => by rw [HK19.out];exact a0f hBo (hcn j u hu) (a0j (hcn j u hu)));obtain ⟨m1,m2,m3⟩:=HMV.out n (List.mem_of_getElem? hn);have M1:=zh m1;have M2:=zh m2;have M3:=zh m3;obtain ⟨s1,s2⟩:=HST.out k n HSK.out hn;have HS1:=zh s1;have HS2:=zh s2;have HC2:=zh (HCA.out k n HSK.out hn);have HMN:=zh (List.mem_of_getElem? hn);clear hcn hn m1 m2 m3 s1 s2
   go_upto_region 13 with (refine a0c rfl _ _ rfl rfl _ _ _ rfl rfl rfl (by rfl) (by rfl) (by rfl) ?_)
   obtain ⟨s4,hws⟩:∃ s,s=(wr.alloc (.cells #[.int .i64 n.k,.int .i64 n.o,.int .i64 n.a,.int .i64 n.b,.bool n.qn,.string n.qa,.string n.qd,.string n.s,.bool n.tr,.string n.r.sh,.int .i64 n.r.c,.int .i64 n.r.r,.bool n.r.fc,.bool n.r.fr,.string n.t.sh,.int .i64 n.t.c,.int .i64 n.t.r,.bool n.t.fc,.bool n.t.fr] 30)):=⟨_,rfl⟩;have hBs:=bs1 hBo hws;obtain ⟨X,hdX⟩:∃ b,b=wr.heap.size:=⟨_,rfl⟩;have hUp:Below wr.heap.size wr s4:=by rw [hws];exact (a0i (Below.refl _ _))
   have hAX:wr.heap.size≤X:=by omega
   have hsz:s4.heap.size=wr.heap.size+1:=by rw [hws];simp
   have hN:=bx0 (b:=X) hws hdX;have hM:=bf0 (b:=X) hws hdX;have kX0:=hN 0 _ rfl;have kX1:=hN 1 _ rfl;have kX2:=hN 2 _ rfl;have kX3:=hN 3 _ rfl;have kX4:=hN 4 _ rfl;have kX5:=hN 5 _ rfl;have kX6:=hN 6 _ rfl;have kX7:=hN 7 _ rfl;have kX8:=hN 8 _ rfl;have kX9:=hN 9 _ rfl;have kX10:=hN 10 _ rfl;have kX11:=hN 11 _ rfl;have kX12:=hN 12 _ rfl;have kX13:=hN 13 _ rfl;have kX14:=hN 14 _ rfl;have kX15:=hN 15 _ rfl;have kX16:=hN 16 _ rfl;have kX17:=hN 17 _ rfl;have kX18:=hN 18 _ rfl;have fX0:=hM 0;have fX1:=hM 1;have fX2:=hM 2;have fX3:=hM 3;have fX4:=hM 4;have fX5:=hM 5;have fX6:=hM 6;have fX7:=hM 7;have fX8:=hM 8;have fX9:=hM 9;have fX10:=hM 10;have fX11:=hM 11;have fX12:=hM 12;have fX13:=hM 13;have fX14:=hM 14;have fX15:=hM 15;have fX16:=hM 16;have fX17:=hM 17;have fX18:=hM 18;clear hN hM;have zX:X < s4.heap.size:=by omega
   have lX:w.heap.size≤X:=by have:=hBo.size;omega
   have LX:=a0o s4 X HK19 kX0 kX1 kX2 kX3 kX4 kX5 kX6 kX7 kX8 kX9 kX10 kX11 kX12 kX13 kX14 kX15 kX16 kX17 kX18;rw [← hws];try rw [← hdX]
   clear hBo;clear hws hsz hdX;have hBo:=hBs;clear hBs;clear LN0;obtain ⟨we,hwe⟩:∃ z,z=s4:=⟨_,rfl⟩;subst hwe;have HND:Hid (NdAt we X n):=NdAt.of kX0 kX1 kX2 kX3 kX4 kX5 kX6 kX7 kX8 kX9 kX10 kX11 kX12 kX13 kX14 kX15 kX16 kX17 kX18;have HWX:=zh (HWK.out.below hUp);have HBX:Hid (Below G t0 we):=HW.out.trans (hUp.mono (Nat.le_of_lt HWK.out.pz));have HXA:=zh hAX;have HGX:Hid (G < X):=zh (by have:=HWK.out.pz;omega);have hXF:X≠F:=by have:=HGX.out;have:=HFG.out;omega
   have hXG:X≠G:=by have:=HGX.out;omega
   have x0:=kX0;have x2:=kX2;have x3:=kX3;have xf2:=fX2;have xf3:=fX3;obtain ⟨r0,r1⟩:=HF1.out _ HBX.out;have HFX2:=zh fX2;have HFX3:=zh fX3;have HZX:=zh zX;clear hUp hAX hBo LX p0 p1 zF;clear kX0 fX0;clear kX1 fX1;clear kX2 fX2;clear kX3 fX3;clear kX4 fX4;clear kX5 fX5;clear kX6 fX6;clear kX7 fX7;clear kX8 fX8;clear kX9 fX9;clear kX10 fX10;clear kX11 fX11;clear kX12 fX12;clear kX13 fX13;clear kX14 fX14;clear kX15 fX15;clear kX16 fX16;clear kX17 fX17;clear kX18 fX18;have zF:=a0j r0
   rcases d3f n with h7 | h8 | ⟨h9,hb⟩ | ⟨h7,h8,h9,hb⟩ | ⟨h7,h8,h9⟩
   case' inl =>
    have g7:(n.k == 7)=true:=by simpa using h7
    have g8:(n.k == 8)=false:=by rw [h7];rfl
    have g9:(n.k == 9)=false:=by rw [h7];rfl
    obtain ⟨a1,a2⟩:=M1.out (Or.inl h7);have hwa:IntKind.i64.wrap (n.a - (s:Int))=n.a - (s:Int):=IntWalk.i64_in _ (by have:=HSA.out;omega);have HMV2:Hid (mvN (-(s:Int)) (-(a:Int)) n={ n with a:=n.a - s }):=if_pos h7;have HPC:Hid (pC N s (k+1)=pC N s k):=zh (by have:=HS2.out;rw [if_neg (by omega)] at this;omega);have HAT:Hid (Value.int .i64 at0=.int .i64 (if pC N s (k+1)=0 then -1 else (a:Int))):=zh (by rw [HPC.out,HAT0.out]);clear h7
    go_upto_region 25 with (fail)
    obtain ⟨ws,hws⟩:∃ z,z=we.setCell ⟨X,2,none⟩ (.int .i64 (n.a - s)):=⟨_,rfl⟩;have hNX:NdAt ws X (mvN (-(s:Int)) (-(a:Int)) n):=by rw [hws,HMV2.out];exact HND.out.set2 HFX2.out _
    have hFX:FAt ws G (G+1) (pN N s a k) (pA A s a (pC N s (k+1))) [] u1 v1 (.slice none 0 0):=by rw [hws,HPC.out];exact FAt.setNew HWX.out HWK.out HXA.out
    have hBW:Below G t0 ws:=by rw [hws];exact HBX.out.setCell (Nat.le_of_lt HGX.out) _
    rw [← hws];clear hws HPC a1 a2 hwa
   case' inr.inl =>
    have g7:(n.k == 7)=false:=by rw [h8];rfl
    have g8:(n.k == 8)=true:=by simpa using h8
    have g9:(n.k == 9)=false:=by rw [h8];rfl
    obtain ⟨a1,a2⟩:=M1.out (Or.inr h8);obtain ⟨b1,b2⟩:=M2.out h8;have hwa:IntKind.i64.wrap (n.a - (s:Int))=n.a - (s:Int):=IntWalk.i64_in _ (by have:=HSA.out;omega);have hwb:IntKind.i64.wrap (n.b - (s:Int))=n.b - (s:Int):=IntWalk.i64_in _ (by have:=HSA.out;omega);have HMV2:Hid (mvN (-(s:Int)) (-(a:Int)) n={ n with a:=n.a - s,b:=n.b - s }):=(if_neg (by omega)).trans (if_pos h8);have HPC:Hid (pC N s (k+1)=pC N s k):=zh (by have:=HS2.out;rw [if_neg (by omega)] at this;omega);have HAT:Hid (Value.int .i64 at0=.int .i64 (if pC N s (k+1)=0 then -1 else (a:Int))):=zh (by rw [HPC.out,HAT0.out]);clear h8
    go_upto_region 25 with (fail)
    obtain ⟨ws,hws⟩:∃ z,z=(we.setCell ⟨X,2,none⟩ (.int .i64 (n.a - s))).setCell ⟨X,3,none⟩ (.int .i64 (n.b - s)):=⟨_,rfl⟩;have hNX:NdAt ws X (mvN (-(s:Int)) (-(a:Int)) n):=by rw [hws,HMV2.out];exact (HND.out.set2 HFX2.out _).set3 (frz_set.trans HFX3.out) _
    have hFX:FAt ws G (G+1) (pN N s a k) (pA A s a (pC N s (k+1))) [] u1 v1 (.slice none 0 0):=by rw [hws,HPC.out];exact FAt.setNew (FAt.setNew HWX.out HWK.out HXA.out) HWK.out HXA.out
    have hBW:Below G t0 ws:=by rw [hws];exact (HBX.out.setCell (Nat.le_of_lt HGX.out) _).setCell (Nat.le_of_lt HGX.out) _
    rw [← hws];clear hws HPC a1 a2 b1 b2 hwa hwb
   case' inr.inr.inl =>
    have g7:(n.k == 7)=false:=by rw [h9];rfl
    have g8:(n.k == 8)=false:=by rw [h9];rfl
    have g9:(n.k == 9)=true:=by simpa using h9
    obtain ⟨a1,a2⟩:=M3.out h9 hb;obtain ⟨d1,d2⟩:=HC2.out h9 hb;have HMV2:Hid (mvN (-(s:Int)) (-(a:Int)) n={ n with a:=n.a - a }):=(if_neg (by omega)).trans ((if_neg (by omega)).trans (if_pos ⟨h9,hb⟩));have HPC:Hid (((pC N s (k+1):Nat):Int)=pC N s k+n.b):=zh (by have:=HS2.out;rw [if_pos h9] at this;exact this);obtain ⟨pc,hpc⟩:∃ z,z=pC N s k:=⟨_,rfl⟩;rw [← hpc] at HAT0 HWX HPC d1 d2;have HD1:=zh d1;have HD2:=zh d2;have HU1:Hid (∀ g,u1.ownBlock=some g→X≠g):=fun g hg e => by have:=(HWK.out.ou.lt g hg).2;have:=HXA.out;omega
    have HV1:Hid (∀ g,v1.ownBlock=some g→X≠g):=fun g hg e => by have:=(HWK.out.ov.lt g hg).2;have:=HXA.out;omega
    clear h9 hpc d1 d2
    rcases Nat.eq_zero_or_pos pc with h0 | h0
    case' inl =>
     have hq0:at0 < 0:=by have:=HAT0.out;rw [if_pos h0] at this;omega
     have hna:n.a=(a:Int):=by have:=HD1.out;rw [this,h0];rfl
     clear h0
     go_upto_region 20 with (fail)
     rw [hna];clear hq0 hna
    case' inr =>
     have hq0 : ¬ at0 < 0:=by have:=HAT0.out;rw [if_neg (by omega)] at this;omega
     have hna:at0=(a:Int):=by have:=HAT0.out;rw [if_neg (by omega)] at this;exact this
     clear h0
     go_upto_region 20 with (fail)
     rw [hna];clear hq0 hna
    all_goals
     go_wp2_with fail
     go_loopw [13] (d6g t0 G X s a pc n (pN N s a k) A u1) (fun r _ => n.b.toNat - (intOf r).toNat)
     case' atStart => exact ⟨0,v1,by omega,rfl,HWX.out,HND.out,HFX2.out,HV1.out,HU1.out,HGX.out,HZX.out,HBX.out⟩
     case' round =>
      clear x0 x2 x3 xf2 xf3 r0 r1 zF HWX HBX HND HFX2 HFX3 HV1;obtain ⟨j,v1,hj,rfl,hfa,hnd,hfx,hxv,hxu,hgx,hxz,hW2⟩:=hrel;have HWJ:=zh hW2;have HFJ:=zh hfa;have HNJ:=zh hnd;have HXF:=zh hfx;have HXV:=zh hxv;have HXU:=zh hxu;have HXZ:=zh hxz;obtain ⟨p0,p1⟩:=HF1.out _ hW2;have zF:=a0j p0;have x2:=hnd 2 _ rfl;have x3:=hnd 3 _ rfl;have hBo:=HZ.out _ hW2;clear hW2 hfa hnd hxv hxu hgx hfx;by_cases hlt2:(j:Int) < n.b
      case pos =>
       obtain ⟨m,hm⟩:∃ m,m=a+pc+j:=⟨_,rfl⟩;have hj3:j≤300:=by have:=HD2.out;have:=HLA.out;have:=HSA.out;omega
       have hmL:m < LA:=by have:=HD2.out;have:=HLA.out;omega
       obtain ⟨x,hx⟩:∃ x,A[m]?=some x:=⟨_,List.getElem?_eq_getElem (by have:=HLA.out;omega)⟩;obtain ⟨ga,oa,rfl,hca⟩:=HAA.out m x hx;have hgo:ga < G:=by have:=a0j hca;have:=HLG.out;dsimp only at *;omega
       have hc2:=a0f hBo hca (a0j hca);have zc:=a0j hc2;obtain ⟨y1,y2⟩:=HAR.out x (List.mem_of_getElem? hx);have HPO2:Hid (pA A s a (pc+(j+1))=pA A s a (pc+j) ++ [x - (s:Int)]):=zh (by rw [← Nat.add_assoc];exact d6e (by rw [← Nat.add_assoc,← hm];exact hx));have HPL2:Hid ((pA A s a (pc+j)).length=pc+j):=zh (d6d (by have:=HLA.out;omega));have HLE:Hid ((pA A s a (pc+j) ++ [x - (s:Int)]).length=pc+j+1):=zh (by rw [List.length_append,HPL2.out];rfl);have q1:=HFJ.out.c1;have qf1:=HFJ.out.f1;have pz:=HFJ.out.pz;have HPU:Hid (∀ y,v1.ownBlock=some y→G≠y):=fun y hy e => by have h1:=(HFJ.out.ov.lt y hy).1;omega
       have HPF:Hid (∀ y,v1.ownBlock=some y→F≠y):=fun y hy e => by have h1:=(HFJ.out.ov.lt y hy).1;have:=HFG.out;omega
       have HPG:Hid (∀ y,v1.ownBlock=some y→ga≠y):=fun y hy e => by have h1:=(HFJ.out.ov.lt y hy).1;omega
       have HGL:Hid ((pA A s a (pc+j)).length≤100000):=zh (by rw [HPL2.out];have:=HSA.out;omega);have hw1:IntKind.i64.wrap (n.a+(j:Int))=(m:Int):=by rw [HD1.out];rw [IntWalk.i64_in _ (by have:=HSA.out;omega)];omega
       have hw2:IntKind.i64.wrap (x - (s:Int))=x - (s:Int):=IntWalk.i64_in _ (by have:=HSA.out;omega);have hFG:=HFG.out;have hGX:=HGX.out;have hm0:(0:Int)≤(m:Int):=Int.natCast_nonneg m;clear hx hca hm
       go_upto_region 23 with (fail)
       have HF:Hid (∀ W,Below wr.heap.size wr W→Below w.heap.size w W):=fun W hW => hBo.trans (hW.mono hBo.size)
       clear hBo;refine wp_region_held_drew (S:=fun w' => w'.cell? ⟨F,1,none⟩=some (.slice (some ⟨ga,oa,none⟩) LA cv)∧w'.cell? ⟨X,2,none⟩=some (.int .i64 n.a)∧w'.cell? ⟨ga,oa+m,none⟩=some (.int .i64 x)) (by kernel_rfl) (by ((try dsimp only);((repeat' apply And.intro) <;> first | assumption | exact p1 | exact x2 | exact hc2 | exact a0b (W:=wr) p1 | exact a0b (W:=wr) x2 | exact a0b (W:=wr) hc2 | exact a0a hgrow2 (a0b (W:=wr) p1) HPF.out | exact a0a hgrow2 (a0b (W:=wr) x2) HXV.out | exact a0a hgrow2 (a0b (W:=wr) hc2) HPG.out | exact a0e (a0a hgrow2 (a0b (W:=wr) p1) HPF.out) (by dsimp only;omega) | exact a0e (a0a hgrow2 (a0b (W:=wr) x2) HXV.out) (by dsimp only;omega) | exact a0e (a0a hgrow2 (a0b (W:=wr) hc2) HPG.out) (by dsimp only;omega) | go_keep | (rw [hcx _ _ (by assumption)];assumption)))) (fun hHeld => ?_)
       refine tk 0 ?_;try simp only [pz]
       refine tk 2 ?_;try simp only [pz]
       refine tk 3 ?_;try simp only [pz]
       refine tk 4 ?_;try simp only [pz]
       refine tk 5 ?_;try simp only [pz]
       refine tk 6 ?_;try simp only [pz]
       refine tk 7 ?_;try simp only [pz]
       refine tk 8 ?_;try simp only [pz]
       refine tk 9 ?_;try simp only [pz]
       refine tk 10 ?_;try simp only [pz]
       refine tk 11 ?_;try simp only [pz]
       refine wpAnyH_ready (rs:=[1,12]) (by kernel_rfl) (by simp) ?_;refine AllReadyH.cons rfl (fun K hK => ?_) (AllReadyH.cons rfl (fun K hK => ?_) AllReadyH.nil)
       focus
        go_simp;try (go_wp2_with fail)
        refine hK.out _ _ (by ((try dsimp only);((repeat' apply And.intro) <;> first | assumption | exact p1 | exact x2 | exact hc2 | exact a0b (W:=wr) p1 | exact a0b (W:=wr) x2 | exact a0b (W:=wr) hc2 | exact a0a hgrow2 (a0b (W:=wr) p1) HPF.out | exact a0a hgrow2 (a0b (W:=wr) x2) HXV.out | exact a0a hgrow2 (a0b (W:=wr) hc2) HPG.out | exact a0e (a0a hgrow2 (a0b (W:=wr) p1) HPF.out) (by dsimp only;omega) | exact a0e (a0a hgrow2 (a0b (W:=wr) x2) HXV.out) (by dsimp only;omega) | exact a0e (a0a hgrow2 (a0b (W:=wr) hc2) HPG.out) (by dsimp only;omega) | go_keep | (rw [hcx _ _ (by assumption)];assumption)))) (fun hHeld => ?_)
        clear hK K;try simp only [pz]
        refine rd1 12 (by kernel_rfl) rfl fun K hK => ?_
        go_simp;try (go_wp2_with fail)
        refine hK.out _ _ (by ((try dsimp only);((repeat' apply And.intro) <;> first | assumption | exact p1 | exact x2 | exact hc2 | exact a0b (W:=wr) p1 | exact a0b (W:=wr) x2 | exact a0b (W:=wr) hc2 | exact a0a hgrow2 (a0b (W:=wr) p1) HPF.out | exact a0a hgrow2 (a0b (W:=wr) x2) HXV.out | exact a0a hgrow2 (a0b (W:=wr) hc2) HPG.out | exact a0e (a0a hgrow2 (a0b (W:=wr) p1) HPF.out) (by dsimp only;omega) | exact a0e (a0a hgrow2 (a0b (W:=wr) x2) HXV.out) (by dsimp only;omega) | exact a0e (a0a hgrow2 (a0b (W:=wr) hc2) HPG.out) (by dsimp only;omega) | go_keep | (rw [hcx _ _ (by assumption)];assumption)))) (fun hHeld => ?_)
        clear hK K;try simp only [pz]
       rotate_left 1
       focus
        go_simp;try (go_wp2_with fail)
        refine hK.out _ _ (by ((try dsimp only);((repeat' apply And.intro) <;> first | assumption | exact p1 | exact x2 | exact hc2 | exact a0b (W:=wr) p1 | exact a0b (W:=wr) x2 | exact a0b (W:=wr) hc2 | exact a0a hgrow2 (a0b (W:=wr) p1) HPF.out | exact a0a hgrow2 (a0b (W:=wr) x2) HXV.out | exact a0a hgrow2 (a0b (W:=wr) hc2) HPG.out | exact a0e (a0a hgrow2 (a0b (W:=wr) p1) HPF.out) (by dsimp only;omega) | exact a0e (a0a hgrow2 (a0b (W:=wr) x2) HXV.out) (by dsimp only;omega) | exact a0e (a0a hgrow2 (a0b (W:=wr) hc2) HPG.out) (by dsimp only;omega) | go_keep | (rw [hcx _ _ (by assumption)];assumption)))) (fun hHeld => ?_)
        clear hK K;try simp only [pz]
        refine rd1 1 (by kernel_rfl) rfl fun K hK => ?_
        go_simp;try (go_wp2_with fail)
        refine hK.out _ _ (by ((try dsimp only);((repeat' apply And.intro) <;> first | assumption | exact p1 | exact x2 | exact hc2 | exact a0b (W:=wr) p1 | exact a0b (W:=wr) x2 | exact a0b (W:=wr) hc2 | exact a0a hgrow2 (a0b (W:=wr) p1) HPF.out | exact a0a hgrow2 (a0b (W:=wr) x2) HXV.out | exact a0a hgrow2 (a0b (W:=wr) hc2) HPG.out | exact a0e (a0a hgrow2 (a0b (W:=wr) p1) HPF.out) (by dsimp only;omega) | exact a0e (a0a hgrow2 (a0b (W:=wr) x2) HXV.out) (by dsimp only;omega) | exact a0e (a0a hgrow2 (a0b (W:=wr) hc2) HPG.out) (by dsimp only;omega) | go_keep | (rw [hcx _ _ (by assumption)];assumption)))) (fun hHeld => ?_)
        clear hK K;try simp only [pz]
       rotate_left 1
       all_goals
        refine rd1 13 (by kernel_rfl) rfl fun K hK => ?_
        (refine d2c (by rfl) _ _ (by rfl) (base:=G+1) (v:=v1) (A:=pA A s a (pc+j)) (B:=[x - (s:Int)]) (by rfl) (HFJ.out.ov.alloc _) (by rfl) (a5o wr _ _ _ rfl) HGL.out (by simp) (by have:=HFJ.out.bw;simp;omega) ?_;intro v2 wf hown2 hgrow2 hnear2;rw [HLE.out] at hown2;obtain ⟨b2,c2,rfl⟩:=a0l hown2;have pfd:=a0m hgrow2 (alZ pz) (alF pz qf1) HPU.out;have pcd:=a0a hgrow2 (a0b (W:=wr) q1) HPU.out)
        refine hK.out _ _ (by ((try dsimp only);((repeat' apply And.intro) <;> first | assumption | exact p1 | exact x2 | exact hc2 | exact a0b (W:=wr) p1 | exact a0b (W:=wr) x2 | exact a0b (W:=wr) hc2 | exact a0a hgrow2 (a0b (W:=wr) p1) HPF.out | exact a0a hgrow2 (a0b (W:=wr) x2) HXV.out | exact a0a hgrow2 (a0b (W:=wr) hc2) HPG.out | exact a0e (a0a hgrow2 (a0b (W:=wr) p1) HPF.out) (by dsimp only;omega) | exact a0e (a0a hgrow2 (a0b (W:=wr) x2) HXV.out) (by dsimp only;omega) | exact a0e (a0a hgrow2 (a0b (W:=wr) hc2) HPG.out) (by dsimp only;omega) | go_keep | (rw [hcx _ _ (by assumption)];assumption)))) (fun hHeld => ?_)
        clear hK K;try simp only [pz]
        refine tk 14 ?_;try simp only [pz]
        refine rd1 15 (by kernel_rfl) rfl fun K hK => ?_
        go_simp;try (go_wp2_with fail)
        refine hK.out _ _ (by ((try dsimp only);((repeat' apply And.intro) <;> first | assumption | exact p1 | exact x2 | exact hc2 | exact a0b (W:=wr) p1 | exact a0b (W:=wr) x2 | exact a0b (W:=wr) hc2 | exact a0a hgrow2 (a0b (W:=wr) p1) HPF.out | exact a0a hgrow2 (a0b (W:=wr) x2) HXV.out | exact a0a hgrow2 (a0b (W:=wr) hc2) HPG.out | exact a0e (a0a hgrow2 (a0b (W:=wr) p1) HPF.out) (by dsimp only;omega) | exact a0e (a0a hgrow2 (a0b (W:=wr) x2) HXV.out) (by dsimp only;omega) | exact a0e (a0a hgrow2 (a0b (W:=wr) hc2) HPG.out) (by dsimp only;omega) | go_keep | (rw [hcx _ _ (by assumption)];assumption)))) (fun hHeld => ?_)
        clear hK K;try simp only [pz]
        refine wpAnyH_done (by kernel_rfl) ?_ _;go_wp2_with fail;have hgrow3:(World.alloc wr (.cells #[.int .i64 (x - (s:Int))] 3)).grownBy wf v1.ownBlock:=⟨hgrow2.os,hgrow2.tape,hgrow2.output,hgrow2.size,hgrow2.block⟩
        go_roundw
        case rel =>
         refine ⟨j+1,.slice b2 (pc+j+1) c2,by omega,by go_num,?_,fun q u hu => a0e (a0a hgrow3 (a0b (HNJ.out q u hu)) HXV.out) (by dsimp only;omega),frz_set.trans (a0m hgrow3 (alZ HXZ.out) (alF HXZ.out HXF.out) HXV.out),fun g hg e => ?_,HXU.out,hGX,by have h1:=hgrow3.size;have h2:=HXZ.out;simp at h1 ⊢;omega,?_⟩
         ·
          rw [HPO2.out];exact FAt.setA (HFJ.out.below (a0i (Below.refl _ _)):FAt (World.alloc wr _) G (G+1) _ _ _ _ _ _) hgrow3 (by rw [HLE.out];exact hown2) hnear2
         ·
          rcases hnear2 g hg with h3 | h3
          ·
           exact HXV.out g h3 e
          ·
           have:=HXZ.out;simp at h3;omega
         ·
          exact (a3m (HWJ.out.alloc (Nat.le_of_lt pz) _) (HFJ.out.ov.alloc _) (by omega) (by simp;omega) hgrow3).setCell (Nat.le_refl G) _
        case measure => simp [intOf];omega
      have hjb:(j:Int)=n.b:=by omega
      have hwn:IntKind.i64.wrap (n.a - (a:Int))=n.a - (a:Int):=IntWalk.i64_in _ (by have:=HD1.out;have:=HD2.out;have:=HLA.out;have:=HSA.out;omega);have HPJ:Hid (pC N s (k+1)=pc+j):=zh (by have:=HPC.out;omega);have HAT:Hid (Value.int .i64 (a:Int)=.int .i64 (if pC N s (k+1)=0 then -1 else (a:Int))):=zh (by rw [if_neg (by have:=HPJ.out;omega)]);have xf2:=HXF.out;clear p0 p1 hb a1 a2
      go_upto_region 25 with (fail)
      obtain ⟨ws,hws⟩:∃ z,z=wr.setCell ⟨X,2,none⟩ (.int .i64 (n.a - a)):=⟨_,rfl⟩;have hNX:NdAt ws X (mvN (-(s:Int)) (-(a:Int)) n):=by rw [hws,HMV2.out];exact HNJ.out.set2 HXF.out _
      have hFX:FAt ws G (G+1) (pN N s a k) (pA A s a (pC N s (k+1))) [] u1 v1 (.slice none 0 0):=by rw [hws,HPJ.out];exact FAt.setOff HFJ.out (by have:=HGX.out;omega) HXU.out HXV.out
      have hBW:Below G t0 ws:=by rw [hws];exact HWJ.out.setCell (Nat.le_of_lt HGX.out) _
      rw [← hws];have xf3:True:=trivial;have x0:True:=trivial;have r0:True:=trivial;have r1:True:=trivial;have HWX:True:=trivial;have HBX:True:=trivial;have HND:True:=trivial;have HFX2:True:=trivial;have HFX3:True:=trivial;clear hws HPC HPJ hjb hwn hlt2 hBo HFJ HNJ HXF HXV HXU HWJ HXZ HU1 HD1 HD2 hj hxz
   case' inr.inr.inr.inl =>
    have g7:(n.k == 7)=false:=by simpa using h7
    have g8:(n.k == 8)=false:=by simpa using h8
    have g9:(n.k == 9)=true:=by simpa using h9
    have HMV2:Hid (mvN (-(s:Int)) (-(a:Int)) n=n):=(if_neg h7).trans ((if_neg h8).trans (if_neg (by omega)));have HPC:Hid (pC N s (k+1)=pC N s k):=zh (by have:=HS2.out;rw [if_pos h9] at this;have:=HB9.out n HMN.out h9;omega);have HAT:Hid (Value.int .i64 at0=.int .i64 (if pC N s (k+1)=0 then -1 else (a:Int))):=zh (by rw [HPC.out,HAT0.out]);clear h7 h8 h9
    go_upto_region 25 with (fail)
    obtain ⟨ws,hws⟩:∃ z,z=we:=⟨_,rfl⟩;have hNX:NdAt ws X (mvN (-(s:Int)) (-(a:Int)) n):=by rw [hws,HMV2.out];exact HND.out
    have hFX:FAt ws G (G+1) (pN N s a k) (pA A s a (pC N s (k+1))) [] u1 v1 (.slice none 0 0):=by rw [hws,HPC.out];exact HWX.out
    have hBW:Below G t0 ws:=by rw [hws];exact HBX.out
    rw [← hws];clear hws HPC hb
   case' inr.inr.inr.inr =>
    have g7:(n.k == 7)=false:=by simpa using h7
    have g8:(n.k == 8)=false:=by simpa using h8
    have g9:(n.k == 9)=false:=by simpa using h9
    have HMV2:Hid (mvN (-(s:Int)) (-(a:Int)) n=n):=(if_neg h7).trans ((if_neg h8).trans (if_neg (fun h => h9 h.1)));have HPC:Hid (pC N s (k+1)=pC N s k):=zh (by have:=HS2.out;rw [if_neg h9] at this;omega);have HAT:Hid (Value.int .i64 at0=.int .i64 (if pC N s (k+1)=0 then -1 else (a:Int))):=zh (by rw [HPC.out,HAT0.out]);clear h7 h8 h9
    go_upto_region 25 with (fail)
    obtain ⟨ws,hws⟩:∃ z,z=we:=⟨_,rfl⟩;have hNX:NdAt ws X (mvN (-(s:Int)) (-(a:Int)) n):=by rw [hws,HMV2.out];exact HND.out
    have hFX:FAt ws G (G+1) (pN N s a k) (pA A s a (pC N s (k+1))) [] u1 v1 (.slice none 0 0):=by rw [hws,HPC.out];exact HWX.out
    have hBW:Below G t0 ws:=by rw [hws];exact HBX.out
    rw [← hws];clear hws HPC
   all_goals
    clear x0 x2 x3 xf2 xf3 r0 r1 zF g7 g8 g9 HMV2 HWX HBX HND HFX2 HFX3 M1 M2 M3;obtain ⟨m,hm⟩:∃ m,m=mvN (-(s:Int)) (-(a:Int)) n:=⟨_,rfl⟩;rw [← hm] at hNX HS1;clear hm;obtain ⟨JN,hJN⟩:∃ z,z=pN N s a k:=⟨_,rfl⟩;rw [← hJN] at hFX HS1;have HJL:Hid (JN.length=k - s):=zh (by rw [hJN];exact HPL.out k (by have:=HKL.out;have:=HLN.out;omega));clear hJN;have LX:=hNX.load HK19;have HFX:=zh hFX;have HBW:=zh hBW;have p0:=hFX.c0;have pf0:=hFX.f0;have pz:=hFX.pz;have HPU:Hid (∀ y,u1.ownBlock=some y→G≠y):=fun y hy e => by have h1:=(HFX.out.ou.lt y hy).1;omega
    have HNL:Hid (JN.length≤100000):=zh (by have:=HJL.out;have:=HSA.out;omega);have HHLE:Hid ((JN ++ [m]).length=k - s+1):=zh (by rw [List.length_append,HJL.out];rfl);clear hNX hFX hBW;go_wp2_with (first | (refine a1j rfl _ rfl m (by rfl) ?_) | (at_builtin;refine a1k rfl _ _ rfl (base:=G+1) (v:=u1) (N:=JN) (M:=[m]) (by rfl) (HFX.out.ou.alloc _) (by rfl) (a4u ws m _) HNL.out (by simp) (by have:=HFX.out.bw;simp;omega) ?_;intro v2 wf hown2 hgrow2 hnear2;rw [HHLE.out] at hown2;obtain ⟨b2,c2,rfl⟩:=a0l hown2;have pfd:=a0m hgrow2 (alZ pz) (alF pz pf0) HPU.out;have pcd:=a0a hgrow2 (a0b (W:=ws) p0) HPU.out))
    go_roundw
    case rel =>
     refine ⟨k+1,.slice b2 (k - s+1) c2,v1,by have:=HSK.out;omega,by omega,by go_num,HAT.out,?_,?_⟩
     ·
      rw [HS1.out];exact FAt.setN (HFX.out.below (a0i (Below.refl _ _)):FAt (World.alloc ws _) G (G+1) _ _ _ _ _ _) hgrow2 (by rw [HHLE.out];exact hown2) hnear2
     ·
      exact (a3m (HBW.out.alloc (Nat.le_of_lt pz) _) (HFX.out.ou.alloc _) (by omega) (by simp;omega) hgrow2).setCell (Nat.le_refl G) _
    case measure => simp [intOf];omega
  ·
   obtain rfl:k=i+1:=by omega
   have hfa:=HWK.out;have e1:=congrArg Prod.fst HEN.out;have e2:=congrArg Prod.snd HEN.out;dsimp only at e1 e2;rw [← e1,← e2] at HPO;obtain ⟨NN,hNN⟩:∃ z,z=pN N s a (i+1):=⟨_,rfl⟩;obtain ⟨AA,hAA⟩:∃ z,z=pA A s a (pC N s (i+1)):=⟨_,rfl⟩;rw [← hNN,← hAA] at hfa HPO;clear e1 e2 hNN hAA HWK HEN HAT0 HAA;have HF3:=zh hfa;obtain ⟨bu,cu,rfl⟩:=a0l hfa.ou;obtain ⟨bw,cw,rfl⟩:=a0l hfa.ov;have q0:=hfa.c0;have q1:=hfa.c1;have pz:=hfa.pz;obtain ⟨kR0,kR1,fR0,fR1⟩:=HR1.out _ HW.out;have zR:=a0j kR0;have HBO:=zh hBo;clear hfa hBo p0 p1 zF;go_wp2_with fail;refine bodyPost_ret (v:=.tuple #[.agg #[.slice bu NN.length cu,.slice bw AA.length cw],.int .i64 0]) (by simp [results,Tryz.results12,go_sem,kR0,kR1,fR0,fR1,zR,q0,q1]) rfl ?_;rw [HPO.out];have hu:∀ g,(Value.slice bu NN.length cu).ownBlock=some g→R≠g:=fun g hg => by have:=(HF3.out.ou.lt g hg).1;have:=HRG.out;omega
   have hv:∀ g,(Value.slice bw AA.length cw).ownBlock=some g→R≠g:=fun g hg => by have:=(HF3.out.ov.lt g hg).1;have:=HRG.out;omega
   exact ⟨⟨_,_,rfl,d1t (d1t HF3.out.nodes hu) hu,d1v (d1v HF3.out.args hv) hv⟩,(HBO.out.setCell HLR.out _).setCell HLR.out _⟩
set_option maxHeartbeats 8000000
theorem d2s (u v:Value) (N:List Nd) (A:List Int) (i:Int) (w:World) (hN:NodesAt w u N) (hA:IntsAt w v A) (hf:∀ n ∈ N,Fits n) (l1:N.length≤1000) (l2:A.length≤1000) (hno:a0w N A=true→¬ (0≤i∧i < N.length)) :
  Calls Tryz.prog 12 #[.agg #[u,v],.int .i64 i] w (d1w ([],[],if a0w N A then 2 else 3) w):=by
 have hud:undef=Value.tuple #[]:=rfl;obtain ⟨bn,cn,rfl,_⟩:=hN.slice;have hrt:=fun W hN hA => a3t (.slice bn N.length cn) v N A W hN hA hf l2 l1
 obtain ⟨b,hb⟩:∃ b,b=a0w N A:=⟨_,rfl⟩;rw [← hb] at hrt hno ⊢;have HR:Hid (∀ W,Below w.heap.size w W→Calls Tryz.prog 20 #[.agg #[.slice bn N.length cn,v]] W fun e w' => e=.returned (.bool b)∧Below W.heap.size W w'):=fun W h => hrt W (hN.below h) (hA.below h)
 obtain ⟨L,hL⟩:∃ L,L=N.length:=⟨_,rfl⟩;rw [← hL] at HR hno ⊢;clear hN hA hf hrt hb hL l1 l2
 cases b with
 | false =>
  rw [if_neg Bool.false_ne_true];obtain ⟨Po,hPo⟩:∃ Po,Po=d1w ([],[],3) w:=⟨_,rfl⟩;rw [← hPo];have HPO:=zh hPo;clear hPo hno;go_enter Tryz.func12,Tryz.ntmps12;go_wp2_with fail;obtain ⟨s1,hws⟩:∃ s,s=((w.alloc (.cells #[.slice bn L cn,v] 36)).alloc (.cells #[.slice none 0 0,.slice none 0 0] 36)):=⟨_,rfl⟩;have hBs:=bs2 (Below.refl w.heap.size w) hws;obtain ⟨F,hdF⟩:∃ b,b=w.heap.size:=⟨_,rfl⟩;obtain ⟨R,hdR⟩:∃ b,b=w.heap.size+1:=⟨_,rfl⟩;have hsz:s1.heap.size=w.heap.size+1+1:=by rw [hws];simp
  have dRF:R≠F:=by omega
  have hN:=bx1 (b:=F) hws hdF;have kF0:=hN 0 _ rfl;have kF1:=hN 1 _ rfl;clear hN;have zF:F < s1.heap.size:=by omega
  have lF:w.heap.size≤F:=by omega
  have hN:=bx0 (b:=R) hws (by simp [hdR]);have hM:=bf0 (b:=R) hws (by simp [hdR]);have kR0:=hN 0 _ rfl;have kR1:=hN 1 _ rfl;have fR0:=hM 0;have fR1:=hM 1;clear hN hM;have zR:R < s1.heap.size:=by omega
  have lR:w.heap.size≤R:=by omega
  rw [← hws];try rw [← hdR]
  try rw [← hdF]
  clear hws hsz hdF hdR;have hBo:=hBs;clear hBs;go_wp2_with fail;refine (HR.out _ hBo).mono ?_;rintro e s2 ⟨rfl,hb⟩;replace kF0:=a0f hb kF0 zF;replace kF1:=a0f hb kF1 zF;replace zF:=zHl hb zF;replace kR0:=a0f hb kR0 zR;replace kR1:=a0f hb kR1 zR;replace fR0:=a0g hb fR0 zR;replace fR1:=a0g hb fR1 zR;replace zR:=zHl hb zR;replace hBo:=hBo.trans (hb.mono hBo.size);clear hb;go_wp2_with fail;refine bodyPost_ret (v:=.tuple #[.agg #[.slice none 0 0,.slice none 0 0],.int .i64 3]) (by simp [results,Tryz.results12,go_sem,kR0,kR1,fR0,fR1,zR]) rfl ?_;rw [HPO.out];exact d1x ((hBo.setCell lR _).setCell lR _)
 | true =>
  rw [if_pos rfl];have hn2:=hno rfl;obtain ⟨Po,hPo⟩:∃ Po,Po=d1w ([],[],2) w:=⟨_,rfl⟩;rw [← hPo];have HPO:=zh hPo;clear hPo hno
  rcases Int.lt_or_le i 0 with h0 | h0
  case' inl =>
   clear hn2;go_enter Tryz.func12,Tryz.ntmps12;go_wp2_with fail;obtain ⟨s3,hws⟩:∃ s,s=((w.alloc (.cells #[.slice bn L cn,v] 36)).alloc (.cells #[.slice none 0 0,.slice none 0 0] 36)):=⟨_,rfl⟩;have hBs:=bs2 (Below.refl w.heap.size w) hws;obtain ⟨F,hdF⟩:∃ b,b=w.heap.size:=⟨_,rfl⟩;obtain ⟨R,hdR⟩:∃ b,b=w.heap.size+1:=⟨_,rfl⟩;have hsz:s3.heap.size=w.heap.size+1+1:=by rw [hws];simp
   have dRF:R≠F:=by omega
   have hN:=bx1 (b:=F) hws hdF;have kF0:=hN 0 _ rfl;have kF1:=hN 1 _ rfl;clear hN;have zF:F < s3.heap.size:=by omega
   have lF:w.heap.size≤F:=by omega
   have hN:=bx0 (b:=R) hws (by simp [hdR]);have hM:=bf0 (b:=R) hws (by simp [hdR]);have kR0:=hN 0 _ rfl;have kR1:=hN 1 _ rfl;have fR0:=hM 0;have fR1:=hM 1;clear hN hM;have zR:R < s3.heap.size:=by omega
   have lR:w.heap.size≤R:=by omega
   rw [← hws];try rw [← hdR]
   try rw [← hdF]
   clear hws hsz hdF hdR;have hBo:=hBs;clear hBs;go_wp2_with fail;refine (HR.out _ hBo).mono ?_;rintro e s4 ⟨rfl,hb⟩;replace kF0:=a0f hb kF0 zF;replace kF1:=a0f hb kF1 zF;replace zF:=zHl hb zF;replace kR0:=a0f hb kR0 zR;replace kR1:=a0f hb kR1 zR;replace fR0:=a0g hb fR0 zR;replace fR1:=a0g hb fR1 zR;replace zR:=zHl hb zR;replace hBo:=hBo.trans (hb.mono hBo.size);clear hb;go_wp2_with fail
  case' inr =>
   have h1:(L:Int)≤i:=by omega
   clear hn2;go_enter Tryz.func12,Tryz.ntmps12;go_wp2_with fail;obtain ⟨s5,hws⟩:∃ s,s=((w.alloc (.cells #[.slice bn L cn,v] 36)).alloc (.cells #[.slice none 0 0,.slice none 0 0] 36)):=⟨_,rfl⟩;have hBs:=bs2 (Below.refl w.heap.size w) hws;obtain ⟨F,hdF⟩:∃ b,b=w.heap.size:=⟨_,rfl⟩;obtain ⟨R,hdR⟩:∃ b,b=w.heap.size+1:=⟨_,rfl⟩;have hsz:s5.heap.size=w.heap.size+1+1:=by rw [hws];simp
   have dRF:R≠F:=by omega
   have hN:=bx1 (b:=F) hws hdF;have kF0:=hN 0 _ rfl;have kF1:=hN 1 _ rfl;clear hN;have zF:F < s5.heap.size:=by omega
   have lF:w.heap.size≤F:=by omega
   have hN:=bx0 (b:=R) hws (by simp [hdR]);have hM:=bf0 (b:=R) hws (by simp [hdR]);have kR0:=hN 0 _ rfl;have kR1:=hN 1 _ rfl;have fR0:=hM 0;have fR1:=hM 1;clear hN hM;have zR:R < s5.heap.size:=by omega
   have lR:w.heap.size≤R:=by omega
   rw [← hws];try rw [← hdR]
   try rw [← hdF]
   clear hws hsz hdF hdR;have hBo:=hBs;clear hBs;go_wp2_with fail;refine (HR.out _ hBo).mono ?_;rintro e s6 ⟨rfl,hb⟩;replace kF0:=a0f hb kF0 zF;replace kF1:=a0f hb kF1 zF;replace zF:=zHl hb zF;replace kR0:=a0f hb kR0 zR;replace kR1:=a0f hb kR1 zR;replace fR0:=a0g hb fR0 zR;replace fR1:=a0g hb fR1 zR;replace zR:=zHl hb zR;replace hBo:=hBo.trans (hb.mono hBo.size);clear hb;go_wp2_with fail
  all_goals
   refine bodyPost_ret (v:=.tuple #[.agg #[.slice none 0 0,.slice none 0 0],.int .i64 2]) (by simp [results,Tryz.results12,go_sem,kR0,kR1,fR0,fR1,zR]) rfl ?_;rw [HPO.out];exact d2g ((hBo.setCell lR _).setCell lR _)
def d2y (R:List Nd × List Int × Int):Prop:=(R.2.2=0→a0w R.1 R.2.1=true)∧(∀ n ∈ R.1,Fits n)∧R.1.length≤300∧R.2.1.length≤300
theorem d2d {e:Int} (h:e≠0):d2y ([],[],e):=⟨fun h2 => absurd h2 h,fun n h => (by cases h),Nat.zero_le _,Nat.zero_le _⟩
theorem d3d {N:List Nd} {A:List Int} (h:a0w N A=true) (hf:∀ n ∈ N,Fits n):d2y (N,A,0):=by
 have:=a4v h;exact ⟨fun _ => h,hf,by show N.length≤300;omega,by show A.length≤300;omega⟩
theorem d4z {n:Nd} (s:Jn) (h:Fits n):Fits (a5k n s):=by
 unfold a5k
 split
 ·
  exact h
 ·
  split <;> exact h
theorem d2n {n:Nd} {l:List (List Nd × List Int)} (hn:Fits n) (hl:∀ g ∈ l,∀ x ∈ g.1,Fits x):d2y (a3a n l):=by
 unfold a3a
 split
 ·
  split
  ·
   exact d2d (by decide)
  ·
   split
   ·
    rename_i h
    refine d3d (d0w h) fun x hx => ?_
    rcases List.mem_append.1 hx with h | h
    ·
     exact c5v l Jn.nil (fun n h => by cases h) hl x h
    ·
     rw [List.mem_singleton.1 h];exact d4z _ hn
   ·
    rename_i h;exact d2d h
 ·
  exact d2d (by decide)
theorem d4g (C:Nat→Bool) (h0:C 0=true) {k:Int} (h7:k≠7) (h8:k≠8) (h9:k≠9):a1q C [⟨k,0,0,8⟩] []=(0,0):=by
 simp [a1q,b1c,a7i,a1f,kidsS,b3j,a2z,a1v,a0n,c4r,brk,h0,h7,h8,h9]
theorem d3p {n:Nd} (h:a3b n=true):a0w [n] []=true:=by
 rw [(a3x _ _).1];have hc:cN [n] 0=true:=by rw [a3j (n:=n) rfl];exact b0f h
 have h6:n.k≤6:=by
  unfold a3b at h;rw [Bool.and_eq_true,Bool.and_eq_true,decide_eq_true_eq] at h;exact h.1.1
 have hb:n=a0s n:=by
  unfold a3b at h;rw [Bool.and_eq_true] at h;exact (a2o _ _).1 h.2
 have ha:n.a=0∧n.b=0:=by
  have hu:n.k=1 ∨ n.k=2 ∨ n.k=3 ∨ n.k=4 ∨ n.k=5 ∨ n.k=6:=by
   have h2:a4i n=true:=by
    unfold a3b at h;rw [Bool.and_eq_true,Bool.and_eq_true] at h;exact h.1.2
   unfold a4i at h2
   (repeat' split at h2) <;> first | omega | (exact absurd h2 (by decide))
  obtain ⟨k,o,a,b,qn,qa,qd,x,tr,r,t⟩:=n;dsimp only at hu ⊢
  rcases hu with rfl | rfl | rfl | rfl | rfl | rfl <;> (unfold a0s at hb;simp at hb;simp [hb])
 have hs:shN n=⟨n.k,0,0,8⟩:=by
  unfold shN;rw [ha.1,ha.2];have:lvI n.k n.o=8:=by unfold lvI;rw [if_neg (by omega),if_neg (by omega)]
  rw [this]
 have e:a1q (cN [n]) ([n].map shN) []=(0,0):=by
  rw [List.map_cons,List.map_nil,hs];exact d4g _ hc (by omega) (by omega) (by omega)
 rw [e];rfl
theorem d4h {n:Nd} (hf:Fits n):d2y (if a3b n then ([n],[],0) else ([],[],3)):=by
 split
 ·
  rename_i h
  exact d3d (d3p h) fun x hx => by rw [List.mem_singleton.1 hx];exact hf
 ·
  exact d2d (by decide)
theorem d4i {N:List Nd} {A:List Int} (h:a0w N A=true) (hf:∀ n ∈ N,Fits n) {i s:Nat} (hi:i < N.length) (hF:Forest (N.map shN) A s [(i:Int)] (i+1)):d2y ((c9u N A s i).1,(c9u N A s i).2,0):=by
 refine d3d (d3o h hi hF) fun x hx => ?_
 unfold c9u at hx;obtain ⟨m,hm,rfl⟩:=List.mem_map.1 hx;exact c5t _ _ (hf m (List.mem_of_mem_take (List.mem_of_mem_drop hm)))
theorem d5p {N:List Nd} {A:List Int} (h:a0w N A=true) {i:Nat} (hi:i < N.length):∃ s,Forest (N.map shN) A s [(i:Int)] (i+1):=by
 obtain ⟨h1,_,_⟩:=c9t h;obtain ⟨s,_,_,h2⟩:=d2q h1 i (Nat.zero_le _) hi;exact ⟨s,h2⟩
theorem d3q (N:List Nd) (A:List Int):sameB N N A A=true:=by unfold sameB;rw [b3x rfl,decide_eq_true rfl];rfl
def CellsF (W:World) (ds:List Value) (l:List (List Nd × List Int)):Prop:=ds.length=l.length * 2∧(∀ u ∈ ds,u.oneCell'=true)∧∀ (k:Nat) (f:List Nd × List Int),l[k]?=some f→∃ us vs,ds[k * 2]?=some us∧ds[k * 2+1]?=some vs∧NodesAt W us f.1∧IntsAt W vs f.2
theorem CellsF.below {W W':World} {ds:List Value} {l:List (List Nd × List Int)} (h:CellsF W ds l) (hb:Below W.heap.size W W'):CellsF W' ds l :=
 ⟨h.1,h.2.1,fun k f hk => by obtain ⟨us,vs,h1,h2,h3,h4⟩:=h.2.2 k f hk;exact ⟨us,vs,h1,h2,h3.below hb,h4.below hb⟩⟩
theorem d2t {W:World} {v:Value} {N:List Nd} (h:NodesAt W v N):v.oneCell'=true:=by
 obtain ⟨b,c,rfl,_⟩:=h.slice;rfl
theorem d2u {W:World} {v:Value} {N:List Int} (h:IntsAt W v N):v.oneCell'=true:=by
 obtain ⟨b,c,rfl,_⟩:=h.slice;rfl
theorem CellsF.snoc {W:World} {ds:List Value} {l:List (List Nd × List Int)} {us vs:Value} {f:List Nd × List Int} (h:CellsF W ds l) (h1:NodesAt W us f.1) (h2:IntsAt W vs f.2):CellsF W (ds ++ [us,vs]) (l ++ [f]):=by
 refine ⟨by rw [List.length_append,List.length_append,h.1];simp;omega,fun u hu => ?_,fun k g hk => ?_⟩
 ·
  rcases List.mem_append.1 hu with h3 | h3
  ·
   exact h.2.1 u h3
  ·
   rcases List.mem_cons.1 h3 with rfl | h3
   ·
    exact d2t h1
   ·
    rw [List.mem_singleton.1 h3];exact d2u h2
 ·
  by_cases hkl:k < l.length
  ·
   rw [List.getElem?_append_left hkl] at hk;obtain ⟨us2,vs2,e1,e2,e3,e4⟩:=h.2.2 k g hk;have:=h.1;exact ⟨us2,vs2,by rw [List.getElem?_append_left (by omega)];exact e1,by rw [List.getElem?_append_left (by omega)];exact e2,e3,e4⟩
  ·
   rw [List.getElem?_append_right (by omega)] at hk
   obtain ⟨k0,g0⟩:k - l.length=0∧f=g:=by
    match hm:k - l.length,hk with
    | 0,hk => exact ⟨rfl,by simpa using hk⟩
    | q+1,hk => simp at hk
   subst g0;have hkk:k=l.length:=by omega
   subst hkk;exact ⟨us,vs,by rw [List.getElem?_append_right (by rw [h.1];omega),h.1,Nat.sub_self];rfl,by rw [List.getElem?_append_right (by rw [h.1];omega),h.1,Nat.add_sub_cancel_left];rfl,h1,h2⟩
def d5q (W:World) (v:Value) (m:Nat) (es:List Value):Prop:=es.length=m * 2∧(∀ u ∈ es,u.oneCell'=true)∧((v=.slice none 0 0∧m=0) ∨ ∃ g o cap:Nat,v=.slice (some ⟨g,o,none⟩) m cap∧∀ j u,es[j]?=some u→W.cell? ⟨g,o+j,none⟩=some u)
theorem d5r (W:World) {b1 b2:Option Addr} {n1 n2 c1 c2:Nat} (t:TypeId):d5q (W.alloc (.cells #[.slice b1 n1 c1,.slice b2 n2 c2] t)) (.slice (some ⟨W.heap.size,0,none⟩) 1 1) 1 [.slice b1 n1 c1,.slice b2 n2 c2]:=by
 refine ⟨rfl,fun u hu => ?_,Or.inr ⟨_,0,1,rfl,fun j u hu => ?_⟩⟩
 ·
  rcases List.mem_cons.1 hu with rfl | hu
  ·
   rfl
  ·
   rw [List.mem_singleton.1 hu];rfl
 ·
  match j,hu with
  | 0,hu => obtain rfl:Value.slice b1 n1 c1=u:=(by simpa using hu);simp [go_sem]
  | 1,hu => obtain rfl:Value.slice b2 n2 c2=u:=(by simpa using hu);simp [go_sem]
  | q+2,hu => simp at hu
theorem FormsAt.cells {W:World} {v:Value} {l:List (List Nd × List Int)} (h:FormsAt W v l):∃ ds,CellsF W ds l∧d5q W v l.length ds:=by
 rcases h with ⟨rfl,rfl⟩ | ⟨g,o,cap,hv,h1,h2,hc⟩
 ·
  exact ⟨[],⟨rfl,fun u h => (by cases h),fun k f hk => by simp at hk⟩,rfl,fun u h => (by cases h),Or.inl ⟨rfl,rfl⟩⟩
 ·
  have hex:∀ m,m≤l.length→∃ ds,CellsF W ds (l.take m)∧∀ j u,ds[j]?=some u→W.cell? ⟨g,o+j,none⟩=some u:=by
   intro m
   induction m with
   | zero => exact fun _ => ⟨[],⟨rfl,fun u h => (by cases h),fun k f hk => by simp at hk⟩,fun j u hj => by simp at hj⟩
   | succ m ih =>
    intro hm;obtain ⟨ds,h3,h4⟩:=ih (by omega);have hf:l[m]?=some l[m]:=List.getElem?_eq_getElem (by omega);obtain ⟨us,vs,c1,c2,c3,c4⟩:=hc m _ hf;have hds:ds.length=m * 2:=by rw [h3.1,List.length_take,Nat.min_eq_left (by omega)]
    refine ⟨ds ++ [us,vs],?_,fun j u hj => ?_⟩
    ·
     rw [List.take_add_one,hf];exact h3.snoc c3 c4
    ·
     by_cases hjl:j < ds.length
     ·
      rw [List.getElem?_append_left hjl] at hj;exact h4 j u hj
     ·
      rw [List.getElem?_append_right (by omega)] at hj
      match hm2:j - ds.length,hj with
      | 0,hj =>
       obtain rfl:us=u:=by simpa using hj
       rw [show j=m * 2 by omega];exact c1
      | 1,hj =>
       obtain rfl:vs=u:=by simpa using hj
       rw [show o+j=o+m * 2+1 by omega];exact c2
      | q+2,hj => simp at hj
  obtain ⟨ds,h3,h4⟩:=hex l.length (Nat.le_refl _);rw [List.take_length] at h3;exact ⟨ds,h3,h3.1,h3.2.1,Or.inr ⟨g,o,cap,hv,h4⟩⟩
theorem FormsAt.of_owns {W:World} {v:Value} {n base:Nat} {t:TypeId} {ds:List Value} {l:List (List Nd × List Int)} (h:W.ownsRow base t 2 v n ds) (hc:CellsF W ds l):n=l.length∧FormsAt W v l:=by
 have hl:=h.1;have hn:n=l.length:=by have:=hc.1;omega
 refine ⟨hn,?_⟩
 rcases h.2 with ⟨hv,h0⟩ | ⟨g,cap,cur,hv,_,hgg,hcc,hm,_⟩
 ·
  exact Or.inl ⟨hv,List.eq_nil_of_length_eq_zero (by omega)⟩
 ·
  refine Or.inr ⟨g,0,cap,by rw [hv,hn],by omega,hm,fun k f hk => ?_⟩
  obtain ⟨us,vs,e1,e2,e3,e4⟩:=hc.2.2 k f hk;have c1:=h.cells (g:=g) (by rw [hv];rfl) (k * 2) us e1;have c2:=h.cells (g:=g) (by rw [hv];rfl) (k * 2+1) vs e2;rw [Addr.add_lit] at c1 c2;exact ⟨us,vs,c1,by rw [Nat.add_assoc];exact c2,e3,e4⟩
theorem Tryz.infoForm:(Tryz.prog.info? 36).map (fun i => (i.zero,i.size,i.bytes))=some (some (.agg #[.slice none 0 0,.slice none 0 0]),2,48):=by kernel_rfl
theorem d1y {w:World} {o:Oper} {a:Act} {ops:Array Oper} {rest:List Oper} {Q:Exit→Act→World→Prop} (hgd:o.guard=none) (s x:Operand) (ho:o.op=.call { callee:=.builtin .append,args:=#[s,x],argTypes:=#[24,24] })
  {base n m:Nat} {v xv:Value} {ds es:List Value} (hs:a.eval s=v) (hown:w.ownsRow base 36 2 v n ds) (hx:a.eval x=xv) (hM:d5q w xv m es) (hn:n≤100000) (hm:m≤100000) (hbase:base≤w.heap.size)
  (h:∀ v' w',w'.ownsRow base 36 2 v' (n+m) (ds ++ es)→w.grownBy w' v.ownBlock→c2n w v v'→wpList Tryz.prog ops Q rest (a.put o.dst v') w'):wpList Tryz.prog ops Q (o :: rest) a w:=by
 refine wpList_plain hgd fun K hK => ?_
 obtain ⟨i0,hi0,hz0,hz1,hz2⟩:=info_parts Tryz.infoForm;obtain ⟨hl,h1,hM⟩:=hM
 rcases hM with ⟨rfl,rfl⟩ | ⟨g,oo,cap,rfl,hc⟩
 ·
  have he:es=[]:=List.eq_nil_of_length_eq_zero (by rw [hl]);subst he;have hrun:=run_append_owned_none (P:=Tryz.prog) (w:=w) base 24 o.type 36 i0 2 Tryz.underlying24 hi0 v _ _ hown;unfold Oper.wp execOp;simp only [ho,resolve,invoke,builtin,Sem.run_bind,Sem.run_pure,Result.andThen_ok,List.map_toArray,List.map_cons,List.map_nil,hs,hx,hrun];exact hK _ _ (h v w (by rw [List.append_nil];exact hown) ⟨rfl,rfl,rfl,Nat.le_refl _,fun _ _ _ => rfl⟩ (fun g hg => Or.inl hg))
 ·
  obtain ⟨v',w',hr,h3,h4,_,h5⟩:=run_append_own_at (P:=Tryz.prog) w base 24 o.type 36 i0 _ 2 48 Tryz.underlying24 hi0 hz0 hz1 hz2 rfl (by decide) v _ _ hown ⟨g,oo,none⟩ m cap es hl (fun j u hj => by rw [Addr.add_lit];exact hc j u hj) h1 (by unfold maxLen;omega) (by omega) hbase;unfold Oper.wp execOp;simp only [ho,resolve,invoke,builtin,Sem.run_bind,Sem.run_pure,Result.andThen_ok,List.map_toArray,List.map_cons,List.map_nil,hs,hx,hr];exact hK _ _ (h v' w' h3 h4 (b9v h5))
theorem d3r {W:World} {bt:Option Addr} {ct:Nat} {l:List (List Nd × List Int)} (h:FormsAt W (.slice bt l.length ct) l) {k:Nat} (hk:k≤l.length):∃ sv,(∀ W',Sem.run Tryz.prog (Instr.slice 24 (.slice bt l.length ct) none (some (.int .i64 (k:Int))) none) W'=.ok sv W')∧FormsAt W sv (l.take k):=by
 rcases h with ⟨hv,rfl⟩ | ⟨g,o,cap,hv,h1,h2,hc⟩
 ·
  obtain ⟨rfl,rfl⟩:bt=none∧ct=0:=by simpa using hv
  obtain rfl:k=0:=by simpa using hk
  exact ⟨.slice none 0 0,fun W' => by simp [go_sem],Or.inl ⟨rfl,rfl⟩⟩
 ·
  obtain ⟨rfl,rfl⟩:bt=some ⟨g,o,none⟩∧ct=cap:=by simpa using hv
  refine ⟨.slice (some ⟨g,o,none⟩) k ct,fun W' => ?_,Or.inr ⟨g,o,ct,?_,?_,h2,fun j f hj => ?_⟩⟩
  ·
   simp [go_sem];omega
  ·
   rw [List.length_take,Nat.min_eq_left hk]
  ·
   rw [List.length_take];omega
  ·
   refine hc j f ?_;rw [List.getElem?_take] at hj
   split at hj
   ·
    exact hj
   ·
    cases hj
theorem d3s {W:World} {bt:Option Addr} {ct:Nat} {l:List (List Nd × List Int)} (h:FormsAt W (.slice bt l.length ct) l) {k:Nat} (hk:k≤l.length):∃ sv,(∀ W',Sem.run Tryz.prog (Instr.slice 24 (.slice bt l.length ct) (some (.int .i64 (k:Int))) none none) W'=.ok sv W')∧FormsAt W sv (l.drop k):=by
 rcases h with ⟨hv,rfl⟩ | ⟨g,o,cap,hv,h1,h2,hc⟩
 ·
  obtain ⟨rfl,rfl⟩:bt=none∧ct=0:=by simpa using hv
  obtain rfl:k=0:=by simpa using hk
  exact ⟨.slice none 0 0,fun W' => by simp [go_sem],Or.inl ⟨rfl,rfl⟩⟩
 ·
  obtain ⟨rfl,rfl⟩:bt=some ⟨g,o,none⟩∧ct=cap:=by simpa using hv
  have hl:(l.drop k).length=l.length - k:=List.length_drop ..;by_cases hkc:ct=k
  ·
   refine ⟨.slice (some ⟨g,o,none⟩) (l.length - k) (ct - k),fun W' => by simp [go_sem,hk,hkc],Or.inr ⟨g,o,ct - k,by rw [hl],by omega,by omega,fun j f hj => ?_⟩⟩
   have:=(List.getElem?_eq_some_iff.1 hj).1;omega
  ·
   refine ⟨.slice (some ⟨g,o+k * 2,none⟩) (l.length - k) (ct - k),fun W' => by simp [go_sem,hk,hkc],Or.inr ⟨g,o+k * 2,ct - k,by rw [hl],by omega,by omega,fun j f hj => ?_⟩⟩
   rw [List.getElem?_drop] at hj;have:=hc (k+j) f hj;rw [Nat.add_mul,← Nat.add_assoc] at this;exact this
def NoInt (W:World) (X:Nat):Prop:=∀ j x,W.cell? ⟨X,j,none⟩≠some (.int .i64 x)
theorem NoInt.below {W W':World} {k X:Nat} (h:NoInt W X) (hb:Below k W W') (hx:X < k):NoInt W' X:=fun j x e => h j x (by rw [← hb.cell (p:=⟨X,j,none⟩) hx];exact e)
theorem NoInt.set {W:World} {X:Nat} {p:Addr} {y:Value} (h:NoInt W X) (hy:∀ k,y≠.int .i64 k):NoInt (W.setCell p y) X:=fun j x e => by
 by_cases hp:p=⟨X,j,none⟩
 ·
  subst hp
  cases hc:W.cell? ⟨X,j,none⟩ with
  | some u => rw [World.cell?_setCell_same _ _ _ hc] at e;exact hy x (Option.some.inj e)
  | none =>
   have:(W.setCell ⟨X,j,none⟩ y).cell? ⟨X,j,none⟩=none:=by
    simp only [World.cell?,World.setCell] at hc ⊢;simp [Array.getElem?_modify] at hc ⊢
    cases hg:W.heap[X]? with
    | none => simp
    | some ob =>
     rw [hg] at hc
     cases ob <;> simp_all
   rw [this] at e;cases e
 ·
  rw [World.cell?_setCell_other _ _ _ _ hp] at e;exact h j x e
theorem noInt_new {W:World} {a b:Option Addr} {n1 n2 c1 c2:Nat} {t:TypeId} : NoInt (W.alloc (.cells #[.slice a n1 c1,.slice b n2 c2] t)) W.heap.size:=fun j x e => by
 match j with
 | 0 => simp [go_sem] at e
 | 1 => simp [go_sem] at e
 | j+2 =>
  have h2:(W.alloc (.cells #[.slice a n1 c1,.slice b n2 c2] t)).cell? ⟨W.heap.size,j+2,none⟩=none:=by
   have h3:(W.alloc (.cells #[.slice a n1 c1,.slice b n2 c2] t)).heap[W.heap.size]?=some (.cells #[.slice a n1 c1,.slice b n2 c2] t):=by show (W.heap.push _)[W.heap.size]?=_;simp
   unfold World.cell?;dsimp only;rw [h3];simp
  rw [h2] at e;cases e
theorem NoInt.alloc {W:World} {X:Nat} {o:Obj} (h:NoInt W X) (hx:X < W.heap.size):NoInt (W.alloc o) X:=h.below (a0i (Below.refl W.heap.size W)) hx
theorem d3l {W:World} {v:Value} {N:List Nd} {X o:Nat} {x:Value} (h:NodesAt W v N) (hp:NoInt W X):NodesAt (W.setCell ⟨X,o,none⟩ x) v N:=by
 rcases h with h | ⟨g,q,cap,hv,h1,h2,hc⟩
 ·
  exact Or.inl h
 ·
  refine Or.inr ⟨g,q,cap,hv,h1,h2,fun k n hk j u hu => ?_⟩
  by_cases he:X=g
  ·
   subst he;exact absurd (hc k n hk 0 _ rfl) (hp _ _)
  ·
   exact a0e (hc k n hk j u hu) he
theorem d4j {W:World} {v:Value} {A:List Int} {X o:Nat} {x:Value} (h:IntsAt W v A) (hp:NoInt W X):IntsAt (W.setCell ⟨X,o,none⟩ x) v A:=by
 rcases h with h | ⟨g,q,cap,hv,h1,h2,hc⟩
 ·
  exact Or.inl h
 ·
  refine Or.inr ⟨g,q,cap,hv,h1,h2,fun k hk => ?_⟩
  by_cases he:X=g
  ·
   subst he;exact absurd (hc k hk) (hp _ _)
  ·
   exact a0e (hc k hk) he
theorem d5s:∃ K:Nat,(∀ w,Sem.run Tryz.prog (Go.sizeOf 32) w=.ok K w)∧Hid (K=23):=⟨23,fun w => by simp [go_sem],zh rfl⟩
theorem d5t (W:World) (g o:Nat) {K:Nat} (hK:Hid (K=23)) (n:Ac) (h:∀ j u,(acL n)[j]?=some u→W.cell? ⟨g,o+j,none⟩=some u):Sem.run Tryz.prog (loadCellsFrom ⟨g,o,none⟩ 0 K #[]) W=.ok (acL n).toArray W :=
 run_loadCellsFrom_list Tryz.prog W ⟨g,o,none⟩ (acL n) K hK.out.symm (fun j v hj => by rw [Addr.add_lit];exact h j v hj)
theorem d2j {ops:Array Oper} {rest:List Oper} {o:Oper} {a:Act} {w:World} {Q:Exit→Act→World→Prop} (hgd:o.guard=none) (x y:Operand) (ho:o.op=.store 32 x y) (hd:o.dst=none)
  (cells zs:Array Value) (s:World) (hw:w=s.alloc (.cells zs 32)) (hx:a.eval x=.pointer (some ⟨s.heap.size,0,none⟩)) (hy:a.eval y=.agg cells) (hs:cells.size=23) (hzs:zs.size=23) (h1:cells.toList.all (·.oneCell')=true)
  (h:wpList Tryz.prog ops Q rest a (s.alloc (.cells cells 32))):wpList Tryz.prog ops Q (o :: rest) a w:=by
 subst hw;refine wpList_store_rowTo hgd 32 x y ho hd s.heap.size cells hx hy 32 zs (by rw [← World.alloc_eq];show (s.heap.push _)[s.heap.size]?=_;simp) (by rw [hs];kernel_rfl) (by rw [hs,hzs]) (by rw [← Array.all_toList];exact h1) ?_;rw [b2l];exact h
def d6h (F G:Nat) (xs:List Value) (w:World):Prop:=∃ R,d2y R∧(∀ W,Below w.heap.size w W→Calls Tryz.prog F xs.toArray W (d1w R W))∧∀ W,Below w.heap.size w W→Calls Tryz.prog G xs.toArray W (d1w R W)
def PileOk (F:List (List Nd × List Int)):Prop:=∀ g ∈ F,a0w g.1 g.2=true∧∀ n ∈ g.1,Fits n
theorem d2a {F:List (List Nd × List Int)} (h:PileOk F) {g:List Nd × List Int} (hg:g ∈ F):g.1.length≤1000∧g.2.length≤1000:=by
 have:=a4v (h g hg).1;omega
theorem d4k {n:Nd} {w:World} (hf:Fits n) (hnm:NamesAt w):d6h 13 14 [ndV n] w:=by
 refine ⟨if a3b n then ([n],[],0) else ([],[],3),d4h hf,fun W hW => (b7e n W hf (hnm.below hW)).mono fun e w' h => ?_,fun W _ => (b2d n W hf).mono fun e w' h => ?_⟩
 all_goals
  cases hl:a3b n <;> rw [hl] at h <;> exact h.form
theorem d5a {op:Int} {u v:Value} {g:List Nd × List Int} {F:List (List Nd × List Int)} {w:World} (hF:PileOk F) (hg:g ∈ F) (hN:NodesAt w u g.1) (hA:IntsAt w v g.2) (hnm:NamesAt w):d6h 5 6 [.int .i64 op,.agg #[u,v]] w:=by
 obtain ⟨l1,l2⟩:=d2a hF hg;have hf:=(hF g hg).2;exact ⟨_,d2n (c9g 7 op _ (by decide)) (fun x hx => by rw [List.mem_singleton.1 hx];exact hf),fun W hW => (d4p op u v g.1 g.2 W (hN.below hW) (hA.below hW) hf l1 l2 (hnm.below hW)).mono fun e w' h => h.form,fun W hW => d3n op u v g.1 g.2 W (hN.below hW) (hA.below hW) hf l1 l2⟩
theorem d5b {op:Int} {u v u2 v2:Value} {g h:List Nd × List Int} {F:List (List Nd × List Int)} {w:World} (hF:PileOk F) (hg:g ∈ F) (hh:h ∈ F) (hN:NodesAt w u g.1) (hA:IntsAt w v g.2) (hM:NodesAt w u2 h.1) (hB:IntsAt w v2 h.2) (hnm:NamesAt w) :
  d6h 7 8 [.int .i64 op,.agg #[u,v],.agg #[u2,v2]] w:=by
 obtain ⟨l1,l2⟩:=d2a hF hg;obtain ⟨l3,l4⟩:=d2a hF hh;have hf:=(hF g hg).2;have hf2:=(hF h hh).2
 exact ⟨_,d2n (c9g 8 op _ (by decide)) (fun x hx => by
   rcases List.mem_cons.1 hx with rfl | hx
   ·
    exact hf
   ·
    rw [List.mem_singleton.1 hx];exact hf2),fun W hW => (c3j op u v u2 v2 g.1 h.1 g.2 h.2 W (hN.below hW) (hA.below hW) (hM.below hW) (hB.below hW) hf hf2 l1 l2 l3 l4 (hnm.below hW)).mono fun e w' h => h.form,fun W hW => d3m op u v u2 v2 g.1 h.1 g.2 h.2 W (hN.below hW) (hA.below hW) (hM.below hW) (hB.below hW) hf hf2 l1 l2 l3 l4⟩
theorem d4l {s:ByteArray} {v:Value} {l F:List (List Nd × List Int)} {w:World} (hF:PileOk F) (hl:∀ g ∈ l,g ∈ F) (hv:FormsAt w v l) (hs:s.size≤500) (hn:l.length≤1000) (hnm:NamesAt w):d6h 9 10 [.string s,v] w:=by
 have hsm:Small l:=fun g hg => ⟨(hF g (hl g hg)).2,(d2a hF (hl g hg)).1,(d2a hF (hl g hg)).2⟩
 exact ⟨_,d2n (c9g 9 0 s hs) (fun x hx => (hsm x hx).1),fun W hW => (d0v s v l W (hv.below hW) hsm hs hn (hnm.below hW)).mono fun e w' h => h.form,fun W hW => d3e s v l W (hv.below hW) hsm hs hn⟩
theorem d4m {c:Int} {u v:Value} {g:List Nd × List Int} {F:List (List Nd × List Int)} {w:World} (hF:PileOk F) (hg:g ∈ F) (hN:NodesAt w u g.1) (hA:IntsAt w v g.2) (hnm:NamesAt w):d6h 11 12 [.agg #[u,v],.int .i64 c] w:=by
 obtain ⟨l1,l2⟩:=d2a hF hg;obtain ⟨hr,hf⟩:=hF g hg;by_cases hc:0≤c∧c < g.1.length
 ·
  obtain ⟨i,rfl⟩:∃ i:Nat,c=i:=⟨c.toNat,by omega⟩;have hi:i < g.1.length:=by omega
  obtain ⟨s,hs⟩:=d5p hr hi;exact ⟨_,d4i hr hf hi hs,fun W hW => (d0j u v g.1 g.2 i s W (hN.below hW) (hA.below hW) hf (hnm.below hW) hr hi hs).mono fun e w' h => h.form,fun W hW => d3c u v g.1 g.2 i s W (hN.below hW) (hA.below hW) hf hr hi hs⟩
 ·
  have h1:=fun W (hW:Below w.heap.size w W) => d3a u v g.1 g.2 c W (hN.below hW) (hA.below hW) hf (hnm.below hW) l1 l2 (fun _ => hc)
  have h2:=fun W (hW:Below w.heap.size w W) => d2s u v g.1 g.2 c W (hN.below hW) (hA.below hW) hf l1 l2 (fun _ => hc)
  rw [hr,if_pos rfl] at h1 h2;exact ⟨_,d2d (by decide),fun W hW => (h1 W hW).mono fun e w' h => h.form,h2⟩
theorem d5u {W:World} {bt:Option Addr} {ct:Nat} {F:List (List Nd × List Int)} (h:FormsAt W (.slice bt F.length ct) F) {k:Nat} (hk:k < F.length):∃ gg oo us vs f,bt=some ⟨gg,oo,none⟩∧f ∈ F∧W.cell? ⟨gg,oo+k * 2,none⟩=some us∧W.cell? ⟨gg,oo+k * 2+1,none⟩=some vs∧NodesAt W us f.1∧IntsAt W vs f.2:=by
 obtain ⟨b2,c2,he,hc⟩:=h.slice;obtain ⟨rfl,rfl⟩:bt=b2∧ct=c2:=by simpa using he
 have hf:F[k]?=some F[k]:=List.getElem?_eq_getElem hk;obtain ⟨g,o,us,vs,h1,h2,h3,h4,h5⟩:=hc k _ hf;exact ⟨g,o,us,vs,_,h1,List.mem_of_getElem? hf,h2,h3,h4,h5⟩
theorem d3t {W:World} {v:Value} {l:List Ac} (h:ActsAt W v l):∃ bt ct,v=.slice bt l.length ct∧∀ (k:Nat) (a:Ac),l[k]?=some a→∃ g o,bt=some ⟨g,o,none⟩∧∀ j u,(acL a)[j]?=some u→W.cell? ⟨g,o+k * 23+j,none⟩=some u:=by
 rcases h with ⟨rfl,rfl⟩ | ⟨g,o,cap,rfl,h1,h2,hc⟩
 ·
  exact ⟨none,0,rfl,fun k a hk => by simp at hk⟩
 ·
  exact ⟨_,cap,rfl,fun k a hk => ⟨g,o,rfl,hc k a hk⟩⟩
def d6n (w:World) (l:List Ac) (p r:Value) (wr:World):Prop:=∃ (k:Nat) (F:List (List Nd × List Int)),k≤l.length∧r=.int .i64 k∧FormsAt wr p F∧F.length≤k∧PileOk F∧Below w.heap.size w wr
def d6i (s:World) (X Y tp:Nat) (e f u:Value) (wx:World):Prop:=∃ (R:List Nd × List Int × Int) (c:Nat) (b1 b2 b3 b4:Option Addr) (c1 c2 c3 c4:Nat),d2y R∧e=.int .i64 R.2.2∧f=.int .i64 R.2.2∧u=.int .i64 c∧c≤tp ∧
 wx.cell? ⟨X,0,none⟩=some (.slice b1 R.1.length c1)∧wx.cell? ⟨X,1,none⟩=some (.slice b2 R.2.1.length c2)∧wx.cell? ⟨Y,0,none⟩=some (.slice b3 R.1.length c3)∧wx.cell? ⟨Y,1,none⟩=some (.slice b4 R.2.1.length c4) ∧
 NodesAt wx (.slice b1 R.1.length c1) R.1∧IntsAt wx (.slice b2 R.2.1.length c2) R.2.1∧NodesAt wx (.slice b3 R.1.length c3) R.1∧IntsAt wx (.slice b4 R.2.1.length c4) R.2.1∧Below X s wx
theorem d5v {W:World} {X:Nat} {u v b1 b2:Value} {N:List Nd} {A:List Int} (h0:W.cell? ⟨X,0,none⟩=some u) (h1:W.cell? ⟨X,1,none⟩=some v) (hn:NoInt W X) (hN:NodesAt W b1 N) (hA:IntsAt W b2 A) :
  ((W.setCell ⟨X,0,none⟩ b1).setCell ⟨X,1,none⟩ b2).cell? ⟨X,0,none⟩=some b1∧((W.setCell ⟨X,0,none⟩ b1).setCell ⟨X,1,none⟩ b2).cell? ⟨X,1,none⟩=some b2∧NoInt ((W.setCell ⟨X,0,none⟩ b1).setCell ⟨X,1,none⟩ b2) X∧NodesAt ((W.setCell ⟨X,0,none⟩ b1).setCell ⟨X,1,none⟩ b2) b1 N∧IntsAt ((W.setCell ⟨X,0,none⟩ b1).setCell ⟨X,1,none⟩ b2) b2 A:=by
 have e1:∀ k,b1≠.int .i64 k:=fun k e => by obtain ⟨_,_,h,_⟩:=hN.slice;rw [h] at e;cases e
 have e2:∀ k,b2≠.int .i64 k:=fun k e => by obtain ⟨_,_,h,_⟩:=hA.slice;rw [h] at e;cases e
 have n1:=hn.set (p:=⟨X,0,none⟩) e1;exact ⟨a0h (World.cell?_setCell_same _ _ _ h0) (by omega),World.cell?_setCell_same _ _ _ (a0h h1 (by omega)),n1.set e2,d3l (d3l hN hn) n1,d4j (d4j hA hn) n1⟩
theorem d2v {W W':World} {bt:Option Addr} {ct n:Nat} {F:List (List Nd × List Int)} (h:FormsAt W (.slice bt n ct) F) (hn:n=F.length) (hb:Below W.heap.size W W') {k:Nat} (hk:k < n):∃ gg oo us vs f,bt=some ⟨gg,oo,none⟩∧f ∈ F∧W'.cell? ⟨gg,oo+k * 2,none⟩=some us∧W'.cell? ⟨gg,oo+k * 2+1,none⟩=some vs∧NodesAt W us f.1∧IntsAt W vs f.2∧gg < W.heap.size:=by
 subst hn;obtain ⟨g,o,us,vs,f,h1,h2,h3,h4,h5,h6⟩:=d5u h hk;exact ⟨g,o,us,vs,f,h1,h2,a0f hb h3 (a0j h3),a0f hb h4 (a0j h4),h5,h6,a0j h3⟩
def PutRel (s:World) (X:Nat) (R:List Nd × List Int × Int) (e:Value) (wx:World):Prop:=∃ (b1 b2:Option Addr) (c1 c2:Nat),e=.int .i64 R.2.2 ∧
 wx.cell? ⟨X,0,none⟩=some (.slice b1 R.1.length c1)∧wx.cell? ⟨X,1,none⟩=some (.slice b2 R.2.1.length c2)∧NodesAt wx (.slice b1 R.1.length c1) R.1∧IntsAt wx (.slice b2 R.2.1.length c2) R.2.1 ∧
 (∀ b o,b≠X→b < s.heap.size→wx.cell? ⟨b,o,none⟩=s.cell? ⟨b,o,none⟩)∧(∀ b o,b≠X→b < s.heap.size→wx.frozen? ⟨b,o,none⟩=s.frozen? ⟨b,o,none⟩)∧s.heap.size≤wx.heap.size∧Below X s wx
theorem d1z {s x:World} {X:Nat} {R:List Nd × List Int × Int} {u v:Value} {b1 b2:Option Addr} {c1 c2:Nat} (hb:Below s.heap.size s x) (h0:s.cell? ⟨X,0,none⟩=some u) (h1:s.cell? ⟨X,1,none⟩=some v) (hn:NoInt s X) (hN:NodesAt x (.slice b1 R.1.length c1) R.1) (hA:IntsAt x (.slice b2 R.2.1.length c2) R.2.1) :
  PutRel s X R (.int .i64 R.2.2) ((x.setCell ⟨X,0,none⟩ (.slice b1 R.1.length c1)).setCell ⟨X,1,none⟩ (.slice b2 R.2.1.length c2)):=by
 have hX:=a0j h0;obtain ⟨e1,e2,_,e4,e5⟩:=d5v (a0f hb h0 hX) (a0f hb h1 hX) (hn.below hb hX) hN hA;obtain ⟨hcx,hfx⟩:=a0k hb
 exact ⟨b1,b2,c1,c2,rfl,e1,e2,e4,e5,fun b o h h2 => by rw [World.cell?_setCell_far _ _ _ _ (Ne.symm h),World.cell?_setCell_far _ _ _ _ (Ne.symm h)];exact hcx b o h2,
  fun b o h h2 => frz_set.trans (frz_set.trans (hfx b o h2)),by simpa using hb.size,(hb.mono (Nat.le_of_lt hX)).setCell (Nat.le_refl X) _ |>.setCell (Nat.le_refl X) _⟩
theorem d3u {W W':World} {v:Value} {N:List Nd} {Y:Nat} (h:NodesAt W v N) (hp:NoInt W Y) (hq:∀ b o,b≠Y→b < W.heap.size→W'.cell? ⟨b,o,none⟩=W.cell? ⟨b,o,none⟩):NodesAt W' v N:=by
 rcases h with h | ⟨g,q,cap,hv,h1,h2,hc⟩
 ·
  exact Or.inl h
 ·
  refine Or.inr ⟨g,q,cap,hv,h1,h2,fun k n hk j u hu => ?_⟩
  by_cases he:g=Y
  ·
   subst he;exact absurd (hc k n hk 0 _ rfl) (hp _ _)
  ·
   exact (hq g _ he (a0j (hc k n hk j u hu))).trans (hc k n hk j u hu)
theorem d4n {W W':World} {v:Value} {A:List Int} {Y:Nat} (h:IntsAt W v A) (hp:NoInt W Y) (hq:∀ b o,b≠Y→b < W.heap.size→W'.cell? ⟨b,o,none⟩=W.cell? ⟨b,o,none⟩):IntsAt W' v A:=by
 rcases h with h | ⟨g,q,cap,hv,h1,h2,hc⟩
 ·
  exact Or.inl h
 ·
  refine Or.inr ⟨g,q,cap,hv,h1,h2,fun k hk => ?_⟩
  by_cases he:g=Y
  ·
   subst he;exact absurd (hc k hk) (hp _ _)
  ·
   exact (hq g _ he (a0j (hc k hk))).trans (hc k hk)
theorem PutRel.noInt {s wx:World} {X Y:Nat} {R:List Nd × List Int × Int} {e:Value} (h:PutRel s X R e wx) (hn:NoInt s Y) (hy:Y≠X) (hz:Y < s.heap.size):NoInt wx Y:=by
 obtain ⟨_,_,_,_,_,_,_,_,_,hq,_⟩:=h;exact fun j x e => hn j x ((hq Y j hy hz).symm.trans e)
theorem d2o {s w2 w3:World} {X Y tp c:Nat} {R:List Nd × List Int × Int} {e f:Value} (hg:d2y R) (hc:c≤tp) (hXY:X < Y) (hY:Y < s.heap.size) (hn:NoInt s Y) (h1:PutRel s X R e w2) (h2:PutRel w2 Y R f w3):d6i s X Y tp e f (.int .i64 (c:Int)) w3:=by
 have hn2:=h1.noInt hn (by omega) hY;obtain ⟨b1,b2,c1,c2,he,x0,x1,n1,i1,q1,q2,z1,hb1⟩:=h1;obtain ⟨b3,b4,c3,c4,hf,y0,y1,n2,i2,q3,q4,z2,hb2⟩:=h2;exact ⟨R,c,b1,b2,b3,b4,c1,c2,c3,c4,hg,he,hf,rfl,hc,(q3 X 0 (by omega) (by omega)).trans x0,(q3 X 1 (by omega) (by omega)).trans x1,y0,y1,d3u n1 hn2 q3,d4n i1 hn2 q3,n2,i2,hb1.trans (hb2.mono (Nat.le_of_lt hXY))⟩
theorem sKo {S:World→Prop} {T K:Act→World→Prop} {a:Act} {w:World} (hK:Shut (∀ a w,S w→(S w→T a w)→K a w)) (k:S w→T a w) (hS:S w:=by ((try dsimp only);(repeat' apply And.intro) <;> first | assumption | exact (hcx _ _ (by assumption)).trans (by assumption) | exact a0e (a0e ((hcx _ _ (by assumption)).trans (by assumption)) (by assumption)) (by assumption))):K a w:=hK.out a w hS k
def d6o (K:Act→World→Prop):Exit→Act→World→Prop
 | .normal,a,w => K a w
 | _,_,_ => False
theorem d2e {P:Program} {c:Code} {Q:Exit→Act→World→Prop} {a:Act} {w:World} (h:c.wp P (d6o (fun a w => Q .normal a w)) a w):c.wp P Q a w:=by
 refine wp_mono h fun e a' w' hq => ?_
 cases e with
 | normal => exact hq
 | exit id => exact hq.elim
 | goto l => exact hq.elim
 | ret => exact hq.elim
 | panic ch => exact hq.elim
 | outgrown => exact hq.elim
def d6j (K E:Act→World→Prop):Exit→Act→World→Prop
 | .normal,a,w => K a w
 | .exit i,a,w => i=1∧E a w
 | _,_,_ => False
theorem d5c {P:Program} {c:Code} {Q:Exit→Act→World→Prop} {a:Act} {w:World} (h:c.wp P (d6j (fun a w => Q .normal a w) (fun a w => Q (.exit 1) a w)) a w):c.wp P Q a w:=by
 refine wp_mono h fun e a' w' hq => ?_
 cases e with
 | normal => exact hq
 | exit id =>
  obtain ⟨rfl,h1⟩:=hq;exact h1
 | goto l => exact hq.elim
 | ret => exact hq.elim
 | panic ch => exact hq.elim
 | outgrown => exact hq.elim
def d5w (n:Nat):Code→Option Code
 | .region m ops d => if m=n then some (.region m ops d) else none
 | .seq a b => match d5w n a with | some c => some c | none => d5w n b
 | .cond _ a b => match d5w n a with | some c => some c | none => d5w n b
 | .block _ a => d5w n a
 | .loop a => d5w n a
 | _ => none
noncomputable def rgC (n:Nat):Code:=(d5w n (Tryz.f3.body.getD .skip)).getD .skip
def d5x (n:Nat):Code→Option Code
 | .block m a => if m=n then some (.block m a) else d5x n a
 | .seq a b => match d5x n a with | some c => some c | none => d5x n b
 | .cond _ a b => match d5x n a with | some c => some c | none => d5x n b
 | .loop a => d5x n a
 | _ => none
noncomputable def blC (n:Nat):Code:=(d5x n (Tryz.f3.body.getD .skip)).getD .skip
structure SwIn (w wr s1:World) (P X Y tp cp:Nat) (bp:Option Addr) (F:List (List Nd × List Int)) (a:Ac):Prop where
 hBS:Below w.heap.size w s1
 hWS:Below wr.heap.size wr s1
 hw:w.heap.size≤wr.heap.size
 xy:X < Y
 px:P < X
 ys:Y < s1.heap.size
 wp:wr.heap.size≤P
 hF:FormsAt wr (.slice bp tp cp) F
 ht:tp=F.length
 h60:tp≤60
 hok:PileOk F
 hnm:NamesAt wr
 hP:∀ j u,(acL a)[j]?=some u→s1.cell? ⟨P,j,none⟩=some u
 hft:Fits a.n∧a.s.size≤500
 x0:s1.cell? ⟨X,0,none⟩=some (.slice none 0 0)
 x1:s1.cell? ⟨X,1,none⟩=some (.slice none 0 0)
 xf0:s1.frozen? ⟨X,0,none⟩=false
 xf1:s1.frozen? ⟨X,1,none⟩=false
 y0:s1.cell? ⟨Y,0,none⟩=some (.slice none 0 0)
 y1:s1.cell? ⟨Y,1,none⟩=some (.slice none 0 0)
 yf0:s1.frozen? ⟨Y,0,none⟩=false
 yf1:s1.frozen? ⟨Y,1,none⟩=false
 nx:NoInt s1 X
 ny:NoInt s1 Y
end Go.Proofs.YtjfkbeanbbeloaaGreatDoor
