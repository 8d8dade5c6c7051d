import Derived.Test.YtjfkbeanbbeloaaGreatDoorAst45
set_option maxHeartbeats 64000000
set_option maxRecDepth 100000
namespace Go.Proofs.YtjfkbeanbbeloaaGreatDoor
open Go.RowKit Go.Shelf
set_option linter.unusedSimpArgs false
set_option linter.unusedVariables false
def NdAt (W:World) (X:Nat) (n:Nd):Prop:=∀ j u,(ndL n)[j]?=some u→W.cell? ⟨X,j,none⟩=some u
theorem NdAt.set2 {W:World} {X:Nat} {n:Nd} (h:NdAt W X n) (hf:W.frozen? ⟨X,2,none⟩=false) (x:Int):NdAt (W.setCell ⟨X,2,none⟩ (.int .i64 x)) X { n with a:=x }:=by
 intro j u hu;by_cases e:j=2
 ·
  subst e;obtain rfl:Value.int .i64 x=u:=Option.some.inj hu;exact a0z (h 2 _ rfl) hf
 ·
  rw [show ndL { n with a:=x }=(ndL n).set 2 (.int .i64 x) from rfl,List.getElem?_set_ne (by omega)] at hu;exact a0h (h j u hu) (by omega)
theorem NdAt.set3 {W:World} {X:Nat} {n:Nd} (h:NdAt W X n) (hf:W.frozen? ⟨X,3,none⟩=false) (x:Int):NdAt (W.setCell ⟨X,3,none⟩ (.int .i64 x)) X { n with b:=x }:=by
 intro j u hu;by_cases e:j=3
 ·
  subst e;obtain rfl:Value.int .i64 x=u:=Option.some.inj hu;exact a0z (h 3 _ rfl) hf
 ·
  rw [show ndL { n with b:=x }=(ndL n).set 3 (.int .i64 x) from rfl,List.getElem?_set_ne (by omega)] at hu;exact a0h (h j u hu) (by omega)
theorem NdAt.load {W:World} {X K:Nat} {n:Nd} (hK:Hid (K=19)) (h:NdAt W X n):Sem.run Tryz.prog (loadCellsFrom ⟨X,0,none⟩ 0 K #[]) W=.ok #[.int .i64 n.k,.int .i64 n.o,.int .i64 n.a,.int .i64 n.b,.bool n.qn,.string n.qa,.string n.qd,.string n.s,.bool n.tr,.string n.r.sh,.int .i64 n.r.c,.int .i64 n.r.r,.bool n.r.fc,.bool n.r.fr,.string n.t.sh,.int .i64 n.t.c,.int .i64 n.t.r,.bool n.t.fc,.bool n.t.fr] W :=
 a0p W X 0 hK n (fun j u hu => by rw [Nat.zero_add];exact h j u hu)
theorem NdAt.of {W:World} {X:Nat} {n:Nd} (k0:W.cell? ⟨X,0,none⟩=some (.int .i64 n.k)) (k1:W.cell? ⟨X,1,none⟩=some (.int .i64 n.o)) (k2:W.cell? ⟨X,2,none⟩=some (.int .i64 n.a)) (k3:W.cell? ⟨X,3,none⟩=some (.int .i64 n.b)) (k4:W.cell? ⟨X,4,none⟩=some (.bool n.qn)) (k5:W.cell? ⟨X,5,none⟩=some (.string n.qa)) (k6:W.cell? ⟨X,6,none⟩=some (.string n.qd)) (k7:W.cell? ⟨X,7,none⟩=some (.string n.s)) (k8:W.cell? ⟨X,8,none⟩=some (.bool n.tr)) (k9:W.cell? ⟨X,9,none⟩=some (.string n.r.sh)) (k10:W.cell? ⟨X,10,none⟩=some (.int .i64 n.r.c)) (k11:W.cell? ⟨X,11,none⟩=some (.int .i64 n.r.r)) (k12:W.cell? ⟨X,12,none⟩=some (.bool n.r.fc)) (k13:W.cell? ⟨X,13,none⟩=some (.bool n.r.fr)) (k14:W.cell? ⟨X,14,none⟩=some (.string n.t.sh)) (k15:W.cell? ⟨X,15,none⟩=some (.int .i64 n.t.c)) (k16:W.cell? ⟨X,16,none⟩=some (.int .i64 n.t.r)) (k17:W.cell? ⟨X,17,none⟩=some (.bool n.t.fc)) (k18:W.cell? ⟨X,18,none⟩=some (.bool n.t.fr)):NdAt W X n:=by
 intro j u hu
 match j,hu with
 | 0,hu => exact k0.trans hu
 | 1,hu => exact k1.trans hu
 | 2,hu => exact k2.trans hu
 | 3,hu => exact k3.trans hu
 | 4,hu => exact k4.trans hu
 | 5,hu => exact k5.trans hu
 | 6,hu => exact k6.trans hu
 | 7,hu => exact k7.trans hu
 | 8,hu => exact k8.trans hu
 | 9,hu => exact k9.trans hu
 | 10,hu => exact k10.trans hu
 | 11,hu => exact k11.trans hu
 | 12,hu => exact k12.trans hu
 | 13,hu => exact k13.trans hu
 | 14,hu => exact k14.trans hu
 | 15,hu => exact k15.trans hu
 | 16,hu => exact k16.trans hu
 | 17,hu => exact k17.trans hu
 | 18,hu => exact k18.trans hu
theorem b0b (W:World) (b o:Nat) (x:Value):W.grownBy (W.setCell ⟨b,o,none⟩ x) (some b):=⟨by first | rfl | simp,by first | rfl | simp,by first | rfl | simp,by simp,fun k _ hk => heap_setCell (fun e => hk (by rw [e]))⟩
theorem b0c {W W0:World} {base base0 size n n0:Nat} {e e0:TypeId} {xs xs0:List Value} {v x:Value} {b o:Nat} (h:W.ownsRow base e size v n xs) (h0:W0.ownsRow base0 e0 size v n0 xs0) (hb:W0.heap.size≤b):(W.setCell ⟨b,o,none⟩ x).ownsRow base e size v n xs:=by
 refine h.kept (b0b W b o x) ?_
 cases hv:v.ownBlock with
 | none => exact Or.inl rfl
 | some g => exact Or.inr (fun e => by have:=(h0.lt g hv).2;have:g=b:=Option.some.inj e;omega)
theorem FAt.setNew {W W0:World} {P base:Nat} {N:List Nd} {A T:List Int} {u v t:Value} (h:FAt W P base N A T u v t) (h0:FAt W0 P base N A T u v t) {b o:Nat} {x:Value} (hb:W0.heap.size≤b):FAt (W.setCell ⟨b,o,none⟩ x) P base N A T u v t:=by
 have hz:=h0.pz;exact ⟨a0e h.c0 (by dsimp only;omega),a0e h.c1 (by dsimp only;omega),frz_set.trans h.f0,frz_set.trans h.f1,b0c h.ou h0.ou hb,b0c h.ov h0.ov hb,b0c h.ot h0.ot hb,h.uv,h.ut,h.vt,h.pb,by simpa using h.bw⟩
def d5z (t0:World) (O:Nat) (N M:List Nd) (A:List Int) (r:Value) (wr:World):Prop:=∃ (k:Nat) (u1 v1:Value),k≤M.length∧r=.int .i64 k∧FAt wr O (O+1) (N ++ (M.take k).map (mvN (N.length:Int) (A.length:Int))) A [] u1 v1 (.slice none 0 0)∧Below O t0 wr
def d6a (t0:World) (O:Nat) (NN:List Nd) (A B:List Int) (dn:Int) (u1:Value) (r:Value) (wr:World):Prop:=∃ (k:Nat) (v1:Value),k≤B.length∧r=.int .i64 k∧FAt wr O (O+1) NN (A ++ (B.take k).map (·+dn)) [] u1 v1 (.slice none 0 0)∧Below O t0 wr
theorem d3f (n:Nd):(n.k=7) ∨ (n.k=8) ∨ (n.k=9∧0 < n.b) ∨ (n.k≠7∧n.k≠8∧n.k=9∧n.b≤0) ∨ (n.k≠7∧n.k≠8∧n.k≠9):=by omega
theorem d2b (u v u2 v2:Value) (N M:List Nd) (A B:List Int) (w:World) (hN:NodesAt w u N) (hA:IntsAt w v A) (hM:NodesAt w u2 M) (hB:IntsAt w v2 B) (hm:∀ n ∈ M,Mvd n) (hmb:∀ x ∈ B,-1000≤x∧x≤1000) (l1:N.length≤90000) (l2:A.length≤90000) (l3:M.length≤1000) (l4:B.length≤1000) :
  Calls Tryz.prog 21 #[.agg #[u,v],.agg #[u2,v2]] w (b9w (N ++ M.map (mvN N.length A.length)) (A ++ B.map (·+(N.length:Int))) w):=by
 have hud:undef=Value.tuple #[]:=rfl;obtain ⟨K19,hz19,HK19⟩:=a0q;obtain ⟨Po,hPo⟩:∃ Po,Po=b9w (N ++ M.map (mvN N.length A.length)) (A ++ B.map (·+(N.length:Int))) w:=⟨_,rfl⟩;rw [← hPo];have HPO:=zh hPo;have HN:=zh hN;have HA:=zh hA;obtain ⟨bn,cn,rfl,_⟩:=hN.slice;obtain ⟨ba,ca,rfl,_⟩:=hA.slice;obtain ⟨bm,cm,rfl,hM2⟩:=hM.slice;obtain ⟨bb,cb,rfl,hB2⟩:=hB.slice;have HMM:=zh hM2;have HBB:=zh hB2;have HMV:=zh hm;have HMB:=zh hmb;have HGE:Hid (∀ k,k < M.length→∃ n,M[k]?=some n):=fun k h => ⟨_,List.getElem?_eq_getElem h⟩
 have HGB:Hid (∀ k,k < B.length→∃ x,B[k]?=some x):=fun k h => ⟨_,List.getElem?_eq_getElem h⟩
 obtain ⟨LN,hLN⟩:∃ L,L=N.length:=⟨_,rfl⟩;obtain ⟨LA,hLA⟩:∃ L,L=A.length:=⟨_,rfl⟩;obtain ⟨LM,hLM⟩:∃ L,L=M.length:=⟨_,rfl⟩;obtain ⟨LB,hLB⟩:∃ L,L=B.length:=⟨_,rfl⟩;rw [← hLN] at HN l1 ⊢;rw [← hLA] at HA l2 ⊢;rw [← hLM] at HGE l3 ⊢;rw [← hLB] at HGB l4 ⊢;have HLN:=zh hLN;have HLA:=zh hLA;have HLM:=zh hLM;have HLB:=zh hLB;have HNB:=zh (show N.length≤100000 by omega);have HAB:=zh (show A.length≤100000 by omega);clear hPo hN hA hM hB hM2 hB2 hm hmb hLN hLA hLM hLB;go_enter Tryz.func21,Tryz.ntmps21
 go_upto_region 1 with (fail)
 obtain ⟨s1,hws⟩:∃ s,s=(((w.alloc (.cells #[.slice bn LN cn,.slice ba LA ca] 36)).alloc (.cells #[.slice bm LM cm,.slice bb LB cb] 36)).alloc (.cells #[.slice none 0 0,.slice none 0 0] 36)):=⟨_,rfl⟩;have hBs:=bs3 (Below.refl w.heap.size w) hws;obtain ⟨F,hdF⟩:∃ b,b=w.heap.size:=⟨_,rfl⟩;obtain ⟨H,hdH⟩:∃ b,b=w.heap.size+1:=⟨_,rfl⟩;obtain ⟨R,hdR⟩:∃ b,b=w.heap.size+1+1:=⟨_,rfl⟩;have hsz:s1.heap.size=w.heap.size+1+1+1:=by rw [hws];simp
 have dRF:R≠F:=by omega
 have dRH:R≠H:=by omega
 have hN:=bx2 (b:=F) hws hdF;have kF0:=hN 0 _ rfl;have kF1:=hN 1 _ rfl;clear hN;have zF:F < s1.heap.size:=by omega
 have lF:w.heap.size≤F:=by omega
 have hN:=bx1 (b:=H) hws (by simp [hdH]);have kH0:=hN 0 _ rfl;have kH1:=hN 1 _ rfl;clear hN;have zH:H < s1.heap.size:=by omega
 have lH:w.heap.size≤H:=by omega
 have hN:=bx0 (b:=R) hws (by simp [hdR]);have hM:=bf0 (b:=R) hws (by simp [hdR]);have kR0:=hN 0 _ rfl;have kR1:=hN 1 _ rfl;have fR0:=hM 0;have fR1:=hM 1;clear hN hM;have zR:R < s1.heap.size:=by omega
 have lR:w.heap.size≤R:=by omega
 rw [← hws];try rw [← hdR]
 try rw [← hdH]
 try rw [← hdF]
 clear hws hsz hdF hdH hdR;have hBo:=hBs;clear hBs
 go_upto_region 2 with (fail)
 have zF1:=zF;have zH1:=zH;have zR1:=zR;obtain ⟨s2,hws⟩:∃ s,s=(s1.alloc (.cells #[.slice none 0 0,.slice none 0 0] 36)):=⟨_,rfl⟩;have hBs:=bs1 hBo hws;obtain ⟨O,hdO⟩:∃ b,b=s1.heap.size:=⟨_,rfl⟩;have hUp:Below s1.heap.size s1 s2:=by rw [hws];exact (a0i (Below.refl _ _))
 have hAO:s1.heap.size≤O:=by omega
 have hsz:s2.heap.size=s1.heap.size+1:=by rw [hws];simp
 have dRO:R≠O:=by omega
 have dOF:O≠F:=by omega
 have dOH:O≠H:=by omega
 have dOR:O≠R:=by omega
 have hQC:∀ p v,s1.cell? p=some v→s2.cell? p=some v:=fun p v h => by rw [hws];exact (alK h)
 have hQZ:∀ b,b < s1.heap.size→b < s2.heap.size:=fun b h => by omega
 have hQF:∀ b j,b < s1.heap.size→s1.frozen? ⟨b,j,none⟩=false→s2.frozen? ⟨b,j,none⟩=false:=fun b j z h => by rw [hws];exact (alF z h)
 replace kF0:=hQC _ _ kF0;replace kF1:=hQC _ _ kF1;replace zF:=hQZ _ zF;replace kH0:=hQC _ _ kH0;replace kH1:=hQC _ _ kH1;replace zH:=hQZ _ zH;replace kR0:=hQC _ _ kR0;replace fR0:=hQF _ _ zR fR0;replace kR1:=hQC _ _ kR1;replace fR1:=hQF _ _ zR fR1;replace zR:=hQZ _ zR;clear hQC hQZ hQF;have hN:=bx0 (b:=O) hws hdO;have hM:=bf0 (b:=O) hws hdO;have kO0:=hN 0 _ rfl;have kO1:=hN 1 _ rfl;have fO0:=hM 0;have fO1:=hM 1;clear hN hM;have zO:O < s2.heap.size:=by omega
 have lO:w.heap.size≤O:=by have:=hBo.size;omega
 rw [← hws];try rw [← hdO]
 clear hBo;clear hws hsz hdO;have hBo:=hBs;clear hBs;have hFO:F < O:=by omega
 have hHO:H < O:=by omega
 have hRO:R < O:=by omega
 have HFA:Hid (FAt s2 O (O+1) [] [] [] (.slice none 0 0) (.slice none 0 0) (.slice none 0 0)):=⟨kO0,kO1,fO0,fO1,World.ownsRow_nil _ _ _ _,World.ownsRow_nil _ _ _ _,World.ownsRow_nil _ _ _ _,fun g h => by simp [Value.ownBlock] at h,fun g h => by simp [Value.ownBlock] at h,fun g h => by simp [Value.ownBlock] at h,Nat.lt_succ_self O,zO⟩
 obtain ⟨t0,ht0⟩:∃ t,t=s2:=⟨_,rfl⟩;subst ht0;have HZ:Hid (∀ W,Below O t0 W→Below w.heap.size w W):=fun W h => hBo.trans (h.mono lO)
 have HNA:Hid (∀ W,Below O t0 W→NodesAt W (.slice bn LN cn) N∧IntsAt W (.slice ba LA ca) A):=fun W h => ⟨HN.out.below (HZ.out W h),HA.out.below (HZ.out W h)⟩
 have HF1:Hid (∀ W,Below O t0 W→W.cell? ⟨F,0,none⟩=some (.slice bn LN cn)∧W.cell? ⟨F,1,none⟩=some (.slice ba LA ca)∧W.cell? ⟨H,0,none⟩=some (.slice bm LM cm)∧W.cell? ⟨H,1,none⟩=some (.slice bb LB cb)):=fun W h => ⟨(h.cell (p:=⟨F,0,none⟩) hFO).trans kF0,(h.cell (p:=⟨F,1,none⟩) hFO).trans kF1,(h.cell (p:=⟨H,0,none⟩) hHO).trans kH0,(h.cell (p:=⟨H,1,none⟩) hHO).trans kH1⟩
 have HR1:Hid (∀ W,Below O t0 W→W.cell? ⟨R,0,none⟩=some (.slice none 0 0)∧W.cell? ⟨R,1,none⟩=some (.slice none 0 0)∧W.frozen? ⟨R,0,none⟩=false∧W.frozen? ⟨R,1,none⟩=false):=fun W h => ⟨(h.cell (p:=⟨R,0,none⟩) hRO).trans kR0,(h.cell (p:=⟨R,1,none⟩) hRO).trans kR1,(h.frozen (p:=⟨R,0,none⟩) hRO).trans fR0,(h.frozen (p:=⟨R,1,none⟩) hRO).trans fR1⟩
 have HLR:=zh lR;have HLO:=zh lO;have HFO:=zh hFO;have HHO:=zh hHO;have HRO:=zh hRO;clear hud hUp hAO zF1 zH1 zR1 hBo kF0 kF1 zF lF kH0 kH1 zH lH kR0 kR1 fR0 fR1 zR lR kO0 kO1 fO0 fO1 zO lO hFO hHO hRO;obtain ⟨p0,_,_,_⟩:=HF1.out _ (Below.refl O t0);have q0:=HFA.out.c0;have qf0:=HFA.out.f0;have pz:=HFA.out.pz;have zF:=a0j p0
 go_upto_region 3 with (at_builtin;refine a1k rfl _ _ rfl (base:=O+1) (v:=.slice none 0 0) (N:=[]) (M:=N) (by rfl) HFA.out.ou (by rfl) (HNA.out _ (Below.refl O t0)).1 (by simp) HNB.out HFA.out.bw ?_;intro v2 wb hown2 hgrow2 hnear2;rw [List.nil_append,← HLN.out] at hown2;obtain ⟨b2,c2,rfl⟩:=a0l hown2;have pfd:=a0m hgrow2 pz qf0 (fun q hq => by cases hq);have pcd:=a0a hgrow2 q0 (fun q hq => by cases hq))
 obtain ⟨wc,hwc⟩:∃ z,z=wb.setCell ⟨O,0,none⟩ (.slice b2 LN c2):=⟨_,rfl⟩;have HFc:Hid (FAt wc O (O+1) N [] [] (.slice b2 LN c2) (.slice none 0 0) (.slice none 0 0)):=zh (by rw [hwc];exact FAt.setN HFA.out hgrow2 (by rw [← HLN.out];exact hown2) hnear2);have HBc:Hid (Below O t0 wc):=zh (by rw [hwc];exact (a3m (Below.refl O t0) HFA.out.ou (by omega) (Nat.le_of_lt pz) hgrow2).setCell (Nat.le_refl O) _);rw [← hwc];clear hwc pfd pcd hown2 hgrow2 hnear2 p0 q0 qf0 pz zF HFA;obtain ⟨_,p1,_,_⟩:=HF1.out _ HBc.out;have q1:=HFc.out.c1;have qf1:=HFc.out.f1;have pz:=HFc.out.pz;have zF:=a0j p1
 go_upto_region 4 with (at_builtin;refine a1s rfl _ _ rfl (base:=O+1) (v:=.slice none 0 0) (A:=[]) (B:=A) (by rfl) HFc.out.ov (by rfl) (HNA.out _ HBc.out).2 (by simp) HAB.out HFc.out.bw ?_;intro v3 wb hown2 hgrow2 hnear2;rw [List.nil_append,← HLA.out] at hown2;obtain ⟨b3,c3,rfl⟩:=a0l hown2;have pfd:=a0m hgrow2 pz qf1 (fun q hq => by cases hq);have pcd:=a0a hgrow2 q1 (fun q hq => by cases hq))
 obtain ⟨wd,hwd⟩:∃ z,z=wb.setCell ⟨O,1,none⟩ (.slice b3 LA c3):=⟨_,rfl⟩;have HFd:Hid (FAt wd O (O+1) N A [] (.slice b2 LN c2) (.slice b3 LA c3) (.slice none 0 0)):=zh (by rw [hwd];exact FAt.setA HFc.out hgrow2 (by rw [← HLA.out];exact hown2) hnear2);have HBd:Hid (Below O t0 wd):=zh (by rw [hwd];exact (a3m HBc.out HFc.out.ov (by omega) (Nat.le_of_lt pz) hgrow2).setCell (Nat.le_refl O) _);rw [← hwd];clear hwd pfd pcd hown2 hgrow2 hnear2 p1 q1 qf1 pz zF HFc HBc;go_wp2_with fail
 go_loopw [6] (d5z t0 O N M A) (fun r _ => LM - (intOf r).toNat)
 case atStart => exact ⟨0,_,_,Nat.zero_le _,rfl,by simpa using HFd.out,HBd.out⟩
 case round =>
  obtain ⟨k,u1,v1,hk,rfl,hfa,hW⟩:=hrel;rw [← HLM.out] at hk;rw [← HLN.out,← HLA.out] at hfa;have HW:=zh hW;have HWK:=zh hfa;obtain ⟨p0,p1,p2,p3⟩:=HF1.out _ hW;have zF:=a0j p0;have zH:=a0j p2;have hBo:=HZ.out _ hW;clear hW hfa HFd HBd;by_cases hlt:k < LM
  ·
   obtain ⟨n,hn⟩:=HGE.out k hlt;obtain ⟨gn,on,rfl,hcn⟩:=HMM.out k n hn;have LN0:=a0p wr gn (on+k * K19) HK19 n (fun j u hu => by rw [HK19.out];exact a0f hBo (hcn j u hu) (a0j (hcn j u hu)));have HTK:=zh (a5u (mvN (LN:Int) (LA:Int)) hn);have HTL:=zh (a6t (l:=M) (mvN (LN:Int) (LA:Int)) (show k≤M.length by rw [← HLM.out];exact hk));obtain ⟨m1,m2,m3⟩:=HMV.out n (List.mem_of_getElem? hn);have M1:=zh m1;have M2:=zh m2;have M3:=zh m3;clear hcn hn m1 m2 m3
   go_upto_region 8 with (refine a0c rfl _ _ rfl rfl _ _ _ rfl rfl rfl (by rfl) (by rfl) (by rfl) ?_)
   obtain ⟨s3,hws⟩:∃ s,s=(wr.alloc (.cells #[.int .i64 n.k,.int .i64 n.o,.int .i64 n.a,.int .i64 n.b,.bool n.qn,.string n.qa,.string n.qd,.string n.s,.bool n.tr,.string n.r.sh,.int .i64 n.r.c,.int .i64 n.r.r,.bool n.r.fc,.bool n.r.fr,.string n.t.sh,.int .i64 n.t.c,.int .i64 n.t.r,.bool n.t.fc,.bool n.t.fr] 30)):=⟨_,rfl⟩;have hBs:=bs1 hBo hws;obtain ⟨X,hdX⟩:∃ b,b=wr.heap.size:=⟨_,rfl⟩;have hUp:Below wr.heap.size wr s3:=by rw [hws];exact (a0i (Below.refl _ _))
   have hAX:wr.heap.size≤X:=by omega
   have hsz:s3.heap.size=wr.heap.size+1:=by rw [hws];simp
   have hN:=bx0 (b:=X) hws hdX;have hM:=bf0 (b:=X) hws hdX;have kX0:=hN 0 _ rfl;have kX1:=hN 1 _ rfl;have kX2:=hN 2 _ rfl;have kX3:=hN 3 _ rfl;have kX4:=hN 4 _ rfl;have kX5:=hN 5 _ rfl;have kX6:=hN 6 _ rfl;have kX7:=hN 7 _ rfl;have kX8:=hN 8 _ rfl;have kX9:=hN 9 _ rfl;have kX10:=hN 10 _ rfl;have kX11:=hN 11 _ rfl;have kX12:=hN 12 _ rfl;have kX13:=hN 13 _ rfl;have kX14:=hN 14 _ rfl;have kX15:=hN 15 _ rfl;have kX16:=hN 16 _ rfl;have kX17:=hN 17 _ rfl;have kX18:=hN 18 _ rfl;have fX0:=hM 0;have fX1:=hM 1;have fX2:=hM 2;have fX3:=hM 3;have fX4:=hM 4;have fX5:=hM 5;have fX6:=hM 6;have fX7:=hM 7;have fX8:=hM 8;have fX9:=hM 9;have fX10:=hM 10;have fX11:=hM 11;have fX12:=hM 12;have fX13:=hM 13;have fX14:=hM 14;have fX15:=hM 15;have fX16:=hM 16;have fX17:=hM 17;have fX18:=hM 18;clear hN hM;have zX:X < s3.heap.size:=by omega
   have lX:w.heap.size≤X:=by have:=hBo.size;omega
   have LX:=a0o s3 X HK19 kX0 kX1 kX2 kX3 kX4 kX5 kX6 kX7 kX8 kX9 kX10 kX11 kX12 kX13 kX14 kX15 kX16 kX17 kX18;rw [← hws];try rw [← hdX]
   clear hBo;clear hws hsz hdX;have hBo:=hBs;clear hBs;clear LN0;obtain ⟨we,hwe⟩:∃ z,z=s3:=⟨_,rfl⟩;subst hwe;have HND:Hid (NdAt we X n):=NdAt.of kX0 kX1 kX2 kX3 kX4 kX5 kX6 kX7 kX8 kX9 kX10 kX11 kX12 kX13 kX14 kX15 kX16 kX17 kX18;have HWX:=zh (HWK.out.below hUp);have HBX:Hid (Below O t0 we):=HW.out.trans (hUp.mono (Nat.le_of_lt HWK.out.pz));have HXA:=zh hAX;have HOX:Hid (O < X):=zh (by have:=HWK.out.pz;omega);have hXF:X≠F:=by have:=HOX.out;have:=HFO.out;omega
   have hXH:X≠H:=by have:=HOX.out;have:=HHO.out;omega
   have hXO:X≠O:=by have:=HOX.out;omega
   have x0:=kX0;have x2:=kX2;have x3:=kX3;have xf2:=fX2;have xf3:=fX3;obtain ⟨r0,r1,r2,r3⟩:=HF1.out _ HBX.out;have HFX2:=zh fX2;have HFX3:=zh fX3;have HZX:=zh zX;have HHLE:Hid (∀ q:Nd,(N ++ (M.take k).map (mvN (LN:Int) (LA:Int)) ++ [q]).length=LN+k+1):=fun q => by rw [List.length_append,List.length_append,HTL.out,← HLN.out];rfl
   clear hUp hAX hBo LX p0 p1 p2 p3 zF zH;clear kX0 fX0;clear kX1 fX1;clear kX2 fX2;clear kX3 fX3;clear kX4 fX4;clear kX5 fX5;clear kX6 fX6;clear kX7 fX7;clear kX8 fX8;clear kX9 fX9;clear kX10 fX10;clear kX11 fX11;clear kX12 fX12;clear kX13 fX13;clear kX14 fX14;clear kX15 fX15;clear kX16 fX16;clear kX17 fX17;clear kX18 fX18;have zF:=a0j r0;have zH:=a0j r2
   rcases d3f n with h7 | h8 | ⟨h9,hb⟩ | ⟨h7,h8,h9,hb⟩ | ⟨h7,h8,h9⟩
   case' inl =>
    have g7:(n.k == 7)=true:=by simpa using h7
    have g8:(n.k == 8)=false:=by rw [h7];rfl
    have g9:(n.k == 9)=false:=by rw [h7];rfl
    obtain ⟨a1,a2⟩:=M1.out (Or.inl h7);have HMV2:Hid (mvN (LN:Int) (LA:Int) n={ n with a:=n.a+LN }):=if_pos h7;clear h7
    go_upto_region 14 with (fail)
    obtain ⟨ws,hws⟩:∃ z,z=we.setCell ⟨X,2,none⟩ (.int .i64 (n.a+LN)):=⟨_,rfl⟩;have hNX:NdAt ws X (mvN (LN:Int) (LA:Int) n):=by rw [hws,HMV2.out];exact HND.out.set2 HFX2.out _
    have hFX:FAt ws O (O+1) (N ++ (M.take k).map (mvN (LN:Int) (LA:Int))) A [] u1 v1 (.slice none 0 0):=by rw [hws];exact FAt.setNew HWX.out HWK.out HXA.out
    have hBW:Below O t0 ws:=by rw [hws];exact HBX.out.setCell (Nat.le_of_lt HOX.out) _
    rw [← hws];clear hws a1 a2
   case' inr.inl =>
    have g7:(n.k == 7)=false:=by rw [h8];rfl
    have g8:(n.k == 8)=true:=by simpa using h8
    have g9:(n.k == 9)=false:=by rw [h8];rfl
    obtain ⟨a1,a2⟩:=M1.out (Or.inr h8);obtain ⟨b1,b2⟩:=M2.out h8;have HMV2:Hid (mvN (LN:Int) (LA:Int) n={ n with a:=n.a+LN,b:=n.b+LN }):=(if_neg (by omega)).trans (if_pos h8);clear h8
    go_upto_region 14 with (fail)
    obtain ⟨ws,hws⟩:∃ z,z=(we.setCell ⟨X,2,none⟩ (.int .i64 (n.a+LN))).setCell ⟨X,3,none⟩ (.int .i64 (n.b+LN)):=⟨_,rfl⟩;have hNX:NdAt ws X (mvN (LN:Int) (LA:Int) n):=by rw [hws,HMV2.out];exact (HND.out.set2 HFX2.out _).set3 (frz_set.trans HFX3.out) _
    have hFX:FAt ws O (O+1) (N ++ (M.take k).map (mvN (LN:Int) (LA:Int))) A [] u1 v1 (.slice none 0 0):=by rw [hws];exact FAt.setNew (FAt.setNew HWX.out HWK.out HXA.out) HWK.out HXA.out
    have hBW:Below O t0 ws:=by rw [hws];exact (HBX.out.setCell (Nat.le_of_lt HOX.out) _).setCell (Nat.le_of_lt HOX.out) _
    rw [← hws];clear hws a1 a2 b1 b2
   case' inr.inr.inl =>
    have g7:(n.k == 7)=false:=by rw [h9];rfl
    have g8:(n.k == 8)=false:=by rw [h9];rfl
    have g9:(n.k == 9)=true:=by simpa using h9
    obtain ⟨a1,a2⟩:=M3.out h9 hb;have HMV2:Hid (mvN (LN:Int) (LA:Int) n={ n with a:=n.a+LA }):=(if_neg (by omega)).trans ((if_neg (by omega)).trans (if_pos ⟨h9,hb⟩));clear h9
    go_upto_region 14 with (fail)
    obtain ⟨ws,hws⟩:∃ z,z=we.setCell ⟨X,2,none⟩ (.int .i64 (n.a+LA)):=⟨_,rfl⟩;have hNX:NdAt ws X (mvN (LN:Int) (LA:Int) n):=by rw [hws,HMV2.out];exact HND.out.set2 HFX2.out _
    have hFX:FAt ws O (O+1) (N ++ (M.take k).map (mvN (LN:Int) (LA:Int))) A [] u1 v1 (.slice none 0 0):=by rw [hws];exact FAt.setNew HWX.out HWK.out HXA.out
    have hBW:Below O t0 ws:=by rw [hws];exact HBX.out.setCell (Nat.le_of_lt HOX.out) _
    rw [← hws];clear hws a1 a2 hb
   case' inr.inr.inr.inl =>
    have g7:(n.k == 7)=false:=by simpa using h7
    have g8:(n.k == 8)=false:=by simpa using h8
    have g9:(n.k == 9)=true:=by simpa using h9
    have HMV2:Hid (mvN (LN:Int) (LA:Int) n=n):=(if_neg h7).trans ((if_neg h8).trans (if_neg (by omega)));clear h7 h8 h9
    go_upto_region 14 with (fail)
    obtain ⟨ws,hws⟩:∃ z,z=we:=⟨_,rfl⟩;have hNX:NdAt ws X (mvN (LN:Int) (LA:Int) n):=by rw [hws,HMV2.out];exact HND.out
    have hFX:FAt ws O (O+1) (N ++ (M.take k).map (mvN (LN:Int) (LA:Int))) A [] u1 v1 (.slice none 0 0):=by rw [hws];exact HWX.out
    have hBW:Below O t0 ws:=by rw [hws];exact HBX.out
    rw [← hws];clear hws hb
   case' inr.inr.inr.inr =>
    have g7:(n.k == 7)=false:=by simpa using h7
    have g8:(n.k == 8)=false:=by simpa using h8
    have g9:(n.k == 9)=false:=by simpa using h9
    have HMV2:Hid (mvN (LN:Int) (LA:Int) n=n):=(if_neg h7).trans ((if_neg h8).trans (if_neg (fun h => h9 h.1)));clear h7 h8 h9
    go_upto_region 14 with (fail)
    obtain ⟨ws,hws⟩:∃ z,z=we:=⟨_,rfl⟩;have hNX:NdAt ws X (mvN (LN:Int) (LA:Int) n):=by rw [hws,HMV2.out];exact HND.out
    have hFX:FAt ws O (O+1) (N ++ (M.take k).map (mvN (LN:Int) (LA:Int))) A [] u1 v1 (.slice none 0 0):=by rw [hws];exact HWX.out
    have hBW:Below O t0 ws:=by rw [hws];exact HBX.out
    rw [← hws];clear hws
   all_goals
    clear x0 x2 x3 xf2 xf3 r0 r1 r2 r3 zF zH g7 g8 g9 HMV2 HWX HBX HND HFX2 HFX3 M1 M2 M3;obtain ⟨m,hm⟩:∃ m,m=mvN (LN:Int) (LA:Int) n:=⟨_,rfl⟩;rw [← hm] at hNX HTK;clear hm;have LX:=hNX.load HK19;have HFX:=zh hFX;have HBW:=zh hBW;have p0:=hFX.c0;have pf0:=hFX.f0;have pz:=hFX.pz;have HPU:Hid (∀ y,u1.ownBlock=some y→O≠y):=fun y hy e => by have h1:=(HFX.out.ou.lt y hy).1;omega
    have HNL:Hid ((N ++ (M.take k).map (mvN (LN:Int) (LA:Int))).length≤100000):=zh (by rw [List.length_append,HTL.out,← HLN.out];omega);clear hNX hFX hBW;go_wp2_with (first | (refine a1j rfl _ rfl m (by rfl) ?_) | (at_builtin;refine a1k rfl _ _ rfl (base:=O+1) (v:=u1) (N:=N ++ (M.take k).map (mvN (LN:Int) (LA:Int))) (M:=[m]) (by rfl) (HFX.out.ou.alloc _) (by rfl) (a4u ws m _) HNL.out (by simp) (by have:=HFX.out.bw;simp;omega) ?_;intro v2 wf hown2 hgrow2 hnear2;rw [HHLE.out] at hown2;obtain ⟨b2,c2,rfl⟩:=a0l hown2;have pfd:=a0m hgrow2 (alZ pz) (alF pz pf0) HPU.out;have pcd:=a0a hgrow2 (a0b (W:=ws) p0) HPU.out))
    go_roundw
    case rel =>
     refine ⟨k+1,.slice b2 (LN+k+1) c2,v1,by rw [← HLM.out];omega,by go_num,?_,?_⟩
     ·
      rw [← HLN.out,← HLA.out,← HTK.out,← List.append_assoc];exact FAt.setN (HFX.out.below (a0i (Below.refl _ _)):FAt (World.alloc ws _) O (O+1) _ _ _ _ _ _) hgrow2 (by rw [HHLE.out];exact hown2) hnear2
     ·
      exact (a3m (HBW.out.alloc (Nat.le_of_lt pz) _) (HFX.out.ou.alloc _) (by omega) (by simp;omega) hgrow2).setCell (Nat.le_refl O) _
    case measure => simp [intOf];omega
  ·
   obtain rfl:k=LM:=by omega
   have hfa:=HWK.out;rw [HLM.out,List.take_length] at hfa;obtain ⟨NN,hNN⟩:∃ z,z=N ++ M.map (mvN (LN:Int) (LA:Int)):=⟨_,rfl⟩;rw [← HLN.out,← HLA.out] at HPO;rw [← hNN] at hfa HPO;have HF2:=zh hfa;clear hNN hfa HWK;go_wp2_with fail;clear p0 p1 p2 p3 zF zH hBo
   go_loopw [8] (d6a t0 O NN A B (LN:Int) u1) (fun r _ => LB - (intOf r).toNat)
   case atStart => exact ⟨0,_,Nat.zero_le _,rfl,by simpa using HF2.out,HW.out⟩
   case round =>
    obtain ⟨j,v1,hj,rfl,hfa,hW2⟩:=hrel;rw [← HLB.out] at hj;have HWJ:=zh hW2;have HFJ:=zh hfa;obtain ⟨p0,p1,p2,p3⟩:=HF1.out _ hW2;have zF:=a0j p0;have zH:=a0j p2;have hBo:=HZ.out _ hW2;clear hW2 hfa;by_cases hlt:j < LB
    ·
     obtain ⟨x,hx⟩:=HGB.out j hlt;obtain ⟨ga,oa,rfl,hca⟩:=HBB.out j (by rw [← HLB.out];exact hlt);have hxx:B.getD j 0=x:=by rw [List.getD_eq_getElem?_getD,hx];rfl
     rw [hxx] at hca;have hgo:ga < O:=by have:=a0j hca;have:=HLO.out;dsimp only at *;omega
     have hc2:=a0f hBo hca (a0j hca);have zc:=a0j hc2;obtain ⟨x1,x2⟩:=HMB.out x (List.mem_of_getElem? hx);have HTK:=zh (a5u (·+(LN:Int)) hx);have HTL:=zh (a6t (l:=B) (·+(LN:Int)) (show j≤B.length by rw [← HLB.out];exact hj));have HLE:Hid ((A ++ (B.take j).map (·+(LN:Int)) ++ [x+(LN:Int)]).length=LA+j+1):=zh (by rw [List.length_append,List.length_append,HTL.out,← HLA.out];rfl);have q1:=HFJ.out.c1;have qf1:=HFJ.out.f1;have pz:=HFJ.out.pz;have HPU:Hid (∀ y,v1.ownBlock=some y→O≠y):=fun y hy e => by have h1:=(HFJ.out.ov.lt y hy).1;omega
     have HPF:Hid (∀ y,v1.ownBlock=some y→F≠y):=fun y hy e => by have h1:=(HFJ.out.ov.lt y hy).1;have:=HFO.out;omega
     have HPH:Hid (∀ y,v1.ownBlock=some y→H≠y):=fun y hy e => by have h1:=(HFJ.out.ov.lt y hy).1;have:=HHO.out;omega
     have HPG:Hid (∀ y,v1.ownBlock=some y→ga≠y):=fun y hy e => by have h1:=(HFJ.out.ov.lt y hy).1;omega
     have HGL:Hid ((A ++ (B.take j).map (·+(LN:Int))).length≤100000):=zh (by rw [List.length_append,HTL.out,← HLA.out];omega);have hwrap:IntKind.i64.wrap (x+(LN:Int))=x+(LN:Int):=IntWalk.i64_in _ (by omega);have hFO:=HFO.out;have hHO:=HHO.out;clear hx hxx hca
     go_upto_region 18 with (fail)
     have HF:Hid (∀ W,Below wr.heap.size wr W→Below w.heap.size w W):=fun W hW => hBo.trans (hW.mono hBo.size)
     clear hBo;refine wp_region_held_drew (S:=fun w' => w'.cell? ⟨F,0,none⟩=some (.slice bn LN cn)∧w'.cell? ⟨H,1,none⟩=some (.slice (some ⟨ga,oa,none⟩) LB cb)∧w'.cell? ⟨ga,oa+j,none⟩=some (.int .i64 x)) (by kernel_rfl) (by ((try dsimp only);((repeat' apply And.intro) <;> first | assumption | exact p0 | exact p3 | exact hc2 | exact a0b (W:=wr) p0 | exact a0b (W:=wr) p3 | exact a0b (W:=wr) hc2 | exact a0a hgrow2 (a0b (W:=wr) p0) HPF.out | exact a0a hgrow2 (a0b (W:=wr) p3) HPH.out | exact a0a hgrow2 (a0b (W:=wr) hc2) HPG.out | exact a0e (a0a hgrow2 (a0b (W:=wr) p0) HPF.out) (by dsimp only;omega) | exact a0e (a0a hgrow2 (a0b (W:=wr) p3) HPH.out) (by dsimp only;omega) | exact a0e (a0a hgrow2 (a0b (W:=wr) hc2) HPG.out) (by dsimp only;omega) | go_keep | (rw [hcx _ _ (by assumption)];assumption)))) (fun hHeld => ?_)
     refine tk 0 ?_;try simp only [pz]
     refine tk 2 ?_;try simp only [pz]
     refine tk 3 ?_;try simp only [pz]
     refine tk 4 ?_;try simp only [pz]
     refine tk 5 ?_;try simp only [pz]
     refine tk 6 ?_;try simp only [pz]
     refine tk 7 ?_;try simp only [pz]
     refine tk 8 ?_;try simp only [pz]
     refine tk 9 ?_;try simp only [pz]
     refine tk 10 ?_;try simp only [pz]
     refine wpAnyH_ready (rs:=[1,11]) (by kernel_rfl) (by simp) ?_;refine AllReadyH.cons rfl (fun K hK => ?_) (AllReadyH.cons rfl (fun K hK => ?_) AllReadyH.nil)
     focus
      go_simp;try (go_wp2_with fail)
      refine hK.out _ _ (by ((try dsimp only);((repeat' apply And.intro) <;> first | assumption | exact p0 | exact p3 | exact hc2 | exact a0b (W:=wr) p0 | exact a0b (W:=wr) p3 | exact a0b (W:=wr) hc2 | exact a0a hgrow2 (a0b (W:=wr) p0) HPF.out | exact a0a hgrow2 (a0b (W:=wr) p3) HPH.out | exact a0a hgrow2 (a0b (W:=wr) hc2) HPG.out | exact a0e (a0a hgrow2 (a0b (W:=wr) p0) HPF.out) (by dsimp only;omega) | exact a0e (a0a hgrow2 (a0b (W:=wr) p3) HPH.out) (by dsimp only;omega) | exact a0e (a0a hgrow2 (a0b (W:=wr) hc2) HPG.out) (by dsimp only;omega) | go_keep | (rw [hcx _ _ (by assumption)];assumption)))) (fun hHeld => ?_)
      clear hK K;try simp only [pz]
      refine rd1 11 (by kernel_rfl) rfl fun K hK => ?_
      go_simp;try (go_wp2_with fail)
      refine hK.out _ _ (by ((try dsimp only);((repeat' apply And.intro) <;> first | assumption | exact p0 | exact p3 | exact hc2 | exact a0b (W:=wr) p0 | exact a0b (W:=wr) p3 | exact a0b (W:=wr) hc2 | exact a0a hgrow2 (a0b (W:=wr) p0) HPF.out | exact a0a hgrow2 (a0b (W:=wr) p3) HPH.out | exact a0a hgrow2 (a0b (W:=wr) hc2) HPG.out | exact a0e (a0a hgrow2 (a0b (W:=wr) p0) HPF.out) (by dsimp only;omega) | exact a0e (a0a hgrow2 (a0b (W:=wr) p3) HPH.out) (by dsimp only;omega) | exact a0e (a0a hgrow2 (a0b (W:=wr) hc2) HPG.out) (by dsimp only;omega) | go_keep | (rw [hcx _ _ (by assumption)];assumption)))) (fun hHeld => ?_)
      clear hK K;try simp only [pz]
     rotate_left 1
     focus
      go_simp;try (go_wp2_with fail)
      refine hK.out _ _ (by ((try dsimp only);((repeat' apply And.intro) <;> first | assumption | exact p0 | exact p3 | exact hc2 | exact a0b (W:=wr) p0 | exact a0b (W:=wr) p3 | exact a0b (W:=wr) hc2 | exact a0a hgrow2 (a0b (W:=wr) p0) HPF.out | exact a0a hgrow2 (a0b (W:=wr) p3) HPH.out | exact a0a hgrow2 (a0b (W:=wr) hc2) HPG.out | exact a0e (a0a hgrow2 (a0b (W:=wr) p0) HPF.out) (by dsimp only;omega) | exact a0e (a0a hgrow2 (a0b (W:=wr) p3) HPH.out) (by dsimp only;omega) | exact a0e (a0a hgrow2 (a0b (W:=wr) hc2) HPG.out) (by dsimp only;omega) | go_keep | (rw [hcx _ _ (by assumption)];assumption)))) (fun hHeld => ?_)
      clear hK K;try simp only [pz]
      refine rd1 1 (by kernel_rfl) rfl fun K hK => ?_
      go_simp;try (go_wp2_with fail)
      refine hK.out _ _ (by ((try dsimp only);((repeat' apply And.intro) <;> first | assumption | exact p0 | exact p3 | exact hc2 | exact a0b (W:=wr) p0 | exact a0b (W:=wr) p3 | exact a0b (W:=wr) hc2 | exact a0a hgrow2 (a0b (W:=wr) p0) HPF.out | exact a0a hgrow2 (a0b (W:=wr) p3) HPH.out | exact a0a hgrow2 (a0b (W:=wr) hc2) HPG.out | exact a0e (a0a hgrow2 (a0b (W:=wr) p0) HPF.out) (by dsimp only;omega) | exact a0e (a0a hgrow2 (a0b (W:=wr) p3) HPH.out) (by dsimp only;omega) | exact a0e (a0a hgrow2 (a0b (W:=wr) hc2) HPG.out) (by dsimp only;omega) | go_keep | (rw [hcx _ _ (by assumption)];assumption)))) (fun hHeld => ?_)
      clear hK K;try simp only [pz]
     rotate_left 1
     all_goals
      refine rd1 12 (by kernel_rfl) rfl fun K hK => ?_
      (refine d2c (by rfl) _ _ (by rfl) (base:=O+1) (v:=v1) (A:=A ++ (B.take j).map (·+(LN:Int))) (B:=[x+(LN:Int)]) (by rfl) (HFJ.out.ov.alloc _) (by rfl) (a5o wr _ _ _ rfl) HGL.out (by simp) (by have:=HFJ.out.bw;simp;omega) ?_;intro v2 wf hown2 hgrow2 hnear2;rw [HLE.out] at hown2;obtain ⟨b2,c2,rfl⟩:=a0l hown2;have pfd:=a0m hgrow2 (alZ pz) (alF pz qf1) HPU.out;have pcd:=a0a hgrow2 (a0b (W:=wr) q1) HPU.out)
      refine hK.out _ _ (by ((try dsimp only);((repeat' apply And.intro) <;> first | assumption | exact p0 | exact p3 | exact hc2 | exact a0b (W:=wr) p0 | exact a0b (W:=wr) p3 | exact a0b (W:=wr) hc2 | exact a0a hgrow2 (a0b (W:=wr) p0) HPF.out | exact a0a hgrow2 (a0b (W:=wr) p3) HPH.out | exact a0a hgrow2 (a0b (W:=wr) hc2) HPG.out | exact a0e (a0a hgrow2 (a0b (W:=wr) p0) HPF.out) (by dsimp only;omega) | exact a0e (a0a hgrow2 (a0b (W:=wr) p3) HPH.out) (by dsimp only;omega) | exact a0e (a0a hgrow2 (a0b (W:=wr) hc2) HPG.out) (by dsimp only;omega) | go_keep | (rw [hcx _ _ (by assumption)];assumption)))) (fun hHeld => ?_)
      clear hK K;try simp only [pz]
      refine tk 13 ?_;try simp only [pz]
      refine rd1 14 (by kernel_rfl) rfl fun K hK => ?_
      go_simp;try (go_wp2_with fail)
      refine hK.out _ _ (by ((try dsimp only);((repeat' apply And.intro) <;> first | assumption | exact p0 | exact p3 | exact hc2 | exact a0b (W:=wr) p0 | exact a0b (W:=wr) p3 | exact a0b (W:=wr) hc2 | exact a0a hgrow2 (a0b (W:=wr) p0) HPF.out | exact a0a hgrow2 (a0b (W:=wr) p3) HPH.out | exact a0a hgrow2 (a0b (W:=wr) hc2) HPG.out | exact a0e (a0a hgrow2 (a0b (W:=wr) p0) HPF.out) (by dsimp only;omega) | exact a0e (a0a hgrow2 (a0b (W:=wr) p3) HPH.out) (by dsimp only;omega) | exact a0e (a0a hgrow2 (a0b (W:=wr) hc2) HPG.out) (by dsimp only;omega) | go_keep | (rw [hcx _ _ (by assumption)];assumption)))) (fun hHeld => ?_)
      clear hK K;try simp only [pz]
      refine wpAnyH_done (by kernel_rfl) ?_ _;go_wp2_with fail;have hgrow3:(World.alloc wr (.cells #[.int .i64 (x+(LN:Int))] 3)).grownBy wf v1.ownBlock:=⟨hgrow2.os,hgrow2.tape,hgrow2.output,hgrow2.size,hgrow2.block⟩
      go_roundw
      case rel =>
       refine ⟨j+1,.slice b2 (LA+j+1) c2,by rw [← HLB.out];omega,by go_num,?_,?_⟩
       ·
        rw [← HTK.out,← List.append_assoc];exact FAt.setA (HFJ.out.below (a0i (Below.refl _ _)):FAt (World.alloc wr _) O (O+1) _ _ _ _ _ _) hgrow3 (by rw [HLE.out];exact hown2) hnear2
       ·
        exact (a3m (HWJ.out.alloc (Nat.le_of_lt pz) _) (HFJ.out.ov.alloc _) (by omega) (by simp;omega) hgrow3).setCell (Nat.le_refl O) _
      case measure => simp [intOf];omega
    ·
     obtain rfl:j=LB:=by omega
     have hfa:=HFJ.out;rw [HLB.out,List.take_length] at hfa;obtain ⟨BB,hBB⟩:∃ z,z=A ++ B.map (·+(LN:Int)):=⟨_,rfl⟩;rw [← hBB] at hfa HPO;clear hBB;have HF3:=zh hfa;obtain ⟨bu,cu,rfl⟩:=a0l hfa.ou;obtain ⟨bv,cv,rfl⟩:=a0l hfa.ov;have q0:=HF3.out.c0;have q1:=HF3.out.c1;have pz:=HF3.out.pz;obtain ⟨kR0,kR1,fR0,fR1⟩:=HR1.out _ HWJ.out;have zR:=a0j kR0;have hRO:=HRO.out;have HBO:=zh hBo;clear hfa hBo HFJ;go_wp2_with fail;have hst:∀ {size n:Nat} {t:TypeId} {x:Value} {xs:List Value},wr.ownsRow (O+1) t size x n xs→((wr.setCell ⟨R,0,none⟩ (.slice bu NN.length cu)).setCell ⟨R,1,none⟩ (.slice bv BB.length cv)).ownsRow (O+1) t size x n xs:=fun h => ownsRow_setCell_below (ownsRow_setCell_below h (by show R < O+1;omega) _) (by show R < O+1;omega) _
     refine bodyPost_ret (v:=.agg #[.slice bu NN.length cu,.slice bv BB.length cv]) (by simp [results,Tryz.results21,go_sem,kR0,kR1,fR0,fR1,zR,q0,q1]) rfl ?_;rw [HPO.out];exact ⟨⟨_,_,rfl,a2f (hst HF3.out.ou) (by have:=HLO.out;omega),a2f (hst HF3.out.ov) (by have:=HLO.out;omega),HF3.out.uv⟩,(HBO.out.setCell HLR.out _).setCell HLR.out _⟩
end Go.Proofs.YtjfkbeanbbeloaaGreatDoor
