/-
  
  
-/
import Derived.Test.YtjfkbeanbbeloaaGreatDoorAst40
import Derived.Test.YtjfkbeanbbeloaaGreatDoorAst34
import Derived.Laws.ByValue
set_option maxHeartbeats 32000000
set_option maxRecDepth 100000
namespace Go.Proofs.YtjfkbeanbbeloaaGreatDoor
open Go.RowKit Go.Shelf
set_option linter.unusedSimpArgs false
set_option linter.unusedVariables false
def c7u (t0:World) (dn da:Int) (G:Nat) (N:List Nd) (r:Value) (wr:World):Prop:=∃ (k:Nat) (u1:Value),k≤N.length∧r=.int .i64 k∧FAt wr G (G+1) ((N.take k).map (mvN dn da)) [] [] u1 (.slice none 0 0) (.slice none 0 0)∧Below G t0 wr
def c7v (t0:World) (dn:Int) (G:Nat) (M:List Nd) (A:List Int) (u1:Value) (r:Value) (wr:World):Prop:=∃ (k:Nat) (v1:Value),k≤A.length∧r=.int .i64 k∧FAt wr G (G+1) M ((A.take k).map (·+dn)) [] u1 v1 (.slice none 0 0)∧Below G t0 wr
theorem a5u {α β:Type} {l:List α} {k:Nat} {x:α} (f:α→β) (h:l[k]?=some x):(l.take k).map f ++ [f x]=(l.take (k+1)).map f:=by
 rw [List.take_add_one,h,Option.toList_some,List.map_append];rfl
theorem a6t {α β:Type} {l:List α} {k:Nat} (f:α→β) (h:k≤l.length):((l.take k).map f).length=k:=by rw [List.length_map,List.length_take];omega
theorem a2f {W:World} {base base' size n:Nat} {e:TypeId} {v:Value} {xs:List Value} (h:W.ownsRow base e size v n xs) (hb:base'≤base):W.ownsRow base' e size v n xs:=by
 refine ⟨h.1,?_⟩
 rcases h.2 with h2 | ⟨g,cap,cur,hv,hg,rest⟩
 ·
  exact Or.inl h2
 ·
  exact Or.inr ⟨g,cap,cur,hv,Nat.le_trans hb hg,rest⟩
theorem c0f (u v:Value) (N:List Nd) (A:List Int) (dn da:Int) (w:World) (hN:NodesAt w u N) (hA:IntsAt w v A) (hm:∀ n ∈ N,Mvd n) (hma:∀ x ∈ A,-1000≤x∧x≤1000) (h1 : -100000≤dn) (h2:dn≤100000) (h3 : -100000≤da) (h4:da≤100000) (hl:A.length≤1000) (hl2:N.length≤1000) :
  Calls Tryz.prog 27 #[.agg #[u,v],.int .i64 dn,.int .i64 da] w (b9w (N.map (mvN dn da)) (A.map (·+dn)) w):=by
 have hud:undef=Value.tuple #[]:=rfl;obtain ⟨K19,hz19,HK19⟩:=a0q;obtain ⟨Po,hPo⟩:∃ Po,Po=b9w (N.map (mvN dn da)) (A.map (·+dn)) w:=⟨_,rfl⟩;rw [← hPo];have HPO:=zh hPo;obtain ⟨bn,cn,rfl,hN2⟩:=hN.slice;have HNN:=zh hN2;obtain ⟨ba,ca,rfl,hA2⟩:=hA.slice;have HAA:=zh hA2;have HMV:=zh (fun n hn w => b4e n dn da w (hm n hn) h1 h2 h3 h4);have HMA:=zh hma;have HGE:Hid (∀ k,k < N.length→∃ n,N[k]?=some n):=fun k h => ⟨_,List.getElem?_eq_getElem h⟩
 have HGA:Hid (∀ k,k < A.length→∃ x,A[k]?=some x):=fun k h => ⟨_,List.getElem?_eq_getElem h⟩
 obtain ⟨L,hL⟩:∃ L,L=N.length:=⟨_,rfl⟩;rw [← hL] at HGE hl2 ⊢;have HLL:=zh hL;obtain ⟨K,hK⟩:∃ K,K=A.length:=⟨_,rfl⟩;rw [← hK] at HGA hl ⊢;have HKK:=zh hK;clear hPo hN hA hN2 hA2 hm hma hL hK;go_enter Tryz.func27,Tryz.ntmps27
 go_upto_region 1 with (fail)
 obtain ⟨s1,hws⟩:∃ s,s=((w.alloc (.cells #[.slice bn L cn,.slice ba K ca] 36)).alloc (.cells #[.slice none 0 0,.slice none 0 0] 36)):=⟨_,rfl⟩;have hBs:=bs2 (Below.refl w.heap.size w) hws;obtain ⟨F,hdF⟩:∃ b,b=w.heap.size:=⟨_,rfl⟩;obtain ⟨R,hdR⟩:∃ b,b=w.heap.size+1:=⟨_,rfl⟩;have hsz:s1.heap.size=w.heap.size+1+1:=by rw [hws];simp
 have dRF:R≠F:=by omega
 have hN:=bx1 (b:=F) hws hdF;have kF0:=hN 0 _ rfl;have kF1:=hN 1 _ rfl;clear hN;have zF:F < s1.heap.size:=by omega
 have lF:w.heap.size≤F:=by omega
 have hN:=bx0 (b:=R) hws (by simp [hdR]);have hM:=bf0 (b:=R) hws (by simp [hdR]);have kR0:=hN 0 _ rfl;have kR1:=hN 1 _ rfl;have fR0:=hM 0;have fR1:=hM 1;clear hN hM;have zR:R < s1.heap.size:=by omega
 have lR:w.heap.size≤R:=by omega
 rw [← hws];try rw [← hdR]
 try rw [← hdF]
 clear hws hsz hdF hdR;have hBo:=hBs;clear hBs
 go_upto_region 2 with (fail)
 have zF1:=zF;have zR1:=zR;obtain ⟨s2,hws⟩:∃ s,s=(s1.alloc (.cells #[.slice none 0 0,.slice none 0 0] 36)):=⟨_,rfl⟩;have hBs:=bs1 hBo hws;obtain ⟨G,hdG⟩:∃ b,b=s1.heap.size:=⟨_,rfl⟩;have hUp:Below s1.heap.size s1 s2:=by rw [hws];exact (a0i (Below.refl _ _))
 have hAG:s1.heap.size≤G:=by omega
 have hsz:s2.heap.size=s1.heap.size+1:=by rw [hws];simp
 have dRG:R≠G:=by omega
 have dGF:G≠F:=by omega
 have dGR:G≠R:=by omega
 have hQC:∀ p v,s1.cell? p=some v→s2.cell? p=some v:=fun p v h => by rw [hws];exact (alK h)
 have hQZ:∀ b,b < s1.heap.size→b < s2.heap.size:=fun b h => by omega
 have hQF:∀ b j,b < s1.heap.size→s1.frozen? ⟨b,j,none⟩=false→s2.frozen? ⟨b,j,none⟩=false:=fun b j z h => by rw [hws];exact (alF z h)
 replace kF0:=hQC _ _ kF0;replace kF1:=hQC _ _ kF1;replace zF:=hQZ _ zF;replace kR0:=hQC _ _ kR0;replace fR0:=hQF _ _ zR fR0;replace kR1:=hQC _ _ kR1;replace fR1:=hQF _ _ zR fR1;replace zR:=hQZ _ zR;clear hQC hQZ hQF;have hN:=bx0 (b:=G) hws hdG;have hM:=bf0 (b:=G) hws hdG;have kG0:=hN 0 _ rfl;have kG1:=hN 1 _ rfl;have fG0:=hM 0;have fG1:=hM 1;clear hN hM;have zG:G < s2.heap.size:=by omega
 have lG:w.heap.size≤G:=by have:=hBo.size;omega
 rw [← hws];try rw [← hdG]
 clear hBo;clear hws hsz hdG;have hBo:=hBs;clear hBs;have hFG:F < G:=by omega
 have hRG:R < G:=by omega
 go_wp2_with fail;obtain ⟨t0,ht0⟩:∃ t,t=s2:=⟨_,rfl⟩;subst ht0;have HZ:Hid (∀ W,Below G t0 W→Below w.heap.size w W):=fun W h => hBo.trans (h.mono lG)
 have HFA:Hid (FAt t0 G (G+1) [] [] [] (.slice none 0 0) (.slice none 0 0) (.slice none 0 0)):=⟨kG0,kG1,fG0,fG1,World.ownsRow_nil _ _ _ _,World.ownsRow_nil _ _ _ _,World.ownsRow_nil _ _ _ _,fun g h => by simp [Value.ownBlock] at h,fun g h => by simp [Value.ownBlock] at h,fun g h => by simp [Value.ownBlock] at h,Nat.lt_succ_self G,zG⟩
 have HF1:Hid (∀ W,Below G t0 W→W.cell? ⟨F,1,none⟩=some (.slice ba K ca)):=fun W h => (h.cell (p:=⟨F,1,none⟩) hFG).trans kF1
 have HR1:Hid (∀ W,Below G t0 W→W.cell? ⟨R,0,none⟩=some (.slice none 0 0)∧W.cell? ⟨R,1,none⟩=some (.slice none 0 0)∧W.frozen? ⟨R,0,none⟩=false∧W.frozen? ⟨R,1,none⟩=false):=fun W h => ⟨(h.cell (p:=⟨R,0,none⟩) hRG).trans kR0,(h.cell (p:=⟨R,1,none⟩) hRG).trans kR1,(h.frozen (p:=⟨R,0,none⟩) hRG).trans fR0,(h.frozen (p:=⟨R,1,none⟩) hRG).trans fR1⟩
 have HLR:=zh lR;have HLG:=zh lG;clear hud hUp hAG zF1 zR1 hBo kF0 kF1 zF lF kR0 kR1 fR0 fR1 zR lR kG0 kG1 fG0 fG1 zG lG
 go_loopw [15] (c7u t0 dn da G N) (fun r _ => L - (intOf r).toNat)
 case atStart => exact ⟨0,_,Nat.zero_le _,rfl,HFA.out,Below.refl _ _⟩
 case round =>
  obtain ⟨k,u1,hk,rfl,hfa,hW⟩:=hrel;rw [← HLL.out] at hk;have hBo:=HZ.out _ hW;have HW:=zh hW;have HWK:=zh hfa;clear hW hfa;by_cases hlt:k < L
  ·
   obtain ⟨n,hn⟩:=HGE.out k hlt;obtain ⟨gn,on,rfl,hcn⟩:=HNN.out k n hn;have LN:=a0p wr gn (on+k * K19) HK19 n (fun j u hu => by rw [HK19.out];exact a0f hBo (hcn j u hu) (a0j (hcn j u hu)));have HMN:=zh (HMV.out n (List.mem_of_getElem? hn));have HTK:=zh (a5u (mvN dn da) hn);have HTL:=zh (a6t (l:=N) (mvN dn da) (show k≤N.length by rw [← HLL.out];exact hk));clear hcn hn
   go_upto_region 5 with (refine a0c rfl _ _ rfl rfl _ _ _ rfl rfl rfl (by rfl) (by rfl) (by rfl) ?_)
   obtain ⟨s3,hws⟩:∃ s,s=(wr.alloc (.cells #[.int .i64 n.k,.int .i64 n.o,.int .i64 n.a,.int .i64 n.b,.bool n.qn,.string n.qa,.string n.qd,.string n.s,.bool n.tr,.string n.r.sh,.int .i64 n.r.c,.int .i64 n.r.r,.bool n.r.fc,.bool n.r.fr,.string n.t.sh,.int .i64 n.t.c,.int .i64 n.t.r,.bool n.t.fc,.bool n.t.fr] 30)):=⟨_,rfl⟩;have hBs:=bs1 hBo hws;obtain ⟨X,hdX⟩:∃ b,b=wr.heap.size:=⟨_,rfl⟩;have hUp:Below wr.heap.size wr s3:=by rw [hws];exact (a0i (Below.refl _ _))
   have hAX:wr.heap.size≤X:=by omega
   have hsz:s3.heap.size=wr.heap.size+1:=by rw [hws];simp
   have hN:=bx0 (b:=X) hws hdX;have kX0:=hN 0 _ rfl;have kX1:=hN 1 _ rfl;have kX2:=hN 2 _ rfl;have kX3:=hN 3 _ rfl;have kX4:=hN 4 _ rfl;have kX5:=hN 5 _ rfl;have kX6:=hN 6 _ rfl;have kX7:=hN 7 _ rfl;have kX8:=hN 8 _ rfl;have kX9:=hN 9 _ rfl;have kX10:=hN 10 _ rfl;have kX11:=hN 11 _ rfl;have kX12:=hN 12 _ rfl;have kX13:=hN 13 _ rfl;have kX14:=hN 14 _ rfl;have kX15:=hN 15 _ rfl;have kX16:=hN 16 _ rfl;have kX17:=hN 17 _ rfl;have kX18:=hN 18 _ rfl;clear hN;have zX:X < s3.heap.size:=by omega
   have lX:w.heap.size≤X:=by have:=hBo.size;omega
   have LX:=a0o s3 X HK19 kX0 kX1 kX2 kX3 kX4 kX5 kX6 kX7 kX8 kX9 kX10 kX11 kX12 kX13 kX14 kX15 kX16 kX17 kX18;rw [← hws];try rw [← hdX]
   clear hBo;clear hws hsz hdX;have hBo:=hBs;clear hBs;clear LN;have HWX:=zh (HWK.out.below hUp);have HBX:Hid (Below G t0 s3):=HW.out.trans (hUp.mono (Nat.le_of_lt HWK.out.pz));obtain ⟨we,hwe⟩:∃ z,z=s3:=⟨_,rfl⟩;subst hwe
   have HLX:Hid (∀ W,(∀ j x,we.cell? ⟨X,j,none⟩=some x→W.cell? ⟨X,j,none⟩=some x)→Sem.run Tryz.prog (loadCellsFrom ⟨X,0,none⟩ 0 K19 #[]) W=.ok #[.int .i64 n.k,.int .i64 n.o,.int .i64 n.a,.int .i64 n.b,.bool n.qn,.string n.qa,.string n.qd,.string n.s,.bool n.tr,.string n.r.sh,.int .i64 n.r.c,.int .i64 n.r.r,.bool n.r.fc,.bool n.r.fr,.string n.t.sh,.int .i64 n.t.c,.int .i64 n.t.r,.bool n.t.fc,.bool n.t.fr] W):=fun W h =>
    a0o W X HK19 (h _ _ kX0) (h _ _ kX1) (h _ _ kX2) (h _ _ kX3) (h _ _ kX4) (h _ _ kX5) (h _ _ kX6) (h _ _ kX7) (h _ _ kX8) (h _ _ kX9) (h _ _ kX10) (h _ _ kX11) (h _ _ kX12) (h _ _ kX13) (h _ _ kX14) (h _ _ kX15) (h _ _ kX16) (h _ _ kX17) (h _ _ kX18)
   have hzE:=HWX.out.pz;have e2:=HWX.out.c0;have ef2:=HWX.out.f0;have HPD:Hid (∀ y,u1.ownBlock=some y→G≠y):=fun y hy e => by have h1:=(HWX.out.ou.lt y hy).1;omega
   have HXD:Hid (∀ y,u1.ownBlock=some y→X≠y):=fun y hy e => by have:=(HWK.out.ou.lt y hy).2;omega
   have hbase2:G+1≤we.heap.size:=HWX.out.bw;obtain ⟨m,hmm⟩:∃ m,m=mvN dn da n:=⟨_,rfl⟩;rw [← hmm] at HMN HTK;have HMM:=zh hmm;clear hmm;have hGX:G < X:=by have:=HWK.out.pz;omega
   have hLE:((N.take k).map (mvN dn da) ++ [m]).length=k+1:=by rw [List.length_append,HTL.out];rfl
   have HLE:=zh hLE;clear hLE;clear hUp hAX hBo kX0 kX1 kX2 kX3 kX4 kX5 kX6 kX7 kX8 kX9 kX10 kX11 kX12 kX13 kX14 kX15 kX16 kX17 kX18 LX;have hBo:=Below.refl we.heap.size we;obtain ⟨w0,hw0⟩:∃ x,x=w:=⟨_,rfl⟩;subst hw0;obtain ⟨w,hw⟩:∃ x,x=we:=⟨_,rfl⟩;subst hw;have HF:Hid (∀ W,Below w.heap.size w W→Below w.heap.size w W):=fun W hW => hBo.trans (hW.mono hBo.size)
   clear hBo;refine wp_region_held_drew (S:=fun w' => Sem.run Tryz.prog (loadCellsFrom ⟨X,0,none⟩ 0 K19 #[]) w'=.ok #[.int .i64 n.k,.int .i64 n.o,.int .i64 n.a,.int .i64 n.b,.bool n.qn,.string n.qa,.string n.qd,.string n.s,.bool n.tr,.string n.r.sh,.int .i64 n.r.c,.int .i64 n.r.r,.bool n.r.fc,.bool n.r.fr,.string n.t.sh,.int .i64 n.t.c,.int .i64 n.t.r,.bool n.t.fc,.bool n.t.fr] w') (by kernel_rfl) (by ((try dsimp only);((repeat' apply And.intro) <;> first | assumption | exact HLX.out _ (fun j x h => h) | exact HLX.out _ (fun j x h => (hcx _ _ zX).trans h) | exact HLX.out _ (fun j x h => a0b ((hcx _ _ zX).trans h)) | exact HLX.out _ (fun j x h => a0a hgrow2 (a0b ((hcx _ _ zX).trans h)) HXD.out) | exact HLX.out _ (fun j x h => a0e (a0a hgrow2 (a0b ((hcx _ _ zX).trans h)) HXD.out) (by dsimp only;omega)) | go_keep | (rw [hcx _ _ (by assumption)];assumption)))) (fun hHeld => ?_)
   refine tk 0 ?_;try simp only [pz]
   refine tk 2 ?_;try simp only [pz]
   refine tk 3 ?_;try simp only [pz]
   refine tk 4 ?_;try simp only [pz]
   refine wpAnyH_ready (rs:=[1,5]) (by kernel_rfl) (by simp) ?_;refine AllReadyH.cons rfl (fun K hK => ?_) (AllReadyH.cons rfl (fun K hK => ?_) AllReadyH.nil)
   focus
    go_simp;try (go_wp2_with fail)
    refine hK.out _ _ (by ((try dsimp only);((repeat' apply And.intro) <;> first | assumption | exact HLX.out _ (fun j x h => h) | exact HLX.out _ (fun j x h => (hcx _ _ zX).trans h) | exact HLX.out _ (fun j x h => a0b ((hcx _ _ zX).trans h)) | exact HLX.out _ (fun j x h => a0a hgrow2 (a0b ((hcx _ _ zX).trans h)) HXD.out) | exact HLX.out _ (fun j x h => a0e (a0a hgrow2 (a0b ((hcx _ _ zX).trans h)) HXD.out) (by dsimp only;omega)) | go_keep | (rw [hcx _ _ (by assumption)];assumption)))) (fun hHeld => ?_)
    clear hK K;try simp only [pz]
    refine rd1 5 (by kernel_rfl) rfl fun K hK => ?_
    go_simp
    (go_at_call 42;refine (HMN.out _).mono ?_;rintro e x4 ⟨rfl,hbx⟩;have xf2:=a0g hbx ef2 hzE;have xc2:=a0f hbx e2 hzE;have xzz:=Nat.lt_of_lt_of_le hzE hbx.size;have hTx:Below w.heap.size w x4:=bHb hbx;obtain ⟨hcx,hfx⟩:=a0k hTx)
    try (go_wp2_with fail)
    refine hK.out _ _ (by ((try dsimp only);((repeat' apply And.intro) <;> first | assumption | exact HLX.out _ (fun j x h => h) | exact HLX.out _ (fun j x h => (hcx _ _ zX).trans h) | exact HLX.out _ (fun j x h => a0b ((hcx _ _ zX).trans h)) | exact HLX.out _ (fun j x h => a0a hgrow2 (a0b ((hcx _ _ zX).trans h)) HXD.out) | exact HLX.out _ (fun j x h => a0e (a0a hgrow2 (a0b ((hcx _ _ zX).trans h)) HXD.out) (by dsimp only;omega)) | go_keep | (rw [hcx _ _ (by assumption)];assumption)))) (fun hHeld => ?_)
    clear hK K;try simp only [pz]
    refine rd1 6 (by kernel_rfl) rfl fun K hK => ?_
    (refine a3n (by rfl) _ (by rfl) m (by rfl) ?_)
    refine hK.out _ _ (by ((try dsimp only);((repeat' apply And.intro) <;> first | assumption | exact HLX.out _ (fun j x h => h) | exact HLX.out _ (fun j x h => (hcx _ _ zX).trans h) | exact HLX.out _ (fun j x h => a0b ((hcx _ _ zX).trans h)) | exact HLX.out _ (fun j x h => a0a hgrow2 (a0b ((hcx _ _ zX).trans h)) HXD.out) | exact HLX.out _ (fun j x h => a0e (a0a hgrow2 (a0b ((hcx _ _ zX).trans h)) HXD.out) (by dsimp only;omega)) | go_keep | (rw [hcx _ _ (by assumption)];assumption)))) (fun hHeld => ?_)
    clear hK K;try simp only [pz]
   rotate_left 1
   focus
    go_simp
    (go_at_call 42;refine (HMN.out _).mono ?_;rintro e x4 ⟨rfl,hbx⟩;have xf2:=a0g hbx ef2 hzE;have xc2:=a0f hbx e2 hzE;have xzz:=Nat.lt_of_lt_of_le hzE hbx.size;have hTx:Below w.heap.size w x4:=bHb hbx;obtain ⟨hcx,hfx⟩:=a0k hTx)
    try (go_wp2_with fail)
    refine hK.out _ _ (by ((try dsimp only);((repeat' apply And.intro) <;> first | assumption | exact HLX.out _ (fun j x h => h) | exact HLX.out _ (fun j x h => (hcx _ _ zX).trans h) | exact HLX.out _ (fun j x h => a0b ((hcx _ _ zX).trans h)) | exact HLX.out _ (fun j x h => a0a hgrow2 (a0b ((hcx _ _ zX).trans h)) HXD.out) | exact HLX.out _ (fun j x h => a0e (a0a hgrow2 (a0b ((hcx _ _ zX).trans h)) HXD.out) (by dsimp only;omega)) | go_keep | (rw [hcx _ _ (by assumption)];assumption)))) (fun hHeld => ?_)
    clear hK K;try simp only [pz]
    refine wpAnyH_ready (rs:=[1,6]) (by kernel_rfl) (by simp) ?_;refine AllReadyH.cons rfl (fun K hK => ?_) (AllReadyH.cons rfl (fun K hK => ?_) AllReadyH.nil)
    focus
     go_simp;try (go_wp2_with fail)
     refine hK.out _ _ (by ((try dsimp only);((repeat' apply And.intro) <;> first | assumption | exact HLX.out _ (fun j x h => h) | exact HLX.out _ (fun j x h => (hcx _ _ zX).trans h) | exact HLX.out _ (fun j x h => a0b ((hcx _ _ zX).trans h)) | exact HLX.out _ (fun j x h => a0a hgrow2 (a0b ((hcx _ _ zX).trans h)) HXD.out) | exact HLX.out _ (fun j x h => a0e (a0a hgrow2 (a0b ((hcx _ _ zX).trans h)) HXD.out) (by dsimp only;omega)) | go_keep | (rw [hcx _ _ (by assumption)];assumption)))) (fun hHeld => ?_)
     clear hK K;try simp only [pz]
     refine rd1 6 (by kernel_rfl) rfl fun K hK => ?_
     (refine a3n (by rfl) _ (by rfl) m (by rfl) ?_)
     refine hK.out _ _ (by ((try dsimp only);((repeat' apply And.intro) <;> first | assumption | exact HLX.out _ (fun j x h => h) | exact HLX.out _ (fun j x h => (hcx _ _ zX).trans h) | exact HLX.out _ (fun j x h => a0b ((hcx _ _ zX).trans h)) | exact HLX.out _ (fun j x h => a0a hgrow2 (a0b ((hcx _ _ zX).trans h)) HXD.out) | exact HLX.out _ (fun j x h => a0e (a0a hgrow2 (a0b ((hcx _ _ zX).trans h)) HXD.out) (by dsimp only;omega)) | go_keep | (rw [hcx _ _ (by assumption)];assumption)))) (fun hHeld => ?_)
     clear hK K;try simp only [pz]
    rotate_left 1
    focus
     (refine a3n (by rfl) _ (by rfl) m (by rfl) ?_)
     refine hK.out _ _ (by ((try dsimp only);((repeat' apply And.intro) <;> first | assumption | exact HLX.out _ (fun j x h => h) | exact HLX.out _ (fun j x h => (hcx _ _ zX).trans h) | exact HLX.out _ (fun j x h => a0b ((hcx _ _ zX).trans h)) | exact HLX.out _ (fun j x h => a0a hgrow2 (a0b ((hcx _ _ zX).trans h)) HXD.out) | exact HLX.out _ (fun j x h => a0e (a0a hgrow2 (a0b ((hcx _ _ zX).trans h)) HXD.out) (by dsimp only;omega)) | go_keep | (rw [hcx _ _ (by assumption)];assumption)))) (fun hHeld => ?_)
     clear hK K;try simp only [pz]
     refine rd1 1 (by kernel_rfl) rfl fun K hK => ?_
     go_simp;try (go_wp2_with fail)
     refine hK.out _ _ (by ((try dsimp only);((repeat' apply And.intro) <;> first | assumption | exact HLX.out _ (fun j x h => h) | exact HLX.out _ (fun j x h => (hcx _ _ zX).trans h) | exact HLX.out _ (fun j x h => a0b ((hcx _ _ zX).trans h)) | exact HLX.out _ (fun j x h => a0a hgrow2 (a0b ((hcx _ _ zX).trans h)) HXD.out) | exact HLX.out _ (fun j x h => a0e (a0a hgrow2 (a0b ((hcx _ _ zX).trans h)) HXD.out) (by dsimp only;omega)) | go_keep | (rw [hcx _ _ (by assumption)];assumption)))) (fun hHeld => ?_)
     clear hK K;try simp only [pz]
    rotate_left 1
   rotate_left 2
   all_goals
    refine rd1 7 (by kernel_rfl) rfl fun K hK => ?_
    (refine a6i (by rfl) _ _ (by rfl) (base:=G+1) (v:=u1) (N:=(N.take k).map (mvN dn da)) (M:=[m]) (by rfl) ((a1g HWX.out.ou hTx).alloc _) (by rfl) (a4u x4 m _) (by rw [HTL.out];omega) (by simp) (by have:=hTx.size;simp;omega) ?_;intro v2 wf hown2 hgrow2 hnear2;rw [HLE.out] at hown2;obtain ⟨b2,c2,rfl⟩:=a0l hown2;have pfd:=a0m hgrow2 (alZ xzz) (alF xzz xf2) HPD.out;have pcd:=a0a hgrow2 (a0b (W:=x4) xc2) HPD.out)
    refine hK.out _ _ (by ((try dsimp only);((repeat' apply And.intro) <;> first | assumption | exact HLX.out _ (fun j x h => h) | exact HLX.out _ (fun j x h => (hcx _ _ zX).trans h) | exact HLX.out _ (fun j x h => a0b ((hcx _ _ zX).trans h)) | exact HLX.out _ (fun j x h => a0a hgrow2 (a0b ((hcx _ _ zX).trans h)) HXD.out) | exact HLX.out _ (fun j x h => a0e (a0a hgrow2 (a0b ((hcx _ _ zX).trans h)) HXD.out) (by dsimp only;omega)) | go_keep | (rw [hcx _ _ (by assumption)];assumption)))) (fun hHeld => ?_)
    clear hK K;try simp only [pz]
    refine tk 8 ?_;try simp only [pz]
    refine rd1 9 (by kernel_rfl) rfl fun K hK => ?_
    go_simp;try (go_wp2_with fail)
    refine hK.out _ _ (by ((try dsimp only);((repeat' apply And.intro) <;> first | assumption | exact HLX.out _ (fun j x h => h) | exact HLX.out _ (fun j x h => (hcx _ _ zX).trans h) | exact HLX.out _ (fun j x h => a0b ((hcx _ _ zX).trans h)) | exact HLX.out _ (fun j x h => a0a hgrow2 (a0b ((hcx _ _ zX).trans h)) HXD.out) | exact HLX.out _ (fun j x h => a0e (a0a hgrow2 (a0b ((hcx _ _ zX).trans h)) HXD.out) (by dsimp only;omega)) | go_keep | (rw [hcx _ _ (by assumption)];assumption)))) (fun hHeld => ?_)
    clear hK K;try simp only [pz]
    refine wpAnyH_done (by kernel_rfl) ?_ _;have hgrow3:(World.alloc x4 (.cells (ndL m).toArray 30)).grownBy wf u1.ownBlock:=⟨hgrow2.os,hgrow2.tape,hgrow2.output,hgrow2.size,hgrow2.block⟩;go_wp2_with fail
    go_roundw
    case rel =>
     refine ⟨k+1,.slice b2 (k+1) c2,by rw [← HLL.out];omega,by go_num,?_,?_⟩
     ·
      rw [← HTK.out];exact FAt.setN (HWX.out.below (a0i hTx):FAt (World.alloc x4 _) G (G+1) _ _ _ _ _ _) hgrow3 (by rw [HLE.out];exact hown2) hnear2
     ·
      refine Below.setCell ?_ (Nat.le_refl G) _;refine Below.grown (w:=World.alloc x4 _) ?_ hgrow3 (by have:=hTx.size;simp;omega) (fun q hq => Nat.le_of_lt (by have h1:=(HWX.out.ou.lt q hq).1;omega));exact (HBX.out.trans (hTx.mono (Nat.le_of_lt hzE))).alloc (by have:=hTx.size;omega) _
    case measure => simp [intOf];omega
  ·
   obtain rfl:k=L:=by omega
   have hfa:=HWK.out;rw [HLL.out,List.take_length] at hfa;obtain ⟨M,hM⟩:∃ M,M=N.map (mvN dn da):=⟨_,rfl⟩;rw [← hM] at hfa HPO;have HF2:=zh hfa;have q1:=HF1.out _ HW.out;have zF:=a0j q1;clear hM hfa HWK;go_wp2_with fail;clear q1 zF hBo
   go_loopw [32] (c7v t0 dn G M A u1) (fun r _ => K - (intOf r).toNat)
   case atStart => exact ⟨0,_,Nat.zero_le _,rfl,HF2.out,HW.out⟩
   case round =>
    obtain ⟨j,v1,hj,rfl,hfa,hW2⟩:=hrel;rw [← HKK.out] at hj;have hBo:=HZ.out _ hW2;have HWJ:=zh hW2;have HFJ:=zh hfa;clear hW2 hfa;by_cases hlt:j < K
    ·
     obtain ⟨x,hx⟩:=HGA.out j hlt;obtain ⟨ga,oa,rfl,hca⟩:=HAA.out j (by rw [← HKK.out];exact hlt);have hxx:A.getD j 0=x:=by rw [List.getD_eq_getElem?_getD,hx];rfl
     rw [hxx] at hca;have hc2:=a0f hBo hca (a0j hca);have zc:=a0j hc2;obtain ⟨x1,x2⟩:=HMA.out x (List.mem_of_getElem? hx);have HTK:=zh (a5u (·+dn) hx);have HTL:=zh (a6t (l:=A) (·+dn) (show j≤A.length by rw [← HKK.out];exact hj));have HLE:Hid (((A.take j).map (·+dn) ++ [x+dn]).length=j+1):=zh (by rw [List.length_append,HTL.out];rfl);have p1:=HFJ.out.c1;have pf1:=HFJ.out.f1;have pz:=HFJ.out.pz;have HPU:Hid (∀ y,v1.ownBlock=some y→G≠y):=fun y hy e => by have h1:=(HFJ.out.ov.lt y hy).1;omega
     have hgl:((A.take j).map (·+dn)).length≤100000:=by rw [HTL.out];omega
     have HGL:=zh hgl;have HBO:=zh hBo;clear hx hxx hca hgl hBo;go_wp2_with (at_builtin;refine a1s rfl _ _ rfl (base:=G+1) (v:=v1) (A:=(A.take j).map (·+dn)) (B:=[x+dn]) (by rfl) (HFJ.out.ov.alloc _) (by rfl) (a5o wr _ _ _ rfl) HGL.out (by simp) (by have:=HFJ.out.bw;simp;omega) ?_;intro v2 wf hown2 hgrow2 hnear2;rw [HLE.out] at hown2;obtain ⟨b2,c2,rfl⟩:=a0l hown2;have pfd:=a0m hgrow2 (alZ pz) (alF pz pf1) HPU.out;have pcd:=a0a hgrow2 (a0b (W:=wr) p1) HPU.out)
     go_roundw
     case rel =>
      refine ⟨j+1,.slice b2 (j+1) c2,by rw [← HKK.out];omega,by go_num,?_,?_⟩
      ·
       rw [← HTK.out];exact FAt.setA (HFJ.out.below (a0i (Below.refl _ _)):FAt (World.alloc wr _) G (G+1) _ _ _ _ _ _) hgrow2 (by rw [HLE.out];exact hown2) hnear2
      ·
       exact (a3m (HWJ.out.alloc (Nat.le_of_lt pz) _) (HFJ.out.ov.alloc _) (by omega) (by simp;omega) hgrow2).setCell (Nat.le_refl G) _
     case measure => simp [intOf];omega
    ·
     obtain rfl:j=K:=by omega
     have hfa:=HFJ.out;rw [HKK.out,List.take_length] at hfa;obtain ⟨BB,hBB⟩:∃ z,z=A.map (·+dn):=⟨_,rfl⟩;rw [← hBB] at hfa HPO;clear hBB;have HF3:=zh hfa;obtain ⟨bu,cu,rfl⟩:=a0l hfa.ou;obtain ⟨bv,cv,rfl⟩:=a0l hfa.ov;have p0:=HF3.out.c0;have p1:=HF3.out.c1;have pz:=HF3.out.pz;obtain ⟨kR0,kR1,fR0,fR1⟩:=HR1.out _ HWJ.out;have zR:=a0j kR0;have HBO:=zh hBo;clear hfa hBo HFJ;go_wp2_with fail;have hst:∀ {size n:Nat} {t:TypeId} {x:Value} {xs:List Value},wr.ownsRow (G+1) t size x n xs→((wr.setCell ⟨R,0,none⟩ (.slice bu M.length cu)).setCell ⟨R,1,none⟩ (.slice bv BB.length cv)).ownsRow (G+1) t size x n xs:=fun h => ownsRow_setCell_below (ownsRow_setCell_below h (by show R < G+1;omega) _) (by show R < G+1;omega) _
     refine bodyPost_ret (v:=.agg #[.slice bu M.length cu,.slice bv BB.length cv]) (by simp [results,Tryz.results27,go_sem,kR0,kR1,fR0,fR1,zR,p0,p1]) rfl ?_;rw [HPO.out];exact ⟨⟨_,_,rfl,a2f (hst HF3.out.ou) (by have:=HLG.out;omega),a2f (hst HF3.out.ov) (by have:=HLG.out;omega),HF3.out.uv⟩,(HBO.out.setCell HLR.out _).setCell HLR.out _⟩
set_option maxHeartbeats 8000000
def FormsAt (W:World) (v:Value) (l:List (List Nd × List Int)):Prop :=
 (v=.slice none 0 0∧l=[]) ∨ ∃ g o cap:Nat,v=.slice (some ⟨g,o,none⟩) l.length cap∧l.length≤cap∧cap≤maxLen ∧
  ∀ (k:Nat) (f:List Nd × List Int),l[k]?=some f→∃ us vs,W.cell? ⟨g,o+k * 2,none⟩=some us∧W.cell? ⟨g,o+k * 2+1,none⟩=some vs∧NodesAt W us f.1∧IntsAt W vs f.2
theorem FormsAt.below {W W':World} {v:Value} {l:List (List Nd × List Int)} (h:FormsAt W v l) (hb:Below W.heap.size W W'):FormsAt W' v l:=by
 rcases h with h | ⟨g,o,cap,hv,h1,h2,hc⟩
 ·
  exact Or.inl h
 ·
  refine Or.inr ⟨g,o,cap,hv,h1,h2,fun k f hk => ?_⟩
  obtain ⟨us,vs,c1,c2,c3,c4⟩:=hc k f hk;exact ⟨us,vs,a0f hb c1 (a0j c1),a0f hb c2 (a0j c2),c3.below hb,c4.below hb⟩
theorem FormsAt.slice {W:World} {v:Value} {l:List (List Nd × List Int)} (h:FormsAt W v l):∃ bt ct,v=.slice bt l.length ct∧∀ (k:Nat) (f:List Nd × List Int),l[k]?=some f→∃ g o us vs,bt=some ⟨g,o,none⟩∧W.cell? ⟨g,o+k * 2,none⟩=some us∧W.cell? ⟨g,o+k * 2+1,none⟩=some vs∧NodesAt W us f.1∧IntsAt W vs f.2:=by
 rcases h with ⟨rfl,rfl⟩ | ⟨g,o,cap,rfl,h1,h2,hc⟩
 ·
  exact ⟨none,0,rfl,fun k f h => by simp at h⟩
 ·
  exact ⟨_,_,rfl,fun k f h => by
   obtain ⟨us,vs,c⟩:=hc k f h
   exact ⟨g,o,us,vs,rfl,c⟩⟩
def Small (l:List (List Nd × List Int)):Prop:=∀ g ∈ l,(∀ n ∈ g.1,Fits n)∧g.1.length≤1000∧g.2.length≤1000
def c0g (l:List (List Nd × List Int)):Bool:=l.all fun g => a0w g.1 g.2
theorem allR_iff {l:List (List Nd × List Int)} : c0g l=true ↔ ∀ g ∈ l,a0w g.1 g.2=true:=by unfold c0g;rw [List.all_eq_true]
theorem c9e (x y:Value) (w:World):(callFunc 64 #[x,y]).run Tryz.prog w=.ok (.enter 64 #[x,y]) w:=by kernel_rfl
theorem c5w (x:Value) (w:World):(callFunc 16 #[x]).run Tryz.prog w=.ok (.enter 16 #[x]) w:=by kernel_rfl
theorem c3f (F:Nat) (HCF:∀ (x:Value) (w:World),(callFunc F #[x]).run Tryz.prog w=.ok (.enter F #[x]) w) (P:Nat) (u v:Value) (b:Bool) (w:World) (hP:w.cell? ⟨P,0,none⟩=some (.func (.func F) #[] #[]))
  (HR:∀ W,Below w.heap.size w W→Calls Tryz.prog F #[.agg #[u,v]] W fun e w' => e=.returned (.bool b)∧Below W.heap.size W w') :
  Calls Tryz.prog 64 #[.agg #[u,v],.pointer (some ⟨P,0,none⟩)] w fun e w' => e=.returned (.bool (!b))∧Below w.heap.size w w':=by
 have hud:undef=Value.tuple #[]:=rfl;have HRR:=zh HR;have zP:=a0j hP;clear HR;go_enter Tryz.func64,Tryz.ntmps64
 go_upto_region 1 with (fail)
 obtain ⟨s1,hws⟩:∃ s,s=(w.alloc (.cells #[u,v] 36)):=⟨_,rfl⟩;have hBs:=bs1 (Below.refl w.heap.size w) hws;obtain ⟨X,hdX⟩:∃ b,b=w.heap.size:=⟨_,rfl⟩;have hsz:s1.heap.size=w.heap.size+1:=by rw [hws];simp
 have hN:=bx0 (b:=X) hws hdX;have kX0:=hN 0 _ rfl;have kX1:=hN 1 _ rfl;clear hN;have zX:X < s1.heap.size:=by omega
 have lX:w.heap.size≤X:=by omega
 rw [← hws];try rw [← hdX]
 clear hws hsz hdX;have hBo:=hBs;clear hBs;have hP2:s1.cell? ⟨P,0,none⟩=some (.func (.func F) #[] #[]):=a0f hBo hP zP;go_wp2_with fail;refine (HRR.out _ hBo).mono ?_;rintro e w5 ⟨rfl,hb⟩;replace kX0:=a0f hb kX0 zX;replace kX1:=a0f hb kX1 zX;replace zX:=zHl hb zX;replace hBo:=hBo.trans (hb.mono hBo.size);clear hb;go_wp2_with fail
 go_ret
 exact ⟨rfl,hBo⟩
def c7w (t0:World) (l:List (List Nd × List Int)) (r:Value) (wr:World):Prop:=∃ k:Nat,k≤l.length∧r=.int .i64 k∧(∀ g ∈ l.take k,a0w g.1 g.2=true)∧Below t0.heap.size t0 wr
def b4i (l:List (List Nd × List Int)) (w:World) (e:Ending) (w':World):Prop:=∃ r:Int,e=.returned (.int .i64 r)∧-1≤r∧r≤1000000∧decide (0≤r)=(!c0g l)∧Below w.heap.size w w'
theorem c0h (P:Nat) (v:Value) (l:List (List Nd × List Int)) (w:World) (hP:w.cell? ⟨P,0,none⟩=some (.func (.func 16) #[] #[])) (hv:FormsAt w v l) (hs:Small l) (hnm:NamesAt w) (hl:l.length≤100000) :
  Calls Tryz.prog 87 #[v,.func (.func 64) #[] #[.pointer (some ⟨P,0,none⟩)]] w (b4i l w):=by
 obtain ⟨Po,hPo⟩:∃ Po,Po=b4i l w:=⟨_,rfl⟩;rw [← hPo];have HPO:=zh hPo;have zP:=a0j hP
 have HA:=zh (fun (g:List Nd × List Int) (hg:g ∈ l) (us vs:Value) (W:World) (hW:Below w.heap.size w W) (h1:NodesAt W us g.1) (h2:IntsAt W vs g.2) =>
  c3f 16 c5w P us vs (a0w g.1 g.2) W (a0f hW hP zP) (fun W' hW' => a3y us vs g.1 g.2 W' (h1.below hW') (h2.below hW') (hs g hg).1 ((hnm.below hW).below hW') (hs g hg).2.2 (hs g hg).2.1))
 obtain ⟨bt,ct,rfl,hcs⟩:=hv.slice;have HCS:=zh hcs;have HGE:Hid (∀ k,k < l.length→∃ g,l[k]?=some g):=fun k h => ⟨_,List.getElem?_eq_getElem h⟩
 obtain ⟨L,hL⟩:∃ L,L=l.length:=⟨_,rfl⟩;rw [← hL] at HGE hl ⊢;have HLL:=zh hL;obtain ⟨FA,hFA⟩:∃ FA,FA=64:=⟨_,rfl⟩;have HCF:∀ x y w,(callFunc FA #[x,y]).run Tryz.prog w=.ok (.enter FA #[x,y]) w:=by rw [hFA];exact c9e
 rw [← hFA] at HA ⊢;have hBo:=Below.refl w.heap.size w;clear hPo hP hv hs hnm hcs hL hFA;go_enter Tryz.func87,Tryz.ntmps87;go_wp2_with fail;obtain ⟨t0,ht0⟩:∃ t,t=w:=⟨_,rfl⟩;subst ht0;clear hBo
 go_loopw [8] (c7w t0 l) (fun r _ => L - (intOf r).toNat)
 case atStart => exact ⟨0,Nat.zero_le _,rfl,fun g h => by simp at h,Below.refl _ _⟩
 case round =>
  obtain ⟨k,hk,rfl,hR,hBo⟩:=hrel;rw [← HLL.out] at hk;have HRT:=zh hR;clear hR;by_cases hlt:k < L
  ·
   obtain ⟨g,hg⟩:=HGE.out k hlt;obtain ⟨gg,oo,us,vs,rfl,c1,c2,c3,c4⟩:=HCS.out k g hg;have HCL:=zh (HA.out g (List.mem_of_getElem? hg) us vs wr hBo (c3.below hBo) (c4.below hBo));have c1':=a0f hBo c1 (a0j c1);have c2':=a0f hBo c2 (a0j c2);have HG:=zh hg;have hkm:(k:Int)≤100000:=by omega
   have HBO:=zh hBo;clear c1 c2 c3 c4 hg;go_wp2_with fail;refine HCL.out.mono ?_;rintro e w5 ⟨rfl,hb⟩;have HB5:=zh (HBO.out.trans (hb.mono HBO.out.size));clear hb c1' c2' hBo
   cases hx:a0w g.1 g.2 with
   | true =>
    have HX:=zh hx;clear hx;go_wp2_with fail
    go_roundw
    case rel =>
     refine ⟨k+1,by rw [← HLL.out];omega,by go_num,?_,HB5.out⟩;intro g2 hg2;rw [List.take_add_one,HG.out,Option.toList_some] at hg2
     rcases List.mem_append.1 hg2 with h | h
     ·
      exact HRT.out g2 h
     ·
      rw [List.mem_singleton.1 h];exact HX.out
    case measure => simp [intOf];omega
   | false =>
    have HX:=zh hx;clear hx;go_wp2_with fail;show Po _ _;rw [HPO.out];refine ⟨k,rfl,by omega,by omega,?_,HB5.out⟩
    have:c0g l=false:=by
     cases h:c0g l with
     | false => rfl
     | true => rw [allR_iff.1 h g (List.mem_of_getElem? HG.out)] at HX;cases HX.out
    rw [this];simp
  ·
   obtain rfl:k=L:=by omega
   have HBO:=zh hBo;clear hBo;go_wp2_with fail;show Po _ _;rw [HPO.out];refine ⟨-1,rfl,by omega,by omega,?_,HBO.out⟩;have:c0g l=true:=allR_iff.2 fun g hg => HRT.out g (by rw [HLL.out,List.take_length];exact hg)
   rw [this];simp
theorem b2c (P:Nat) (v:Value) (l:List (List Nd × List Int)) (w:World) (hP:w.cell? ⟨P,0,none⟩=some (.func (.func 16) #[] #[])) (hv:FormsAt w v l) (hs:Small l) (hnm:NamesAt w) (hl:l.length≤100000) :
  Calls Tryz.prog 63 #[v,.func (.func 64) #[] #[.pointer (some ⟨P,0,none⟩)]] w fun e w' => e=.returned (.bool (!c0g l))∧Below w.heap.size w w':=by
 have hi:=c0h P v l w hP hv hs hnm hl;unfold b4i at hi;have HI:=zh hi;clear hi;obtain ⟨cv,hcv⟩:∃ z,z=Value.func (.func 64) #[] #[.pointer (some ⟨P,0,none⟩)]:=⟨_,rfl⟩;rw [← hcv] at HI ⊢;clear hP hv hs hnm hl hcv;generalize c0g l=b at *;go_enter Tryz.func63,Tryz.ntmps63;go_wp2_with fail;refine HI.out.mono ?_;rintro e w5 ⟨r,rfl,r1,r2,hr,hb⟩
 cases b with
 | true =>
  have hr':r=-1:=by have:=of_decide_eq_false hr;omega
  subst hr';clear hr r1 r2;go_wp2_with fail
  go_ret
  exact ⟨rfl,hb⟩
 | false =>
  have hr':0≤r:=of_decide_eq_true hr;clear hr r1 r2;go_wp2_with fail
  go_ret
  exact ⟨a0d (by simp),hb⟩
theorem c5x (v:Value) (l:List (List Nd × List Int)) (w:World) (hv:FormsAt w v l) (hs:Small l) (hnm:NamesAt w) (hl:l.length≤100000) :
  Calls Tryz.prog 35 #[v,.func (.func 16) #[] #[]] w fun e w' => e=.returned (.bool (c0g l))∧Below w.heap.size w w':=by
 have HI:=zh (fun P W hP hW => b2c P v l W hP (hv.below hW) hs (hnm.below hW) hl);clear hv hs hnm hl;generalize c0g l=b at *;obtain ⟨FR,hFR⟩:∃ z,z=16:=⟨_,rfl⟩;rw [← hFR] at HI ⊢;clear hFR;go_enter Tryz.func35,Tryz.ntmps35
 go_upto_region 1 with (fail)
 obtain ⟨s2,hws⟩:∃ s,s=(w.alloc (.cells #[.func (.func FR) #[] #[]] 46)):=⟨_,rfl⟩;have hBs:=bs1 (Below.refl w.heap.size w) hws;obtain ⟨X,hdX⟩:∃ b,b=w.heap.size:=⟨_,rfl⟩;have hsz:s2.heap.size=w.heap.size+1:=by rw [hws];simp
 have hN:=bx0 (b:=X) hws hdX;have kX0:=hN 0 _ rfl;clear hN;have zX:X < s2.heap.size:=by omega
 have lX:w.heap.size≤X:=by omega
 rw [← hws];try rw [← hdX]
 clear hws hsz hdX;have hBo:=hBs;clear hBs;go_wp2_with fail;refine (HI.out _ _ kX0 hBo).mono ?_;rintro e w5 ⟨rfl,hb⟩;replace kX0:=a0f hb kX0 zX;replace zX:=zHl hb zX;replace hBo:=hBo.trans (hb.mono hBo.size);clear hb;go_wp2_with fail
 go_ret
 exact ⟨by cases b <;> rfl,hBo⟩
end Go.Proofs.YtjfkbeanbbeloaaGreatDoor
