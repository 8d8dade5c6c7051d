import Derived.Test.YtjfkbeanbbeloaaGreatDoorAst60
set_option maxHeartbeats 16000000
set_option maxRecDepth 100000
namespace Go.Proofs.YtjfkbeanbbeloaaGreatDoor
open Go.RowKit Go.Shelf
set_option linter.unusedSimpArgs false
set_option linter.unusedVariables false
theorem d2w (s:ByteArray):a1x (nd0 9 0 s)=b9e s.data.toList:=by
 have h2:a2r (nd0 9 0 s) (a0s (nd0 9 0 s))=true:=(a2o _ _).2 rfl
 have h1:a4i (nd0 9 0 s)=b9e s.data.toList:=by
  show (decide ((0:Int)≤0) && decide ((0:Int)≤20) && !(decide ((0:Int)=0) && !decide ((0:Int)=0)) && b9e s.data.toList)=_;simp
 unfold a1x;rw [h1,h2,Bool.and_true]
theorem d4o {n:Nd} {l:List (List Nd × List Int)} (h:a1x n=true) (hr:∀ g ∈ l,a0w g.1 g.2=true) (h20:20 < l.length):a3a n l=([],[],2):=by
 unfold a3a;rw [if_pos ⟨h,hr⟩,if_pos h20]
def d6k (t0:World) (l:List (List Nd × List Int)) (r:Value) (wr:World):Prop:=∃ k:Nat,k≤l.length∧r=.int .i64 k∧(∀ g ∈ l.take k,a0w g.1 g.2=true)∧Below t0.heap.size t0 wr
def d6l (t1:World) (P:Nat) (l:List (List Nd × List Int)) (x r:Value) (wr:World):Prop:=∃ (k:Nat) (u1 v1:Value),k≤l.length∧r=.int .i64 k∧FAt wr P (P+1) (a0u (l.take k)).N (a0u (l.take k)).A (a0u (l.take k)).T u1 v1 x∧Below P t1 wr
theorem d3e (nb:ByteArray) (v:Value) (l:List (List Nd × List Int)) (w:World) (hv:FormsAt w v l) (hs:Small l) (hss:nb.size≤500) (hl:l.length≤1000) :
  Calls Tryz.prog 10 #[.string nb,v] w (d1w (a3a (nd0 9 0 nb) l) w):=by
 have hud:undef=Value.tuple #[]:=rfl;obtain ⟨K19,hz19,HK19⟩:=a0q;obtain ⟨Po,hPo⟩:∃ Po,Po=d1w (a3a (nd0 9 0 nb) l) w:=⟨_,rfl⟩;rw [← hPo];have HPO:=zh hPo;have HRT:=zh (fun (g:List Nd × List Int) (hg:g ∈ l) (us vs:Value) (W:World) (h1:NodesAt W us g.1) (h2:IntsAt W vs g.2) => a3t us vs g.1 g.2 W h1 h2 (hs g hg).1 (hs g hg).2.2 (hs g hg).2.1);have hnm:=fun w => b4b nb w (by unfold maxLen;omega)
 have HBD:Hid (∀ g,g ∈ l→a0w g.1 g.2=false→a3a (nd0 9 0 nb) l=([],[],3)):=fun g hg h => d2k (fun hh => by have:=hh.2 g hg;rw [h] at this;cases this)
 have HBN:Hid (b9e nb.data.toList=false→a3a (nd0 9 0 nb) l=([],[],3)):=fun h => d2k (fun hh => by have:=hh.1;rw [d2w,h] at this;cases this)
 have HBM:Hid (b9e nb.data.toList=true→(∀ g ∈ l,a0w g.1 g.2=true)→20 < l.length→a3a (nd0 9 0 nb) l=([],[],2)):=fun h1 h2 h3 => d4o (by rw [d2w,h1]) h2 h3
 have HFN:=zh (⟨b9e nb.data.toList,rfl⟩:∃ b,b=b9e nb.data.toList);obtain ⟨bt,ct,rfl,hcs⟩:=hv.slice;have HCS:=zh hcs;have HGE:Hid (∀ k,k < l.length→∃ g,l[k]?=some g):=fun k h => ⟨_,List.getElem?_eq_getElem h⟩
 obtain ⟨b,hb⟩:∃ b,b=b9e nb.data.toList:=⟨_,rfl⟩;rw [← hb] at hnm HBN HBM;have HNM:=zh hnm;have HFB:=zh hb;clear hb;obtain ⟨L,hL⟩:∃ L,L=l.length:=⟨_,rfl⟩;rw [← hL] at HGE HBM hl ⊢;have HLL:=zh hL;have HSM:=zh hs;clear hPo hv hs hnm hcs hL HFN;go_enter Tryz.func10,Tryz.ntmps10
 go_upto_region 1 with (fail)
 obtain ⟨s1,hws⟩:∃ s,s=(w.alloc (.cells #[.slice none 0 0,.slice none 0 0] 36)):=⟨_,rfl⟩;have hBs:=bs1 (Below.refl w.heap.size w) hws;obtain ⟨R,hdR⟩:∃ b,b=w.heap.size:=⟨_,rfl⟩;have hsz:s1.heap.size=w.heap.size+1:=by rw [hws];simp
 have hN:=bx0 (b:=R) hws hdR;have hM:=bf0 (b:=R) hws hdR;have kR0:=hN 0 _ rfl;have kR1:=hN 1 _ rfl;have fR0:=hM 0;have fR1:=hM 1;clear hN hM;have zR:R < s1.heap.size:=by omega
 have lR:w.heap.size≤R:=by omega
 rw [← hws];try rw [← hdR]
 clear hws hsz hdR;have hBo:=hBs;clear hBs;obtain ⟨t0,ht0⟩:∃ t,t=s1:=⟨_,rfl⟩;subst ht0;have HZ:Hid (∀ W,Below t0.heap.size t0 W→Below w.heap.size w W):=fun W h => hBo.trans (h.mono hBo.size)
 have HR1:Hid (∀ W,Below t0.heap.size t0 W→W.cell? ⟨R,0,none⟩=some (.slice none 0 0)∧W.cell? ⟨R,1,none⟩=some (.slice none 0 0)∧W.frozen? ⟨R,0,none⟩=false∧W.frozen? ⟨R,1,none⟩=false):=fun W h => ⟨a0f h kR0 zR,a0f h kR1 zR,a0g h fR0 zR,a0g h fR1 zR⟩
 have HLR:=zh lR;clear hud hBo kR0 kR1 fR0 fR1 zR lR;go_wp2_with fail
 go_loopw [6] (d6k t0 l) (fun r _ => L - (intOf r).toNat)
 case atStart => exact ⟨0,Nat.zero_le _,rfl,fun g h => by simp at h,Below.refl _ _⟩
 case round =>
  obtain ⟨k,hk,rfl,hR,hW⟩:=hrel;rw [← HLL.out] at hk;have HRR:=zh hR;have HW:=zh hW;have hBo:=HZ.out _ hW;obtain ⟨kR0,kR1,fR0,fR1⟩:=HR1.out _ hW;have zR:=a0j kR0;clear hR hW;by_cases hlt:k < L
  ·
   obtain ⟨g,hg⟩:=HGE.out k hlt;obtain ⟨gg,oo,us,vs,rfl,c1,c2,c3,c4⟩:=HCS.out k g hg;have HCL:=zh (HRT.out g (List.mem_of_getElem? hg) us vs wr (c3.below hBo) (c4.below hBo));have c1':=a0f hBo c1 (a0j c1);have c2':=a0f hBo c2 (a0j c2);have HG:=zh hg;have HBO:=zh hBo;clear c1 c2 c3 c4 hg hBo;go_wp2_with fail;refine HCL.out.mono ?_;rintro e w5 ⟨rfl,hb5⟩;have HB5:=zh hb5;have kR0:=a0f hb5 kR0 zR;have kR1:=a0f hb5 kR1 zR;have fR0:=a0g hb5 fR0 zR;have fR1:=a0g hb5 fR1 zR;have zR:R < w5.heap.size:=Nat.lt_of_lt_of_le zR hb5.size;clear hb5 c1' c2'
   cases hx:a0w g.1 g.2 with
   | true =>
    have HX:=zh hx;clear hx;go_wp2_with fail
    go_roundw
    case rel =>
     refine ⟨k+1,by rw [← HLL.out];omega,by go_num,fun q hq => ?_,HW.out.trans (HB5.out.mono HW.out.size)⟩
     rw [List.take_add_one,HG.out] at hq
     rcases List.mem_append.1 hq with hq | hq
     ·
      exact HRR.out q hq
     ·
      obtain rfl:q=g:=by simpa using hq
      exact HX.out
    case measure => simp [intOf];omega
   | false =>
    have HX:=zh (HBD.out g (List.mem_of_getElem? HG.out) hx);clear hx;go_wp2_with fail;refine bodyPost_ret (v:=.tuple #[.agg #[.slice none 0 0,.slice none 0 0],.int .i64 3]) (by simp [results,Tryz.results10,go_sem,kR0,kR1,fR0,fR1,zR]) rfl ?_;rw [HPO.out,HX.out];exact d1x (((HBO.out.trans (HB5.out.mono HBO.out.size)).setCell HLR.out _).setCell HLR.out _)
  ·
   obtain rfl:k=L:=by omega
   have HAL:Hid (∀ g ∈ l,a0w g.1 g.2=true):=fun g hg => HRR.out g (by rw [HLL.out,List.take_length];exact hg)
   have HBO:=zh hBo;clear HRR hBo HBD HRT;go_wp2_with fail;refine (HNM.out _).mono ?_;rintro e w5 ⟨rfl,rfl⟩
   cases b with
   | false =>
    have HX:=zh (HBN.out rfl);go_wp2_with fail;refine bodyPost_ret (v:=.tuple #[.agg #[.slice none 0 0,.slice none 0 0],.int .i64 3]) (by simp [results,Tryz.results10,go_sem,kR0,kR1,fR0,fR1,zR]) rfl ?_;rw [HPO.out,HX.out];exact d1x ((HBO.out.setCell HLR.out _).setCell HLR.out _)
   | true =>
    by_cases h20:20 < k
    ·
     have HX:=zh (HBM.out rfl HAL.out h20);go_wp2_with fail;refine bodyPost_ret (v:=.tuple #[.agg #[.slice none 0 0,.slice none 0 0],.int .i64 2]) (by simp [results,Tryz.results10,go_sem,kR0,kR1,fR0,fR1,zR]) rfl ?_;rw [HPO.out,HX.out];exact d2g ((HBO.out.setCell HLR.out _).setCell HLR.out _)
    ·
     have HMD:=zh (d2l (n:=nd0 9 0 nb) (by rw [d2w,← HFB.out]) HAL.out (by rw [← HLL.out];omega));have hk20:k≤20:=by omega
     have zR1:=zR;clear HBN HBM h20 HFB;have hBo:=HBO.out
     go_upto_region 11 with (fail)
     obtain ⟨s2,hws⟩:∃ s,s=(w5.alloc (.cells #[.slice none 0 0,.slice none 0 0] 36)):=⟨_,rfl⟩;have hBs:=bs1 hBo hws;obtain ⟨P,hdP⟩:∃ b,b=w5.heap.size:=⟨_,rfl⟩;have hUp:Below w5.heap.size w5 s2:=by rw [hws];exact (a0i (Below.refl _ _))
     have hAP:w5.heap.size≤P:=by omega
     have hsz:s2.heap.size=w5.heap.size+1:=by rw [hws];simp
     have dRP:R≠P:=by omega
     have dPR:P≠R:=by omega
     have hQC:∀ p v,w5.cell? p=some v→s2.cell? p=some v:=fun p v h => by rw [hws];exact (alK h)
     have hQZ:∀ b,b < w5.heap.size→b < s2.heap.size:=fun b h => by omega
     have hQF:∀ b j,b < w5.heap.size→w5.frozen? ⟨b,j,none⟩=false→s2.frozen? ⟨b,j,none⟩=false:=fun b j z h => by rw [hws];exact (alF z h)
     replace kR0:=hQC _ _ kR0;replace fR0:=hQF _ _ zR fR0;replace kR1:=hQC _ _ kR1;replace fR1:=hQF _ _ zR fR1;replace zR:=hQZ _ zR;clear hQC hQZ hQF;have hN:=bx0 (b:=P) hws hdP;have hM:=bf0 (b:=P) hws hdP;have kP0:=hN 0 _ rfl;have kP1:=hN 1 _ rfl;have fP0:=hM 0;have fP1:=hM 1;clear hN hM;have zP:P < s2.heap.size:=by omega
     have lP:w.heap.size≤P:=by have:=hBo.size;omega
     rw [← hws];try rw [← hdP]
     clear hBo;clear hws hsz hdP;have hBo:=hBs;clear hBs;obtain ⟨t1,ht1⟩:∃ t,t=s2:=⟨_,rfl⟩;subst ht1;have hRP:R < P:=by omega
     have HFA:Hid (FAt t1 P (P+1) [] [] [] (.slice none 0 0) (.slice none 0 0) (.slice none 0 0)):=⟨kP0,kP1,fP0,fP1,World.ownsRow_nil _ _ _ _,World.ownsRow_nil _ _ _ _,World.ownsRow_nil _ _ _ _,fun g h => by simp [Value.ownBlock] at h,fun g h => by simp [Value.ownBlock] at h,fun g h => by simp [Value.ownBlock] at h,Nat.lt_succ_self P,zP⟩
     have HZ2:Hid (∀ W,Below P t1 W→Below w.heap.size w W):=fun W h => hBo.trans (h.mono lP)
     have HR2:Hid (∀ W,Below P t1 W→W.cell? ⟨R,0,none⟩=some (.slice none 0 0)∧W.cell? ⟨R,1,none⟩=some (.slice none 0 0)∧W.frozen? ⟨R,0,none⟩=false∧W.frozen? ⟨R,1,none⟩=false):=fun W h => ⟨(h.cell (p:=⟨R,0,none⟩) hRP).trans kR0,(h.cell (p:=⟨R,1,none⟩) hRP).trans kR1,(h.frozen (p:=⟨R,0,none⟩) hRP).trans fR0,(h.frozen (p:=⟨R,1,none⟩) hRP).trans fR1⟩
     have HRP:=zh hRP;have HLP:=zh lP;have hPt:P < t1.heap.size:=zP;clear hUp hAP zR1 hBo kR0 kR1 fR0 fR1 zR kP0 kP1 fP0 fP1 zP lP hRP HR1 HZ HW;go_wp2_with fail
     go_loopw [8,9] (d6l t1 P l) (fun _ r _ => k - (intOf r).toNat)
     case atStart => exact ⟨0,_,_,Nat.zero_le _,rfl,HFA.out,Below.refl _ _⟩
     case round =>
      obtain ⟨q,u1,v1,hq,rfl,hfa,hW⟩:=hrel;rw [← HLL.out] at hq;have HW2:=zh hW;have HFQ:=zh hfa;have hBo:=HZ2.out _ hW;clear hW hfa;by_cases hlt2:q < k
      ·
       obtain ⟨g,hg⟩:=HGE.out q hlt2;obtain ⟨gg,oo,us,vs,rfl,c1,c2,c3,c4⟩:=HCS.out q g hg;have c1':=a0f hBo c1 (a0j c1);have c2':=a0f hBo c2 (a0j c2);have zg:=a0j c1';have hgP:P≠gg:=by have:=a0j c1;have:=HLP.out;dsimp only at *;omega
       have HG:=zh hg;have HBO2:=zh hBo;have kP0:=HFQ.out.c0;have kP1:=HFQ.out.c1;have fP0:=HFQ.out.f0;have fP1:=HFQ.out.f1;have zP:P < wr.heap.size:=HFQ.out.pz;have HC3:=zh c3;have HC4:=zh c4;clear c1 c2 c3 c4 hg;have hgr:a0w g.1 g.2=true:=HAL.out g (List.mem_of_getElem? HG.out);obtain ⟨j1,j2,j3⟩:=b4h (l.take q) Jn.nil (by simp [Jn.nil]) (fun x hx => HAL.out x (List.mem_of_mem_take hx));have hql:(l.take q).length=q:=by rw [List.length_take,← HLL.out];omega
       have HBB:=zh (fun W h1 h2 h3 h4 => d2b u1 v1 us vs (a0u (l.take q)).N g.1 (a0u (l.take q)).A g.2 W h1 h2 h3 h4 (c0c hgr) (b7b hgr) (by have:(a0u (l.take q)).N.length≤0+300 * (l.take q).length:=j2;omega) (by have:(a0u (l.take q)).N.length≤0+300 * (l.take q).length:=j2;have:(a0u (l.take q)).A.length+(a0u (l.take q)).T.length≤(a0u (l.take q)).N.length:=j1;omega) (by have:=a4v hgr;omega) (by have:=a4v hgr;omega));have HJX:=zh (b7c HG.out);obtain ⟨J,hJ⟩:∃ J,J=a0u (l.take q):=⟨_,rfl⟩;rw [← hJ] at HBB HJX HFQ
       have HJ1:Hid (J.N.length≤6000∧J.A.length≤6000∧J.T.length≤6000∧g.1.length≤300∧1≤g.1.length):=zh (by
        have b1:(a0u (l.take q)).N.length≤0+300 * (l.take q).length:=j2;have b2:(a0u (l.take q)).A.length+(a0u (l.take q)).T.length≤(a0u (l.take q)).N.length:=j1;rw [← hJ] at b1 b2;have:=a4v hgr
        omega)
       obtain ⟨NN,hNN⟩:∃ z,z=J.N ++ g.1.map (mvN J.N.length J.A.length):=⟨_,rfl⟩;obtain ⟨AA,hAA⟩:∃ z,z=J.A ++ g.2.map (·+(J.N.length:Int)):=⟨_,rfl⟩;obtain ⟨nl,hnl⟩:∃ z,z=NN.length:=⟨_,rfl⟩;obtain ⟨al,hal⟩:∃ z,z=AA.length:=⟨_,rfl⟩;rw [← hNN,← hAA] at HBB;have HNN:=zh hNN;have HAA:=zh hAA;have HNL5:=zh hnl;have HAL5:=zh hal;have HBC:Hid (∀ W,Below wr.heap.size wr W→Calls Tryz.prog 21 #[.agg #[u1,v1],.agg #[us,vs]] W (b9w NN AA W)):=fun W h => HBB.out W (HFQ.out.nodes.below h) (HFQ.out.args.below h) (HC3.out.below (HBO2.out.trans (h.mono HBO2.out.size))) (HC4.out.below (HBO2.out.trans (h.mono HBO2.out.size)))
       obtain ⟨ub,uc,hu1⟩:=a0l HFQ.out.ou;obtain ⟨vb,vc,hv1⟩:=a0l HFQ.out.ov;clear hgr j1 j2 j3 hql hJ HBB hu1 hv1 hNN hAA hnl hal
       go_upto_region 15 with (fail)
       have HF:Hid (∀ W,Below wr.heap.size wr W→Below w.heap.size w W):=fun W hW => hBo.trans (hW.mono hBo.size)
       clear hBo;refine wp_region_held_drew (S:=fun w' => w'.cell? ⟨gg,oo+q * 2,none⟩=some us∧w'.cell? ⟨gg,oo+q * 2+1,none⟩=some vs) (by kernel_rfl) (by ((try dsimp only);((repeat' apply And.intro) <;> first | assumption | exact c1' | exact c2' | exact (hcx _ _ zg).trans c1' | exact (hcx _ _ zg).trans c2' | exact a0e (a0e ((hcx _ _ zg).trans c1') hgP) hgP | exact a0e (a0e ((hcx _ _ zg).trans c2') hgP) hgP | go_keep | (rw [hcx _ _ (by assumption)];assumption)))) (fun hHeld => ?_)
       refine tk 1 ?_;try simp only [pz]
       refine tk 2 ?_;try simp only [pz]
       refine tk 3 ?_;try simp only [pz]
       refine tk 4 ?_;try simp only [pz]
       refine rd1 0 (by kernel_rfl) rfl fun K hK => ?_
       go_simp;try (go_wp2_with fail)
       refine hK.out _ _ (by ((try dsimp only);((repeat' apply And.intro) <;> first | assumption | exact c1' | exact c2' | exact (hcx _ _ zg).trans c1' | exact (hcx _ _ zg).trans c2' | exact a0e (a0e ((hcx _ _ zg).trans c1') hgP) hgP | exact a0e (a0e ((hcx _ _ zg).trans c2') hgP) hgP | go_keep | (rw [hcx _ _ (by assumption)];assumption)))) (fun hHeld => ?_)
       clear hK K;try simp only [pz]
       refine rd1 5 (by kernel_rfl) rfl fun K hK => ?_
       go_simp
       (go_at_call 21;refine (HBC.out _ (by repeat (with_reducible apply Below.drew);exact Below.refl _ _)).mono ?_;rintro e x3 ⟨⟨us2,vs2,rfl,hn5,ha5,hap⟩,hbx⟩;rw [← HNL5.out] at hn5;rw [← HAL5.out] at ha5;obtain ⟨b5,c5,rfl⟩:=a0l hn5;obtain ⟨b6,c6,rfl⟩:=a0l ha5;have HN5:=zh hn5;have HA5:=zh ha5;have HAP:=zh hap;clear hn5 ha5 hap;have hTx:Below wr.heap.size wr x3:=bHb hbx;obtain ⟨hcx,hfx⟩:=a0k hTx)
       try (go_wp2_with fail)
       refine hK.out _ _ (by ((try dsimp only);((repeat' apply And.intro) <;> first | assumption | exact c1' | exact c2' | exact (hcx _ _ zg).trans c1' | exact (hcx _ _ zg).trans c2' | exact a0e (a0e ((hcx _ _ zg).trans c1') hgP) hgP | exact a0e (a0e ((hcx _ _ zg).trans c2') hgP) hgP | go_keep | (rw [hcx _ _ (by assumption)];assumption)))) (fun hHeld => ?_)
       clear hK K;try simp only [pz]
       refine rd1 6 (by kernel_rfl) rfl fun K hK => ?_
       go_simp;try (go_wp2_with fail)
       refine hK.out _ _ (by ((try dsimp only);((repeat' apply And.intro) <;> first | assumption | exact c1' | exact c2' | exact (hcx _ _ zg).trans c1' | exact (hcx _ _ zg).trans c2' | exact a0e (a0e ((hcx _ _ zg).trans c1') hgP) hgP | exact a0e (a0e ((hcx _ _ zg).trans c2') hgP) hgP | go_keep | (rw [hcx _ _ (by assumption)];assumption)))) (fun hHeld => ?_)
       clear hK K;try simp only [pz]
       refine wpAnyH_done (by kernel_rfl) ?_ _;obtain ⟨wh,hwh⟩:∃ z,z=(x3.setCell ⟨P,0,none⟩ (.slice b5 nl c5)).setCell ⟨P,1,none⟩ (.slice b6 al c6):=⟨_,rfl⟩;rw [← hwh]
       have HFH:Hid (FAt wh P (P+1) NN AA J.T (.slice b5 nl c5) (.slice b6 al c6) u8):=zh (by
        have hot:=a1g HFQ.out.ot hTx;have e5:P+1≤wr.heap.size:=HFQ.out.bw;have hn5:=HN5.out;have ha5:=HA5.out;rw [HNL5.out] at hn5;rw [HAL5.out] at ha5;have hst:∀ {size n:Nat} {t:TypeId} {x:Value} {xs:List Value},x3.ownsRow (P+1) t size x n xs→wh.ownsRow (P+1) t size x n xs:=fun h => by rw [hwh];exact ownsRow_setCell_below (ownsRow_setCell_below h (by show P < P+1;omega) _) (by show P < P+1;omega) _
        have hsz:x3.heap.size≤wh.heap.size:=by rw [hwh];simp
        have q0:=a0f hTx kP0 zP;have q1:=a0f hTx kP1 zP;have r0:=a0g hTx fP0 zP;have r1:=a0g hTx fP1 zP;refine ⟨by rw [hwh];exact a0h (a0z q0 r0) (by omega),by rw [hwh];exact a0z (a0h q1 (by omega)) (frz_set.trans r1),by rw [hwh];exact frz_set.trans (frz_set.trans r0),by rw [hwh];exact frz_set.trans (frz_set.trans r1),hst (a2f (by rw [HNL5.out];exact hn5) e5),hst (a2f (by rw [HAL5.out];exact ha5) e5),hst hot,HAP.out,fun g h1 h2 => ?_,fun g h1 h2 => ?_,by omega,Nat.le_trans (Nat.le_trans e5 hTx.size) hsz⟩
        ·
         have:=(hn5.lt g (by rw [← HNL5.out];exact h1)).1;have:=(HFQ.out.ot.lt g h2).2;have:wr.heap.size≤wr.drew.heap.size:=Nat.le_refl _;omega
        ·
         have:=(ha5.lt g (by rw [← HAL5.out];exact h1)).1;have:=(HFQ.out.ot.lt g h2).2;have:wr.heap.size≤wr.drew.heap.size:=Nat.le_refl _
         omega)
       have HBH:Hid (Below P t1 wh):=zh (by rw [hwh];exact ((HW2.out.trans (hTx.mono (Nat.le_of_lt zP))).setCell (Nat.le_refl P) _).setCell (Nat.le_refl P) _);have HJX2:Hid (a0u (l.take (q+1))=⟨NN,AA,J.T ++ [(nl:Int) - 1]⟩):=zh (by rw [HJX.out];unfold Jn.next;rw [HNN.out,HAA.out,HNL5.out,HNN.out,List.length_append,List.length_map]);have hnlb:(nl:Int)≤100000:=by have:=HNL5.out;rw [HNN.out,List.length_append,List.length_map] at this;have:=HJ1.out;omega
       have hnlp:1≤(nl:Int):=by have:=HNL5.out;rw [HNN.out,List.length_append,List.length_map] at this;have:=HJ1.out;omega
       clear hwh hTx hcx hfx hbx hHeld kP0 kP1 fP0 fP1 zP c1' c2' zg hgP;have p0:=HFH.out.c0;have pz:=HFH.out.pz;go_wp2_with (at_builtin;refine a1s rfl _ _ rfl (base:=P+1) (A:=J.T) (B:=[(nl:Int) - 1]) (by rfl) (HFH.out.ot.alloc _) (by rfl) (a5o wh _ ((nl:Int) - 1) 3 rfl) (by have:=HJ1.out;omega) (by simp) (by have:=HFH.out.bw;simp;omega) ?_;intro v4 wf hown4 hgrow4 hnear4)
       go_roundw
       case rel =>
        refine ⟨q+1,.slice b5 nl c5,.slice b6 al c6,by rw [← HLL.out];omega,by go_num,?_,?_⟩
        ·
         rw [HJX2.out];exact FAt.setT (HFH.out.below (a0i (Below.refl _ _)):FAt (World.alloc wh _) P (P+1) _ _ _ _ _ _) hgrow4 hown4 hnear4
        ·
         exact a3m (HBH.out.alloc (by omega) _) (HFH.out.ot.alloc _) (by omega) (by simp;omega) hgrow4
       case measure => simp [intOf];omega
      ·
       obtain rfl:k=q:=by omega
       have hfa:FAt wr P (P+1) (a0u l).N (a0u l).A (a0u l).T u1 v1 u8:=by have h:=HFQ.out;rw [HLL.out,List.take_length] at h;exact h
       have hjl:(a0u l).A.length+(a0u l).T.length≤(a0u l).N.length∧(a0u l).N.length≤0+300 * l.length∧(a0u l).T.length=0+l.length:=b4h l Jn.nil (Nat.le_refl _) HAL.out;have hft:∀ n ∈ (a0u l).N,Fits n:=c5v l Jn.nil (fun n h => by cases h) (fun g hg => (HSM.out g hg).1);have hmd:=HMD.out;obtain ⟨J,hJ⟩:∃ z,z=a0u l:=⟨_,rfl⟩;rw [← hJ] at hfa hjl hft hmd;rw [← HLL.out] at hjl
       have hj0:k=0→J.A=[]:=fun h0 => by
        have hl0:l=[]:=List.eq_nil_of_length_eq_zero (by rw [← HLL.out];exact h0);rw [hJ,hl0];rfl
       clear hJ;obtain ⟨JN,JA,JT⟩:=J;dsimp only at hfa hjl hft hj0;have HJ0:=zh hj0;clear hj0;obtain ⟨m,hm⟩:∃ m:Nd,m={ nd0 9 0 nb with a:=(JA.length:Int),b:=(k:Int) }:=⟨_,rfl⟩
       have HMD2:Hid (a3a (nd0 9 0 nb) l=d2r (JN ++ [m]) (JA ++ JT)):=zh (by
        rw [hmd]
        have e1:a5k (nd0 9 0 nb) ⟨JN,JA,JT⟩=m:=by
         unfold a5k;rw [if_neg (show ¬ (9:Int)=7 by omega),if_neg (show ¬ (9:Int)=8 by omega),hm];have:JT.length=k:=by omega
         rw [this]
        have e2:a5g (nd0 9 0 nb) ⟨JN,JA,JT⟩=JT:=by unfold a5g;exact if_pos rfl
        rw [e1,e2])
       have HMM:=zh hm;have HMF:Hid (Fits m):=zh (by rw [hm];exact c9g 9 0 nb hss);clear hmd hm;obtain ⟨jn,hjn⟩:∃ z,z=JN.length:=⟨_,rfl⟩;obtain ⟨na,hna⟩:∃ z,z=JA.length:=⟨_,rfl⟩;obtain ⟨tl,htl⟩:∃ z,z=JT.length:=⟨_,rfl⟩;have hou:=hfa.ou;have hov:=hfa.ov;have hot:=hfa.ot;rw [← hjn] at hou;rw [← hna] at hov;rw [← htl] at hot;obtain ⟨bu,cu,rfl⟩:=a0l hou;obtain ⟨bv,cv,rfl⟩:=a0l hov;obtain ⟨bt,ct',rfl⟩:=a0l hot;have HJN:=zh hjn;have HNA:=zh hna;have HTL:=zh htl;have HJL:Hid (JN.length≤6000∧JA.length≤6000∧JT.length≤6000∧JA.length+JT.length≤JN.length):=zh (by omega);have hnab:(na:Int)≤6000:=by omega
       have HFJ:=zh hfa;have HJF:=zh hft;clear hou hov hot hjn hna htl hfa hjl hft HFQ HFA HMD HGE HCS HSM;obtain ⟨q0,q1,q2,q3⟩:=HR2.out _ HW2.out
       go_upto_region 18 with (refine a0c rfl _ _ rfl rfl _ _ _ rfl rfl rfl (by rfl) (by rfl) (by rfl) ?_)
       obtain ⟨s4,hws⟩:∃ s,s=(wr.alloc (.cells #[.int .i64 9,.int .i64 0,.int .i64 0,.int .i64 (k:Int),.bool false,.string ⟨#[]⟩,.string ⟨#[]⟩,.string nb,.bool false,.string ⟨#[]⟩,.int .i64 0,.int .i64 0,.bool false,.bool false,.string ⟨#[]⟩,.int .i64 0,.int .i64 0,.bool false,.bool false] 30)):=⟨_,rfl⟩;have hBs:=bs1 hBo hws;obtain ⟨X,hdX⟩:∃ b,b=wr.heap.size:=⟨_,rfl⟩;have hUp:Below wr.heap.size wr s4:=by rw [hws];exact (a0i (Below.refl _ _))
       have hAX:wr.heap.size≤X:=by omega
       have hsz:s4.heap.size=wr.heap.size+1:=by rw [hws];simp
       have yX:=by0 (b:=X) hws hdX;have hM:=bf0 (b:=X) hws hdX;have kX2:s4.cell? ⟨X,2,none⟩=some (.int .i64 0):=yX 2;have fX2:=hM 2;clear hM;have zX:X < s4.heap.size:=by omega
       have lX:w.heap.size≤X:=by have:=hBo.size;omega
       have LX:=eqL (P:=Tryz.prog) HK19 rfl yX;rw [← hws];try rw [← hdX]
       clear hBo;clear hws hsz hdX;have hBo:=hBs;clear hBs;obtain ⟨we,hwe⟩:∃ z,z=s4:=⟨_,rfl⟩;subst hwe;have HND:Hid (NdAt we X { nd0 9 0 nb with b:=(k:Int) }):=zh (fun j u hu => (yX j).trans hu);have HFX:=zh (HFJ.out.below hUp);have HBX:Hid (Below P t1 we):=zh (HW2.out.trans (hUp.mono (Nat.le_of_lt HFJ.out.pz)));have HXA:=zh hAX;have HPX:Hid (P < X):=zh (by have:=HFJ.out.pz;omega);have x2:we.cell? ⟨X,2,none⟩=some (.int .i64 0):=kX2;have xf2:we.frozen? ⟨X,2,none⟩=false:=fX2;have HXF:=zh xf2;have p1:=HFX.out.c1;have zPx:=HFX.out.pz;have hPX:=HPX.out;clear hUp hAX hBo yX kX2 fX2 LX q0 q1 q2 q3
       rcases Nat.eq_zero_or_pos k with h0 | h0
       case' inl =>
        have hk0 : ¬ (0:Int) < (k:Int):=by omega
        have HNX:Hid (NdAt we X m):=zh (by
         have e1:m={ nd0 9 0 nb with b:=(k:Int) }:=by rw [HMM.out,HJ0.out h0];rfl
         rw [e1];exact HND.out)
        go_upto_region 20 with (fail)
        obtain ⟨ws,hws⟩:∃ z,z=we:=⟨_,rfl⟩;have HFW:Hid (FAt ws P (P+1) JN JA JT (.slice bu jn cu) (.slice bv na cv) (.slice bt tl ct')):=zh (by rw [hws];exact HFX.out);have HBW:Hid (Below P t1 ws):=zh (by rw [hws];exact HBX.out);rw [← hws] at HNX ⊢;clear hk0 h0 hws
       case' inr =>
        have hk0:(0:Int) < (k:Int):=by omega
        go_upto_region 20 with (fail)
        obtain ⟨ws,hws⟩:∃ z,z=we.setCell ⟨X,2,none⟩ (.int .i64 (na:Int)):=⟨_,rfl⟩
        have HNX:Hid (NdAt ws X m):=zh (by
         have e1:m={ { nd0 9 0 nb with b:=(k:Int) } with a:=(na:Int) }:=by rw [HMM.out,HNA.out]
         rw [e1,hws];exact HND.out.set2 HXF.out _)
        have HFW:Hid (FAt ws P (P+1) JN JA JT (.slice bu jn cu) (.slice bv na cv) (.slice bt tl ct')):=zh (by rw [hws];exact FAt.setNew HFX.out HFJ.out HXA.out);have HBW:Hid (Below P t1 ws):=zh (by rw [hws];exact HBX.out.setCell (Nat.le_of_lt HPX.out) _);rw [← hws];clear hk0 h0 hws
       all_goals
        clear x2 xf2 p1 zPx HND HFX HBX HXF HJ0;have LX2:Sem.run Tryz.prog (loadCellsFrom ⟨X,0,none⟩ 0 K19 #[]) ws=.ok (ndL m).toArray ws:=HNX.out.load HK19;obtain ⟨jt,hjt⟩:∃ z,z=(JN ++ [m]).length:=⟨_,rfl⟩;obtain ⟨kt,hkt⟩:∃ z,z=(JA ++ JT).length:=⟨_,rfl⟩;have HJT:=zh hjt.symm;have HKT:=zh hkt
        have HLEN:Hid (jt≤6001∧kt+1≤jt):=zh (by
         have:=HJL.out;rw [hjt,hkt,List.length_append,List.length_append,List.length_singleton]
         omega)
        clear hjt hkt;have p0:=HFW.out.c0;have pf0:=HFW.out.f0;have zPw:=HFW.out.pz;have HPU:Hid (∀ y,(Value.slice bu jn cu).ownBlock=some y→P≠y):=fun y hy e => by have h1:=(HFW.out.ou.lt y hy).1;omega
        go_upto_region 21 with (first | (refine a1j rfl _ rfl m (by first | rfl | (show _=Value.agg _;rfl)) ?_) | (at_builtin;refine a1k rfl _ _ rfl (base:=P+1) (v:=.slice bu jn cu) (N:=JN) (M:=[m]) (by rfl) (HFW.out.ou.alloc _) (by rfl) (a4u ws m _) (by have:=HJL.out;omega) (by simp) (by have:=HFW.out.bw;simp;omega) ?_;intro v5 w5 hown5 hgrow5 hnear5;rw [HJT.out] at hown5;obtain ⟨b5,c5,rfl⟩:=a0l hown5;have pfd:=a0m hgrow5 (alZ zPw) (alF zPw pf0) HPU.out;have pcd:=a0a hgrow5 (a0b (W:=ws) p0) HPU.out))
        have HF5:Hid (FAt (w5.setCell ⟨P,0,none⟩ (.slice b5 jt c5)) P (P+1) (JN ++ [m]) JA JT (.slice b5 jt c5) (.slice bv na cv) (.slice bt tl ct')):=zh (FAt.setN (HFW.out.below (a0i (Below.refl _ _)):FAt (World.alloc ws _) P (P+1) _ _ _ _ _ _) hgrow5 (by rw [HJT.out];exact hown5) hnear5);have HB5:Hid (Below P t1 (w5.setCell ⟨P,0,none⟩ (.slice b5 jt c5))):=zh ((a3m (HBW.out.alloc (by omega) _) (HFW.out.ou.alloc _) (by omega) (by simp;omega) hgrow5).setCell (Nat.le_refl P) _);obtain ⟨w6,hw6⟩:∃ z,z=w5.setCell ⟨P,0,none⟩ (.slice b5 jt c5):=⟨_,rfl⟩;rw [← hw6] at HF5 HB5 ⊢;clear hw6 hown5 hgrow5 hnear5 pfd pcd p0 pf0 zPw HPU LX2 HNX HFW HBW;have p1:=HF5.out.c1;have pf1:=HF5.out.f1;have pz:=HF5.out.pz;have HPU:Hid (∀ y,(Value.slice bv na cv).ownBlock=some y→P≠y):=fun y hy e => by have h1:=(HF5.out.ov.lt y hy).1;omega
        go_upto_region 22 with (at_builtin;refine a1s rfl _ _ rfl (base:=P+1) (v:=.slice bv na cv) (A:=JA) (B:=JT) (by rfl) HF5.out.ov (by rfl) HF5.out.tops (by have:=HJL.out;omega) (by have:=HJL.out;omega) HF5.out.bw ?_;intro v9 wd hown9 hgrow9 hnear9;rw [← HKT.out] at hown9;obtain ⟨b9,c9,rfl⟩:=a0l hown9;have pfd:=a0m hgrow9 pz pf1 HPU.out;have pcd:=a0a hgrow9 p1 HPU.out)
        obtain ⟨w7,hw7⟩:∃ z,z=wd.setCell ⟨P,1,none⟩ (.slice b9 kt c9):=⟨_,rfl⟩;have HF7:Hid (FAt w7 P (P+1) (JN ++ [m]) (JA ++ JT) JT (.slice b5 jt c5) (.slice b9 kt c9) (.slice bt tl ct')):=zh (by rw [hw7];exact FAt.setA HF5.out hgrow9 (by rw [← HKT.out];exact hown9) hnear9);have HB7:Hid (Below P t1 w7):=zh (by rw [hw7];exact (a3m HB5.out HF5.out.ov (by omega) (by omega) hgrow9).setCell (Nat.le_refl P) _);rw [← hw7];clear hw7 hown9 hgrow9 hnear9 pfd pcd p1 pf1 pz HPU HF5 HB5
        have HFL:Hid (∀ x ∈ JN ++ [m],Fits x):=fun x hx => by
         rcases List.mem_append.1 hx with h | h
         ·
          exact HJF.out x h
         ·
          rw [List.mem_singleton.1 h];exact HMF.out
        have HDN:=zh (d2f (.slice b5 jt c5) (.slice b9 kt c9) (JN ++ [m]) (JA ++ JT) w7 HF7.out.nodes HF7.out.args HFL.out (fun h => by have:=HLEN.out;rw [HJT.out] at h;rw [← HKT.out];omega) (by have:=HLEN.out;rw [HJT.out];omega));obtain ⟨E,hE⟩:∃ z,z=b2b (JN ++ [m]) (JA ++ JT):=⟨_,rfl⟩;obtain ⟨cb,cl,cc,hpu⟩:∃ a b c,Value.slice a b c=d2h E (.slice b5 jt c5):=d1u _ _ _ _;obtain ⟨db,dl,dc,hpv⟩:∃ a b c,Value.slice a b c=d2h E (.slice b9 kt c9):=d1u _ _ _ _;rw [← hE,← hpu,← hpv] at HDN;have HE:=zh hE;have HPU:=zh hpu;have HPV:=zh hpv;have q0:=HF7.out.c0;have q1:=HF7.out.c1;have qz:=HF7.out.pz;obtain ⟨r0,r1,r2,r3⟩:=HR2.out _ HB7.out;have HZ7:=zh (HZ2.out _ HB7.out);have zR0:=a0j r0;clear hE hpu hpv;go_wp2_with fail;refine HDN.out.mono ?_;rintro e w8 ⟨rfl,hb8⟩;have HB8:=zh hb8;have HF8:=zh (HF7.out.below hb8);have kR0:=a0f hb8 r0 zR0;have kR1:=a0f hb8 r1 zR0;have fR0:=a0g hb8 r2 zR0;have fR1:=a0g hb8 r3 zR0;have zR:R < w8.heap.size:=Nat.lt_of_lt_of_le zR0 hb8.size;clear hb8 r0 r1 r2 r3 zR0 q0 q1 qz;go_wp2_with fail;refine bodyPost_ret (v:=.tuple #[.agg #[.slice cb cl cc,.slice db dl dc],.int .i64 E]) (by simp [results,Tryz.results10,go_sem,kR0,kR1,fR0,fR1,zR]) rfl ?_;rw [HPO.out,HMD2.out,HPU.out,HPV.out,HE.out];have hRP:=HRP.out;exact d2m (d1t (d1t HF8.out.nodes (fun g hg e => by have:=(HF8.out.ou.lt g hg).1;dsimp only at e;omega)) (fun g hg e => by have:=(HF8.out.ou.lt g hg).1;dsimp only at e;omega)) (d1v (d1v HF8.out.args (fun g hg e => by have:=(HF8.out.ov.lt g hg).1;dsimp only at e;omega)) (fun g hg e => by have:=(HF8.out.ov.lt g hg).1;dsimp only at e;omega)) (((HZ7.out.trans (HB8.out.mono HZ7.out.size)).setCell HLR.out _).setCell HLR.out _)
end Go.Proofs.YtjfkbeanbbeloaaGreatDoor
