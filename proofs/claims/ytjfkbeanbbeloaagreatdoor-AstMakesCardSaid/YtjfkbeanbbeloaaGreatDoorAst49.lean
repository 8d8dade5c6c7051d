/-
  
  
-/
import Derived.Test.YtjfkbeanbbeloaaGreatDoorAst47
set_option maxHeartbeats 8000000
set_option maxRecDepth 100000
namespace Go.Proofs.YtjfkbeanbbeloaaGreatDoor
open Go.RowKit Go.Shelf
set_option linter.unusedSimpArgs false
set_option linter.unusedVariables false
abbrev nd0 (k o:Int) (s:ByteArray):Nd:=⟨k,o,0,0,false,⟨#[]⟩,⟨#[]⟩,s,false,⟨⟨#[]⟩,0,0,false,false⟩,⟨⟨#[]⟩,0,0,false,false⟩⟩
theorem c9g (k o:Int) (s:ByteArray) (h:s.size≤500):Fits (nd0 k o s):=⟨by show (ByteArray.mk #[]).size≤100;decide,by show (ByteArray.mk #[]).size≤100;decide,h,by show (ByteArray.mk #[]).size≤100;decide,by show (ByteArray.mk #[]).size≤100;decide⟩
def c3i (R:List Nd × List Int × Int) (w:World) (e:Ending) (w':World):Prop:=FormNew R.1 R.2.1 R.2.2 w e w'
theorem d3z (W:World) (u v:Value) (g:List Nd × List Int) (t:TypeId) (h1:NodesAt W u g.1) (h2:IntsAt W v g.2):FormsAt (W.alloc (.cells #[u,v] t)) (.slice (some ⟨W.heap.size,0,none⟩) 1 1) [g]:=by
 refine Or.inr ⟨_,0,1,rfl,Nat.le_refl _,by unfold maxLen;omega,fun k f hk => ?_⟩
 match k,hk with
 | 0,hk =>
  obtain rfl:g=f:=Option.some.inj hk;exact ⟨u,v,by simp [go_sem],by simp [go_sem],h1.below (a0i (Below.refl _ _)),h2.below (a0i (Below.refl _ _))⟩
theorem c0j (W:World) (u v u2 v2:Value) (g h:List Nd × List Int) (t:TypeId) (h1:NodesAt W u g.1) (h2:IntsAt W v g.2) (h3:NodesAt W u2 h.1) (h4:IntsAt W v2 h.2):FormsAt (W.alloc (.cells #[u,v,u2,v2] t)) (.slice (some ⟨W.heap.size,0,none⟩) 2 2) [g,h]:=by
 refine Or.inr ⟨_,0,2,rfl,Nat.le_refl _,by unfold maxLen;omega,fun k f hk => ?_⟩
 match k,hk with
 | 0,hk =>
  obtain rfl:g=f:=Option.some.inj hk;exact ⟨u,v,by simp [go_sem],by simp [go_sem],h1.below (a0i (Below.refl _ _)),h2.below (a0i (Below.refl _ _))⟩
 | 1,hk =>
  obtain rfl:h=f:=Option.some.inj hk;exact ⟨u2,v2,by simp [go_sem],by simp [go_sem],h3.below (a0i (Below.refl _ _)),h4.below (a0i (Below.refl _ _))⟩
theorem c0k {g h:List Nd × List Int} (hg:(∀ n ∈ g.1,Fits n)∧g.1.length≤1000∧g.2.length≤1000) (hh:(∀ n ∈ h.1,Fits n)∧h.1.length≤1000∧h.2.length≤1000):Small [g,h]:=fun x hx => by
 rcases List.mem_cons.1 hx with rfl | hx
 ·
  exact hg
 ·
  rw [List.mem_singleton.1 hx];exact hh
theorem d4a {g:List Nd × List Int} (hg:(∀ n ∈ g.1,Fits n)∧g.1.length≤1000∧g.2.length≤1000):Small [g]:=fun x hx => by rw [List.mem_singleton.1 hx];exact hg
theorem c3j (op:Int) (u v u2 v2:Value) (N M:List Nd) (A B:List Int) (w:World) (hN:NodesAt w u N) (hA:IntsAt w v A) (hM:NodesAt w u2 M) (hB:IntsAt w v2 B) (hf:∀ n ∈ N,Fits n) (hf2:∀ n ∈ M,Fits n) (l1:N.length≤1000) (l2:A.length≤1000) (l3:M.length≤1000) (l4:B.length≤1000) (hnm:NamesAt w) :
  Calls Tryz.prog 7 #[.int .i64 op,.agg #[u,v],.agg #[u2,v2]] w (c3i (a3a (nd0 8 op ⟨#[]⟩) [(N,A),(M,B)]) w):=by
 have hud:undef=Value.tuple #[]:=rfl;obtain ⟨Po,hPo⟩:∃ Po,Po=c3i (a3a (nd0 8 op ⟨#[]⟩) [(N,A),(M,B)]) w:=⟨_,rfl⟩;rw [← hPo];have HPO:=zh hPo;have HJ:Hid (∀ v W,FormsAt W v [(N,A),(M,B)]→NamesAt W→Calls Tryz.prog 19 #[.agg #[.int .i64 8,.int .i64 op,.int .i64 0,.int .i64 0,.bool false,.string ⟨#[]⟩,.string ⟨#[]⟩,.string ⟨#[]⟩,.bool false,.string ⟨#[]⟩,.int .i64 0,.int .i64 0,.bool false,.bool false,.string ⟨#[]⟩,.int .i64 0,.int .i64 0,.bool false,.bool false],v] W (c3i (a3a (nd0 8 op ⟨#[]⟩) [(N,A),(M,B)]) W)):=fun v W h1 h2 => b7d (nd0 8 op ⟨#[]⟩) v [(N,A),(M,B)] W h1 (c0k ⟨hf,l1,l2⟩ ⟨hf2,l3,l4⟩) (c9g _ _ _ (by decide)) h2 (by simp) (Or.inr (Or.inl ⟨rfl,rfl⟩))
 have HNM:=zh hnm;have HN:=zh (fun W (hW:Below w.heap.size w W) => (⟨hN.below hW,hA.below hW,hM.below hW,hB.below hW⟩:NodesAt W u N∧IntsAt W v A∧NodesAt W u2 M∧IntsAt W v2 B));obtain ⟨⟨RN,RA,RE⟩,hR⟩:∃ R,R=a3a (nd0 8 op ⟨#[]⟩) [(N,A),(M,B)]:=⟨_,rfl⟩;rw [← hR] at HJ HPO;clear hPo hN hA hM hB hf hf2 hnm hR l1 l2 l3 l4;go_enter Tryz.func7,Tryz.ntmps7
 go_upto_region 1 with (fail)
 obtain ⟨s1,hws⟩:∃ s,s=(((w.alloc (.cells #[u,v] 36)).alloc (.cells #[u2,v2] 36)).alloc (.cells #[.slice none 0 0,.slice none 0 0] 36)):=⟨_,rfl⟩;have hBs:=bs3 (Below.refl w.heap.size w) hws;obtain ⟨F,hdF⟩:∃ b,b=w.heap.size:=⟨_,rfl⟩;obtain ⟨H,hdH⟩:∃ b,b=w.heap.size+1:=⟨_,rfl⟩;obtain ⟨C,hdC⟩:∃ b,b=w.heap.size+1+1:=⟨_,rfl⟩;have hsz:s1.heap.size=w.heap.size+1+1+1:=by rw [hws];simp
 have dCF:C≠F:=by omega
 have dCH:C≠H:=by omega
 have hN:=bx2 (b:=F) hws hdF;have kF0:=hN 0 _ rfl;have kF1:=hN 1 _ rfl;clear hN;have zF:F < s1.heap.size:=by omega
 have lF:w.heap.size≤F:=by omega
 have hN:=bx1 (b:=H) hws (by simp [hdH]);have kH0:=hN 0 _ rfl;have kH1:=hN 1 _ rfl;clear hN;have zH:H < s1.heap.size:=by omega
 have lH:w.heap.size≤H:=by omega
 have hN:=bx0 (b:=C) hws (by simp [hdC]);have hM:=bf0 (b:=C) hws (by simp [hdC]);have kC0:=hN 0 _ rfl;have kC1:=hN 1 _ rfl;have fC0:=hM 0;have fC1:=hM 1;clear hN hM;have zC:C < s1.heap.size:=by omega
 have lC:w.heap.size≤C:=by omega
 rw [← hws];try rw [← hdC]
 try rw [← hdH]
 try rw [← hdF]
 clear hws hsz hdF hdH hdC;have hBo:=hBs;clear hBs;obtain ⟨x1,x2,x3,x4⟩:=HN.out _ hBo;have HFS:=zh (c0j s1 u v u2 v2 (N,A) (M,B) 36 x1 x2 x3 x4);clear x1 x2 x3 x4;have HNA:Hid (∀ o,NamesAt (World.alloc s1 o)):=fun o => HNM.out.below (a0i hBo)
 go_wp2_with fail;refine (HJ.out _ _ HFS.out (HNA.out _)).mono ?_;rintro e w5 ⟨⟨us,vs,rfl,hn5,ha5⟩,hb⟩;dsimp only at hn5 ha5;obtain ⟨rl,hrl⟩:∃ z,z=RN.length:=⟨_,rfl⟩;obtain ⟨al,hal⟩:∃ z,z=RA.length:=⟨_,rfl⟩;rw [← hrl] at hn5;rw [← hal] at ha5;have HRL:=zh hrl;have HAL:=zh hal;clear hrl hal;obtain ⟨b5,c5,rfl⟩:=a0l hn5;obtain ⟨b6,c6,rfl⟩:=a0l ha5;have hb2:Below s1.heap.size s1 w5:=(a0i (Below.refl _ _)).trans (hb.mono (by simp));have hz2:C < s1.heap.size:=zC;have HN5:=zh hn5;have HA5:=zh ha5;have HZ2:=zh (show C < (World.alloc s1 (.cells #[u,v,u2,v2] 36)).heap.size by simp;omega);have HLB:Hid (w.heap.size≤(World.alloc s1 (.cells #[u,v,u2,v2] 36)).heap.size):=zh (by have:=hBo.size;simp;omega);clear hb hn5 ha5 hz2;have hb:=hb2;clear hb2;replace kF0:=a0f hb kF0 zF;replace kF1:=a0f hb kF1 zF;replace zF:=zHl hb zF;replace kH0:=a0f hb kH0 zH;replace kH1:=a0f hb kH1 zH;replace zH:=zHl hb zH;replace kC0:=a0f hb kC0 zC;replace kC1:=a0f hb kC1 zC;replace fC0:=a0g hb fC0 zC;replace fC1:=a0g hb fC1 zC;replace zC:=zHl hb zC;replace hBo:=hBo.trans (hb.mono hBo.size);clear hb;go_wp2_with fail;refine bodyPost_ret (v:=.tuple #[.agg #[.slice b5 rl c5,.slice b6 al c6],.int .i64 RE]) (by simp [results,Tryz.results7,go_sem,kC0,kC1,fC0,fC1,zC]) rfl ?_;rw [HPO.out];have hst:∀ {base size n:Nat} {t:TypeId} {x:Value} {xs:List Value},C < base→w5.ownsRow base t size x n xs→((w5.setCell ⟨C,0,none⟩ (.slice b5 rl c5)).setCell ⟨C,1,none⟩ (.slice b6 al c6)).ownsRow base t size x n xs:=fun h0 h => ownsRow_setCell_below (ownsRow_setCell_below h h0 _) h0 _
 exact ⟨⟨_,_,rfl,by dsimp only;rw [← HRL.out];exact a2f (hst HZ2.out HN5.out) HLB.out,by dsimp only;rw [← HAL.out];exact a2f (hst HZ2.out HA5.out) HLB.out⟩,(hBo.setCell lC _).setCell lC _⟩
theorem d4p (op:Int) (u v:Value) (N:List Nd) (A:List Int) (w:World) (hN:NodesAt w u N) (hA:IntsAt w v A) (hf:∀ n ∈ N,Fits n) (l1:N.length≤1000) (l2:A.length≤1000) (hnm:NamesAt w) :
  Calls Tryz.prog 5 #[.int .i64 op,.agg #[u,v]] w (c3i (a3a (nd0 7 op ⟨#[]⟩) [(N,A)]) w):=by
 have hud:undef=Value.tuple #[]:=rfl;obtain ⟨Po,hPo⟩:∃ Po,Po=c3i (a3a (nd0 7 op ⟨#[]⟩) [(N,A)]) w:=⟨_,rfl⟩;rw [← hPo];have HPO:=zh hPo;have HJ:Hid (∀ v W,FormsAt W v [(N,A)]→NamesAt W→Calls Tryz.prog 19 #[.agg #[.int .i64 7,.int .i64 op,.int .i64 0,.int .i64 0,.bool false,.string ⟨#[]⟩,.string ⟨#[]⟩,.string ⟨#[]⟩,.bool false,.string ⟨#[]⟩,.int .i64 0,.int .i64 0,.bool false,.bool false,.string ⟨#[]⟩,.int .i64 0,.int .i64 0,.bool false,.bool false],v] W (c3i (a3a (nd0 7 op ⟨#[]⟩) [(N,A)]) W)):=fun v W h1 h2 => b7d (nd0 7 op ⟨#[]⟩) v [(N,A)] W h1 (d4a ⟨hf,l1,l2⟩) (c9g _ _ _ (by decide)) h2 (by simp) (Or.inl ⟨rfl,rfl⟩)
 have HNM:=zh hnm;have HN:=zh (fun W (hW:Below w.heap.size w W) => (⟨hN.below hW,hA.below hW⟩:NodesAt W u N∧IntsAt W v A));obtain ⟨⟨RN,RA,RE⟩,hR⟩:∃ R,R=a3a (nd0 7 op ⟨#[]⟩) [(N,A)]:=⟨_,rfl⟩;rw [← hR] at HJ HPO;clear hPo hN hA hf hnm hR l1 l2;go_enter Tryz.func5,Tryz.ntmps5
 go_upto_region 1 with (fail)
 obtain ⟨s2,hws⟩:∃ s,s=((w.alloc (.cells #[u,v] 36)).alloc (.cells #[.slice none 0 0,.slice none 0 0] 36)):=⟨_,rfl⟩;have hBs:=bs2 (Below.refl w.heap.size w) hws;obtain ⟨F,hdF⟩:∃ b,b=w.heap.size:=⟨_,rfl⟩;obtain ⟨C,hdC⟩:∃ b,b=w.heap.size+1:=⟨_,rfl⟩;have hsz:s2.heap.size=w.heap.size+1+1:=by rw [hws];simp
 have dCF:C≠F:=by omega
 have hN:=bx1 (b:=F) hws hdF;have kF0:=hN 0 _ rfl;have kF1:=hN 1 _ rfl;clear hN;have zF:F < s2.heap.size:=by omega
 have lF:w.heap.size≤F:=by omega
 have hN:=bx0 (b:=C) hws (by simp [hdC]);have hM:=bf0 (b:=C) hws (by simp [hdC]);have kC0:=hN 0 _ rfl;have kC1:=hN 1 _ rfl;have fC0:=hM 0;have fC1:=hM 1;clear hN hM;have zC:C < s2.heap.size:=by omega
 have lC:w.heap.size≤C:=by omega
 rw [← hws];try rw [← hdC]
 try rw [← hdF]
 clear hws hsz hdF hdC;have hBo:=hBs;clear hBs;obtain ⟨x1,x2⟩:=HN.out _ hBo;have HFS:=zh (d3z s2 u v (N,A) 36 x1 x2);clear x1 x2;have HNA:Hid (∀ o,NamesAt (World.alloc s2 o)):=fun o => HNM.out.below (a0i hBo)
 go_wp2_with fail;refine (HJ.out _ _ HFS.out (HNA.out _)).mono ?_;rintro e w5 ⟨⟨us,vs,rfl,hn5,ha5⟩,hb⟩;dsimp only at hn5 ha5;obtain ⟨rl,hrl⟩:∃ z,z=RN.length:=⟨_,rfl⟩;obtain ⟨al,hal⟩:∃ z,z=RA.length:=⟨_,rfl⟩;rw [← hrl] at hn5;rw [← hal] at ha5;have HRL:=zh hrl;have HAL:=zh hal;clear hrl hal;obtain ⟨b5,c5,rfl⟩:=a0l hn5;obtain ⟨b6,c6,rfl⟩:=a0l ha5;have hb2:Below s2.heap.size s2 w5:=(a0i (Below.refl _ _)).trans (hb.mono (by simp));have hz2:C < s2.heap.size:=zC;have HN5:=zh hn5;have HA5:=zh ha5;have HZ2:=zh (show C < (World.alloc s2 (.cells #[u,v] 36)).heap.size by simp;omega);have HLB:Hid (w.heap.size≤(World.alloc s2 (.cells #[u,v] 36)).heap.size):=zh (by have:=hBo.size;simp;omega);clear hb hn5 ha5 hz2;have hb:=hb2;clear hb2;replace kF0:=a0f hb kF0 zF;replace kF1:=a0f hb kF1 zF;replace zF:=zHl hb zF;replace kC0:=a0f hb kC0 zC;replace kC1:=a0f hb kC1 zC;replace fC0:=a0g hb fC0 zC;replace fC1:=a0g hb fC1 zC;replace zC:=zHl hb zC;replace hBo:=hBo.trans (hb.mono hBo.size);clear hb;go_wp2_with fail;refine bodyPost_ret (v:=.tuple #[.agg #[.slice b5 rl c5,.slice b6 al c6],.int .i64 RE]) (by simp [results,Tryz.results5,go_sem,kC0,kC1,fC0,fC1,zC]) rfl ?_;rw [HPO.out];have hst:∀ {base size n:Nat} {t:TypeId} {x:Value} {xs:List Value},C < base→w5.ownsRow base t size x n xs→((w5.setCell ⟨C,0,none⟩ (.slice b5 rl c5)).setCell ⟨C,1,none⟩ (.slice b6 al c6)).ownsRow base t size x n xs:=fun h0 h => ownsRow_setCell_below (ownsRow_setCell_below h h0 _) h0 _
 exact ⟨⟨_,_,rfl,by dsimp only;rw [← HRL.out];exact a2f (hst HZ2.out HN5.out) HLB.out,by dsimp only;rw [← HAL.out];exact a2f (hst HZ2.out HA5.out) HLB.out⟩,(hBo.setCell lC _).setCell lC _⟩
theorem d0v (s:ByteArray) (v:Value) (l:List (List Nd × List Int)) (w:World) (hv:FormsAt w v l) (hs:Small l) (hss:s.size≤500) (hl:l.length≤1000) (hnm:NamesAt w) :
  Calls Tryz.prog 9 #[.string s,v] w (c3i (a3a (nd0 9 0 s) l) w):=by
 have hud:undef=Value.tuple #[]:=rfl;obtain ⟨Po,hPo⟩:∃ Po,Po=c3i (a3a (nd0 9 0 s) l) w:=⟨_,rfl⟩;rw [← hPo];have HPO:=zh hPo;have HJ:Hid (∀ W,FormsAt W v l→NamesAt W→Calls Tryz.prog 19 #[.agg #[.int .i64 9,.int .i64 0,.int .i64 0,.int .i64 0,.bool false,.string ⟨#[]⟩,.string ⟨#[]⟩,.string s,.bool false,.string ⟨#[]⟩,.int .i64 0,.int .i64 0,.bool false,.bool false,.string ⟨#[]⟩,.int .i64 0,.int .i64 0,.bool false,.bool false],v] W (c3i (a3a (nd0 9 0 s) l) W)):=fun W h1 h2 => b7d (nd0 9 0 s) v l W h1 hs (c9g _ _ _ hss) h2 hl (Or.inr (Or.inr rfl))
 have HNM:=zh hnm;have HV:=zh hv;obtain ⟨⟨RN,RA,RE⟩,hR⟩:∃ R,R=a3a (nd0 9 0 s) l:=⟨_,rfl⟩;rw [← hR] at HJ HPO;obtain ⟨bl,cl,rfl,_⟩:=hv.slice;clear hPo hv hs hnm hR hss hl;generalize l.length=L at *;go_enter Tryz.func9,Tryz.ntmps9
 go_upto_region 1 with (fail)
 obtain ⟨s3,hws⟩:∃ s,s=(w.alloc (.cells #[.slice none 0 0,.slice none 0 0] 36)):=⟨_,rfl⟩;have hBs:=bs1 (Below.refl w.heap.size w) hws;obtain ⟨C,hdC⟩:∃ b,b=w.heap.size:=⟨_,rfl⟩;have hsz:s3.heap.size=w.heap.size+1:=by rw [hws];simp
 have hN:=bx0 (b:=C) hws hdC;have hM:=bf0 (b:=C) hws hdC;have kC0:=hN 0 _ rfl;have kC1:=hN 1 _ rfl;have fC0:=hM 0;have fC1:=hM 1;clear hN hM;have zC:C < s3.heap.size:=by omega
 have lC:w.heap.size≤C:=by omega
 rw [← hws];try rw [← hdC]
 clear hws hsz hdC;have hBo:=hBs;clear hBs;go_wp2_with fail;refine (HJ.out _ (HV.out.below hBo) (HNM.out.below hBo)).mono ?_;rintro e w5 ⟨⟨us,vs,rfl,hn5,ha5⟩,hb⟩;dsimp only at hn5 ha5;obtain ⟨rl,hrl⟩:∃ z,z=RN.length:=⟨_,rfl⟩;obtain ⟨al,hal⟩:∃ z,z=RA.length:=⟨_,rfl⟩;rw [← hrl] at hn5;rw [← hal] at ha5;have HRL:=zh hrl;have HAL:=zh hal;clear hrl hal;obtain ⟨b5,c5,rfl⟩:=a0l hn5;obtain ⟨b6,c6,rfl⟩:=a0l ha5;have HN5:=zh hn5;have HA5:=zh ha5;have HZ2:=zh zC;have HLB:=zh hBo.size;clear hn5 ha5;replace kC0:=a0f hb kC0 zC;replace kC1:=a0f hb kC1 zC;replace fC0:=a0g hb fC0 zC;replace fC1:=a0g hb fC1 zC;replace zC:=zHl hb zC;replace hBo:=hBo.trans (hb.mono hBo.size);clear hb;go_wp2_with fail;refine bodyPost_ret (v:=.tuple #[.agg #[.slice b5 rl c5,.slice b6 al c6],.int .i64 RE]) (by simp [results,Tryz.results9,go_sem,kC0,kC1,fC0,fC1,zC]) rfl ?_;rw [HPO.out];have hst:∀ {base size n:Nat} {t:TypeId} {x:Value} {xs:List Value},C < base→w5.ownsRow base t size x n xs→((w5.setCell ⟨C,0,none⟩ (.slice b5 rl c5)).setCell ⟨C,1,none⟩ (.slice b6 al c6)).ownsRow base t size x n xs:=fun h0 h => ownsRow_setCell_below (ownsRow_setCell_below h h0 _) h0 _
 exact ⟨⟨_,_,rfl,by dsimp only;rw [← HRL.out];exact a2f (hst HZ2.out HN5.out) HLB.out,by dsimp only;rw [← HAL.out];exact a2f (hst HZ2.out HA5.out) HLB.out⟩,(hBo.setCell lC _).setCell lC _⟩
theorem b2d (n:Nd) (w:World) (hf:Fits n) :
  Calls Tryz.prog 14 #[ndV n] w (if a3b n then FormNew [n] [] 0 w else FormNew [] [] 3 w):=by
 have hud:undef=Value.tuple #[]:=rfl;obtain ⟨K19,hz19,HK19⟩:=a0q;have hm:=fun w => b8t n w hf
 have hlc:a3b n=(decide (n.k≤6) && a1x n):=by unfold a3b a1x;rw [Bool.and_assoc]
 rw [hlc];clear hlc hf;by_cases hk:n.k≤6
 ·
  rw [decide_eq_true hk,Bool.true_and]
  cases hc:a1x n with
  | false =>
   rw [hc] at hm;have HM:=zh hm;rw [if_neg Bool.false_ne_true];obtain ⟨Po,hPo⟩:∃ Po,Po=FormNew [] [] 3 w:=⟨_,rfl⟩;rw [← hPo];have HPO:=zh hPo;clear hm hc hPo;go_enter Tryz.func14,Tryz.ntmps14
   go_upto_region 1 with (fail)
   obtain ⟨s1,hws⟩:∃ s,s=((w.alloc (.cells #[.int .i64 n.k,.int .i64 n.o,.int .i64 n.a,.int .i64 n.b,.bool n.qn,.string n.qa,.string n.qd,.string n.s,.bool n.tr,.string n.r.sh,.int .i64 n.r.c,.int .i64 n.r.r,.bool n.r.fc,.bool n.r.fr,.string n.t.sh,.int .i64 n.t.c,.int .i64 n.t.r,.bool n.t.fc,.bool n.t.fr] 30)).alloc (.cells #[.slice none 0 0,.slice none 0 0] 36)):=⟨_,rfl⟩;have hBs:=bs2 (Below.refl w.heap.size w) hws;obtain ⟨X,hdX⟩:∃ b,b=w.heap.size:=⟨_,rfl⟩;obtain ⟨C,hdC⟩:∃ b,b=w.heap.size+1:=⟨_,rfl⟩;have hsz:s1.heap.size=w.heap.size+1+1:=by rw [hws];simp
   have dCX:C≠X:=by omega
   have yX:=by1 (b:=X) hws hdX;have zX:X < s1.heap.size:=by omega
   have lX:w.heap.size≤X:=by omega
   have hN:=bx0 (b:=C) hws (by simp [hdC]);have hM:=bf0 (b:=C) hws (by simp [hdC]);have kC0:=hN 0 _ rfl;have kC1:=hN 1 _ rfl;have fC0:=hM 0;have fC1:=hM 1;clear hN hM;have zC:C < s1.heap.size:=by omega
   have lC:w.heap.size≤C:=by omega
   have LX:=eqL (P:=Tryz.prog) HK19 rfl yX;rw [← hws];try rw [← hdC]
   try rw [← hdX]
   clear hws hsz hdX hdC;have hBo:=hBs;clear hBs;go_wp2_with fail;refine (HM.out _).mono ?_;rintro e s2 ⟨rfl,hb⟩;replace yX:=eqB hb yX zX;replace zX:=zHl hb zX;replace kC0:=a0f hb kC0 zC;replace kC1:=a0f hb kC1 zC;replace fC0:=a0g hb fC0 zC;replace fC1:=a0g hb fC1 zC;replace zC:=zHl hb zC;replace hBo:=hBo.trans (hb.mono hBo.size);clear hb;replace LX:=eqL (P:=Tryz.prog) HK19 rfl yX;go_wp2_with fail;refine bodyPost_ret (v:=.tuple #[.agg #[.slice none 0 0,.slice none 0 0],.int .i64 3]) (by simp [results,Tryz.results14,go_sem,kC0,kC1,fC0,fC1,zC]) rfl ?_;rw [HPO.out];exact a1a ((hBo.setCell lC _).setCell lC _)
  | true =>
   rw [hc] at hm;have HM:=zh hm;rw [if_pos rfl];obtain ⟨Po,hPo⟩:∃ Po,Po=FormNew [n] [] 0 w:=⟨_,rfl⟩;rw [← hPo];have HPO:=zh hPo;clear hm hc hPo;go_enter Tryz.func14,Tryz.ntmps14
   go_upto_region 1 with (fail)
   obtain ⟨s3,hws⟩:∃ s,s=((w.alloc (.cells #[.int .i64 n.k,.int .i64 n.o,.int .i64 n.a,.int .i64 n.b,.bool n.qn,.string n.qa,.string n.qd,.string n.s,.bool n.tr,.string n.r.sh,.int .i64 n.r.c,.int .i64 n.r.r,.bool n.r.fc,.bool n.r.fr,.string n.t.sh,.int .i64 n.t.c,.int .i64 n.t.r,.bool n.t.fc,.bool n.t.fr] 30)).alloc (.cells #[.slice none 0 0,.slice none 0 0] 36)):=⟨_,rfl⟩;have hBs:=bs2 (Below.refl w.heap.size w) hws;obtain ⟨X,hdX⟩:∃ b,b=w.heap.size:=⟨_,rfl⟩;obtain ⟨C,hdC⟩:∃ b,b=w.heap.size+1:=⟨_,rfl⟩;have hsz:s3.heap.size=w.heap.size+1+1:=by rw [hws];simp
   have dCX:C≠X:=by omega
   have yX:=by1 (b:=X) hws hdX;have zX:X < s3.heap.size:=by omega
   have lX:w.heap.size≤X:=by omega
   have hN:=bx0 (b:=C) hws (by simp [hdC]);have hM:=bf0 (b:=C) hws (by simp [hdC]);have kC0:=hN 0 _ rfl;have kC1:=hN 1 _ rfl;have fC0:=hM 0;have fC1:=hM 1;clear hN hM;have zC:C < s3.heap.size:=by omega
   have lC:w.heap.size≤C:=by omega
   have LX:=eqL (P:=Tryz.prog) HK19 rfl yX;rw [← hws];try rw [← hdC]
   try rw [← hdX]
   clear hws hsz hdX hdC;have hBo:=hBs;clear hBs;go_wp2_with fail;refine (HM.out _).mono ?_;rintro e s4 ⟨rfl,hb⟩;replace yX:=eqB hb yX zX;replace zX:=zHl hb zX;replace kC0:=a0f hb kC0 zC;replace kC1:=a0f hb kC1 zC;replace fC0:=a0g hb fC0 zC;replace fC1:=a0g hb fC1 zC;replace zC:=zHl hb zC;replace hBo:=hBo.trans (hb.mono hBo.size);clear hb;replace LX:=eqL (P:=Tryz.prog) HK19 rfl yX;go_wp2_with (refine a1j rfl _ rfl n (by rfl) ?_);have hCne:C≠s4.heap.size:=by omega
   obtain ⟨H,hH⟩:∃ H,H=s4.heap.size:=⟨_,rfl⟩;refine bodyPost_ret (v:=.tuple #[.agg #[.slice (some ⟨s4.heap.size,0,none⟩) 1 1,.slice none 0 0],.int .i64 0]) (by simp [results,Tryz.results14,go_sem,kC0,kC1,fC0,fC1,zC]) rfl ?_;rw [HPO.out];have hrow:=World.ownsRow_lit (base:=w.heap.size) (e:=30) (size:=19) ((s4.setCell ⟨C,0,none⟩ (.slice (some ⟨s4.heap.size,0,none⟩) 1 1)).setCell ⟨C,1,none⟩ (.slice none 0 0)) (ndL n).toArray 1 (by have:=hBo.size;simp;omega) (by unfold maxLen;omega) rfl;exact ⟨⟨_,_,rfl,by simpa [nodeL] using hrow,World.ownsRow_nil _ _ _ _⟩,a0i ((hBo.setCell lC _).setCell lC _)⟩
 ·
  rw [decide_eq_false hk,Bool.false_and,if_neg Bool.false_ne_true];have hk':6 < n.k:=by omega
  obtain ⟨Po,hPo⟩:∃ Po,Po=FormNew [] [] 3 w:=⟨_,rfl⟩;rw [← hPo];have HPO:=zh hPo;clear hm hPo hk;go_enter Tryz.func14,Tryz.ntmps14
  go_upto_region 1 with (fail)
  obtain ⟨s5,hws⟩:∃ s,s=((w.alloc (.cells #[.int .i64 n.k,.int .i64 n.o,.int .i64 n.a,.int .i64 n.b,.bool n.qn,.string n.qa,.string n.qd,.string n.s,.bool n.tr,.string n.r.sh,.int .i64 n.r.c,.int .i64 n.r.r,.bool n.r.fc,.bool n.r.fr,.string n.t.sh,.int .i64 n.t.c,.int .i64 n.t.r,.bool n.t.fc,.bool n.t.fr] 30)).alloc (.cells #[.slice none 0 0,.slice none 0 0] 36)):=⟨_,rfl⟩;have hBs:=bs2 (Below.refl w.heap.size w) hws;obtain ⟨X,hdX⟩:∃ b,b=w.heap.size:=⟨_,rfl⟩;obtain ⟨C,hdC⟩:∃ b,b=w.heap.size+1:=⟨_,rfl⟩;have hsz:s5.heap.size=w.heap.size+1+1:=by rw [hws];simp
  have dCX:C≠X:=by omega
  have yX:=by1 (b:=X) hws hdX;have zX:X < s5.heap.size:=by omega
  have lX:w.heap.size≤X:=by omega
  have hN:=bx0 (b:=C) hws (by simp [hdC]);have hM:=bf0 (b:=C) hws (by simp [hdC]);have kC0:=hN 0 _ rfl;have kC1:=hN 1 _ rfl;have fC0:=hM 0;have fC1:=hM 1;clear hN hM;have zC:C < s5.heap.size:=by omega
  have lC:w.heap.size≤C:=by omega
  have LX:=eqL (P:=Tryz.prog) HK19 rfl yX;rw [← hws];try rw [← hdC]
  try rw [← hdX]
  clear hws hsz hdX hdC;have hBo:=hBs;clear hBs;go_wp2_with fail;refine bodyPost_ret (v:=.tuple #[.agg #[.slice none 0 0,.slice none 0 0],.int .i64 3]) (by simp [results,Tryz.results14,go_sem,kC0,kC1,fC0,fC1,zC]) rfl ?_;rw [HPO.out];exact a1a ((hBo.setCell lC _).setCell lC _)
theorem b7e (n:Nd) (w:World) (hf:Fits n) (hnm:NamesAt w) :
  Calls Tryz.prog 13 #[ndV n] w (if a3b n then FormNew [n] [] 0 w else FormNew [] [] 3 w):=by
 have hud:undef=Value.tuple #[]:=rfl;obtain ⟨K19,hz19,HK19⟩:=a0q;have hm:=fun w hnm => a9i n w hf hnm
 have HNM:=zh hnm;clear hf hnm
 cases hc:a3b n with
 | false =>
  rw [hc] at hm;have HM:=zh hm;rw [if_neg Bool.false_ne_true];obtain ⟨Po,hPo⟩:∃ Po,Po=FormNew [] [] 3 w:=⟨_,rfl⟩;rw [← hPo];have HPO:=zh hPo;clear hm hc hPo;go_enter Tryz.func13,Tryz.ntmps13
  go_upto_region 1 with (fail)
  obtain ⟨s6,hws⟩:∃ s,s=((w.alloc (.cells #[.int .i64 n.k,.int .i64 n.o,.int .i64 n.a,.int .i64 n.b,.bool n.qn,.string n.qa,.string n.qd,.string n.s,.bool n.tr,.string n.r.sh,.int .i64 n.r.c,.int .i64 n.r.r,.bool n.r.fc,.bool n.r.fr,.string n.t.sh,.int .i64 n.t.c,.int .i64 n.t.r,.bool n.t.fc,.bool n.t.fr] 30)).alloc (.cells #[.slice none 0 0,.slice none 0 0] 36)):=⟨_,rfl⟩;have hBs:=bs2 (Below.refl w.heap.size w) hws;obtain ⟨X,hdX⟩:∃ b,b=w.heap.size:=⟨_,rfl⟩;obtain ⟨C,hdC⟩:∃ b,b=w.heap.size+1:=⟨_,rfl⟩;have hsz:s6.heap.size=w.heap.size+1+1:=by rw [hws];simp
  have dCX:C≠X:=by omega
  have yX:=by1 (b:=X) hws hdX;have zX:X < s6.heap.size:=by omega
  have lX:w.heap.size≤X:=by omega
  have hN:=bx0 (b:=C) hws (by simp [hdC]);have hM:=bf0 (b:=C) hws (by simp [hdC]);have kC0:=hN 0 _ rfl;have kC1:=hN 1 _ rfl;have fC0:=hM 0;have fC1:=hM 1;clear hN hM;have zC:C < s6.heap.size:=by omega
  have lC:w.heap.size≤C:=by omega
  have LX:=eqL (P:=Tryz.prog) HK19 rfl yX;rw [← hws];try rw [← hdC]
  try rw [← hdX]
  clear hws hsz hdX hdC;have hBo:=hBs;clear hBs;go_wp2_with fail;refine (HM.out _ (HNM.out.below hBo)).mono ?_;rintro e s7 ⟨rfl,hb⟩;replace yX:=eqB hb yX zX;replace zX:=zHl hb zX;replace kC0:=a0f hb kC0 zC;replace kC1:=a0f hb kC1 zC;replace fC0:=a0g hb fC0 zC;replace fC1:=a0g hb fC1 zC;replace zC:=zHl hb zC;replace hBo:=hBo.trans (hb.mono hBo.size);clear hb;replace LX:=eqL (P:=Tryz.prog) HK19 rfl yX;go_wp2_with fail;refine bodyPost_ret (v:=.tuple #[.agg #[.slice none 0 0,.slice none 0 0],.int .i64 3]) (by simp [results,Tryz.results13,go_sem,kC0,kC1,fC0,fC1,zC]) rfl ?_;rw [HPO.out];exact a1a ((hBo.setCell lC _).setCell lC _)
 | true =>
  rw [hc] at hm;have HM:=zh hm;rw [if_pos rfl];obtain ⟨Po,hPo⟩:∃ Po,Po=FormNew [n] [] 0 w:=⟨_,rfl⟩;rw [← hPo];have HPO:=zh hPo;clear hm hc hPo;go_enter Tryz.func13,Tryz.ntmps13
  go_upto_region 1 with (fail)
  obtain ⟨s8,hws⟩:∃ s,s=((w.alloc (.cells #[.int .i64 n.k,.int .i64 n.o,.int .i64 n.a,.int .i64 n.b,.bool n.qn,.string n.qa,.string n.qd,.string n.s,.bool n.tr,.string n.r.sh,.int .i64 n.r.c,.int .i64 n.r.r,.bool n.r.fc,.bool n.r.fr,.string n.t.sh,.int .i64 n.t.c,.int .i64 n.t.r,.bool n.t.fc,.bool n.t.fr] 30)).alloc (.cells #[.slice none 0 0,.slice none 0 0] 36)):=⟨_,rfl⟩;have hBs:=bs2 (Below.refl w.heap.size w) hws;obtain ⟨X,hdX⟩:∃ b,b=w.heap.size:=⟨_,rfl⟩;obtain ⟨C,hdC⟩:∃ b,b=w.heap.size+1:=⟨_,rfl⟩;have hsz:s8.heap.size=w.heap.size+1+1:=by rw [hws];simp
  have dCX:C≠X:=by omega
  have yX:=by1 (b:=X) hws hdX;have zX:X < s8.heap.size:=by omega
  have lX:w.heap.size≤X:=by omega
  have hN:=bx0 (b:=C) hws (by simp [hdC]);have hM:=bf0 (b:=C) hws (by simp [hdC]);have kC0:=hN 0 _ rfl;have kC1:=hN 1 _ rfl;have fC0:=hM 0;have fC1:=hM 1;clear hN hM;have zC:C < s8.heap.size:=by omega
  have lC:w.heap.size≤C:=by omega
  have LX:=eqL (P:=Tryz.prog) HK19 rfl yX;rw [← hws];try rw [← hdC]
  try rw [← hdX]
  clear hws hsz hdX hdC;have hBo:=hBs;clear hBs;go_wp2_with fail;refine (HM.out _ (HNM.out.below hBo)).mono ?_;rintro e s9 ⟨rfl,hb⟩;replace yX:=eqB hb yX zX;replace zX:=zHl hb zX;replace kC0:=a0f hb kC0 zC;replace kC1:=a0f hb kC1 zC;replace fC0:=a0g hb fC0 zC;replace fC1:=a0g hb fC1 zC;replace zC:=zHl hb zC;replace hBo:=hBo.trans (hb.mono hBo.size);clear hb;replace LX:=eqL (P:=Tryz.prog) HK19 rfl yX;go_wp2_with (refine a1j rfl _ rfl n (by rfl) ?_);have hCne:C≠s9.heap.size:=by omega
  obtain ⟨H,hH⟩:∃ H,H=s9.heap.size:=⟨_,rfl⟩;refine bodyPost_ret (v:=.tuple #[.agg #[.slice (some ⟨s9.heap.size,0,none⟩) 1 1,.slice none 0 0],.int .i64 0]) (by simp [results,Tryz.results13,go_sem,kC0,kC1,fC0,fC1,zC]) rfl ?_;rw [HPO.out];have hrow:=World.ownsRow_lit (base:=w.heap.size) (e:=30) (size:=19) ((s9.setCell ⟨C,0,none⟩ (.slice (some ⟨s9.heap.size,0,none⟩) 1 1)).setCell ⟨C,1,none⟩ (.slice none 0 0)) (ndL n).toArray 1 (by have:=hBo.size;simp;omega) (by unfold maxLen;omega) rfl;exact ⟨⟨_,_,rfl,by simpa [nodeL] using hrow,World.ownsRow_nil _ _ _ _⟩,a0i ((hBo.setCell lC _).setCell lC _)⟩
end Go.Proofs.YtjfkbeanbbeloaaGreatDoor
