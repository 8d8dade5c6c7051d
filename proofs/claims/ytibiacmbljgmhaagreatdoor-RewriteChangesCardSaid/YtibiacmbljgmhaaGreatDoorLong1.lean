import Derived.Test.YtibiacmbljgmhaaGreatDoorTwo
import Derived.Deep.CutRange
import Derived.Deep.DeepCutAuto
set_option linter.all false
namespace Go.Proofs.YtibiacmbljgmhaaGreatDoor
open Go.RowKit Go.Shelf
theorem c9i (x s:Nat) (w:World) (hx:x<4294967296) (hs:s+Nt.blen x=32) :
  Cw 259 #[.int .u32 (x:Int)] w (I6 (s:Int)):=by
 refine(Tryz.bits_LeadingZeros32 (x:Int) w (by omega) (by omega)).mono ?_;rintro e w' ⟨rfl,rfl⟩;have hb:Lib.bitLen x=Nt.blen x:=a4n x (Nat.lt_trans hx (by decide));exact⟨a1c (by rw[Int.toNat_natCast,hb];omega),rfl⟩
structure Still (w w':World):Prop where
 os:w'.os=w.os
 tape:w'.tape=w.tape
 output:w'.output=w.output
 heap:w'.heap=w.heap
theorem Still.of_drewN {w w':World} (h:∃ d,w'=w.drewN d):Still w w':=by
 obtain⟨d,rfl⟩:=h;exact⟨rfl,rfl,rfl,rfl⟩
theorem Still.below {w w':World} (h:Still w w') (B:Nat):Below B w w':=⟨h.os,h.tape,h.output,by rw[h.heap];exact jC _,fun k _=>by rw[h.heap]⟩
theorem Still.blk {w w':World} (h:Still w w') {g:Nat} {t:TypeId} {cs:Array Value} (hb:Jz w g t cs):Jz w' g t cs:=by unfold Jz;rw[h.heap];exact hb
theorem Still.size {w w':World} (h:Still w w'):w'.heap.size=w.heap.size:=by rw[h.heap]
theorem Nt.join_lt {l z a b:Nat} (hl:l<a) (hz:z<b):l+z*a<a*b:=by
 have h3:(z+1)*a<=b*a:=Nat.mul_le_mul_right _ hz;rw[Nat.add_mul,Nat.one_mul,jK b] at h3;omega
theorem b2r (G p n c1 g c2 L M V t:Nat) (w:World) (hn:n<=100000) (hM:M<=200000) (hpM:p+(n+1)<=M) (hne:g≠G) (hV:V<4294967296^n) (hVp:0<V) (ht:t<4294967296) (hL:L<4294967296^(p+(n+1)))
  (hg:L/4294967296^p/V<=t) (h : ¬ L/4294967296^p<t*V)
  (hB:Jz w G 239 (kV .u32 (Nt.wds L M))) (hc:Lm w g (Nt.wds V n)) :
  Cz 262 #[.slice (some ⟨G,p,none⟩) (n+1) c1,.slice (some ⟨g,0,none⟩) n c2,.int .u32 (t:Int)] w fun e w' =>
   e=.returned (Bv false)/\Jz w' G 239 (kV .u32 (Nt.wds (L%4294967296^p+L/4294967296^p%V*4294967296^p) M))/\Only G w w':=by
 refine(a6a G p n c1 g c2 L M V t w hn hM hpM hne hV ht hL hB hc).mono ?_;rintro e w' ⟨rfl,hb,ho⟩
 have hP:L/4294967296^p<4294967296^(n+1):=by
  rw[Nat.div_lt_iff_lt_mul (jO (by omega)),jK,<-Nat.pow_add];exact hL
 have hz:=Nt.taken_right _ V t _ hVp hP hg h;refine⟨J4 (jE h),?_,ho⟩;rw[Nt.zof,hz.2] at hb;exact hb
theorem b0l (G p n c1 g c2 L M V t:Nat) (w:World) (hn:n<=100000) (hM:M<=200000) (hpM:p+(n+1)<=M) (hne:g≠G) (hV:V<4294967296^n) (hVp:0<V) (ht:t<4294967296) (hL:L<4294967296^(p+(n+1)))
  (hg:t<=L/4294967296^p/V+1) (h:L/4294967296^p<t*V)
  (hB:Jz w G 239 (kV .u32 (Nt.wds L M))) (hc:Lm w g (Nt.wds V n)) :
  Cz 262 #[.slice (some ⟨G,p,none⟩) (n+1) c1,.slice (some ⟨g,0,none⟩) n c2,.int .u32 (t:Int)] w fun e w' =>
   e=.returned (Bv true)/\(∃ R,Jz w' G 239 (kV .u32 (Nt.wds R M))/\R<4294967296^(p+(n+1)) /\
    R%4294967296^p+(R/4294967296^p+V)%4294967296^(n+1)*4294967296^p=L%4294967296^p+L/4294967296^p%V*4294967296^p)/\Only G w w':=by
 refine(a6a G p n c1 g c2 L M V t w hn hM hpM hne hV ht hL hB hc).mono ?_;rintro e w' ⟨rfl,hb,ho⟩;have hp:0<4294967296^p:=jO (by omega)
 have hP:L/4294967296^p<4294967296^(n+1):=by
  rw[Nat.div_lt_iff_lt_mul hp,jK,<-Nat.pow_add];exact hL
 have hM':t*V<=4294967296^(n+1):=by
  rw[jN,jK];exact Nat.mul_le_mul (Nat.le_of_lt hV) (Nat.le_of_lt ht)
 have hz:=Nt.taken_back _ V t _ hVp hP hM' hg h;refine⟨J4 (jD h),⟨_,hb,?_,?_⟩,ho⟩
 ·
  have h1:=Nat.mod_lt (Nt.zof (L/4294967296^p) (t*V) (n+1)) (jO (n:=n+1) (show 0<4294967296 by omega));have h2:=Nat.mod_lt L hp;rw[Nat.pow_add 4294967296 p (n+1)];exact Nt.join_lt h2 h1
 ·
  rw[Nt.zof,hz.2.2.1,Nat.add_mul_mod_self_right,Nat.mod_mod,Nat.add_mul_div_right _ _ hp,Nat.div_eq_of_lt (Nat.mod_lt L hp),Nat.zero_add,hz.2.2.2]
set_option maxHeartbeats 8000000
set_option maxRecDepth 100000
def c9j (w:World) (m n2 s A B:Nat) (sv sby sl:Value) (wx:World):Prop :=
 sby=I6 (s:Int)/\∃ gl gv,sl=.slice (some ⟨gl,0,none⟩) (m+1) (m+1)/\sv=.slice (some ⟨gv,0,none⟩) n2 (n2+1)/\gl≠gv/\w.heap.size<=gl/\w.heap.size<=gv /\
  Jz wx gl 239 (kV .u32 (Nt.wds A (m+1)))/\Jz wx gv 239 (kV .u32 (Nt.wds B (n2+1)))/\Bl w wx
def c6j (w:World) (gl gv gq m n2 K A B:Nat) (i:Value) (wr:World):Prop:=∃ j:Nat,j<=K/\i=I6 ((j:Int)-1) /\
 Jz wr gq 239 (kV .u32 (Nt.qs (A/B) j K))/\Jz wr gl 239 (kV .u32 (Nt.wds (Nt.lft A B j) (m+1)))/\Jz wr gv 239 (kV .u32 (Nt.wds B (n2+1)))/\Bl w wr
theorem Lm.of_wds {w:World} {g:Nat} {t:TypeId} {N n:Nat} (h:Jz w g t (kV .u32 (Nt.wds N (n+1)))):Lm w g (Nt.wds N n):=fun i hi=>by
 have h1:i<(Nt.wds N (n+1)).length:=by rw[Nt.wds_length] at *;omega
 rw[Nt.wds_get];exact((h.cell i).trans (a0r _ _ _ h1)).trans (by rw[Nt.wds_get])
theorem b2s (gu m cu gw n2 n1 n cw U V:Nat) (w:World) (hn1:n1+1=n2) (hn:n+2=n2) (hmn:n2<=m) (hm:m<=1000) (hU:U<4294967296^m) (hV:V<4294967296^n2) (hV1:4294967296^n1<=V)
  (hgu:gu<w.heap.size) (hgw:gw<w.heap.size) (hcu:Lm w gu (Nt.wds U m)) (hcw:Lm w gw (Nt.wds V n2)) :
  Cz 246 #[.slice (some ⟨gu,0,none⟩) m cu,.slice (some ⟨gw,0,none⟩) n2 cw] w fun e w'=>(∃ q r,e=.returned (.tuple #[q,r])/\YZ w' q (U/V)/\YZ w' r (U%V))/\Bl w w':=by
 have hxb:=Nt.wd_lt V n1;have hx0:0<Nt.wd V n1:=Nt.top_pos (n:=n1) (by rw[hn1];exact hV) hV1;have hbl:=Nt.blen_bounds (Nt.wd V n1) (by omega)
 have hbl32:Nt.blen (Nt.wd V n1)<=32:=by
  have h1:=Nat.lt_of_le_of_lt hbl.1 hxb;have h2:=(Nat.pow_lt_pow_iff_right (a:=2) (m:=32) (by omega)).1 h1;omega
 obtain⟨s,hs⟩:∃ s,s+Nt.blen (Nt.wd V n1)=32:=⟨32-Nt.blen (Nt.wd V n1),by omega⟩;have hs32:s<32:=by omega
 have hnorm:V*2^s<4294967296^n2:=Nt.norm_lt V n2 s (Nt.blen (Nt.wd V n1)) (by omega) hV (by rw[show n2-1=n1 from by omega];exact hbl.2.1) (by omega);have hlz:=zh (fun W=>c9i (Nt.wd V n1) s W hxb hs);have cx:w.cell? ⟨gw,n1,none⟩=some (.int .u32 ((Nt.wd V n1:Nat):Int)):=by have:=hcw n1 (by rw[Nt.wds_length];omega);rwa [Nt.wds_get] at this
 have HupU:=zh (fun W (h:Bl w W)=>a8r gu m cu U s W (by omega) hU hs32 (by have:=h.size;omega) (hcu.below h hgu));have HupV:=zh (fun W (h:Bl w W)=>a8r gw n2 cw V s W (by omega) hV hs32 (by have:=h.size;omega) (hcw.below h hgw));have HN1:=zh hn1;have HN:=zh hn;have HU:=zh hU;have HV:=zh hV;have HV1:=zh hV1;have Xv:=zh hnorm;have w1:(n2:Int)-1=(n1:Int):=by omega
 have t1:((n2:Int)==1)=false:=by simp;omega
 have t2 : ¬ (m:Int)<(n2:Int):=by omega
 have t3 : ¬ m<n2:=by omega
 have hn12:n1<n2:=by omega
 generalize Nt.wd V n1=x at *;clear hcu hcw hU hV hV1 hbl hnorm hn1 hn hs;go_enter Tryz.func246,Tryz.ntmps246
 go_upto_region 6 with (first
  | (go_at_call 259;refine(hlz.out _).mono ?_;rintro e w' ⟨rfl,rfl⟩)
  | fail)
 go_cut [1,6,7] (c9j w m n2 s (U*2^s) (V*2^s))
 case first =>
  go_region_with (first
   | (go_at_call_of 260 gu;refine(HupU.out _ (by first | exact(Below.refl _ _).drew | exact(Below.refl _ _).drew.trans hbV | exact(Below.refl _ _).trans hbV)).mono ?_;rintro e wU ⟨⟨rfl,hkU⟩,hbU⟩)
   | (go_at_call_of 260 gw;refine(HupV.out _ (by first | exact(Below.refl _ _).drew | exact(Below.refl _ _).drew.trans hbU | exact(Below.refl _ _).trans hbU)).mono ?_;rintro e wV ⟨⟨rfl,hkV⟩,hbV⟩))
  all_goals go_wp2_with fail
  all_goals go_meet
  all_goals first
   | (
     have hc:Bl w wU:=(bR.drew).trans hbU
     exact⟨rfl,_,_,rfl,rfl,Nat.ne_of_lt hkU.lt,jC _,hc.size,hkU.below hbV hkU.lt,hkV,bT hc hbV⟩)
   | (
     have hc:Bl w wV:=(bR.drew).trans hbV
     exact⟨rfl,_,_,rfl,rfl,(Nat.ne_of_lt hkV.lt).symm,hc.size,jC _,hkU,hkV.below hbU hkV.lt,bT hc hbU⟩)
 case rest =>
  obtain⟨rfl,gl,gv,rfl,rfl,hne,hl,hv,hkl,hkv,hb⟩:=hcut;have hst:=Nt.lft_start U V n2 m s (by omega) hmn HU.out (by rw[show n2-1=n1 from by omega];exact HV1.out);have hql:=Nt.quo_lt U V n2 m (by omega) hmn HU.out (by rw[show n2-1=n1 from by omega];exact HV1.out);have h2p:0<2^s:=Nat.two_pow_pos s;have hdv:=Nat.mul_div_mul_right U V h2p;have hmd:=Nat.mul_mod_mul_right (2^s) U V;have hB1:4294967296^n1<=V*2^s:=jG HV1.out (by have:=Nat.mul_le_mul_left V h2p;omega);have hmq:U%V*2^s/2^s=U%V:=Nat.mul_div_cancel _ h2p;obtain⟨A,hA⟩:=nM (U*2^s);obtain⟨B,hB⟩:=nM (V*2^s);rw[<-hA,<-hB] at hst hdv hmd;rw[<-hA] at hkl;rw[<-hB] at hkv hB1 Xv;have hBp:0<B:=jF (jO (by omega)) hB1;obtain⟨K,hK⟩:=nM (m-n2+1);rw[<-hK] at hst hql;have hK1:(m:Int)-(n2:Int)+1=(K:Int):=by omega
  have hK2:K<=1000:=by omega
  have hK3:K+n2=m+1:=by omega
  have hmk:=fun W=>a1n (P:=Tryz.prog) 254 239 .u32 4 Tryz.underlying254 Tryz.infoU32 K (by omega) (by omega) W
  have HST:=zh hst;have HQL:=zh hql;have HDV:=zh hdv;have HMD:=zh hmd;have HB1:=zh hB1;have HMQ:=zh hmq;have HBP:=zh hBp;have HK3:=zh hK3;have HKL:=zh (hkl.alloc (.cells (kV .u32 (List.replicate K 0)) 239));have HKV:=zh (hkv.alloc (.cells (kV .u32 (List.replicate K 0)) 239));have HGL:=zh hkl.lt;have HGV:=zh hkv.lt;have HBW:=zh hb;clear hst hql hdv hmd hB1 hmq hA hB hK hkl hkv hb hBp hK3
  go_wp2
  go_loopw [8] (c6j w gl gv wc.heap.size m n2 K A B) (fun i _=>(intOf i+1).toNat)
  case atStart =>
   exact⟨K,jC _,by go_num,by rw[Nt.qs_none];exact Jz.new _ _ _,by rw[HST.out];exact HKL.out,HKV.out,HBW.out.alloc HBW.out.size _⟩
  case round =>
   obtain⟨j,hj,rfl,hQ,hL,hVb,hW⟩:=hrel
   rcases j with _ | i
   ·
    have e0:((0:Nat):Int)-1=-1:=rfl;rw[e0];have hq:=a3f wc.heap.size K K (Nt.qs (A/B) 0 K) wr (Nt.qs_length _ _ _) (jC _) (by omega) hQ.lt (Lm.of_blk hQ) (Nt.qs_lt _ _ _)
    have hqv:Nt.lw (Nt.qs (A/B) 0 K)=U/V:=by
     rw[Nt.qs_all,Nt.lw_wds,HDV.out];exact jQ HQL.out
    rw[hqv] at hq
    have hLl:Nt.lft A B 0<4294967296^(m+1):=by
     rw[Nt.lft_end];exact Nat.lt_trans (Nat.mod_lt _ HBP.out) (jF Xv.out (jP (by omega) (by omega)))
    have hd:=b1b gl (m+1) (m+1) (Nt.lft A B 0) s wr (by omega) hLl hs32 hL.lt (Lm.of_blk hL);rw[Nt.lft_end,HMD.out,HMQ.out] at hd;have HQ2:=zh hq;have HD2:=zh hd;have HW:=zh hW;clear hq hqv hLl hd hQ hL hVb hW
    go_wp2_with (first
     | (go_at_call 264;refine HQ2.out.mono ?_;rintro e w2 ⟨⟨v1,rfl,hl1⟩,rfl⟩)
     | (go_at_call 265;refine HD2.out.mono ?_;rintro e w3 ⟨⟨v2,rfl,hl2⟩,hb3⟩))
    go_ret2
    exact⟨⟨v1,v2,rfl,hl1.below hb3 (jC _),hl2⟩,HW.out.trans (hb3.mono HW.out.size)⟩
   ·
    rw[show ((i+1:Nat):Int)-1=(i:Int) from by omega];have hlr:=Nt.limb_round A i B HBP.out;rw[<-Nt.lft_div] at hlr;have hlm:=Nt.lft_next A B i HBP.out;have hlt:=Nt.lft_lt A B i n2 HBP.out Xv.out;have hpart:(i:Int)+(n2:Int)+1<=(m:Int)+1:=by have:=HK3.out;omega
    have him:i+(n2+1)<=m+1:=by have:=HK3.out;omega
    obtain⟨L,hLd⟩:=nM (Nt.lft A B (i+1));rw[<-hLd] at hlr hlm hlt hL
    have hcells:∀ k,k<n+3->wr.cell? ⟨gl,i+k,none⟩=some (.int .u32 ((Nt.wd (L/4294967296^i) k:Nat):Int)):=fun k hk=>by
     have h1:i+k<(Nt.wds L (m+1)).length:=by rw[Nt.wds_length];have:=HN.out;omega
     rw[Nt.wd_high];exact((hL.cell _).trans (a0r _ _ _ h1)).trans (by rw[Nt.wds_get])
    have hPB:=hlr.2.2
    have hdg:Hid (∀ c1 c2,Cz 261 #[.slice (some ⟨gl,i,none⟩) (n2+1) c1,.slice (some ⟨gv,0,none⟩) n2 c2] wr fun e w' =>
      (∃ q:Nat,e=.returned (.int .u32 (q:Int))/\L/4294967296^i/B<=q/\q<=L/4294967296^i/B+1/\q<4294967296)/\∃ d,w'=wr.drewN d):=fun c1 c2=>by
     have e2:=HN.out;have e1:=HN1.out;have hv2:=Xv.out;have hv1:=HB1.out;have hlm:=Lm.of_wds hVb;rw[<-e2] at hv2 hlm |-
     rw[show n1=n+1 from by omega] at hv1;exact c2m gl i n c1 gv c2 (L/4294967296^i) B wr (by omega) hPB hv2 hv1 hcells hlm
    have hlen:i+n2+1-i=n2+1:=by omega
    have hi:i<(Nt.qs (A/B) (i+1) K).length:=by rw[Nt.qs_length];omega
    have HLR:=zh hlr;have HLM:=zh hlm;have HLT:=zh hlt;have HQ:=zh hQ;have HL:=zh hL;have HVB:=zh hVb;have HW:=zh hW;have j8:=HBW.out.size;have hn3:=HGL.out;have hn4:=HGV.out;have hi0:(0:Int)<=(i:Int):=by omega
    have hiK:i<K:=by omega
    clear hlr hlm hlt hQ hL hVb hW hcells hPB hLd
    go_upto_region 13 with (go_at_call 261;refine(hdg.out _ _).mono ?_;rintro e w1 ⟨⟨q,rfl,g1,g2,g3⟩,hd⟩;have HST1:=zh (Still.of_drewN hd);clear hd;have G1:=zh g1;have G2:=zh g2;clear g1 g2;have c5:=((HST1.out.blk HQ.out).cell i).trans (a0r _ _ _ hi);have f5:=(HST1.out.blk HQ.out).frozen i)
    have kL:Jz (w1.setCell ⟨wc.heap.size,i,none⟩ (.int .u32 (q:Int))) gl 239 (kV .u32 (Nt.wds L (m+1))):=(HST1.out.blk HL.out).far (p:=⟨wc.heap.size,i,none⟩) (by show gl≠wc.heap.size;omega) _;have kV1:Jz (w1.setCell ⟨wc.heap.size,i,none⟩ (.int .u32 (q:Int))) gv 239 (kV .u32 (Nt.wds B (n2+1))):=(HST1.out.blk HVB.out).far (p:=⟨wc.heap.size,i,none⟩) (by show gv≠wc.heap.size;omega) _;have kQ:Jz (w1.setCell ⟨wc.heap.size,i,none⟩ (.int .u32 (q:Int))) wc.heap.size 239 (kV .u32 ((Nt.qs (A/B) (i+1) K).set i q)):=by rw[<-a2p];exact(HST1.out.blk HQ.out).put _ _
    have kW:Bl w (w1.setCell ⟨wc.heap.size,i,none⟩ (.int .u32 (q:Int))):=(HW.out.trans (HST1.out.below _)).setCell (p:=⟨wc.heap.size,i,none⟩) j8 _;have KL:=zh kL;have KV1:=zh kV1;have KQ:=zh kQ;have KW:=zh kW;clear kL kV1 kQ kW;by_cases hlt2:L/4294967296^i<q*B
    ·
     have HLT2:=zh hlt2;clear hlt2;have hgq:gl≠wc.heap.size:=by omega
     have hiq:i<((Nt.qs (A/B) (i+1) K).set i q).length:=by rw[List.length_set];exact hi
     have hq1:1<=q:=by
      rcases Nat.eq_zero_or_pos q with h0 | h0
      ·
       have:=HLT2.out;rw[h0,Nat.zero_mul] at this;exact absurd this (Nat.not_lt_zero _)
      ·
       exact h0
     go_wp2_with (first
      | (go_at_call 262;refine(b0l gl i n2 _ gv _ L (m+1) B q _ (by omega) (by omega) (by omega) hne.symm Xv.out HBP.out g3 HLT.out G2.out HLT2.out KL.out (Lm.of_wds KV1.out)).mono ?_;rintro e w2 ⟨rfl,⟨R,hk2,hR,hRe⟩,ho2⟩;have HK2:=zh hk2;have HO2:=zh ho2;have HR:=zh hR;have HRE:=zh hRe;clear hk2 ho2 hR hRe;have c6:w2.cell? ⟨wc.heap.size,i,none⟩=some (.int .u32 (q:Int)):=((HO2.out.blk hgq.symm KQ.out).cell i).trans ((a0r _ _ _ hiq).trans (by rw[List.getElem_set_self]));have f6:=(HO2.out.blk hgq.symm KQ.out).frozen i)
      | (go_at_call 263;refine(b5b gl i n2 _ gv _ R (m+1) B _ (by omega) (by omega) (by omega) hne.symm Xv.out HR.out (HK2.out.far (p:=⟨wc.heap.size,i,none⟩) hgq _) (Lm.of_wds ((HO2.out.blk hne.symm KV1.out).far (p:=⟨wc.heap.size,i,none⟩) (by show gv≠wc.heap.size;omega) _))).mono ?_;rintro e w4 ⟨rfl,hk4,ho4⟩;have HK4:=zh hk4;have HO4:=zh ho4;clear hk4 ho4))
     have hP:L/4294967296^i<4294967296^(n2+1):=by
      rw[Nat.div_lt_iff_lt_mul (jO (by omega)),jK,<-Nat.pow_add];exact HLT.out
     have hM':q*B<=4294967296^(n2+1):=by
      rw[jN,jK];exact Nat.mul_le_mul (Nat.le_of_lt Xv.out) (Nat.le_of_lt g3)
     have hz:=(Nt.taken_back _ B q _ HBP.out hP hM' G2.out HLT2.out).1;have eq1:((q:Int)-1)=((q-1:Nat):Int):=by omega
     have hqq:q-1=Nt.wd (A/B) i:=by rw[<-HLR.out.1,hz,Nat.add_sub_cancel]
     refine⟨⟨i,by omega,rfl,?_,?_,HO4.out.blk hne.symm ((HO2.out.blk hne.symm KV1.out).far (p:=⟨wc.heap.size,i,none⟩) (by show gv≠wc.heap.size;omega) _),?_⟩,by simp[intOf]⟩
     ·
      have h5:=HO4.out.blk hgq.symm ((HO2.out.blk hgq.symm KQ.out).put i (.int .u32 ((q:Int)-1)));rw[eq1,a2p,List.set_set,hqq,Nt.qs_set] at h5;exact h5
     ·
      rw[<-HLM.out,<-HRE.out];exact HK4.out
     ·
      exact((KW.out.trans (HO2.out.below (by omega))).setCell (p:=⟨wc.heap.size,i,none⟩) j8 _).trans (HO4.out.below (by omega))
    ·
     have HLT2:=zh hlt2;clear hlt2;go_wp2_with (go_at_call 262;refine(b2r gl i n2 _ gv _ L (m+1) B q _ (by omega) (by omega) (by omega) hne.symm Xv.out HBP.out g3 HLT.out G1.out HLT2.out KL.out (Lm.of_wds KV1.out)).mono ?_;rintro e w2 ⟨rfl,hk2,ho2⟩;have HK2:=zh hk2;have HO2:=zh ho2;clear hk2 ho2)
     have hP:L/4294967296^i<4294967296^(n2+1):=by
      rw[Nat.div_lt_iff_lt_mul (jO (by omega)),jK,<-Nat.pow_add];exact HLT.out
     have hz:=(Nt.taken_right _ B q _ HBP.out hP G1.out HLT2.out).1;refine⟨⟨i,by omega,rfl,?_,?_,HO2.out.blk hne.symm KV1.out,KW.out.trans (HO2.out.below (by omega))⟩,by simp[intOf]⟩
     ·
      rw[<-Nt.qs_set,<-HLR.out.1,<-hz];exact HO2.out.blk (by omega) KQ.out
     ·
      rw[<-HLM.out];exact HK2.out
theorem b0m (u A:Value) (Au:Option Addr) (m cu:Nat) (Aw:Option Addr) (n cw:Nat) (w:World) (hu:u=.slice Au m cu) (hv:A=.slice Aw n cw) (hmn:m<n) :
  Cw 246 #[u,A] w (.tuple #[.slice none 0 0,u]):=by
 subst hu hv;have t2:(m:Int)<(n:Int):=by omega
 go_enter Tryz.func246,Tryz.ntmps246
 go_wp2
 go_ret2
 exact⟨rfl,rfl⟩
theorem b4t (gu m cu gw cw U d:Nat) (w:World) (hm1:1<=m) (hm:m<=100000) (hU:U<4294967296^m) (hd0:0<d) (hd1:d<4294967296)
  (hgu:gu<w.heap.size) (hcu:Lm w gu (Nt.wds U m)) (hcw:w.cell? ⟨gw,0,none⟩=some (.int .u32 (d:Int))) :
  Cz 246 #[.slice (some ⟨gu,0,none⟩) m cu,.slice (some ⟨gw,0,none⟩) 1 cw] w fun e w'=>(∃ q r,e=.returned (.tuple #[q,r])/\YZ w' q (U/d)/\YZ w' r (U%d))/\Bl w w':=by
 have HD:=zh (b8e gu m cu U d w hm hU hd0 hd1 hgu hcu);have t2 : ¬ (m:Int)<1:=by omega
 clear hU hcu;go_enter Tryz.func246,Tryz.ntmps246;go_wp2_with (go_at_call 258;refine HD.out.mono ?_;rintro e w1 ⟨⟨q,r,rfl,h1,h2⟩,h3⟩)
 go_ret2
 exact⟨⟨q,r,rfl,h1,h2⟩,h3⟩
theorem Nt.limbs_few {N k:Nat} (h:4294967296^(k-1)<=N) (hs:(Nt.E N).size<=2000):k<=1000:=by
 have h7:=Nt.V_lt (Nt.E N);rw[Nt.V_E] at h7;rw[Nt.pow32] at h;have h8:=(Nat.pow_lt_pow_iff_right (by omega:1<256)).1 (Nat.lt_of_le_of_lt h h7);omega
theorem b4u (u v:Value) (U V:Nat) (w:World) (hu:YZ w u U) (hv:YZ w v V) (hV:0<V) (hsu:(Nt.E U).size<=2000) (hsv:(Nt.E V).size<=2000) :
  Cz 246 #[u,v] w fun e w'=>(∃ q r,e=.returned (.tuple #[q,r])/\YZ w' q (U/V)/\YZ w' r (U%V))/\Bl w w':=by
 have hshort:∀ (Au:Option Addr) (m cu:Nat) (Aw:Option Addr) (n cw:Nat),u=.slice Au m cu->v=.slice Aw n cw->m<n->U<V ->
   Cz 246 #[u,v] w fun e w'=>(∃ q r,e=.returned (.tuple #[q,r])/\YZ w' q (U/V)/\YZ w' r (U%V))/\Bl w w':=by
  intro Au m cu Aw n cw e1 e2 hmn hlt;refine(b0m u v Au m cu Aw n cw w e1 e2 hmn).mono ?_;rintro e w' ⟨rfl,rfl⟩;rw[Nat.div_eq_of_lt hlt,jQ hlt];exact⟨⟨_,_,rfl,Or.inl ⟨rfl,rfl⟩,hu⟩,Below.refl _ _⟩
 rcases hv with ⟨_,h0⟩ | ⟨gw,n,cw,ev,hncw,hgw,hcw,hVl,hVh⟩
 ·
  omega
 ·
  have hn1:1<=n:=by
   rcases Nat.eq_zero_or_pos n with h | h
   ·
    rw[h,Nat.pow_zero] at hVl;omega
   ·
    exact h
  have hV1:4294967296^(n-1)<=V:=(by
   rcases hVh with h | h
   ·
    omega
   ·
    exact h)
  have hn:=Nt.limbs_few hV1 hsv
  rcases hu with ⟨eu,hU0⟩ | ⟨gu,m,cu,eu,hmcu,hgu,hcu,hUl,hUh⟩
  ·
   exact hshort _ _ _ _ _ _ eu ev (by omega) (by omega)
  ·
   have hm:m<=1000:=by
    rcases hUh with h | h
    ·
     omega
    ·
     exact Nt.limbs_few h hsu
   by_cases hmn:m<n
   ·
    refine hshort _ _ _ _ _ _ eu ev hmn (jF hUl (jG (jP (by omega) (by omega)) hV1))
   ·
    by_cases h1:n=1
    ·
     subst h1;rw[Nat.pow_one] at hVl
     have hc:w.cell? ⟨gw,0,none⟩=some (.int .u32 (V:Int)):=by
      have:=hcw 0 (by rw[Nt.wds_length];omega);rw[Nt.wds_get] at this;rw[this,Nt.wd,Nat.pow_zero,Nat.div_one,jQ hVl]
     rw[eu,ev];exact b4t gu m cu gw cw U V w (by omega) (by omega) hUl hV hVl hgu hcu hc
    ·
     rw[eu,ev];exact b2s gu m cu gw n (n-1) (n-2) cw U V w (by omega) (by omega) (by omega) hm hUl hVl hV1 hgu hgw hcu hcw
theorem c1r:LimbsOk:=⟨b5a,b0z,b4u⟩
theorem a8i:b6i:=c2i c1r
theorem a2h (n:Nat) (h:n≠0) : ¬ (Nt.E n).toList=[]:=fun e=>h (by
 have h1:=a8q n;rw[e] at h1
 simpa using h1.symm)
