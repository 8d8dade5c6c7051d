import Derived.Test.YtibiacmbljgmhaaGreatDoorMath
import Derived.StillTactics
import Derived.OwnWalk
set_option maxHeartbeats 4000000
set_option maxRecDepth 100000
set_option linter.all false
namespace Go.Proofs.YtibiacmbljgmhaaGreatDoor
open Go.RowKit Go.Shelf
theorem c2c (s:jW) (m:Nat) (h:s.size<=4*m):Nt.le 4294967296 (Nt.wds (Nt.V s) m)=Nt.V s:=by
 rw[Nt.le_lw,Nt.lw_wds,Nt.pow32];exact jQ (jF (Nt.V_lt s) (jP (by omega) h))
theorem a9l (a b:jW) (w:World) (ha:a.size<=100000) (hb:b.size<=100000) :
  Ca 267 #[Sg a,Sg b] w (Sg (Nt.E (Nt.V a*Nt.V b))):=by
 have HTA:=zh (fun w=>a0v a w);have HTB:=zh (fun w=>a0v b w);have hts:=Nt.E_size_V a;have hus:=Nt.E_size_V b;have hVt:Nt.V (Nt.E (Nt.V a))=Nt.V a:=Nt.V_E _;have hVu:Nt.V (Nt.E (Nt.V b))=Nt.V b:=Nt.V_E _;generalize Nt.E (Nt.V a)=t at *;generalize Nt.E (Nt.V b)=u at *;obtain⟨n,hn⟩:=nM ((t.size+3)/4);obtain⟨m,hm⟩:=nM ((u.size+3)/4);have hwt:=fun w=>a7c t n w (by omega) hn
 have hwu:=fun w=>a7c u m w (by omega) hm
 simp only[hVt] at hwt;simp only[hVu] at hwu;have HWT:=zh hwt;have HWU:=zh hwu;clear hwt hwu;have hn1:n<=30000:=by omega
 have hm1:m<=30000:=by omega
 have hxs:=c2c t n (by omega);have hys:=c2c u m (by omega);have hxl:=Nt.wds_length (Nt.V a) n;have hyl:=Nt.wds_length (Nt.V b) m;have hxb:=Nt.wds_lt (Nt.V a) n;have hyb:=Nt.wds_lt (Nt.V b) m;rw[hVt] at hxs;rw[hVu] at hys;generalize Nt.wds (Nt.V a) n=xs at *;generalize Nt.wds (Nt.V b) m=ys at *
 have hend:Hid (∀ ls,Nt.MulOut 4294967296 xs ys xs.length ls->Nt.V ⟨((Nt.digs (Nt.lw ls) (4*(n+m))).map UInt8.ofNat).toArray⟩=Nt.V a*Nt.V b):=fun ls h=>by
  have h1:=Nt.mul_end h;rw[Nt.le_lw,hxs,hys] at h1;rw[<-h1];refine Nt.V_digs_lt ?_;have h2:=Nt.lw_lt ls h.lt;rw[h.len,hxl,hyl,Nt.pow32] at h2;exact h2
 have HXL:=zh hxl;have HYL:=zh hyl;have HXB:=zh hxb;have HYB:=zh hyb;have hmk:=fun W=>a1n (P:=Tryz.prog) 253 239 .u32 4 Tryz.underlying253 Tryz.infoU32 (n+m) (by omega) (by omega) W
 have e1:((n:Int)+(m:Int))=((n+m:Nat):Int):=by omega
 rw[<-e1] at hmk;clear e1 hn hm hVt hVu hxs hys hxl hyl hxb hyb hts hus;go_enter Tryz.func267,Tryz.ntmps267
 go_wp2_with (first
  | (go_at_call_of 235 a;refine(HTA.out _).mono ?_;rintro e w1 ⟨rfl,rfl⟩)
  | (go_at_call_of 235 b;refine(HTB.out _).mono ?_;rintro e w1 ⟨rfl,rfl⟩)
  | (go_at_call_of 275 t;refine(HWT.out _).mono ?_;rintro e w1 ⟨rfl,hk1,hb1⟩;have HK1:=zh hk1;clear hk1)
  | (go_at_call_of 275 u;refine(HWU.out _).mono ?_;rintro e w2 ⟨rfl,hk2,hb2⟩;have HK2:=zh hk2;clear hk2))
 have hX:w.heap.size<w1.heap.size:=HK1.out.lt;have hY:w1.heap.size<w2.heap.size:=HK2.out.lt;have hB2:Bl w w2:=bT hb1 hb2;have kX:Jz w2 w.heap.size 239 (kV .u32 xs):=HK1.out.below hb2 hX;have m0:Jz (w2.alloc (.cells (kV .u32 (List.replicate (n+m) 0)) 239)) w2.heap.size 239 (kV .u32 (List.replicate (n+m) 0)):=Jz.new _ _ _;have hB3:=hB2.alloc hB2.size (.cells (kV .u32 (List.replicate (n+m) 0)) 239);have QQ:=kX.alloc (.cells (kV .u32 (List.replicate (n+m) 0)) 239);have kY3:=HK2.out.alloc (.cells (kV .u32 (List.replicate (n+m) 0)) 239);have hst:=Nt.mul_start 4294967296 (by omega) xs ys;rw[HXL.out,HYL.out] at hst;have hZ:w.heap.size<=w2.heap.size:=by omega
 have M0:=zh m0;have B3:=zh hB3;have X3:=zh QQ;have Y3:=zh kY3;have ST:=zh hst;clear hb1 hb2 hB2 kX m0 hB3 QQ kY3 hst
 go_loopw [27] (fun i wr=>∃ (k:Nat) (ls:List Nat),k<=n/\i=I6 k/\Nt.MulOut 4294967296 xs ys k ls/\Jz wr w2.heap.size 239 (kV .u32 ls)/\Jz wr w.heap.size 239 (kV .u32 xs)/\Jz wr w1.heap.size 239 (kV .u32 ys)/\Bl w wr) (fun i _=>n-(intOf i).toNat)
 case atStart=>exact⟨0,_,by omega,rfl,ST.out,M0.out,X3.out,Y3.out,B3.out⟩
 case round =>
  obtain⟨k,ls,hk,rfl,hM,hZb,hXb,hYb,hW⟩:=hrel;by_cases hlt:k<n
  ·
   have hkx:k<xs.length:=by have:=HXL.out;omega
   have cX:wr.cell? ⟨w.heap.size,k,none⟩=some (.int .u32 ((xs[k]'hkx:Nat):Int)):=(hXb.cell _).trans (a0r _ _ _ hkx);have hd:=HXB.out _ (List.getElem_mem hkx);obtain⟨d,hdq⟩:=nM (xs[k]'hkx);rw[<-hdq] at cX hd;have hin:=Nt.mul_in (by omega) d hM;have HDQ:=zh hdq;have HIN:=zh hin;have HZb:=zh hZb;have HXb:=zh hXb;have HYb:=zh hYb;have HW:=zh hW;clear hdq hin hM hZb hXb hYb hW
   go_wp2
   obtain⟨wo,rfl⟩:=nM wr
   go_loopw [10,34] (fun c j wr=>∃ (q cc:Nat) (ls:List Nat),q<=m/\j=I6 q/\c=.int .u64 (cc:Int)/\Nt.MulIn 4294967296 xs ys k d q cc ls/\Jz wr w2.heap.size 239 (kV .u32 ls)/\Jz wr w.heap.size 239 (kV .u32 xs)/\Jz wr w1.heap.size 239 (kV .u32 ys)/\Bl w wr) (fun _ j _=>m-(intOf j).toNat)
   case atStart=>exact⟨0,0,_,by omega,rfl,rfl,HIN.out,HZb.out,HXb.out,HYb.out,HW.out⟩
   case round =>
    obtain⟨q,cc,ls',hq,rfl,rfl,hM,hZb,hXb,hYb,hW⟩:=hrel;have hcc:=hM.cb;by_cases hqm:q<m
    ·
     have hqy:q<ys.length:=by have:=HYL.out;omega
     have hkq:k+q<ls'.length:=by have:=hM.len;have:=HXL.out;have:=HYL.out;omega
     have he:=HYB.out _ (List.getElem_mem hqy);have hl:=hM.lt _ (List.getElem_mem hkq);have cY:wr.cell? ⟨w1.heap.size,q,none⟩=some (.int .u32 ((ys[q]'hqy:Nat):Int)):=(hYb.cell _).trans (a0r _ _ _ hqy);have cZ:wr.cell? ⟨w2.heap.size,k+q,none⟩=some (.int .u32 ((ls'[k+q]'hkq:Nat):Int)):=(hZb.cell _).trans (a0r _ _ _ hkq);have fZ:wr.frozen? ⟨w2.heap.size,k+q,none⟩=false:=hZb.frozen _;have hsum:=Nt.mul_sum hd he hl hcc;have hstep:=fun t ht=>Nt.mul_step (t:=t) hM hd hkx hqy he ht
     generalize ys[q]'hqy=e at he cY hsum hstep;generalize ls'[k+q]'hkq=l at hl cZ hsum hstep;obtain⟨P,hP⟩:=nM (d*e);rw[<-hP] at hsum hstep;have hPI:(d:Int)*(e:Int)=(P:Int):=by rw[hP];simp
     have HS:=zh (hstep _ rfl);have HZ2:=zh hZb;have HX2:=zh hXb;have HY2:=zh hYb;have HW2:=zh hW;clear hP hstep hM hZb hXb hYb hW;simp only[Nat.reduceMul] at hsum;have q1:((cc:Int)+((P:Int)+(l:Int)))/4294967296=(((P+l+cc)/4294967296:Nat):Int):=by omega
     have q2:((cc:Int)+((P:Int)+(l:Int)))%4294967296=(((P+l+cc)%4294967296:Nat):Int):=by omega
     have Q1:=zh q1;have Q2:=zh q2;clear q1 q2
     go_wp2
     rw[Q1.out,Q2.out];refine⟨⟨q+1,_,_,by omega,by go_num,rfl,HS.out,?_,HX2.out.far (by simp;omega) _,HY2.out.far (by simp;omega) _,HW2.out.setCell (p:=⟨w2.heap.size,k+q,none⟩) hZ _⟩,by simp[intOf];omega⟩;rw[<-a2p];exact HZ2.out.put _ _
    ·
     obtain rfl:q=m:=by omega
     have hkq:k+q<ls'.length:=by have:=hM.len;have:=HXL.out;have:=HYL.out;omega
     have cZ:wr.cell? ⟨w2.heap.size,k+q,none⟩=some (.int .u32 ((ls'[k+q]'hkq:Nat):Int)):=(hZb.cell _).trans (a0r _ _ _ hkq);have fZ:wr.frozen? ⟨w2.heap.size,k+q,none⟩=false:=hZb.frozen _
     have hout:Nt.MulOut 4294967296 xs ys (k+1) (ls'.set (k+q) cc):=by
      have hM':=hM;rw[<-HYL.out] at hM' |-
      exact Nt.mul_out hM' hkx HDQ.out
     have HS:=zh hout;have HZ2:=zh hZb;have HX2:=zh hXb;have HY2:=zh hYb;have HW2:=zh hW;clear hout hM hZb hXb hYb hW
     go_wp2
     refine⟨⟨k+1,_,by omega,by go_num,HS.out,?_,HX2.out.far (by simp;omega) _,HY2.out.far (by simp;omega) _,HW2.out.setCell (p:=⟨w2.heap.size,k+q,none⟩) hZ _⟩,by simp[intOf];omega⟩;rw[<-a2p];exact HZ2.out.put _ _
  ·
   obtain rfl:k=n:=by omega
   have hM2:=hM;rw[<-HXL.out] at hM2;have hV:=zh (hend.out ls hM2);have hT:=zh (a8n w2.heap.size (k+m) (k+m) ls wr (by have:=hM.len;have:=HXL.out;have:=HYL.out;omega) (by omega) hM.lt hZb);clear hM hM2 hZb hXb hYb;have HW:=zh hW;clear hW
   go_wp2_with (first
    | (go_at_call 268;refine hT.out.mono ?_;rintro e w3 ⟨rfl,hb3⟩)
    | (go_at_call 235;refine(a0v _ _).mono ?_;rintro e w4 ⟨rfl,rfl⟩))
   go_ret
   exact⟨a1l (by rw[hV.out]),HW.out.trans (hb3.mono HW.out.size)⟩
theorem c4y (n k:Nat) (h:n<256^k):Nt.le 256 (Nt.low n k)=n:=by
 rw[Nt.le_lb,Nt.lb_low];exact jQ h
theorem c2d (n k i:Nat) (h:i<(Nt.low n k).length):(Nt.low n k)[i]=Nt.dig n i:=by simp[Nt.low]
theorem a6o (a b:jW) (w:World) (ha:a.size<=100000) (hb:b.size<=100000) :
  Ca 150 #[Sg a,Sg b] w (Sg (Nt.E (Nt.V a*Nt.V b))):=by
 have ham:a.size<=maxLen:=by unfold maxLen;omega
 have hbm:b.size<=maxLen:=by unfold maxLen;omega
 obtain⟨n,hn⟩:=nM a.size;obtain⟨m,hm⟩:=nM b.size;have hxs:=c4y (Nt.V a) n (by rw[hn];exact Nt.V_lt a);have hys:=c4y (Nt.V b) m (by rw[hm];exact Nt.V_lt b);have hxl:=Nt.low_length (Nt.V a) n;have hyl:=Nt.low_length (Nt.V b) m;have hxg:=c2d (Nt.V a) n;have hyg:=c2d (Nt.V b) m;have hxb:=Nt.low_lt (Nt.V a) n;have hyb:=Nt.low_lt (Nt.V b) m;generalize Nt.low (Nt.V a) n=xs at *;generalize Nt.low (Nt.V b) m=ys at *
 have hend:Hid (∀ ls,Nt.MulOut 256 xs ys xs.length ls->Nt.lb ls=Nt.V a*Nt.V b):=fun ls h=>by
  have h1:=Nt.mul_end h
  rwa [Nt.le_lb,hxs,hys] at h1
 have HXL:=zh hxl;have HYL:=zh hyl;have HXB:=zh hxb;have HYB:=zh hyb;have HXG:=zh hxg;have HYG:=zh hyg;have HAT:=zh (fun i W=>a5x a i W ham);have HBT:=zh (fun i W=>(a5x b i W hbm).mono fun _ _ hh=>(show _/\_ from ⟨hh.1,hh.2.symm⟩));have hn1:n<=100000:=by omega
 have hm1:m<=100000:=by omega
 have hna:a.size<=n:=by omega
 have hna':n<=a.size:=by omega
 have hmb:b.size<=m:=by omega
 have hmb':m<=b.size:=by omega
 have hmk:=fun W=>a1n (P:=Tryz.prog) 23 3 .i64 8 Tryz.underlying23 Tryz.infoInt (n+m) (by omega) (by omega) W
 have e1:((a.size:Int)+(b.size:Int))=((n+m:Nat):Int):=by omega
 rw[<-e1] at hmk;have hst:=Nt.mul_start 256 (by omega) xs ys;rw[hxl,hyl] at hst;have ST:=zh hst;clear e1 hn hm hxs hys hxl hyl hxb hyb hxg hyg hst ha hb;go_enter Tryz.func150,Tryz.ntmps150
 go_wp2
 go_loopw [6] (fun i wr=>∃ (k:Nat) (ls:List Nat),k<=n/\i=I6 k/\Nt.MulOut 256 xs ys k ls/\Jz wr w.heap.size 3 (kV .i64 ls)/\Bl w wr) (fun i _=>n-(intOf i).toNat)
 case atStart=>exact⟨0,_,by omega,rfl,ST.out,Jz.new _ _ _,(Below.refl _ _).alloc (jC _) _⟩
 case round =>
  obtain⟨k,ls,hk,rfl,hM,hZb,hW⟩:=hrel;by_cases hlt:k<n
  ·
   have hkx:k<xs.length:=by have:=HXL.out;omega
   have hka:k<a.size:=by omega
   have hd:=HXB.out _ (List.getElem_mem hkx);obtain⟨d,hdq⟩:=nM (xs[k]'hkx);rw[<-hdq] at hd;have hat:=HAT.out k;have hdd:Nt.dig (Nt.V a) k=d:=by rw[hdq];exact(HXG.out k hkx).symm
   simp only[hdd] at hat;have HA1:=zh hat;have hin:=Nt.mul_in (by omega) d hM;have HDQ:=zh hdq;have HIN:=zh hin;have HZb:=zh hZb;have HW:=zh hW;clear hdq hin hM hZb hW hat hdd;go_wp2_with (go_at_call 192;refine(HA1.out _).mono ?_;rintro e w1 ⟨rfl,rfl⟩);obtain⟨wo,rfl⟩:=nM wr
   go_loopw [7,9] (fun c j wr=>∃ (q cc:Nat) (ls:List Nat),q<=m/\j=I6 q/\c=I6 (cc:Int)/\Nt.MulIn 256 xs ys k d q cc ls/\Jz wr w.heap.size 3 (kV .i64 ls)/\Bl w wr) (fun _ j _=>m-(intOf j).toNat)
   case atStart=>exact⟨0,0,_,by omega,rfl,rfl,HIN.out,HZb.out,HW.out⟩
   case round =>
    obtain⟨q,cc,ls',hq,rfl,rfl,hM,hZb,hW⟩:=hrel;have hcc:=hM.cb;by_cases hqm:q<m
    ·
     have hqy:q<ys.length:=by have:=HYL.out;omega
     have hqb:q<b.size:=by omega
     have hkq:k+q<ls'.length:=by have:=hM.len;have:=HXL.out;have:=HYL.out;omega
     have he:=HYB.out _ (List.getElem_mem hqy);have hl:=hM.lt _ (List.getElem_mem hkq);have cZ:wr.cell? ⟨w.heap.size,k+q,none⟩=some (I6 ((ls'[k+q]'hkq:Nat):Int)):=(hZb.cell _).trans (a0r _ _ _ hkq);have fZ:wr.frozen? ⟨w.heap.size,k+q,none⟩=false:=hZb.frozen _;have hsum:=Nt.mul_sum hd he hl hcc;have hstep:=fun t ht=>Nt.mul_step (t:=t) hM hd hkx hqy he ht
     have hbt:=HBT.out q;have hee:Nt.dig (Nt.V b) q=ys[q]'hqy:=(HYG.out q hqy).symm;simp only[hee] at hbt;clear hee;have HB1:=zh hbt;clear hbt;generalize ys[q]'hqy=e at he hsum hstep HB1;generalize ls'[k+q]'hkq=l at hl cZ hsum hstep;obtain⟨P,hP⟩:=nM (d*e);rw[<-hP] at hsum hstep;have hPI:(d:Int)*(e:Int)=(P:Int):=by rw[hP];simp
     have HS:=zh (hstep _ rfl);have HZ2:=zh hZb;have HW2:=zh hW;clear hP hstep hM hZb hW;simp only[Nat.reduceMul] at hsum;have g1:IntKind.i64.wrap ((k:Int)+(q:Int))=(k:Int)+(q:Int):=IntWalk.i64_in _ (by omega);have g7:(k:Int)+(q:Int)<(n:Int)+(m:Int):=by omega
     have g2:IntKind.i64.wrap (P:Int)=(P:Int):=IntWalk.i64_in _ (by omega);have g3:IntKind.i64.wrap ((l:Int)+(P:Int))=(l:Int)+(P:Int):=IntWalk.i64_in _ (by omega);have g4:IntKind.i64.wrap ((l:Int)+(P:Int)+(cc:Int))=(l:Int)+(P:Int)+(cc:Int):=IntWalk.i64_in _ (by omega);have g5:(0:Int)<=(k:Int)+(q:Int):=by omega
     have g6:((k:Int)+(q:Int)).toNat=k+q:=by omega
     have hmx : Tryz.prog.follows .mixedOrders=true:=by kernel_rfl
     go_wp2
     refine wp_region_still_lit hmx (by kernel_rfl) ?_
     repeat still_step
     still_call (HB1.out _)
     repeat still_step
     refine wpStill_nil ?_
     change Exit.then _ _ _ _ (World.drew _)
     have hand:=c4i (P+l+cc) (by omega);rw[show ((P+l+cc:Nat):Int)=(l:Int)+(P:Int)+(cc:Int) from by omega] at hand;obtain⟨z,hz⟩:=nM ((P+l+cc)%256);rw[<-hz] at hand;have hz256:z<256:=by omega
     have Q2:=zh hz;have Q1:=zh (show ((l:Int)+(P:Int)+(cc:Int))/256=(((P+l+cc)/256:Nat):Int) by omega);clear hz
     go_wp2
     rw[Q1.out];refine⟨⟨q+1,_,_,by omega,by go_num,rfl,HS.out,?_,(HW2.out.setCell (p:=⟨w.heap.size,k+q,none⟩) (jC _) _).drew⟩,by simp[intOf];omega⟩;rw[<-a2p,<-Q2.out];exact(HZ2.out.put _ _).drew
    ·
     obtain rfl:q=m:=by omega
     have hkq:k+q<ls'.length:=by have:=hM.len;have:=HXL.out;have:=HYL.out;omega
     have cZ:wr.cell? ⟨w.heap.size,k+q,none⟩=some (I6 ((ls'[k+q]'hkq:Nat):Int)):=(hZb.cell _).trans (a0r _ _ _ hkq);have fZ:wr.frozen? ⟨w.heap.size,k+q,none⟩=false:=hZb.frozen _
     have hout:Nt.MulOut 256 xs ys (k+1) (ls'.set (k+q) cc):=by
      have hM':=hM;rw[<-HYL.out] at hM' |-
      exact Nt.mul_out hM' hkx HDQ.out
     have HS:=zh hout;have HZ2:=zh hZb;have HW2:=zh hW;have hbe:b.size=q:=by omega
     have HBE:=zh hbe;have g1:(k:Int)+(b.size:Int)=(k:Int)+(q:Int):=by omega
     have g5:(0:Int)<=(k:Int)+(q:Int):=by omega
     have g6:((k:Int)+(q:Int)).toNat=k+q:=by omega
     have g7:(k:Int)+(q:Int)<(n:Int)+(q:Int):=by omega
     clear hout hM hZb hW hbe
     go_wp2
     refine⟨⟨k+1,_,by omega,by go_num,HS.out,?_,HW2.out.setCell (p:=⟨w.heap.size,k+q,none⟩) (jC _) _⟩,by simp[intOf];omega⟩;rw[<-a2p];exact HZ2.out.put _ _
  ·
   obtain rfl:k=n:=by omega
   have hM2:=hM;rw[<-HXL.out] at hM2;have hV:=zh (hend.out ls hM2);have hT:=zh (a5c w.heap.size (k+m) (k+m) ls wr (by have:=hM.len;have:=HXL.out;have:=HYL.out;omega) (by omega) hM.lt hZb.lt (fun j hj=>(hZb.cell j).trans (a0r _ _ _ hj)));clear hM hM2 hZb;have HW:=zh hW;clear hW;go_wp2_with (go_at_call 193;refine hT.out.mono ?_;rintro e w3 ⟨rfl,hb3⟩)
   go_ret
   exact⟨a1l (by rw[hV.out]),HW.out.trans (hb3.mono HW.out.size)⟩
theorem a2s {P:Program} {f:FuncId} {args:Array Value} {w0 w:World} {r:Ending} (hB:Bl w0 w) (h:Calls P f args w fun e w'=>e=r/\Bl w w') :
  Calls P f args w fun e w'=>e=r/\Bl w0 w' :=
 h.mono fun _ _ ⟨he,hb⟩=>⟨he,bT hB hb⟩
theorem f4f {n k:Nat} (h:n<256^k):(Nt.E n).size<=k:=Nt.enc_length_le h
theorem f2e {x y k l:Nat} (hx:x<256^k) (hy:y<256^l):x*y<256^(k+l):=by
 rw[Nat.pow_add];exact Nat.mul_lt_mul_of_le_of_lt (Nat.le_of_lt hx) hy (jO (by omega))
set_option maxHeartbeats 2000000
theorem Nt.V_byte (p:Nat) (hp:p<256):Nt.V ⟨#[UInt8.ofNat p]⟩=p:=by
 show Nt.val [UInt8.ofNat p]=p;rw[Nt.val_cons];simp[Nt.val_nil,UInt8.toNat_ofNat'];omega
theorem Nt.E_size_le {n m:Nat} (h:n<=m):(Nt.E n).size<=(Nt.E m).size:=Nt.enc_length_mono h
theorem Nt.E_size_lt {n m:Nat} (h:n<256^m):(Nt.E n).size<=m:=Nt.enc_length_le h
theorem Nt.E_byte_size (d p:Nat) (hp:p<256):(Nt.E (d*p)).size<=(Nt.E d).size+1:=Nt.E_size_lt (by
 have h1:=Nt.V_lt (Nt.E d);rw[Nt.V_E] at h1;generalize (Nt.E d).size=k at *;rw[jN]
 exact Nat.mul_lt_mul'' h1 hp)
theorem a8p {a b:Int} {x y:jW} (h:a=b) (h':x=y):jV (.tuple #[I6 a,Sg x])=.returned (.tuple #[I6 b,Sg y]):=by rw[h,h']
theorem b3b (n d:Nat) (w:World) (hd:0<d) (hn:n<256*d) (hs:(Nt.E n).size<=90000) (hds:(Nt.E d).size<=90000) :
  Ca 215 #[Sg (Nt.E n),Sg (Nt.E d)] w (.tuple #[I6 ((n/d:Nat):Int),Sg (Nt.E (n%d))]):=by
 have HS:=zh hs;have HD:=zh hds;have hm:=fun (p:Nat) (hp:p<256) W=>a6o (Nt.E d) ⟨#[UInt8.ofNat p]⟩ W (by omega) (by show 1<=100000;omega)
 simp only[Nt.V_E] at hm;have HMul:=zh (fun (p:Nat) (hp:p<256) W=>(by have h:=hm p hp W;rw[Nt.V_byte p hp] at h;exact h:Ca 150 #[Sg (Nt.E d),Sg ⟨#[UInt8.ofNat p]⟩] W (Sg (Nt.E (d*p)))));have hEP:∀ p,p<256->(Nt.E (d*p)).size<=90001:=fun p hp=>jG (Nt.E_byte_size d p hp) (by omega)
 have HEP:=zh hEP;have HCmp:=zh (fun (m p:Nat) (hm:(Nt.E m).size<=90000) (hp:(Nt.E p).size<=90001) W=>(by have h:=a6n (Nt.E m) (Nt.E p) W (by omega) (by omega);simp only[Nt.V_E] at h;exact h:Cw 227 #[Sg (Nt.E m),Sg (Nt.E p)] W (I6 (Nt.cmpZ m p))));have HSub:=zh (fun (m p:Nat) (hm:(Nt.E m).size<=90000) (hp:(Nt.E p).size<=90001) W=>(by have h:=b7v (Nt.E m) (Nt.E p) W (by omega) (by omega);simp only[Nt.V_E] at h;exact h:Ca 228 #[Sg (Nt.E m),Sg (Nt.E p)] W (Sg (Nt.E (m-p)))));clear hm hEP;have hc0:=HCmp.out n d HS.out (by have:=HD.out;omega);have hs2:=zh (fun m (h:m<=n)=>jG (Nt.E_size_le h) HS.out);clear hs hds;by_cases hlt:n<d
 ·
  have hr:Hid (n/d=0/\n%d=n):=⟨Nat.div_eq_of_lt hlt,jQ hlt⟩;have hz:Nt.cmpZ n d<0:=by unfold Nt.cmpZ;rw[if_pos hlt];omega
  generalize Nt.cmpZ n d=z at *;have HC0:=zh hc0;clear hc0 hlt hn;go_enter Tryz.func215,Tryz.ntmps215;go_wp2_with (go_at_call 227;refine(HC0.out _).mono ?_;rintro e w1 ⟨rfl,rfl⟩)
  go_ret2
  exact⟨a8p (by rw[hr.out.1];rfl) (by rw[hr.out.2]),Below.refl _ _⟩
 ·
  have hz:0<=Nt.cmpZ n d:=by unfold Nt.cmpZ;rw[if_neg hlt];split<;>omega
  generalize Nt.cmpZ n d=z at *;have HC0:=zh hc0;have HN:=zh hn;clear hc0 hlt hn;go_enter Tryz.func215,Tryz.ntmps215;go_wp2_with (go_at_call 227;refine(HC0.out _).mono ?_;rintro e w1 ⟨rfl,rfl⟩)
  go_loopw [0,6,7] (fun a q s wr=>∃ (j m q':Nat),j<=8/\a=Sg (Nt.E m)/\q=I6 (q':Int)/\s=I6 ((2^j/2:Nat):Int)/\q'*d+m=n/\m<2^j*d/\q'+2^j<=256/\Bl w wr) (fun _ _ s _=>(intOf s).toNat)
  case atStart=>exact⟨8,n,0,by omega,rfl,rfl,rfl,by omega,HN.out,by omega,Below.refl _ _⟩
  case round =>
   obtain⟨j,m,q,hj,rfl,rfl,rfl,hq,hm,hqp,hW⟩:=hrel;have hmn:m<=n:=by omega
   have hms:=hs2.out m hmn
   rcases j with _ | j
   ·
    have hf:Hid (n/d=q/\n%d=m):=by
     rw[Nat.pow_zero,Nat.one_mul] at hm;have hq':n=m+d*q:=by rw[jK];omega
     exact⟨by rw[hq',Nat.add_mul_div_left _ _ hd,Nat.div_eq_of_lt hm,Nat.zero_add],by rw[hq',Nat.add_mul_mod_self_left,jQ hm]⟩
    have e0:(2^0/2:Nat)=0:=rfl;clear hq hm;rw[e0]
    go_wp2
    go_ret2
    exact⟨a8p (by rw[<-hf.out.1];rfl) (by rw[hf.out.2]),hW⟩
   ·
    obtain⟨p,hp⟩:=nM (2^j);have e1:(2^(j+1)/2:Nat)=p:=by rw[jN];omega
    have e2:(2^(j+1):Nat)=2*p:=by rw[jN];omega
    rw[e1];rw[e2] at hm hqp;have hp0:0<p:=by rw[hp];exact Nat.two_pow_pos j
    have HP:=zh hp;have hps:=HEP.out p (by omega);have hcm:=HCmp.out m (d*p) hms hps;have hsb:=HSub.out m (d*p) hms hps;have hml:=HMul.out p (by omega);obtain⟨P,hPd⟩:=nM (d*p);rw[<-hPd] at hcm hsb hml;have hm2:m<2*P:=by rw[hPd];rw[jK d p,<-jL];exact hm
    have hqd:(q+p)*d=q*d+P:=by rw[Nat.add_mul,hPd,jK p d]
    have hpd:p*d=P:=by rw[hPd,jK]
    have HQD:=zh hqd;have HPD:=zh hpd;have HQ:=zh hq;clear hp e1 e2 hPd hqd hpd hq hm;have e3:((p:Int)).toNat=p:=by omega
    obtain⟨p2,hp2⟩:=nM (p/2)
    have hpt:IntKind.i64.wrap ((p:Int).tdiv 2)=(p2:Int):=by
     rw[Int.tdiv_eq_ediv_of_nonneg (by omega)];exact(IntWalk.i64_in _ (by omega)).trans (by omega)
    have HP2:=zh hp2;have hp2l:p2<p:=by omega
    clear hp2;by_cases hge:P<=m
    ·
     have hz2:0<=Nt.cmpZ m P:=by unfold Nt.cmpZ;rw[if_neg (by omega)];split<;>omega
     generalize Nt.cmpZ m P=z2 at *;have H1:=zh hcm;have H2:=zh hsb;have H3:=zh hml;clear hcm hsb hml
     go_wp2_with (first
      | (go_at_call 214;refine(a4e _ _ (by omega) (by omega)).mono ?_;rintro e w1 ⟨rfl,hb1⟩;rw[e3])
      | (go_at_call 150;refine(H3.out _).mono ?_;rintro e w2 ⟨rfl,hb2⟩)
      | (go_at_call 227;refine(H1.out _).mono ?_;rintro e w3 ⟨rfl,rfl⟩)
      | (go_at_call 228;refine(H2.out _).mono ?_;rintro e w4 ⟨rfl,hb4⟩))
     refine⟨⟨j,m-P,q+p,by omega,rfl,by go_num,by rw[<-HP.out];exact congrArg _ (by have:=HP2.out;omega),?_,?_,by rw[<-HP.out];omega,?_⟩,by simp[intOf];omega⟩
     ·
      have:=HQ.out;have:=HQD.out;omega
     ·
      rw[<-HP.out,HPD.out];omega
     ·
      have h1:=bT hW hb1;have h2:=bT h1 hb2;exact bT h2 hb4
    ·
     have hz2:Nt.cmpZ m P<0:=by unfold Nt.cmpZ;rw[if_pos (by omega)];omega
     generalize Nt.cmpZ m P=z2 at *;have H1:=zh hcm;have H3:=zh hml;clear hcm hsb hml
     go_wp2_with (first
      | (go_at_call 214;refine(a4e _ _ (by omega) (by omega)).mono ?_;rintro e w1 ⟨rfl,hb1⟩;rw[e3])
      | (go_at_call 150;refine(H3.out _).mono ?_;rintro e w2 ⟨rfl,hb2⟩)
      | (go_at_call 227;refine(H1.out _).mono ?_;rintro e w3 ⟨rfl,rfl⟩))
     refine⟨⟨j,m,q,by omega,rfl,rfl,by rw[<-HP.out];exact congrArg _ (by have:=HP2.out;omega),HQ.out,?_,by rw[<-HP.out];omega,?_⟩,by simp[intOf];omega⟩
     ·
      rw[<-HP.out,HPD.out];omega
     ·
      have h1:=bT hW hb1;exact bT h1 hb2
theorem Nt.V_append (x y:jW):Nt.V (x++y)=Nt.V x*256^y.size+Nt.V y:=by
 have h:(x++y).data.toList=x.data.toList++y.data.toList:=by simp
 show Nt.val (x++y).data.toList=_;rw[h,Nt.val_append];rfl
theorem Nt.extract_one (t:jW) (k:Nat) (h:k<t.size):t.extract k (k+1)=⟨#[t[k]'h]⟩:=by
 apply ByteArray.ext;rw[ByteArray.data_extract];apply Array.ext
 ·
  simp;have:t.data.size=t.size:=rfl;omega
 ·
  intro i h1 h2;simp at h2;subst h2;simp[ByteArray.getElem_eq_getElem_data]
theorem Nt.V_push (x:jW) (c:UInt8):Nt.V (x++⟨#[c]⟩)=Nt.V x*256+c.toNat:=by
 rw[Nt.V_append];show Nt.V x*256^1+Nt.val [c]=_;rw[Nt.val_cons];simp[Nt.val_nil]
theorem Nt.step_div (n d c:Nat) (hd:0<d):(n*256+c)/d=n/d*256+(n%d*256+c)/d/\(n*256+c)%d=(n%d*256+c)%d:=by
 have h:n*256+c=(n%d*256+c)+d*(n/d*256):=by
  have:=Nat.mod_add_div n d
  conv=>lhs;rw[<-this]
  rw[Nat.add_mul,jL];omega
 rw[h];exact⟨by rw[Nat.add_mul_div_left _ _ hd];omega,by rw[Nat.add_mul_mod_self_left]⟩
def a2y (n d:Nat):Value:=if d=0 then .tuple #[S0,S0,I6 5] else .tuple #[Sg (Nt.E (n/d)),Sg (Nt.E (n%d)),I6 0]
theorem a4g (a b:jW) (w:World) (ha:a.size<=80000) (hb:b.size<=80000) :
  Ca 191 #[Sg a,Sg b] w (a2y (Nt.V a) (Nt.V b)):=by
 obtain⟨d,hd⟩:=nM (Nt.V b);have HTb:=zh (fun w=>(hd ▸ a0t b w:Cw 119 #[Sg b] w (Sg (Nt.E d))));have hds:(Nt.E d).size<=80000:=by rw[hd];exact jG (Nt.E_size_V b) hb
 rw[<-hd];clear hd;by_cases h0:0<d
 ·
  obtain⟨t,ht⟩:=nM (Nt.E (Nt.V a));have hV:Hid (Nt.V t=Nt.V a):=by rw[ht,Hid,Nt.V_E]
  have HTa:=zh (fun w=>(ht ▸ a0t a w:Cw 119 #[Sg a] w (Sg t)));have hts:t.size<=80000:=by rw[ht];exact jG (Nt.E_size_V a) ha
  have hpos:0<(Nt.E d).size:=Nat.pos_of_ne_zero (fun hh=>by have:=Nt.E_nil d (by omega);omega);have hE:=a3e hpos
  have HDg:=zh (fun n (hn:n<256*d) W=>b3b n d W h0 hn (jG (Nt.E_size_le (show n<=d*256 by omega)) (by
   have h1:=Nt.V_lt (Nt.E d);rw[Nt.V_E] at h1;have h2:d*256<256^((Nt.E d).size+1):=by rw[jN];omega
   exact jG (Nt.E_size_lt h2) (by omega))) (by omega))
  have hES:∀ m,m<=d->(Nt.E m).size<=80000:=fun m hm=>jG (Nt.E_size_le hm) hds
  obtain⟨D,hD⟩:=nM (Nt.E d);rw[<-hD] at HTb HDg hE hpos hds;clear ht ha hb hD;go_enter Tryz.func191,Tryz.ntmps191
  go_wp2_with (first
   | (go_at_call_of 119 b;refine(HTb.out _).mono ?_;rintro e w1 ⟨rfl,rfl⟩)
   | (go_at_call_of 119 a;refine(HTa.out _).mono ?_;rintro e w1 ⟨rfl,rfl⟩))
  go_loopw [7,8,9] (fun q r i wr=>∃ (k:Nat) (s:jW),k<=t.size/\i=I6 k/\q=Sg s/\s.size=k/\Nt.V s=Nt.top t k/d/\r=Sg (Nt.E (Nt.top t k%d))/\Bl w wr) (fun _ _ i _=>t.size-(intOf i).toNat)
  case atStart=>exact⟨0,⟨#[]⟩,Nat.zero_le _,rfl,rfl,rfl,by rw[Nt.top_zero,Nat.zero_div];rfl,by rw[Nt.top_zero,Nat.zero_mod];rfl,Below.refl _ _⟩
  case round =>
   obtain⟨k,s,hk,rfl,rfl,hsk,hsv,rfl,hW⟩:=hrel;by_cases hlt:k<t.size
   ·
    have hs1:=Nt.top_step t k hlt;have hc:=UInt8.toNat_lt (t[k]'hlt)
    have hx:Nt.V (Nt.E (Nt.top t k%d)++t.extract k (k+1))=Nt.top t k%d*256+(t[k]'hlt).toNat:=by
     rw[Nt.extract_one t k hlt,Nt.V_push,Nt.V_E]
    have hst:=Nt.step_div (Nt.top t k) d (t[k]'hlt).toNat h0;rw[<-hs1] at hst;have hmod:=Nat.mod_lt (Nt.top t k) h0;have hes:=hES _ (Nat.le_of_lt hmod);obtain⟨x,hxx⟩:=nM (Nt.top t k%d*256+(t[k]'hlt).toNat);rw[<-hxx] at hx hst;have hxd:x<256*d:=by rw[hxx];omega
    have hdg:=HDg.out x hxd;have hqd:x/d<256:=Nat.div_lt_of_lt_mul (by rw[jK];exact hxd);obtain⟨qd,hqq⟩:=nM (x/d);obtain⟨rd,hrr⟩:=nM (x%d);rw[<-hqq,<-hrr] at hdg;rw[<-hqq,<-hrr] at hst;rw[<-hqq] at hqd;have e3:((qd:Int)).toNat=qd:=by omega
    obtain⟨r0,hr0⟩:=nM (Nt.top t k%d);rw[<-hr0] at hx hes |-
    have HX:=zh hx;have HDG:=zh hdg;have HSV:=zh hsv;have HST:=zh hst;clear hx hdg hst hsv hs1 hqq hrr hr0 hmod hxx hc
    go_wp2_with (first
     | (go_at_call 119;refine(a0t _ _).mono ?_;rintro e w1 ⟨rfl,rfl⟩;rw[HX.out])
     | (go_at_call 215;refine(HDG.out _).mono ?_;rintro e w2 ⟨rfl,hb2⟩)
     | (go_at_call 214;refine(a4e _ _ (by omega) (by omega)).mono ?_;rintro e w3 ⟨rfl,hb3⟩;rw[e3]))
    refine⟨⟨k+1,_,by omega,by go_num,rfl,?_,?_,?_,?_⟩,by simp[intOf];omega⟩
    ·
     have:(s++⟨#[UInt8.ofNat qd]⟩).size=s.size+1:=by rw[ByteArray.size_append];rfl
     omega
    ·
     rw[Nt.V_push,HST.out.1,HSV.out];have:(UInt8.ofNat qd).toNat=qd:=by rw[UInt8.toNat_ofNat'];exact jQ hqd
     rw[this]
    ·
     rw[HST.out.2]
    ·
     have h1:=bT hW hb2;exact bT h1 hb3
   ·
    obtain rfl:k=t.size:=by omega
    have hf:Hid (a2y (Nt.V a) d=.tuple #[Sg (Nt.E (Nt.V s)),Sg (Nt.E (Nt.top t t.size%d)),I6 0]):=by
     rw[Nt.top_all,hV.out] at hsv |-
     rw[hsv,Hid,a2y,if_neg (by omega)]
    clear hsv;go_wp2_with (go_at_call 119;refine(a0t _ _).mono ?_;rintro e w1 ⟨rfl,rfl⟩)
    go_ret3
    exact⟨congrArg jV hf.out.symm,hW⟩
 ·
  obtain rfl:d=0:=by omega
  have hE:(Nt.E 0).toList.isEmpty=true:=a3r (show ¬ 0<(Nt.E 0).size from by decide);obtain⟨D,hD⟩:=nM (Nt.E 0);rw[<-hD] at HTb hE;clear hD;go_enter Tryz.func191,Tryz.ntmps191;go_wp2_with (go_at_call 119;refine(HTb.out _).mono ?_;rintro e w1 ⟨rfl,rfl⟩)
  go_ret3
  exact⟨by rw[a2y,if_pos rfl];rfl,Below.refl _ _⟩
theorem b7x (a b:jW) (w:World) (ha:a.size<=80000) (hb:b.size<=80000) (h0:0<Nt.V b) :
  Ca 152 #[Sg a,Sg b] w (Sg (Nt.E (Nt.V a%Nt.V b))):=by
 have hd:a2y (Nt.V a) (Nt.V b)=.tuple #[Sg (Nt.E (Nt.V a/Nt.V b)),Sg (Nt.E (Nt.V a%Nt.V b)),I6 0]:=by rw[a2y,if_neg (by omega)]
 have H:=zh (fun w=>(hd ▸ a4g a b w ha hb:Ca 191 #[Sg a,Sg b] w (.tuple #[Sg (Nt.E (Nt.V a/Nt.V b)),Sg (Nt.E (Nt.V a%Nt.V b)),I6 0])));generalize Nt.V a/Nt.V b=x at *;generalize Nt.V a%Nt.V b=y at *;clear hd;go_enter Tryz.func152,Tryz.ntmps152;go_wp2_with (go_at_call 191;refine(H.out _).mono ?_;rintro e w1 ⟨rfl,hb1⟩)
 go_ret
 exact⟨rfl,hb1⟩
theorem a9m (a b:jW) (w:World) (ha:a.size<=80000) (hb:b.size<=80000) (h0:0<Nt.V b) :
  Ca 184 #[Sg a,Sg b] w (Sg (Nt.E (Nt.V a/Nt.V b))):=by
 have hd:a2y (Nt.V a) (Nt.V b)=.tuple #[Sg (Nt.E (Nt.V a/Nt.V b)),Sg (Nt.E (Nt.V a%Nt.V b)),I6 0]:=by rw[a2y,if_neg (by omega)]
 have H:=zh (fun w=>(hd ▸ a4g a b w ha hb:Ca 191 #[Sg a,Sg b] w (.tuple #[Sg (Nt.E (Nt.V a/Nt.V b)),Sg (Nt.E (Nt.V a%Nt.V b)),I6 0])));generalize Nt.V a/Nt.V b=x at *;generalize Nt.V a%Nt.V b=y at *;clear hd;go_enter Tryz.func184,Tryz.ntmps184;go_wp2_with (go_at_call 191;refine(H.out _).mono ?_;rintro e w1 ⟨rfl,hb1⟩)
 go_ret
 exact⟨rfl,hb1⟩
def Nt.GcdAt (N i m n:Nat):Prop:=(i=0/\m*n<2^N)\/(1<=i/\n<m/\m*n*2^(i-1)<2^N)
theorem Nt.gcd_step (N i m n:Nat) (hn:n≠0) (h:Nt.GcdAt N i m n):m%n<n/\Nat.gcd n (m%n)=Nat.gcd m n/\Nt.GcdAt N (i+1) n (m%n):=by
 have hlt:m%n<n:=Nat.mod_lt _ (by omega);refine⟨hlt,?_,Or.inr ⟨by omega,hlt,?_⟩⟩
 ·
  rw[Nat.gcd_comm n (m%n),<-Nat.gcd_rec,Nat.gcd_comm]
 ·
  rw[Nat.add_sub_cancel]
  rcases h with ⟨rfl,h⟩ | ⟨hi,XK,h⟩
  ·
   refine Nat.lt_of_le_of_lt ?_ h;rw[Nat.pow_zero,Nat.mul_one,jK m n];exact Nat.mul_le_mul (jC _) (Nat.mod_le _ _)
  ·
   refine Nat.lt_of_le_of_lt ?_ h;obtain⟨j,rfl⟩:∃ j,i=j+1:=⟨i-1,by omega⟩;rw[Nat.add_sub_cancel,jN]
   have h2:2*(m%n)<=m:=by
    have:=Nat.mod_add_div m n;have h3:1<=m/n:=Nat.div_pos (by omega) (by omega);have h4:n*1<=n*(m/n):=Nat.mul_le_mul (jC _) h3;omega
   have h5:n*(m%n)*2<=m*n:=by
    rw[jL,jK m n];exact Nat.mul_le_mul (jC _) (by omega)
   calc n*(m%n)*(2^j*2)=n*(m%n)*2*2^j:=by rw[jK (2^j) 2,<-jL]
    _<=m*n*2^j:=Nat.mul_le_mul h5 (jC _)
theorem Nt.gcd_few (N i m n:Nat) (hn:n≠0) (h:Nt.GcdAt N i m n):i<=N:=by
 rcases h with ⟨rfl,h⟩ | ⟨hi,XK,h⟩
 ·
  omega
 ·
  have h1:1<=m*n:=Nat.mul_pos (by omega) (by omega)
  have h2:2^(i-1)<2^N:=Nat.lt_of_le_of_lt (by
   have:=Nat.mul_le_mul h1 (jC (2^(i-1)))
   omega) h
  have:=(Nat.pow_lt_pow_iff_right (by omega:1<2)).1 h2;omega
theorem Nt.gcd_start (a b:jW):Nt.GcdAt (8*a.size+8*b.size) 0 (Nt.V a) (Nt.V b):=by
 refine Or.inl ⟨rfl,?_⟩;have h1:=Nt.V_lt a;have h2:=Nt.V_lt b;have e:∀ k,(256:Nat)^k=2^(8*k):=fun k=>by rw[Nat.pow_mul]
 rw[e] at h1 h2;have h3:=Nat.mul_lt_mul'' h1 h2
 rwa [<-Nat.pow_add] at h3
theorem a8q (n:Nat):(Nt.E n).toList.isEmpty=decide (n=0):=by
 by_cases h:n=0
 ·
  subst h;rw[a3r (show ¬ 0<(Nt.E 0).size from by decide)];rfl
 ·
  rw[a3e (Nat.pos_of_ne_zero (fun hh=>h (Nt.E_nil n (by omega))))];simp[h]
theorem a9n (a b:jW) (w:World) (ha:a.size<=1000) (hb:b.size<=1000) :
  Ca 120 #[Sg a,Sg b] w (Sg (Nt.E (Nat.gcd (Nt.V a) (Nt.V b)))):=by
 have hst:=Nt.gcd_start a b;have hsa:=jG (Nt.E_size_V a) ha;have hsb:=jG (Nt.E_size_V b) hb;have HTb:=zh (fun w=>a0t b w);have HTa:=zh (fun w=>a0t a w);obtain⟨x,hx⟩:=nM (Nt.V a);obtain⟨y,hy⟩:=nM (Nt.V b);rw[<-hx] at hst hsa HTa |-
 rw[<-hy] at hst hsb HTb |-
 obtain⟨N,hN⟩:=nM (8*a.size+8*b.size);rw[<-hN] at hst;have hN2:N<=16000:=by omega
 clear hx hy ha hb hN;obtain⟨g,hg⟩:=nM (Nat.gcd x y);rw[<-hg];have HST:=zh hst;have HG:=zh hg;clear hst hg;have HM:=zh (fun (m n:Nat) (hm:(Nt.E m).size<=1000) (hn:(Nt.E n).size<=1000) (h0:n≠0) W=>(by have h:=b7x (Nt.E m) (Nt.E n) W (by omega) (by omega) (by rw[Nt.V_E];omega);simp only[Nt.V_E] at h;exact h:Ca 152 #[Sg (Nt.E m),Sg (Nt.E n)] W (Sg (Nt.E (m%n)))));go_enter Tryz.func120,Tryz.ntmps120
 go_wp2_with (first
  | (go_at_call_of 119 b;refine(HTb.out _).mono ?_;rintro e w1 ⟨rfl,rfl⟩)
  | (go_at_call_of 119 a;refine(HTa.out _).mono ?_;rintro e w1 ⟨rfl,rfl⟩))
 go_loopw [0,1,5] (fun a b i wr=>∃ (k m n:Nat),k<=N+1/\i=I6 k/\a=Sg (Nt.E m)/\b=Sg (Nt.E n)/\Nt.GcdAt N k m n/\Nat.gcd m n=g/\(Nt.E m).size<=1000/\(Nt.E n).size<=1000/\Bl w wr) (fun _ _ i _=>N+1-(intOf i).toNat)
 case atStart=>exact⟨0,x,y,by omega,rfl,rfl,rfl,HST.out,HG.out.symm,by omega,by omega,Below.refl _ _⟩
 case round =>
  obtain⟨k,m,n,hk,rfl,rfl,rfl,hA,hgg,hms,hns,hW⟩:=hrel;have hE:=a8q n;by_cases h0:n=0
  ·
   simp only[h0,decide_true] at hE;have hf:Hid (g=m):=by rw[Hid,<-hgg,h0,Nat.gcd_zero_right]
   subst h0;clear hA hgg
   go_wp2
   go_ret
   exact⟨a1l (by rw[hf.out]),hW⟩
  ·
   have hfew:=Nt.gcd_few N k m n h0 hA;have hs:=Nt.gcd_step N k m n h0 hA;have hMod:=HM.out m n hms hns h0;have hls:=Nt.E_size_le (Nat.le_of_lt hs.1);simp only[h0,decide_false] at hE;rw[hgg] at hs;obtain⟨r,hr⟩:=nM (m%n);rw[<-hr] at hs hMod hls;have H1:=zh hMod;have H2:=zh hs;clear hMod hs hA hgg hr;go_wp2_with (go_at_call 152;refine(H1.out _).mono ?_;rintro e w2 ⟨rfl,hb2⟩);exact⟨⟨k+1,n,r,by omega,by go_num,rfl,rfl,H2.out.2.2,H2.out.2.1,by omega,by omega,bT hW hb2⟩,by simp[intOf];omega⟩
set_option maxHeartbeats 4000000
def a3s (v:Nat) (k:Int):Value :=
 if k<0 then .tuple #[S0,I6 2]
 else if 1024<(Nt.E (v^k.toNat)).size then .tuple #[S0,I6 9]
 else .tuple #[Sg (Nt.E (v^k.toNat)),I6 0]
theorem a9o (v:Nat) (k:Int) (h:k<0):a3s v k=.tuple #[S0,I6 2]:=if_pos h
theorem a6p (v:Nat) (k:Nat) (h:1024<(Nt.E (v^k)).size):a3s v (k:Int)=.tuple #[S0,I6 9]:=by
 rw[a3s,if_neg (by omega),if_pos (by simpa using h)]
theorem a2i (v:Nat) (k:Nat) (h:(Nt.E (v^k)).size<=1024):a3s v (k:Int)=.tuple #[Sg (Nt.E (v^k)),I6 0]:=by
 rw[a3s,if_neg (by omega),if_neg (by simpa using h)];simp
theorem E_one:Nt.E 1=⟨#[1]⟩:=by decide
theorem c4k (v:Nat) (h:v≠1):Nt.E v≠⟨#[1]⟩:=fun hh=>h (Nt.E_inj (hh.trans E_one.symm))
theorem b3c (v:Nat) (h:v≠1):((Nt.E v).toList == [1])=false:=by
 rw[jI,Nt.E_toList];have:Nt.enc v≠[1]:=fun hh=>c4k v h (by rw[Nt.E,hh])
 simpa using this
theorem b7y (v i k:Nat) (h:0<v) (hik:i<=k):v^i<=v^k:=jP h hik
theorem b7z (a:jW) (k:Int) (w:World) (ha:a.size<=1000) (hk:k<=9223372036854775806) :
  Ca 151 #[Sg a,I6 k] w (a3s (Nt.V a) k):=by
 have HT:=zh (fun w=>a0t a w);have hs:=jG (Nt.E_size_V a) ha;obtain⟨v,hv⟩:=nM (Nt.V a);rw[<-hv] at HT hs |-
 clear hv ha;by_cases hneg:k<0
 ·
  have hr:Hid (a3s v k=.tuple #[S0,I6 2]):=a9o v k hneg;go_enter Tryz.func151,Tryz.ntmps151
  go_wp2
  go_ret2
  exact⟨congrArg jV hr.out.symm,Below.refl _ _⟩
 ·
  obtain⟨n,rfl⟩:∃ n:Nat,k=n:=⟨k.toNat,by omega⟩;have hE:=a8q v;by_cases h0:n=0
  ·
   subst h0
   have hr:Hid (a3s v ((0:Nat):Int)=.tuple #[Sg ⟨#[1]⟩,I6 0]):=by
    rw[Hid,a2i v 0 (by rw[Nat.pow_zero];decide),Nat.pow_zero,E_one]
   go_enter Tryz.func151,Tryz.ntmps151;go_wp2_with (go_at_call 119;refine(HT.out _).mono ?_;rintro e w1 ⟨rfl,rfl⟩)
   all_goals (go_ret2;exact⟨congrArg jV hr.out.symm,Below.refl _ _⟩)
  ·
   by_cases hv1:v<=1
   ·
    have hp:v^n=v:=by
     rcases (by omega:v=0\/v=1) with rfl | rfl
     ·
      exact Nat.zero_pow (by omega)
     ·
      exact Nat.one_pow n
    have hr:Hid (a3s v (n:Int)=.tuple #[Sg (Nt.E v),I6 0]):=by
     rw[Hid,a2i v n (by rw[hp];exact jG (Nt.E_size_le hv1) (by decide)),hp]
    have hL:v≠0->Nt.E v=⟨#[1]⟩:=fun h=>by rw[show v=1 from by omega];exact E_one
    by_cases hz:v=0
    ·
     simp only[hz,decide_true] at hE;have hn0:(0:Int)<n:=by omega
     subst hz;clear hL hp;go_enter Tryz.func151,Tryz.ntmps151;go_wp2_with (go_at_call 119;refine(HT.out _).mono ?_;rintro e w1 ⟨rfl,rfl⟩)
     all_goals (go_ret2;exact⟨congrArg jV hr.out.symm,Below.refl _ _⟩)
    ·
     simp only[hz,decide_false] at hE;rw[hL hz] at hE hr HT;have hn0:(0:Int)<n:=by omega
     clear hL hp;go_enter Tryz.func151,Tryz.ntmps151;go_wp2_with (go_at_call 119;refine(HT.out _).mono ?_;rintro e w1 ⟨rfl,rfl⟩)
     all_goals (go_ret2;exact⟨congrArg jV hr.out.symm,Below.refl _ _⟩)
   ·
    have hE1:=b3c v (by omega);simp only[show ¬ v=0 from by omega,decide_false] at hE;have hn0:(0:Int)<n:=by omega
    have hn00:((n:Int)==0)=false:=by simp;omega
    have H00:=zh h0;clear h0;have HMul:=zh (fun (p:Nat) (hp:(Nt.E p).size<=1024) W=>(by have h:=a6o (Nt.E p) (Nt.E v) W (by omega) (by omega);simp only[Nt.V_E] at h;exact h:Ca 150 #[Sg (Nt.E p),Sg (Nt.E v)] W (Sg (Nt.E (p*v)))));obtain⟨A,hA⟩:=nM (Nt.E v);rw[<-hA] at HT HMul hE hE1 hs;have hv0:0<v:=by omega
    clear hv1 hA;go_enter Tryz.func151,Tryz.ntmps151;go_wp2_with (go_at_call 119;refine(HT.out _).mono ?_;rintro e w1 ⟨rfl,rfl⟩)
    go_loopw [6,7] (fun p i wr=>∃ j:Nat,j<=n/\i=I6 j/\p=Sg (Nt.E (v^j))/\(Nt.E (v^j)).size<=1024/\Bl w wr) (fun _ i _=>n-(intOf i).toNat)
    case atStart=>exact⟨0,by omega,rfl,by rw[Nat.pow_zero,E_one],by rw[Nat.pow_zero];decide,Below.refl _ _⟩
    case round =>
     obtain⟨j,hj,rfl,rfl,hps,hW⟩:=hrel;by_cases hlt:j<n
     ·
      have hml:=HMul.out _ hps;rw[<-jN] at hml;have H1:=zh hml;have hle:=Nt.E_size_le (b7y v (j+1) n hv0 hlt);have HO:=zh (a6p v n);clear hml;obtain⟨P,hP⟩:=nM (Nt.E (v^(j+1)));rw[<-hP] at H1 hle;have HP:=zh hP;clear hP;by_cases hbig:1024<P.size
      ·
       have hr:=zh (HO.out (by omega));go_wp2_with (go_at_call 150;refine(H1.out _).mono ?_;rintro e w2 ⟨rfl,hb2⟩)
       go_ret2
       exact⟨congrArg jV hr.out.symm,bT hW hb2⟩
      ·
       go_wp2_with (go_at_call 150;refine(H1.out _).mono ?_;rintro e w2 ⟨rfl,hb2⟩);exact⟨⟨j+1,by omega,by go_num,by rw[HP.out],by rw[<-HP.out];omega,bT hW hb2⟩,by simp[intOf];omega⟩
     ·
      obtain rfl:j=n:=by omega
      have hr:=zh (a2i v j hps)
      go_wp2
      go_ret2
      exact⟨congrArg jV hr.out.symm,hW⟩
theorem a4n:∀ (x:Nat),x<2^64->Lib.bitLen x=Nt.blen x:=by
 intro x
 induction x using Nat.strongRecOn with
 | ind x ih =>
  intro hx;by_cases h0:x=0
  ·
   subst h0;rfl
  ·
   rw[Lib.bitLen_half x h0 hx,Nt.blen_half h0,ih (x/2) (by omega) (by omega)];omega
theorem Nt.blen_bounds (x:Nat) (h:x≠0):2^(Nt.blen x-1)<=x/\x<2^Nt.blen x/\1<=Nt.blen x:=by
 rw[Nt.blen,if_neg h];exact⟨by rw[Nat.add_sub_cancel];exact Nat.log2_self_le h,Nat.lt_log2_self,by omega⟩
theorem Nt.pow256 (m:Nat):(256:Nat)^m=2^(8*m):=by rw[Nat.pow_mul]
theorem Nt.size_gt {x m:Nat} (h:256^m<=x):m<(Nt.E x).size:=by
 have h1:=Nt.V_lt (Nt.E x);rw[Nt.V_E] at h1;exact(Nat.pow_lt_pow_iff_right (by omega:1<256)).1 (Nat.lt_of_le_of_lt h h1)
theorem Nt.pow_big (v s n M:Nat) (hs:2^s<=v) (h:8*M<=n*s):M<(Nt.E (v^n)).size:=by
 apply Nt.size_gt;rw[Nt.pow256];refine jG (jP (by omega) (show 8*M<=s*n by rw[jK s n];omega)) ?_;rw[Nat.pow_mul];exact Nat.pow_le_pow_left hs n
theorem Nt.pow_fits (v s n j M:Nat) (hv:0<v) (hs:v<2^(s+1)) (h:2*(n*s)<8*M) (h1:1<=s) (hj:j<=n):(Nt.E (v^j)).size<=M:=by
 refine jG (Nt.E_size_le (jP hv hj)) (Nt.E_size_lt ?_);rw[Nt.pow256];have h2:n<=n*s:=Nat.le_mul_of_pos_right n h1
 rcases Nat.eq_zero_or_pos n with rfl | hn
 ·
  rw[Nat.pow_zero];exact Nat.one_lt_two_pow (by omega)
 ·
  refine jF (Nat.pow_lt_pow_left hs (by omega)) ?_;rw[<-Nat.pow_mul];apply jP (by omega);rw[jK,Nat.mul_add];omega
theorem Nt.half_step (n i:Nat):n/2^i=2*(n/2^(i+1))+n/2^i%2:=by
 rw[jN,<-jR];omega
theorem c2e (x:Int) (w:World) (h0:0<=x) (h1:x<=255) :
  Cw 276 #[.int .u64 x] w (I6 (Lib.bitLen x.toNat)):=by
 go_enter Tryz.func276,Tryz.ntmps276
 go_wp2
 go_ret
 refine⟨congrArg jV (congrArg (Value.int IntKind.i64) ?_),rfl⟩;rw[Lib.len8_of x h0 h1];have l:=Lib.bitLen_le8' x h0 h1;unfold wrap64;omega
theorem c2f (x:Int) (w:World) (h0:256<=x) (h1:x<=65535) :
  Cw 276 #[.int .u64 x] w (I6 (Lib.bitLen x.toNat)):=by
 have h2:x/256<=255:=by omega
 have h3:0<=x/256:=by omega
 have h4:x/256<(Lib.len8tab.size:Int):=by rw[Lib.len8tab_size];omega
 go_enter Tryz.func276,Tryz.ntmps276
 go_wp2
 go_ret
 refine⟨congrArg jV (congrArg (Value.int IntKind.i64) ?_),rfl⟩;rw[Lib.len8_of (x/256) h3 h2];have l:=Lib.bitLen_le8' (x/256) h3 h2;have e:(x/256).toNat=x.toNat/256:=by omega
 have s:=Lib.bitLen_shift8 x.toNat (by omega) (by omega);rw[e] at l |-
 unfold wrap64;omega
theorem c2g (x:Nat) (w:World) (hx:x<65536) :
  Cw 276 #[.int .u64 (x:Int)] w (I6 (Nt.blen x:Int)):=by
 rw[<-a4n x (by omega)];by_cases h:x<256
 ·
  exact c2e x w (by omega) (by omega)
 ·
  exact c2f x w (by omega) (by omega)
theorem c6p (x:Nat) (w:World) (hx:x<65536) :
  Cw 269 #[.int .u64 (x:Int)] w (I6 (Nt.blen x:Int)):=by
 have H:=zh (fun w=>c2g x w hx);generalize Nt.blen x=y at *;go_enter Tryz.func269,Tryz.ntmps269;go_wp2_with (go_at_call 276;refine(H.out _).mono ?_;rintro e w2 ⟨rfl,rfl⟩)
 go_ret
 exact⟨rfl,rfl⟩
theorem c6q (n i:Nat) (h:n<9223372036854775808):bits .and .i64 ((n:Int)/2^i) 1=((n/2^i%2:Nat):Int):=by
 have hle:=Nat.div_le_self n (2^i);have e:(n:Int)/2^i=((n/2^i:Nat):Int):=by simp
 rw[e];generalize n/2^i=y at *;have h1:=bits_mask .i64 63 (by decide) (fun m h0 h1=>by rw[IntKind.wrap_i64];omega) 1 (by decide) (y:Int) (by omega) (by omega);have e2:((2:Int)^1-1)=1:=by decide
 rw[e2] at h1;rw[h1];omega
theorem b8a (a:jW) (k:Int) (w:World) (ha:a.size<=1000) (hk:k<=9223372036854775806) :
  Ca 254 #[Sg a,I6 k] w (a3s (Nt.V a) k):=by
 have HT:=zh (fun w=>a0v a w);have hs:=jG (Nt.E_size_V a) ha;obtain⟨v,hv⟩:=nM (Nt.V a);rw[<-hv] at HT hs |-
 clear hv ha;by_cases hneg:k<0
 ·
  have hr:Hid (a3s v k=.tuple #[S0,I6 2]):=a9o v k hneg;go_enter Tryz.func254,Tryz.ntmps254
  go_wp2
  go_ret2
  exact⟨congrArg jV hr.out.symm,Below.refl _ _⟩
 ·
  obtain⟨n,rfl⟩:∃ n:Nat,k=n:=⟨k.toNat,by omega⟩;have HOf:=zh (fun w=>a8o 1 w (by omega));have HB:=zh (fun w=>(by have h:=a4f (Nt.E v) w (by omega);rw[Nt.V_E] at h;exact h:Cw 236 #[Sg (Nt.E v)] w (I6 (Nt.blen v:Int))));by_cases h0:n=0
  ·
   subst h0
   have hr:Hid (a3s v ((0:Nat):Int)=.tuple #[Sg (Nt.E 1),I6 0]):=by
    rw[Hid,a2i v 0 (by rw[Nat.pow_zero];decide),Nat.pow_zero]
   go_enter Tryz.func254,Tryz.ntmps254
   go_wp2_with (first
    | (go_at_call 235;refine(HT.out _).mono ?_;rintro e w1 ⟨rfl,rfl⟩)
    | (go_at_call 253;refine(HOf.out _).mono ?_;rintro e w2 ⟨rfl,hb2⟩))
   go_ret2
   exact⟨congrArg jV hr.out.symm,hb2⟩
  ·
   have hn0:(0:Int)<n:=by omega
   have hn00:((n:Int)==0)=false:=by simp;omega
   by_cases hv1:v<=1
   ·
    have hp:v^n=v:=by
     rcases (by omega:v=0\/v=1) with rfl | rfl
     ·
      exact Nat.zero_pow (by omega)
     ·
      exact Nat.one_pow n
    have hr:Hid (a3s v (n:Int)=.tuple #[Sg (Nt.E v),I6 0]):=by
     rw[Hid,a2i v n (by rw[hp];exact jG (Nt.E_size_le hv1) (by decide)),hp]
    have hb:Nt.blen v<=1:=by
     rcases (by omega:v=0\/v=1) with rfl | rfl<;>decide
    generalize Nt.blen v=y at *;have hb2:(y:Int)-1<=0:=by omega
    generalize Nt.E v=A at *;have H00:=zh h0;clear hv1 hp h0;go_enter Tryz.func254,Tryz.ntmps254
    go_wp2_with (first
     | (go_at_call 235;refine(HT.out _).mono ?_;rintro e w1 ⟨rfl,rfl⟩)
     | (go_at_call 236;refine(HB.out _).mono ?_;rintro e w2 ⟨rfl,rfl⟩))
    go_ret2
    exact⟨congrArg jV hr.out.symm,Below.refl _ _⟩
   ·
    have hbb:=Nt.blen_bounds v (by omega)
    have hbl:Nt.blen v<=8001:=by
     have h1:=Nt.V_lt (Nt.E v);rw[Nt.V_E,Nt.pow256] at h1;have h2:=(Nat.pow_lt_pow_iff_right (by omega:1<2)).1 (Nat.lt_of_le_of_lt hbb.1 h1);omega
    obtain⟨s,hs1⟩:∃ s,Nt.blen v=s+1:=⟨Nt.blen v-1,by omega⟩;rw[hs1,Nat.add_sub_cancel] at hbb
    have hsp:1<=s:=by
     rcases Nat.eq_zero_or_pos s with rfl | h
     ·
      have:=hbb.2.1;simp at this;omega
     ·
      exact h
    rw[hs1] at HB hbl;have g1:IntKind.i64.wrap (((s+1:Nat):Int)-1)=(s:Int):=(IntWalk.i64_in _ (by omega)).trans (by omega)
    have g2:IntKind.i64.wrap ((8191:Int).tdiv (s:Int))=((8191/s:Nat):Int):=by
     rw[Int.tdiv_eq_ediv_of_nonneg (by omega)];have h3:(8191:Int)/(s:Int)=((8191/s:Nat):Int):=by simp
     have h4:=Nat.div_le_self 8191 s;rw[h3];generalize 8191/s=t at h4 |-
     exact IntWalk.i64_in _ (by omega)
    have hsn:((s:Int)==0)=false:=by simp;omega
    obtain⟨t,ht⟩:=nM (8191/s);rw[<-ht] at g2;have hdm:=Nat.mod_add_div 8191 s;have hml:=Nat.mod_lt 8191 (show s > 0 from hsp);rw[<-ht] at hdm;have H00:=zh h0;clear h0 hs1 ht;by_cases hlong:t<n
    ·
     have hr:Hid (a3s v (n:Int)=.tuple #[S0,I6 9]):=a6p v n (Nt.pow_big v s n 1024 hbb.1 (by
      have h4:(t+1)*s<=n*s:=Nat.mul_le_mul hlong (jC _);rw[Nat.add_mul,jK t s] at h4
      omega))
     have hbb':=zh hbb;clear hbb hdm hml;generalize Nt.E v=A at *;go_enter Tryz.func254,Tryz.ntmps254
     go_wp2_with (first
      | (go_at_call 235;refine(HT.out _).mono ?_;rintro e w1 ⟨rfl,rfl⟩)
      | (go_at_call 236;refine(HB.out _).mono ?_;rintro e w2 ⟨rfl,rfl⟩))
     go_ret2
     exact⟨congrArg jV hr.out.symm,Below.refl _ _⟩
    ·
     have hns:n*s<=8191:=by
      have h4:n*s<=t*s:=Nat.mul_le_mul (by omega) (jC _);rw[jK t s] at h4;omega
     have hn2:n<=8191:=jG (Nat.le_mul_of_pos_right n hsp) hns;have HSZ:=zh (fun j (hj:j<=n)=>Nt.pow_fits v s n j 2048 (by omega) hbb.2.1 (by omega) hsp hj);have HL:=zh (fun w=>c6p n w (by omega));have hnb:=Nt.blen_bounds n (by omega);obtain⟨L,hL⟩:=nM (Nt.blen n);rw[<-hL] at HL hnb
     have hL2:L<=14:=by
      have h5:=(Nat.pow_lt_pow_iff_right (by omega:1<2)).1 (Nat.lt_of_le_of_lt hnb.1 (show n<2^13 by omega));omega
     have HM:=zh (fun (p q:Nat) (hp:(Nt.E p).size<=2048) (hq:(Nt.E q).size<=2048) W=>(by have h:=a9l (Nt.E p) (Nt.E q) W (by omega) (by omega);simp only[Nt.V_E] at h;exact h:Ca 267 #[Sg (Nt.E p),Sg (Nt.E q)] W (Sg (Nt.E (p*q)))));have hz0:n/2^L=0:=Nat.div_eq_of_lt hnb.2.1;have HZ:=zh hz0;have HNB:=zh hnb;have HBB:=zh hbb;clear hbb hdm hml hnb hL hz0 hns;go_enter Tryz.func254,Tryz.ntmps254
     go_wp2_with (first
      | (go_at_call 235;refine(HT.out _).mono ?_;rintro e w1 ⟨rfl,rfl⟩)
      | (go_at_call 253;refine(HOf.out _).mono ?_;rintro e w2 ⟨rfl,hb2⟩)
      | (go_at_call 269;refine(HL.out _).mono ?_;rintro e w2 ⟨rfl,rfl⟩)
      | (go_at_call 236;refine(HB.out _).mono ?_;rintro e w2 ⟨rfl,rfl⟩))
     go_loopw [7,8] (fun p i wr=>∃ j:Nat,j<=L/\i=I6 ((j:Int)-1)/\p=Sg (Nt.E (v^(n/2^j)))/\Bl w wr) (fun _ i _=>(intOf i+1).toNat)
     case atStart=>exact⟨L,by omega,by go_num,by rw[HZ.out,Nat.pow_zero],by assumption⟩
     case round =>
      obtain⟨j,hj,rfl,rfl,hW⟩:=hrel
      rcases j with _ | i
      ·
       have hps:=HSZ.out n (jC _);rw[Nat.pow_zero,Nat.div_one];have e0:((0:Nat):Int)-1=-1:=rfl;rw[e0];have HO:=zh (a6p v n);have HF:=zh (a2i v n);obtain⟨P,hP⟩:=nM (Nt.E (v^n));rw[<-hP] at HO HF hps |-
       clear hP;by_cases hbig:1024<P.size
       ·
        have hr:=zh (HO.out hbig)
        go_wp2
        go_ret2
        exact⟨congrArg jV hr.out.symm,hW⟩
       ·
        have hr:=zh (HF.out (by omega))
        go_wp2
        go_ret2
        exact⟨congrArg jV hr.out.symm,hW⟩
      ·
       rw[show ((i+1:Nat):Int)-1=(i:Int) from by omega];have hst:=Nt.half_step n i;have hm:=Nat.mod_lt (n/2^i) (show 2 > 0 by omega);have hle:=Nat.div_le_self n (2^i);obtain⟨m,hm'⟩:∃ m,m=n/2^(i+1):=⟨_,rfl⟩;obtain⟨x,hx⟩:=nM (n/2^i);rw[<-hm',<-hx] at hst;rw[<-hx] at hm hle;have hpm:=HSZ.out m (by omega);rw[<-hm'];have hand:=c6q n i (by omega);rw[<-hx] at hand;have HX:=zh hx;clear hx hm';by_cases hb:x%2=1
       ·
        have h1:=HM.out (v^m) (v^m) hpm hpm;have h2:=HM.out (v^m*v^m) v (by rw[<-Nat.pow_add];exact HSZ.out _ (by omega)) (by have:=HSZ.out 1 (by omega);rwa [Nat.pow_one] at this);have e1:v^m*v^m*v=v^x:=by rw[<-Nat.pow_add,<-jN];congr 1;omega
        rw[e1] at h2;have H1:=zh h1;have H2:=zh h2;rw[hb] at hand;clear h1 h2 e1 hst
        go_wp2_with (first
         | (go_at_call_of 267 (Nt.E (v^m));refine(H1.out _).mono ?_;rintro e w2 ⟨rfl,hb2⟩)
         | (go_at_call 267;refine(H2.out _).mono ?_;rintro e w3 ⟨rfl,hb3⟩))
        all_goals (have hw1:=bT hW hb2)
        exact⟨⟨i,by omega,by go_num,by rw[<-HX.out],bT hw1 hb3⟩,by simp[intOf]⟩
       ·
        have h1:=HM.out (v^m) (v^m) hpm hpm;have e1:v^m*v^m=v^x:=by rw[<-Nat.pow_add];congr 1;omega
        rw[e1] at h1;have H1:=zh h1;rw[show x%2=0 from by omega] at hand;clear h1 e1 hst;go_wp2_with (go_at_call 267;refine(H1.out _).mono ?_;rintro e w2 ⟨rfl,hb2⟩);exact⟨⟨i,by omega,by go_num,by rw[<-HX.out],bT hW hb2⟩,by simp[intOf]⟩
def a5d (v:Nat) (k:Int):Nat:=if k<0 then v else v/2^k.toNat
theorem Nt.V_take (s:jW) (m:Nat):Nt.V (s.extract 0 m)=Nt.V s/256^(s.size-m):=by
 have e:(s.extract 0 m).data.toList=s.data.toList.take m:=by
  rw[ByteArray.data_extract,Array.toList_extract];simp[List.extract]
 have e2:s.data.toList=s.data.toList.take m++s.data.toList.drop m:=(List.take_append_drop _ _).symm;have hl:(s.data.toList.drop m).length=s.size-m:=by rw[List.length_drop];rfl
 show Nt.val (s.extract 0 m).data.toList=Nt.val s.data.toList/256^(s.size-m);rw[e]
 conv=>rhs;rw[e2]
 rw[Nt.val_append,hl];have hlt:=Nt.val_lt (s.data.toList.drop m);rw[hl] at hlt;rw[jK,Nat.mul_add_div (jO (by omega)),Nat.div_eq_of_lt hlt,Nat.add_zero]
theorem Nt.two_split (k:Nat):(2:Nat)^k=256^(k/8)*2^(k%8):=by
 rw[Nt.pow256,<-Nat.pow_add];congr 1;omega
def Nt.IsRoot (r v:Nat):Prop:=r*r<=v/\v<(r+1)*(r+1)
theorem Nt.IsRoot.le {r s v:Nat} (h:Nt.IsRoot r v) (h':Nt.IsRoot s v):r<=s:=by
 rcases Nat.lt_or_ge s r with hlt | hge
 ·
  have:=Nat.mul_le_mul (show s+1<=r from hlt) (show s+1<=r from hlt);have:=h.1;have:=h'.2;omega
 ·
  exact hge
theorem Nt.sq_size (x:Nat):(Nt.E (x*x)).size<=2*(Nt.E x).size:=Nt.E_size_lt (by
 have h1:=Nt.V_lt (Nt.E x);rw[Nt.V_E] at h1;rw[show 2*(Nt.E x).size=(Nt.E x).size+(Nt.E x).size from by omega,Nat.pow_add]
 exact Nat.mul_lt_mul'' h1 h1)
set_option maxHeartbeats 2000000
theorem Nt.blen_le_size (v:Nat):Nt.blen v<=8*(Nt.E v).size:=by
 by_cases h:v=0
 ·
  subst h;exact Nat.zero_le _
 ·
  have h1:=Nt.blen_bounds v h;have h2:=Nt.V_lt (Nt.E v);rw[Nt.V_E,Nt.pow256] at h2;have h3:=(Nat.pow_lt_pow_iff_right (by omega:1<2)).1 (Nat.lt_of_le_of_lt h1.1 h2);omega
theorem Nt.lt_blen (v:Nat):v<2^Nt.blen v:=by
 by_cases h:v=0
 ·
  subst h;decide
 ·
  exact(Nt.blen_bounds v h).2.1
theorem Nt.shr_byte (u m k r:Nat) (hk:k<m) (hr:r<8):(u/256^(m-k)%256*256+u/256^(m-(k+1))%256)/2^r%256=Nt.dig (u/2^r) (m-1-k):=by
 have e1:m-k=m-(k+1)+1:=by omega
 have e2:m-1-k=m-(k+1):=by omega
 rw[e1,e2,jN];unfold Nt.dig;rw[jR u (2^r),jK (2^r),<-jR u,<-jR u];generalize u/256^(m-(k+1))=x;have h:x/256%256*256+x%256=x%65536:=by omega
 rw[h]
 rcases (by omega:r=0\/r=1\/r=2\/r=3\/r=4\/r=5\/r=6\/r=7) with rfl | rfl | rfl | rfl | rfl | rfl | rfl | rfl<;>simp<;>omega
theorem b8b (a:jW) (k:Int) (w:World) (ha:a.size<=100000) (hk:k<=9223372036854775807) :
  Ca 252 #[Sg a,I6 k] w (Sg (Nt.E (a5d (Nt.V a) k))):=by
 have HT:=zh (fun w=>a0v a w);have hs:=jG (Nt.E_size_V a) ha;obtain⟨v,hv⟩:=nM (Nt.V a);rw[<-hv] at HT hs |-
 clear hv ha;by_cases hneg:k<=0
 ·
  have hr:Hid (a5d v k=v):=by
   rcases (by omega:k<0\/k=0) with h | rfl
   ·
    exact if_pos h
   ·
    rw[Hid,a5d,if_neg (by omega)];simp
  go_enter Tryz.func252,Tryz.ntmps252;go_wp2_with (go_at_call 235;refine(HT.out _).mono ?_;rintro e w1 ⟨rfl,rfl⟩)
  go_ret
  exact⟨a1l (by rw[hr.out]),Below.refl _ _⟩
 ·
  obtain⟨n,rfl⟩:∃ n:Nat,k=n:=⟨k.toNat,by omega⟩;have HB:=zh (fun w=>(by have h:=a4f (Nt.E v) w (by omega);rw[Nt.V_E] at h;exact h:Cw 236 #[Sg (Nt.E v)] w (I6 (Nt.blen v:Int))));have hbs:=Nt.blen_le_size v;have htk:=Nt.V_take (Nt.E v);rw[Nt.V_E] at htk;have hlb:=Nt.lt_blen v
  have hr:a5d v (n:Int)=v/256^(n/8)/2^(n%8):=by
   rw[a5d,if_neg (by omega),Int.toNat_natCast,Nt.two_split n,jR]
  obtain⟨A,hA⟩:=nM (Nt.E v);rw[<-hA] at HT HB hs hbs htk;generalize Nt.blen v=L at *;clear hA;by_cases hbig:L<=n
  ·
   have hr0:Hid (Nt.E (a5d v (n:Int))=⟨#[]⟩):=by
    rw[Hid,a5d,if_neg (by omega),Int.toNat_natCast,Nat.div_eq_of_lt (jF hlb (jP (by omega) hbig))];rfl
   clear hr htk hlb;go_enter Tryz.func252,Tryz.ntmps252
   go_wp2_with (first
    | (go_at_call 235;refine(HT.out _).mono ?_;rintro e w1 ⟨rfl,rfl⟩)
    | (go_at_call 236;refine(HB.out _).mono ?_;rintro e w1 ⟨rfl,rfl⟩))
   go_ret
   exact⟨a1l (by rw[hr0.out]),Below.refl _ _⟩
  ·
   have hq:n/8<A.size:=by omega
   have hm:Nt.V (A.extract 0 (A.size-n/8))=v/256^(n/8):=by
    rw[htk];congr 2;omega
   have hxs:(A.extract 0 (A.size-n/8)).size=A.size-n/8:=by simp
   rw[<-hm] at hr;obtain⟨t,ht⟩:=nM (A.extract 0 (A.size-n/8));rw[<-ht] at hr hxs;have HX:=zh ht;have HR:=zh hr;have hts:t.size<=100000:=by omega
   have hmk:=fun W=>a1n (P:=Tryz.prog) 130 5 .u8 1 Tryz.underlying130 Tryz.infoU8 (A.size-n/8) (by omega) (by omega) W
   clear ht hr htk hlb hm;have HS:=zh hxs;clear hxs;go_enter Tryz.func252,Tryz.ntmps252
   go_wp2_with (first
    | (go_at_call 235;refine(HT.out _).mono ?_;rintro e w1 ⟨rfl,rfl⟩)
    | (go_at_call 236;refine(HB.out _).mono ?_;rintro e w1 ⟨rfl,rfl⟩))
   rw[<-HX.out,<-HS.out]
   go_loopw [6,30] (fun c i wr=>∃ k:Nat,k<=t.size/\i=I6 k/\c=.int .u64 ((Nt.top t k%256:Nat):Int)/\Jz wr w.heap.size 5 (kV .u8 (Nt.upTo (Nt.V t/2^(n%8)) t.size k))/\Bl w wr) (fun _ i _=>t.size-(intOf i).toNat)
   case atStart=>exact⟨0,by omega,rfl,by rw[Nt.top_zero];rfl,by rw[Nt.upTo_zero];exact Jz.new _ _ _,(Below.refl _ _).alloc (jC _) _⟩
   case round =>
    obtain⟨k,hk,rfl,rfl,hB,hW⟩:=hrel;by_cases hlt:k<t.size
    ·
     have hs1:=Nt.top_step t k hlt;have hd:=UInt8.toNat_lt (t[k]'hlt);have hsh:=Nt.shr_byte (Nt.V t) t.size k (n%8) hlt (by omega);have etop:Nt.V t/256^(t.size-k)=Nt.top t k:=rfl;have etop1:Nt.V t/256^(t.size-(k+1))=Nt.top t (k+1):=rfl;rw[etop,etop1] at hsh;have hx:Nt.top t (k+1)%256=(t[k]'hlt).toNat:=by rw[hs1];omega
     rw[hx] at hsh;have HX1:=zh hx;have ho:=c8h (Nt.top t k%256) (t[k]'hlt).toNat (by omega) hd;obtain⟨x,hxx⟩:=nM (Nt.top t k%256);rw[<-hxx] at hsh ho |-
     have hx256:x<256:=by omega
     have hlen:k<(Nt.upTo (Nt.V t/2^(n%8)) t.size k).length:=by rw[Nt.upTo_length _ _ _ hk];exact hlt
     have hc2:wr.cell? ⟨w.heap.size,k,none⟩=some (.int .u8 (((Nt.upTo (Nt.V t/2^(n%8)) t.size k)[k]'hlen:Nat):Int)):=(hB.cell _).trans (a0r _ _ _ hlen);have hf2:wr.frozen? ⟨w.heap.size,k,none⟩=false:=hB.frozen _;have HSH:=zh hsh;clear hsh hs1 hx hxx etop etop1;rw[c4x (by omega) (by omega)] at ho;have hand:=c1y (x*256+(t[k]'hlt).toNat) (by omega);rw[show (x*256+(t[k]'hlt).toNat)%256=(t[k]'hlt).toNat from by omega] at hand;have HO:=zh ho;have HN:=zh hand;clear ho hand
     go_wp2
     rw[HO.out,HN.out];refine⟨⟨k+1,by omega,by go_num,by rw[HX1.out],?_,hW.setCell (p:=⟨w.heap.size,k,none⟩) (jC _) _⟩,by simp[intOf];omega⟩
     have e:((x*256+(t[k]'hlt).toNat:Nat):Int)/2^(n%8)%256=((Nt.dig (Nt.V t/2^(n%8)) (t.size-1-k):Nat):Int):=by
      rw[<-HSH.out];simp
     rw[e,<-Nt.upTo_set _ t.size k _ hlt rfl,<-a2p];exact hB.put _ _
    ·
     obtain rfl:k=t.size:=by omega
     have hT:=a4x (P:=Tryz.prog) 130 9 5 Tryz.underlying130 Tryz.underlying5 Tryz.underlying9 w.heap.size t.size t.size _ (Nt.upTo_length (Nt.V t/2^(n%8)) t.size t.size hk) wr hB;rw[Nt.upTo_all] at hT
     have hf:Hid (Nt.E (Nt.V ⟨((Nt.digs (Nt.V t/2^(n%8)) t.size).map UInt8.ofNat).toArray⟩)=Nt.E (a5d v (n:Int))):=by
      rw[Hid,Nt.V_digs_lt (Nat.lt_of_le_of_lt (Nat.div_le_self _ _) (Nt.V_lt t)),HR.out]
     go_wp2_with (go_at_call 235;refine(a0v _ _).mono ?_;rintro e w1 ⟨rfl,rfl⟩)
     go_ret
     exact⟨a1l (by rw[hf.out]),hW⟩
