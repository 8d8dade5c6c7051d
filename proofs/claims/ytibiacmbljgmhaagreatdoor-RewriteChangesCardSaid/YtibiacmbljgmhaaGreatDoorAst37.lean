import Derived.Test.YtibiacmbljgmhaaGreatDoorAst27
set_option maxHeartbeats 16000000
set_option maxRecDepth 100000
namespace Go.Proofs.YtibiacmbljgmhaaGreatDoor
open Go.RowKit Go.Shelf
set_option linter.all false
theorem c3a {N M:List Nd} {A B:List Int} (h : ¬ (N.length=M.length/\A.length=B.length)):sameB N M A B=false:=by
 unfold sameB;by_cases h1:N=M
 ·
  have:A≠B:=fun e=>h ⟨by rw[h1],by rw[e]⟩
  rw[jE this,Bool.and_false]
 ·
  rw[b9c h1];rfl
theorem b4c (u v u2 v2:Value) (N M:List Nd) (A B:List Int) (w:World) (hN:NodesAt w u N) (hA:IntsAt w v A) (hM:NodesAt w u2 M) (hB:IntsAt w v2 B) (h1:N.length<=1000) (h2:A.length<=1000) (h3:M.length<=1000) (h4:B.length<=1000) :
  Ca 11 #[.agg #[u,v],.agg #[u2,v2]] w (Bv (sameB N M A B)):=by
 have JY:=Qw;obtain⟨K19,hz19,HK19⟩:=Y9;obtain⟨bn,cn,rfl,hN2⟩:=hN.slice;obtain⟨bm,cm,rfl,hM2⟩:=hM.slice;obtain⟨ba,ca,rfl,hA2⟩:=hA.slice;obtain⟨bb,cb,rfl,hB2⟩:=hB.slice;have HNN:=zh hN2;have HMM:=zh hM2;have HAA:=zh hA2;have HBB:=zh hB2;obtain⟨R,hR⟩:=nM (sameB N M A B);rw[<-hR];have HLEN:Hid (¬ (N.length=M.length/\A.length=B.length)->R=false):=fun h=>hR.trans (c3a h)
 have HNO1:Hid (N≠M->R=false):=fun h=>hR.trans (by unfold sameB;rw[b9c h];rfl)
 have HNO2:Hid (A≠B->R=false):=fun h=>hR.trans (by unfold sameB;rw[jE h,Bool.and_false])
 have HYES:Hid (N=M->A=B->R=true):=fun h1 h2=>hR.trans (by unfold sameB;rw[b3x h1,jD h2];rfl)
 have HGN:Hid (∀ k,k<N.length->∃ n,N[k]?=some n):=fun k h=>⟨_,jH h⟩
 have HGM:Hid (∀ k,k<M.length->∃ n,M[k]?=some n):=fun k h=>⟨_,jH h⟩
 have HGA:=zh (fun k (h:k<A.length)=>a4r h);have HGB:=zh (fun k (h:k<B.length)=>a4r h);have HALN:=zh (fun (hl:N.length=M.length) h=>a5s (N:=N) (M:=M) hl h);have HALA:=zh (fun (hl:A.length=B.length) h=>a5s (N:=A) (M:=B) hl h);have hln:N.length=N.length:=rfl;obtain⟨LN',hLN⟩:∃ z,z=N.length:=⟨_,rfl⟩;obtain⟨LM,hLM⟩:=nM M.length;obtain⟨LA,hLA⟩:=nM A.length;obtain⟨LB,hLB⟩:=nM B.length;rw[<-hLN,<-hLM,<-hLA,<-hLB] at HLEN |-
 rw[<-hLN] at HGN h1;rw[<-hLM] at HGM h3;rw[<-hLA] at HAA HGA h2;rw[<-hLB] at HBB HGB h4;rw[<-hLN,<-hLM] at HALN;rw[<-hLA,<-hLB] at HALA;have J6:=zh hLN;have QZ:=zh hLA;clear hR hN hA hM hB hN2 hM2 hA2 hB2 hLN hLM hLA hLB hln;by_cases hl1:LN'=LM
 rotate_left 1
 ·
  have HR:=zh (HLEN.out (fun h=>hl1 h.1));have g1:((LN':Int) != (LM:Int))=true:=by simp;omega
  clear hl1;go_enter Tryz.func11,Tryz.ntmps11
  go_upto_region 1 with fail
  obtain⟨s1,F,G,j6,qY,hdG,j8,zF,zG⟩:=YJ w (.cells #[.slice bn LN' cn,.slice ba LA ca] 25) (.cells #[.slice bm LM cm,.slice bb LB cb] 25);have hN:=bx1 (b:=F) j6 qY;have qV:=hN 0 _ rfl;have J1:=hN 1 _ rfl;clear hN;have hN:=Qz (b:=G) j6 (by simp[hdG]);have kG0:=hN 0 _ rfl;have kG1:=hN 1 _ rfl;clear hN;have j7:=Yz bR j6;rw[<-j6];try rw[<-hdG]
  try rw[<-qY]
  clear j6 j8 qY hdG;go_wp2
  go_ret
  exact⟨J4 HR.out.symm,j7⟩
 by_cases hl2:LA=LB
 rotate_left 1
 ·
  have HR:=zh (HLEN.out (fun h=>hl2 h.2));have g2:((LA:Int) != (LB:Int))=true:=by simp;omega
  subst hl1;clear hl2;go_enter Tryz.func11,Tryz.ntmps11
  go_upto_region 1 with fail
  obtain⟨s2,F,G,j6,qY,hdG,j8,zF,zG⟩:=YJ w (.cells #[.slice bn LN' cn,.slice ba LA ca] 25) (.cells #[.slice bm LN' cm,.slice bb LB cb] 25);have hN:=bx1 (b:=F) j6 qY;have qV:=hN 0 _ rfl;have J1:=hN 1 _ rfl;clear hN;have hN:=Qz (b:=G) j6 (by simp[hdG]);have kG0:=hN 0 _ rfl;have kG1:=hN 1 _ rfl;clear hN;have j7:=Yz bR j6;rw[<-j6];try rw[<-hdG]
  try rw[<-qY]
  clear j6 j8 qY hdG;go_wp2
  go_ret
  exact⟨J4 HR.out.symm,j7⟩
 subst hl1 hl2;go_enter Tryz.func11,Tryz.ntmps11
 go_upto_region 1 with fail
 obtain⟨s3,F,G,j6,qY,hdG,j8,zF,zG⟩:=YJ w (.cells #[.slice bn LN' cn,.slice ba LA ca] 25) (.cells #[.slice bm LN' cm,.slice bb LA cb] 25);have hN:=bx1 (b:=F) j6 qY;have qV:=hN 0 _ rfl;have J1:=hN 1 _ rfl;clear hN;have lF:w.heap.size<=F:=by omega
 have hN:=Qz (b:=G) j6 (by simp[hdG]);have kG0:=hN 0 _ rfl;have kG1:=hN 1 _ rfl;clear hN;have lG:w.heap.size<=G:=by omega
 have j7:=Yz bR j6;rw[<-j6];try rw[<-hdG]
 try rw[<-qY]
 clear j6 j8 qY hdG;obtain⟨t0,ht0⟩:=nM s3;subst ht0;go_wp2_with fail;have HZ:Hid (∀ W,Bl t0 W->Bl w W):=fun W h=>bT j7 h
 have HFF:Hid (∀ W,Bl t0 W->W.cell? ⟨F,0,none⟩=some (.slice bn LN' cn)/\W.cell? ⟨F,1,none⟩=some (.slice ba LA ca)/\W.cell? ⟨G,0,none⟩=some (.slice bm LN' cm)/\W.cell? ⟨G,1,none⟩=some (.slice bb LA cb)):=fun W h=>⟨q9 h qV zF,q9 h J1 zF,q9 h kG0 zG,q9 h kG1 zG⟩
 clear j7 qV J1 zF lF kG0 kG1 zG lG
 go_loopw [5] (a7z t0 N M) (fun r _=>LN'-(intOf r).toNat)
 case atStart=>exact⟨0,Nat.zero_le _,rfl,fun j h=>absurd h (Nat.not_lt_zero _),Below.refl _ _⟩
 case round =>
  obtain⟨k,hk,rfl,hall,hW⟩:=hrel;rw[<-J6.out] at hk;obtain⟨qV,J1,kG0,kG1⟩:=HFF.out _ hW;have j7:=HZ.out _ hW;have HALW:=zh hall;have HW:=zh hW;clear hall hW;by_cases hlt:k<LN'
  ·
   obtain⟨n,hn⟩:=HGN.out k hlt;obtain⟨m,hm⟩:=HGM.out k hlt;obtain⟨gn,on,rfl,hcn⟩:=HNN.out k n hn;obtain⟨gm,om,rfl,hcm⟩:=HMM.out k m hm;have HQN:Hid (∀ j u,(Qk n)[j]?=some u->wr.cell? ⟨gn,on+k*K19+j,none⟩=some u):=fun j u hu=>by rw[HK19.out];exact q9 j7 (hcn j u hu) (Xk (hcn j u hu))
   have HQM:Hid (∀ j u,(Qk m)[j]?=some u->wr.cell? ⟨gm,om+k*K19+j,none⟩=some u):=fun j u hu=>by rw[HK19.out];exact q9 j7 (hcm j u hu) (Xk (hcm j u hu))
   have hE:=b5v n m;have HMN:=zh (fun h=>a5t hn hm h);have Xv:Hid (n=m->∀ j,j<k+1->N[j]?=M[j]?):=fun e j hj=>if e2:j=k then by rw[e2,hn,hm,e] else HALW.out j (by omega)
   have hiff:=a2o n m;have HBO:=zh j7;clear hcn hcm hn hm
   cases hb:XX n m with
   | true =>
    rw[hb] at hE;have HN2:=zh (Xv.out (hiff.1 hb));clear hiff hb
    go_upto_region 6 with fail
    have HF:=QX j7;clear j7;refine wp_region_held_drew (S:=fun w'=>w'.cell? ⟨F,0,none⟩=some (.slice (some ⟨gn,on,none⟩) LN' cn)/\w'.cell? ⟨G,0,none⟩=some (.slice (some ⟨gm,om,none⟩) LN' cm)/\Sem.run Tryz.prog (loadCellsFrom ⟨gn,on+k*K19,none⟩ 0 K19 #[]) w'=.ok #[I6 n.k,I6 n.o,I6 n.a,I6 n.b,Bv n.qn,Sg n.qa,Sg n.qd,Sg n.s,Bv n.tr,Sg n.r.sh,I6 n.r.c,I6 n.r.r,Bv n.r.fc,Bv n.r.fr,Sg n.t.sh,I6 n.t.c,I6 n.t.r,Bv n.t.fc,Bv n.t.fr] w'/\Sem.run Tryz.prog (loadCellsFrom ⟨gm,om+k*K19,none⟩ 0 K19 #[]) w'=.ok #[I6 m.k,I6 m.o,I6 m.a,I6 m.b,Bv m.qn,Sg m.qa,Sg m.qd,Sg m.s,Bv m.tr,Sg m.r.sh,I6 m.r.c,I6 m.r.r,Bv m.r.fc,Bv m.r.fr,Sg m.t.sh,I6 m.t.c,I6 m.t.r,Bv m.t.fc,Bv m.t.fr] w') (by kernel_rfl) JO (fun jx=>?_)
    refine tk 0 ?_;refine tk 1 ?_;refine tk 2 ?_;refine tk 3 ?_;refine tk 4 ?_;refine tk 5 ?_;refine tk 6 ?_;refine tk 7 ?_;refine tk 8 ?_;refine tk 9 ?_;refine tk 10 ?_;refine wpAnyH_done (by kernel_rfl) ?_ _;go_wp2
    go_roundw
    case rel=>exact⟨k+1,by rw[<-J6.out];omega,by go_num,HN2.out,HW.out.drew⟩
    case measure=>simp[intOf];omega
   | false =>
    rw[hb] at hE;have HR:=zh (HNO1.out (HMN.out (fun e=>by rw[hiff.2 e] at hb;cases hb)));clear hiff hb
    go_upto_region 6 with fail
    have HF:=QX j7;clear j7;refine wp_region_held_drew (S:=fun w'=>w'.cell? ⟨F,0,none⟩=some (.slice (some ⟨gn,on,none⟩) LN' cn)/\w'.cell? ⟨G,0,none⟩=some (.slice (some ⟨gm,om,none⟩) LN' cm)/\Sem.run Tryz.prog (loadCellsFrom ⟨gn,on+k*K19,none⟩ 0 K19 #[]) w'=.ok #[I6 n.k,I6 n.o,I6 n.a,I6 n.b,Bv n.qn,Sg n.qa,Sg n.qd,Sg n.s,Bv n.tr,Sg n.r.sh,I6 n.r.c,I6 n.r.r,Bv n.r.fc,Bv n.r.fr,Sg n.t.sh,I6 n.t.c,I6 n.t.r,Bv n.t.fc,Bv n.t.fr] w'/\Sem.run Tryz.prog (loadCellsFrom ⟨gm,om+k*K19,none⟩ 0 K19 #[]) w'=.ok #[I6 m.k,I6 m.o,I6 m.a,I6 m.b,Bv m.qn,Sg m.qa,Sg m.qd,Sg m.s,Bv m.tr,Sg m.r.sh,I6 m.r.c,I6 m.r.r,Bv m.r.fc,Bv m.r.fr,Sg m.t.sh,I6 m.t.c,I6 m.t.r,Bv m.t.fc,Bv m.t.fr] w') (by kernel_rfl) JO (fun jx=>?_)
    refine tk 0 ?_;refine tk 1 ?_;refine tk 2 ?_;refine tk 3 ?_;refine tk 4 ?_;refine tk 5 ?_;refine tk 6 ?_;refine tk 7 ?_;refine tk 8 ?_;refine tk 9 ?_;refine tk 10 ?_;refine wpAnyH_done (by kernel_rfl) ?_ _;go_wp2
    go_ret
    exact⟨J4 HR.out.symm,HBO.out.drew⟩
  ·
   obtain rfl:k=LN':=by omega
   have HNEQ:=zh (HALN.out (by trivial) (fun j hj=>HALW.out j hj));obtain⟨t1,ht1⟩:=nM wr;subst ht1;go_wp2_with fail;clear qV J1 kG0 kG1 j7
   go_loopw [6] (a7z t1 A B) (fun r _=>LA-(intOf r).toNat)
   case atStart=>exact⟨0,Nat.zero_le _,rfl,fun j h=>absurd h (Nat.not_lt_zero _),Below.refl _ _⟩
   case round =>
    obtain⟨i,hi,rfl,hall,hW2⟩:=hrel;rw[<-QZ.out] at hi;have hWW:=HW.out.trans (hW2.mono HW.out.size);obtain⟨qV,J1,kG0,kG1⟩:=HFF.out _ hWW;have j7:=HZ.out _ hWW;have HBO:=zh j7;have HALW2:=zh hall;have HW2:=zh hW2;clear hall hW2 hWW;by_cases hlt2:i<LA
    ·
     have hn:=HGA.out i hlt2;have hm:=HGB.out i hlt2;obtain⟨ga,oa,rfl,hca⟩:=HAA.out i hlt2;obtain⟨gb,ob,rfl,hcb⟩:=HBB.out i hlt2;have q1:=q9 j7 hca (Xk hca);have q2:=q9 j7 hcb (Xk hcb);generalize A.getD i 0=x at *;generalize B.getD i 0=y at *;have HMN:=zh (fun h=>a5t hn hm h);have Xv:Hid (x=y->∀ j,j<i+1->A[j]?=B[j]?):=fun e j hj=>if e2:j=i then by rw[e2,hn,hm,e] else HALW2.out j (by omega)
     clear hca hcb hn hm;by_cases hb:x=y
     ·
      subst hb;have HN2:=zh (Xv.out rfl)
      go_upto_region 11 with fail
      have HF:=QX j7;clear j7;refine wp_region_held_drew (S:=fun w'=>w'.cell? ⟨F,1,none⟩=some (.slice (some ⟨ga,oa,none⟩) LA ca)/\w'.cell? ⟨G,1,none⟩=some (.slice (some ⟨gb,ob,none⟩) LA cb)/\w'.cell? ⟨ga,oa+i,none⟩=some (I6 x)/\w'.cell? ⟨gb,ob+i,none⟩=some (I6 x)) (by kernel_rfl) JP (fun jx=>?_)
      refine tk 0 ?_;refine tk 1 ?_;refine tk 2 ?_;refine tk 3 ?_;refine tk 4 ?_;refine tk 5 ?_;refine tk 6 ?_;refine tk 7 ?_;refine tk 8 ?_;refine tk 9 ?_;refine tk 10 ?_;refine wpAnyH_done (by kernel_rfl) ?_ _;go_wp2
      go_roundw
      case rel=>exact⟨i+1,by rw[<-QZ.out];omega,by go_num,HN2.out,HW2.out.drew⟩
      case measure=>simp[intOf];omega
     ·
      have HR:=zh (HNO2.out (HMN.out hb));have hxy:(x != y)=true:=by simpa using hb
      go_upto_region 11 with fail
      have HF:=QX j7;clear j7;refine wp_region_held_drew (S:=fun w'=>w'.cell? ⟨F,1,none⟩=some (.slice (some ⟨ga,oa,none⟩) LA ca)/\w'.cell? ⟨G,1,none⟩=some (.slice (some ⟨gb,ob,none⟩) LA cb)/\w'.cell? ⟨ga,oa+i,none⟩=some (I6 x)/\w'.cell? ⟨gb,ob+i,none⟩=some (I6 y)) (by kernel_rfl) JP (fun jx=>?_)
      refine tk 0 ?_;refine tk 1 ?_;refine tk 2 ?_;refine tk 3 ?_;refine tk 4 ?_;refine tk 5 ?_;refine tk 6 ?_;refine tk 7 ?_;refine tk 8 ?_;refine tk 9 ?_;refine tk 10 ?_;refine wpAnyH_done (by kernel_rfl) ?_ _;go_wp2
      go_ret
      exact⟨J4 HR.out.symm,HBO.out.drew⟩
    ·
     obtain rfl:i=LA:=by omega
     have HR:=zh (HYES.out HNEQ.out (HALA.out (by trivial) (fun j hj=>HALW2.out j hj)));go_wp2
     go_ret
     exact⟨J4 HR.out.symm,HBO.out⟩
