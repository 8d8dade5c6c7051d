import Derived.Test.YtibiacmbljgmhaaGreatDoorRdrf
import Derived.Test.YtibiacmbljgmhaaGreatDoorRdr7
import Derived.Laws.Tables
namespace Go.Proofs.YtibiacmbljgmhaaGreatDoor
open Go.RowKit Go.Shelf
set_option linter.all false
theorem e8b (R g cap:Nat) (T:List Tok) (hT:TokOk T) (hW:f1k T) (hTl:T.length<=310):∀ f:Nat,
  (∀ (lv:Nat) (s:Rd) (q:Rd × Int) (w:World),lv<=6->YQ T s->Jy T f (.bin lv) s=some q->qj w R g cap T s->Cz 22 #[rpR R,I6 (lv:Int)] w (d7m R g cap T q w)) /\
  (∀ (s:Rd) (q:Rd × Int) (w:World),YQ T s->Jy T f .minus s=some q->qj w R g cap T s->Cz 53 #[rpR R] w (d7m R g cap T q w)) /\
  (∀ (s:Rd) (q:Rd × Int) (w:World),YQ T s->Jy T f .pct s=some q->qj w R g cap T s->Cz 103 #[rpR R] w (d7m R g cap T q w)) /\
  (∀ (s:Rd) (q:Rd × Int) (w:World),YQ T s->Jy T f .first s=some q->qj w R g cap T s->Cz 134 #[rpR R] w (d7m R g cap T q w)):=by
 intro f
 induction f with
 | zero=>exact⟨(fun lv s q w _ _ h=>by cases h),(fun s q w _ h=>by cases h),(fun s q w _ h=>by cases h),(fun s q w _ h=>by cases h)⟩
 | succ f ih =>
  obtain⟨hB,hM,hP,hF⟩:=ih;refine⟨fun lv s q w h1 hI hq jq=>e6e R g cap T f hT hTl hB hM lv s q w h1 hI hq jq,fun s q w hI hq jq=>e7y R g cap T f hT hTl hM hP s q w hI hq jq,fun s q w hI hq jq=>e3x R g cap T f hT hTl hF s q w hI hq jq,fun s q w hI hq jq=>e7z R g cap T f hT hTl hB ?_ s q w hI hq jq⟩
  intro s q w hI hk hq jq;have hl:=hI.l;have hn:=hI.n;have h0:=hI.d0;have h1:=hI.d1;exact e7t R g cap T f s q w jq hT hW (by omega) hl (by omega) (by omega) hk hq (fun h5 W hRW=>e9q R g cap T f hT hTl hB s q W hI hk h5 hq hRW)
theorem f2v {p:UInt8->Bool} {l:List UInt8} : ∀ x ∈ l.takeWhile p,p x=true:=fun x hx=>List.all_eq_true.1 List.all_takeWhile x hx
theorem f2w:d7f 33=false:=by decide
theorem f2x {D:List UInt8->jW × jW × Int} {l:List UInt8} {a:Nat} (hk:(d7l D l a).1.k=3):0<(d7l D l a).1.x.size/\∀ i (h:i<(d7l D l a).1.x.size),¬ (((d7l D l a).1.x[i].toNat:Nat):Int)=33:=by
 have key:∀ q:Tok × Nat × Int,q=d7l D l a->q.1.k=3->0<q.1.x.size/\∀ i (h:i<q.1.x.size),¬ ((q.1.x[i].toNat:Nat):Int)=33:=by
  intro q hq hk;unfold d7l at hq;dsimp only at hq;generalize hm:List.drop (a+(List.takeWhile (fun x=>x==32) (List.drop a l)).length) l=m at hq
  cases m with
  | nil=>dsimp only at hq;rw[hq] at hk;exact absurd hk (by show ¬ (0:Int)=3;decide)
  | cons c r =>
   dsimp only at hq
   split at hq
   ·
    (repeat' split at hq)<;>(rw[hq] at hk;exact absurd hk (by first | (show ¬ (1:Int)=3;decide) | (show ¬ (0:Int)=3;decide)))
   ·
    split at hq
    ·
     split at hq
     ·
      split at hq
      ·
       rw[hq] at hk;exact absurd hk (by show ¬ (2:Int)=3;decide)
      ·
       rw[hq] at hk;exact absurd hk (by show ¬ (0:Int)=3;decide)
     ·
      rw[hq] at hk;exact absurd hk (by show ¬ (0:Int)=3;decide)
    ·
     split at hq
     ·
      split at hq
      ·
       rw[hq] at hk;exact absurd hk (by show ¬ (0:Int)=3;decide)
      ·
       rw[hq] at hk;exact absurd hk (by show ¬ (10:Int)=3;decide)
     ·
      split at hq
      ·
       rename_i hw
       have e:(c :: r).take ((c :: r).takeWhile d7f).length=(c :: r).takeWhile d7f:=(List.prefix_iff_eq_take.1 (List.takeWhile_prefix _)).symm;rw[e] at hq;have hx:q.1.x=QK ((c :: r).takeWhile d7f):=by rw[hq]
       rw[hx];refine⟨?_,fun i h=>?_⟩
       ·
        rw[d8i,List.takeWhile_cons,hw,if_pos rfl,List.length_cons];omega
       ·
        have hmem:(QK ((c :: r).takeWhile d7f))[i] ∈ (c :: r).takeWhile d7f:=List.getElem_mem (l:=(c :: r).takeWhile d7f) h;intro h33;have h2:(QK ((c :: r).takeWhile d7f))[i]=33:=by rw[<-UInt8.toNat_inj];exact Int.ofNat.inj h33
        rw[h2] at hmem;have:=f2v _ hmem;rw[f2w] at this
        cases this
      ·
       split at hq
       ·
        rw[hq] at hk;exact absurd hk (by show ¬ (4:Int)=3;decide)
       ·
        split at hq
        ·
         rw[hq] at hk;exact absurd hk (by show ¬ (0:Int)=3;decide)
        ·
         rw[hq] at hk;exfalso
         revert hk
         show ¬ d8m c=3;unfold d8m
         (repeat' split)<;>omega
 exact key _ rfl hk
theorem f3y {D:List UInt8->jW × jW × Int} {l:List UInt8} : ∀ (m a:Nat) (out:List Tok),f1k out->f1k (e2o D l m a out).1:=by
 intro m
 induction m with
 | zero=>intro a out h;exact h
 | succ m ih =>
  intro a out h;rw[e2o]
  have h2:f1k (out ++ [(d7l D l a).1]):=fun t ht hk=>by
   rcases List.mem_append.1 ht with h3 | h3
   ·
    exact h t h3 hk
   ·
    rw[List.mem_singleton.1 h3] at hk |-
    exact f2x hk
  split
  ·
   exact fun t ht=>by cases ht
  ·
   split
   ·
    exact h2
   ·
    exact ih _ _ h2
theorem f3z (D:List UInt8->jW × jW × Int) (l:List UInt8):f1k (e2p D l).1:=by
 unfold e2p
 split
 ·
  exact fun t ht=>by cases ht
 ·
  exact f3y _ _ _ (fun t ht=>by cases ht)
set_option maxHeartbeats 16000000
set_option maxRecDepth 100000
-- (cells told one by one: %%hwalk)
def e8c (N:List Nd) (A:List Int) (p:Nat) (c:Int) (w:World) (e:Ending) (w':World):Prop:=(∃ us vs,e=.returned (.tuple #[.agg #[us,vs],I6 (p:Int),I6 c])/\NodesAt w' us N/\IntsAt w' vs A)/\Bl w w'
theorem e3z {p:Nat} {c:Int} {w w':World} (hb:Bl w w'):e8c [] [] p c w (.returned (.tuple #[.agg #[.slice none 0 0,.slice none 0 0],I6 (p:Int),I6 c])) w':=⟨⟨_,_,rfl,Or.inl ⟨rfl,rfl⟩,Or.inl ⟨rfl,rfl⟩⟩,hb⟩
theorem e9r {w0 w W:World} {R:Nat} (h0:Bl w0 w) (ho:∀ b,b<w0.heap.size->qW w R b) (h:Kp R w W):Bl w0 W :=
 ⟨h.os.trans h0.os,h.tape.trans h0.tape,h.output.trans h0.output,jG h0.size h.size,fun b hb=>(h.kept b (ho b hb)).2.trans (h0.block b hb)⟩
theorem e9s {W:World} {R g cap:Nat} {T:List Tok} (k0:W.cell? ⟨R,0,none⟩=some (.slice (some ⟨g,0,none⟩) T.length cap)) (k1:W.cell? ⟨R,1,none⟩=some (I6 0)) (k2:W.cell? ⟨R,2,none⟩=some (.slice none 0 0)) (k3:W.cell? ⟨R,3,none⟩=some (.slice none 0 0))
  (k4:W.cell? ⟨R,4,none⟩=some (I6 0)) (k5:W.cell? ⟨R,5,none⟩=some (I6 0)) (k6:W.cell? ⟨R,6,none⟩=some (I6 0)) (hf:∀ j,W.frozen? ⟨R,j,none⟩=false) (ht:ToksAt W g cap T) (hg:g<R) (hz:R<W.heap.size):qj W R g cap T rd0 :=
 ⟨_,_,k0,k1,k2,k3,k4,k5,k6,hf,ht,hg,World.ownsRow_nil _ _ _ _,World.ownsRow_nil _ _ _ _,(fun b h=>by cases h),hz⟩
theorem e8d {W:World} {R g cap:Nat} {T:List Tok} (h:qj W R g cap T rd0) {b:Nat} (hz:b<W.heap.size) (hne:b≠R) (k2:W.cell? ⟨R,2,none⟩=some (.slice none 0 0)) (k3:W.cell? ⟨R,3,none⟩=some (.slice none 0 0)):qW W R b :=
 ⟨hz,hne,(fun u hu e=>by obtain rfl:=jA (k2.symm.trans hu);cases e),(fun u hu e=>by obtain rfl:=jA (k3.symm.trans hu);cases e)⟩
theorem d8a (s:jW) (w:World) (f:Nat) (N:List Nd) (A:List Int) (p:Nat) (c:Int) (hsm:s.size<=maxLen) (hq:f2f d9p s.data.toList f=some (N,A,p,c)) :
  Cz 7 #[Sg s] w (e8c N A p c w):=by
 obtain⟨Po,hPo⟩:=nM (e8c N A p c w);rw[<-hPo];have J5:=zh hPo;have HLX:=zh (fun w=>e5y s w hsm);unfold f2f at hq;dsimp only at hq;have hlt:=@e7p d9p e3r s.data.toList;have hlw:=f3z d9p s.data.toList;obtain⟨⟨T,pl,el⟩,hL⟩:∃ q,q=e2p d9p s.data.toList:=⟨_,rfl⟩;rw[<-hL] at hq HLX hlt hlw;dsimp only at hq hlt hlw;clear hPo hL;go_enter Tryz.func7,Tryz.ntmps7;go_wp2_with fail;obtain⟨s1,C,j6,qq,j8,zC⟩:=qy w (.cells #[.slice none 0 0,.slice none 0 0] 25);have hN:=Qz (b:=C) j6 qq;have hM:=Qq (b:=C) j6 qq;have Yq:=hN 0 _ rfl;have Yj:=hN 1 _ rfl;have YV:=hM 0;have YK:=hM 1;clear hN hM;have lC:w.heap.size<=C:=by omega
 have j7:=qQ bR j6;rw[<-j6];try rw[<-qq]
 clear j6 j8 qq;refine(HLX.out _).mono ?_;rintro e s90 ⟨⟨v,rfl,hv⟩,hb⟩;dsimp only at hv;replace Yq:=q9 hb Yq zC;replace Yj:=q9 hb Yj zC;replace YV:=QW hb YV zC;replace YK:=QW hb YK zC;replace zC:=jw hb zC;replace j7:=X4 j7 hb;clear hb;by_cases he:el=0
 case neg =>
  rw[if_pos he] at hq;have hx:(el != 0)=true:=by simpa using he
  obtain⟨rfl,rfl,rfl,rfl⟩ : []=N/\[]=A/\pl=p/\el=c:=by simpa using hq
  clear hq hv hlt hlw he;go_wp2_with fail;refine jU (v:=.tuple #[.agg #[.slice none 0 0,.slice none 0 0],I6 (pl:Int),I6 el]) (by simp[results,Tryz.results7,go_sem,Yq,Yj,YV,YK,zC]) rfl ?_;rw[J5.out];exact e3z (sc2 j7 lC)
 subst he;rw[if_neg (by simp)] at hq;obtain⟨hT,hT1,hT2⟩:=hlt rfl;obtain⟨n,hown⟩:=hv rfl;obtain⟨g,cap,rfl,hgb,hc1,hc2,hTA⟩:=f0s hown hT.h1
 cases hp:Jy T f (.bin 1) rd0 with
 | none=>rw[hp] at hq;cases hq
 | some r =>
 rw[hp] at hq;obtain⟨⟨i2,N2,A2,d2,p2,e2⟩,a2⟩:=r;dsimp only at hq;have hl0:rd0.i<T.length:=hT.h1;have hI0:YQ T rd0:=⟨hl0,jC _,jC _,(fun m hm=>by cases hm),Int.le_refl _,by decide,rfl⟩;have hgn:=d7a hT _ _ _ _ _ hp hl0 hI0.f;have hi2:=hgn.l;dsimp only at hi2;have HB:=zh (fun R W=>(e8b R g cap T hT hlw (by omega) f).1 1 rd0 _ W (by omega) hI0 hp);have HTA:=zh hTA;clear hp hgn hI0 hl0 hv hlt hown;go_wp2_with fail;have zC0:=zC;obtain⟨s2,D,j6,XV,j8,zD⟩:=qy s90 (.cells #[.slice (some ⟨g,0,none⟩) T.length cap,I6 0,.slice none 0 0,.slice none 0 0,I6 0,I6 0,I6 0] 49);have j9:=JW j6;have hAD:s90.heap.size<=D:=by omega
 replace Yq:=q9 j9 Yq zC;replace Yj:=q9 j9 Yj zC;replace YV:=QW j9 YV zC;replace YK:=QW j9 YK zC;replace zC:=jw j9 zC;have hN:=Qz (b:=D) j6 XV;have kD0:=hN 0 _ rfl;have kD1:=hN 1 _ rfl;have kD2:=hN 2 _ rfl;have kD3:=hN 3 _ rfl;have kD4:=hN 4 _ rfl;have kD5:=hN 5 _ rfl;have kD6:=hN 6 _ rfl;clear hN;have rD:s2.heap[D]?=some (.cells #[.slice (some ⟨g,0,none⟩) T.length cap,I6 0,.slice none 0 0,.slice none 0 0,I6 0,I6 0,I6 0] 49 (0,0)):=by have h:=heap_alloc_new s90 (.cells #[.slice (some ⟨g,0,none⟩) T.length cap,I6 0,.slice none 0 0,.slice none 0 0,I6 0,I6 0,I6 0] 49);rw[j6];simpa [XV] using h
 replace j7:=qQ j7 j6;rw[<-j6];try rw[<-XV]
 clear j6 j8 XV
 have hDf:∀ j,World.frozen? s2 ⟨D,j,none⟩=false:=fun j=>by
  unfold World.frozen?;dsimp only;rw[rD];simp
 have hgD:g<D:=by have:=hTA.z;omega
 have hTA2:ToksAt s2 g cap T:=HTA.out.same (j9.block g hTA.z) j9.size;have hR0:=e9s kD0 kD1 kD2 kD3 kD4 kD5 kD6 hDf hTA2 hgD zD;have hOth:∀ b,b<(World.heap s2).size->b≠D->qW s2 D b:=fun b h1 h2=>e8d hR0 h1 h2 kD2 kD3
 have hCD:C<D:=by omega
 clear zC0;have oC:=hOth C zC (by intro h;omega);have hOw:∀ b,b<w.heap.size->qW s2 D b:=fun b hb=>hOth b (jF hb j7.size) (by have:=j7.size;intro h;omega)
 have HKB:=zh (fun W (h:Kp D s2 W)=>e9r j7 hOw h);refine(HB.out D _ hR0).mono ?_;rintro e s91 ⟨rfl,hRB,hKb⟩;have Yq:=hKb.cell oC Yq;have Yj:=hKb.cell oC Yj;have YV:=hKb.frz oC YV;have YK:=hKb.frz oC YK;have oC:=hKb.oth oC;clear kD0 kD1 kD2 kD3 kD4 kD5 kD6 rD hDf hR0 hOth hOw j9 hTA2 HB;have Q0:=hRB.k5;have JZ:=hRB.k6;dsimp only at Q0 JZ;by_cases h2:e2=0
 case neg =>
  have hx:(e2==0)=false:=by simpa using h2
  have hx2:(e2 != 0)=true:=by simpa using h2
  have hs1:(if e2=0/\(tokAt T i2).k≠0 then Rd.wrong ⟨i2,N2,A2,d2,p2,e2⟩ (tokAt T i2) 10 else ⟨i2,N2,A2,d2,p2,e2⟩)=(⟨i2,N2,A2,d2,p2,e2⟩:Rd):=if_neg (fun h=>h2 h.1);rw[hs1] at hq;dsimp only at hq;rw[if_pos h2] at hq;obtain⟨rfl,rfl,rfl,rfl⟩ : []=N/\[]=A/\p2=p/\e2=c:=by simpa using hq
  have hBK:=HKB.out _ hKb;clear hq h2
  go_upto_region 9 with fail
  go_region
  all_goals go_wp2
  all_goals refine jU (v:=.tuple #[.agg #[.slice none 0 0,.slice none 0 0],I6 (p2:Int),I6 e2]) (by simp[results,Tryz.results7,go_sem,Yq,Yj,YV,YK,zC]) rfl ?_
  all_goals rw[J5.out]
  all_goals exact e3z (Below.drew ((hBK.setCell lC _).setCell lC _))
 subst h2;obtain⟨m,hm⟩:=nM (tokAt T i2);have hNW:=fun W h=>d7b D g cap T ⟨i2,N2,A2,d2,p2,0⟩ W h hi2 (by omega)
 dsimp only at hNW;rw[<-hm] at hNW hq;clear hm;obtain⟨mk,mx,mp,my,mz⟩:=m;dsimp only at hNW hq;have HNW:=zh hNW;have F0:=e3v mk mx mp my mz;clear hNW;go_wp2_with fail;refine jy (HNW.out _ hRB) fun s92 hb=>?_
 have hRC:=hRB.below hb;have hKc:=hKb.below hRB.z hb;have oC2:=oC.below hRB.z hb;replace Yq:=q9 hb Yq oC.z;replace Yj:=q9 hb Yj oC.z;replace YV:=QW hb YV oC.z;replace YK:=QW hb YK oC.z;replace JZ:=hRC.k6;dsimp only at Q0 JZ;by_cases hk:mk=0
 case neg =>
  have hx:(mk != 0)=true:=by simpa using hk
  have hs1:(if True/\mk≠0 then Rd.wrong ⟨i2,N2,A2,d2,p2,0⟩ ⟨mk,mx,mp,my,mz⟩ 10 else ⟨i2,N2,A2,d2,p2,0⟩)=(Rd.wrong ⟨i2,N2,A2,d2,p2,0⟩ ⟨mk,mx,mp,my,mz⟩ 10:Rd):=if_pos ⟨trivial,hk⟩
  first | rw[hs1] at hq | (rw[show ((0:Int)=0/\mk≠0)=(True/\mk≠0) by simp] at hq;rw[hs1] at hq)
  rw[show Rd.wrong ⟨i2,N2,A2,d2,p2,0⟩ ⟨mk,mx,mp,my,mz⟩ 10=(⟨i2,N2,A2,d2,mp,10⟩:Rd) from rfl] at hq;dsimp only at hq;rw[if_pos (by decide)] at hq;obtain⟨rfl,rfl,rfl,rfl⟩ : []=N/\[]=A/\mp=p/\10=c:=by simpa using hq
  clear hq hk;go_wp2_with fail;refine(HNW.out _ hRC).mono ?_;rintro e s93 ⟨rfl,hb2⟩;have hRE:=hRC.below hb2;have hKd:=hKc.below hRC.z hb2;have oC3:=oC2.below hRC.z hb2;replace Yq:=q9 hb2 Yq oC2.z;replace Yj:=q9 hb2 Yj oC2.z;replace YV:=QW hb2 YV oC2.z;replace YK:=QW hb2 YK oC2.z;go_wp2_with fail;refine(d6s D g cap T ⟨i2,N2,A2,d2,p2,0⟩ ⟨mk,mx,mp,my,mz⟩ 10 _ hRE).mono ?_;rintro e s94 ⟨rfl,hRF,hKe⟩;replace Yq:=hKe.cell oC3 Yq;replace Yj:=hKe.cell oC3 Yj;replace YV:=hKe.frz oC3 YV;replace YK:=hKe.frz oC3 YK;have hBK:=HKB.out _ (hKd.trans hKe);rw[show Rd.wrong ⟨i2,N2,A2,d2,p2,0⟩ ⟨mk,mx,mp,my,mz⟩ 10=(⟨i2,N2,A2,d2,mp,10⟩:Rd) from rfl] at hRF;replace Q0:=hRF.k5;replace JZ:=hRF.k6;dsimp only at Q0 JZ;clear hRB hRC hRE hRF hKb hKc hKd hKe hb hb2
  go_upto_region 9 with fail
  go_region
  all_goals go_wp2
  all_goals refine jU (v:=.tuple #[.agg #[.slice none 0 0,.slice none 0 0],I6 (mp:Int),I6 10]) (by simp[results,Tryz.results7,go_sem,Yq,Yj,YV,YK,zC]) rfl ?_
  all_goals rw[J5.out]
  all_goals exact e3z (Below.drew ((hBK.setCell lC _).setCell lC _))
 have hx:(mk != 0)=false:=by simpa using hk
 have hs1:(if True/\mk≠0 then Rd.wrong ⟨i2,N2,A2,d2,p2,0⟩ ⟨mk,mx,mp,my,mz⟩ 10 else ⟨i2,N2,A2,d2,p2,0⟩)=(⟨i2,N2,A2,d2,p2,0⟩:Rd):=if_neg (fun h=>h.2 hk);rw[hs1] at hq;dsimp only at hq;rw[if_neg (by simp)] at hq;obtain⟨rfl,rfl,rfl,rfl⟩:N2=N/\A2=A/\0=p/\0=c:=by simpa using hq
 have hBK:=HKB.out _ hKc;obtain⟨nv,av,hr⟩:=hRC;have kR2:=hr.c2;have kR3:=hr.c3;obtain⟨bn,cn,rfl⟩:=a0l hr.on;obtain⟨ba,ca,rfl⟩:=a0l hr.oa;have hC1:C<D+1:=by omega
 have HRN:=zh hr.on;have HRO:=zh hr.oa;dsimp only at kR2 kR3;clear hq hk hRB hKb hKc hb hr;go_wp2_with fail;refine jU (v:=.tuple #[.agg #[.slice bn N2.length cn,.slice ba A2.length ca],I6 0,I6 0]) (by simp[results,Tryz.results7,go_sem,Yq,Yj,YV,YK,zC]) rfl ?_;rw[J5.out];exact⟨⟨_,_,rfl,(NodesAt.of_owns (ownsRow_setCell_below (ownsRow_setCell_below HRN.out hC1 _) hC1 _)).2,(IntsAt.of_owns (ownsRow_setCell_below (ownsRow_setCell_below HRO.out hC1 _) hC1 _)).2⟩,(hBK.setCell lC _).setCell lC _⟩
set_option maxHeartbeats 64000000
-- (cells told one by one: %%hwalk)
theorem d6w {W:World} {b1 b2:Nat} {e:TypeId} {size n:Nat} {v:Value} {xs:List Value} (h:W.ownsRow b1 e size v n xs) (hb:b2<=b1):W.ownsRow b2 e size v n xs :=
 ⟨h.1,h.2.imp id (fun⟨g,cap,cur,hv,h1,h2⟩=>⟨g,cap,cur,hv,jG hb h1,h2⟩)⟩
theorem e1v (u v:Value) (N:List Nd) (A:List Int) (w:World) (hN:NodesAt w u N) (hA:IntsAt w v A) (l1:N.length<=90000) (l2:A.length<=90000) :
  Cz 30 #[.agg #[u,v]] w (b9w N A w):=by
 have JY:=Qw;obtain⟨Po,hPo⟩:=nM (b9w N A w);rw[<-hPo];have J5:=zh hPo;have HN:=zh hN;have HA:=zh hA;obtain⟨bn,cn,rfl,_⟩:=hN.slice;obtain⟨ba,ca,rfl,_⟩:=hA.slice;obtain⟨LN,hLN⟩:=nM N.length;obtain⟨LA,hLA⟩:=nM A.length;rw[<-hLN] at HN l1 |-
 rw[<-hLA] at HA l2 |-
 have J6:=zh hLN;have QZ:=zh hLA;have HNB:=zh (show N.length<=100000 by omega);have HAB:=zh (show A.length<=100000 by omega);clear hPo hN hA hLN hLA;go_enter Tryz.func30,Tryz.ntmps30
 go_upto_region 1 with fail
 obtain⟨s1,F,R,j6,qY,Xq,j8,zF,zR⟩:=YJ w (.cells #[.slice bn LN cn,.slice ba LA ca] 25) (.cells #[.slice none 0 0,.slice none 0 0] 25);have hN:=bx1 (b:=F) j6 qY;have qV:=hN 0 _ rfl;have J1:=hN 1 _ rfl;clear hN;have lF:w.heap.size<=F:=by omega
 have hN:=Qz (b:=R) j6 (by simp[Xq]);have hM:=Qq (b:=R) j6 (by simp[Xq]);have J3:=hN 0 _ rfl;have J2:=hN 1 _ rfl;have XJ:=hM 0;have Q7:=hM 1;clear hN hM;have lR:w.heap.size<=R:=by omega
 have j7:=Yz bR j6;rw[<-j6];try rw[<-Xq]
 try rw[<-qY]
 clear j6 j8 qY Xq
 go_upto_region 2 with fail
 have zF1:=zF;have zR1:=zR;obtain⟨s2,O,j6,hdO,j8,zO⟩:=qy s1 (.cells #[.slice none 0 0,.slice none 0 0] 25);have j9:=JW j6;have hAO:s1.heap.size<=O:=by omega
 replace qV:=q9 j9 qV zF;replace J1:=q9 j9 J1 zF;replace zF:=jw j9 zF;replace J3:=q9 j9 J3 zR;replace J2:=q9 j9 J2 zR;replace XJ:=QW j9 XJ zR;replace Q7:=QW j9 Q7 zR;replace zR:=jw j9 zR;have hN:=Qz (b:=O) j6 hdO;have hM:=Qq (b:=O) j6 hdO;have kO0:=hN 0 _ rfl;have kO1:=hN 1 _ rfl;have fO0:=hM 0;have fO1:=hM 1;clear hN hM;have lO:w.heap.size<=O:=by have:=j7.size;omega
 replace j7:=qQ j7 j6;rw[<-j6];try rw[<-hdO]
 clear j6 j8 hdO;have hFO:F<O:=by omega
 have hRO:R<O:=by omega
 have HFA:Hid (FAt s2 O (O+1) [] [] [] (.slice none 0 0) (.slice none 0 0) (.slice none 0 0)):=⟨kO0,kO1,fO0,fO1,World.ownsRow_nil _ _ _ _,World.ownsRow_nil _ _ _ _,World.ownsRow_nil _ _ _ _,fun g h=>by simp[Value.ownBlock] at h,fun g h=>by simp[Value.ownBlock] at h,fun g h=>by simp[Value.ownBlock] at h,Nat.lt_succ_self O,zO⟩
 obtain⟨t0,ht0⟩:=nM s2;subst ht0;have HZ:Hid (∀ W,Below O t0 W->Bl w W):=fun W h=>j7.trans (h.mono lO)
 have HNA:Hid (∀ W,Below O t0 W->NodesAt W (.slice bn LN cn) N/\IntsAt W (.slice ba LA ca) A):=fun W h=>⟨HN.out.below (HZ.out W h),HA.out.below (HZ.out W h)⟩
 have HF1:Hid (∀ W,Below O t0 W->W.cell? ⟨F,0,none⟩=some (.slice bn LN cn)/\W.cell? ⟨F,1,none⟩=some (.slice ba LA ca)):=fun W h=>⟨(h.cell (p:=⟨F,0,none⟩) hFO).trans qV,(h.cell (p:=⟨F,1,none⟩) hFO).trans J1⟩
 have HR1:Hid (∀ W,Below O t0 W->W.cell? ⟨R,0,none⟩=some (.slice none 0 0)/\W.cell? ⟨R,1,none⟩=some (.slice none 0 0)/\W.frozen? ⟨R,0,none⟩=false/\W.frozen? ⟨R,1,none⟩=false):=fun W h=>⟨(h.cell (p:=⟨R,0,none⟩) hRO).trans J3,(h.cell (p:=⟨R,1,none⟩) hRO).trans J2,(h.frozen (p:=⟨R,0,none⟩) hRO).trans XJ,(h.frozen (p:=⟨R,1,none⟩) hRO).trans Q7⟩
 have HLR:=zh lR;have HLO:=zh lO;have HRO:=zh hRO;clear JY j9 hAO zF1 zR1 j7 qV J1 zF lF J3 J2 XJ Q7 zR lR kO0 kO1 fO0 fO1 zO lO hFO hRO;obtain⟨p0,_⟩:=HF1.out _ (Below.refl O t0);have q0:=HFA.out.c0;have qf0:=HFA.out.f0;have pz:=HFA.out.pz;have zF:=Xk p0
 go_upto_region 3 with (at_builtin;refine a1k rfl _ _ rfl (base:=O+1) (v:=.slice none 0 0) (N:=[]) (M:=N) (by rfl) HFA.out.ou (by rfl) (HNA.out _ (Below.refl O t0)).1 (by simp) HNB.out HFA.out.bw ?_;intro v2 wb J0 jj hnear2;rw[List.nil_append,<-J6.out] at J0;obtain⟨b2,c2,rfl⟩:=a0l J0;have pfd:=a0m jj pz qf0 (fun q hq=>by cases hq);have pcd:=Jw jj q0 (fun q hq=>by cases hq))
 obtain⟨wc,hwc⟩:∃ z,z=wb.setCell ⟨O,0,none⟩ (.slice b2 LN c2):=⟨_,rfl⟩;have HFc:Hid (FAt wc O (O+1) N [] [] (.slice b2 LN c2) (.slice none 0 0) (.slice none 0 0)):=zh (by rw[hwc];exact FAt.setN HFA.out jj (by rw[<-J6.out];exact J0) hnear2);have HBc:Hid (Below O t0 wc):=zh (by rw[hwc];exact(a3m (Below.refl O t0) HFA.out.ou (by omega) (Nat.le_of_lt pz) jj).setCell (jC O) _);rw[<-hwc];clear hwc pfd pcd J0 jj hnear2 p0 q0 qf0 pz zF HFA;obtain⟨_,p1⟩:=HF1.out _ HBc.out;have q1:=HFc.out.c1;have qf1:=HFc.out.f1;have pz:=HFc.out.pz;have zF:=Xk p1
 go_upto_region 4 with (at_builtin;refine a1s rfl _ _ rfl (base:=O+1) (v:=.slice none 0 0) (A:=[]) (B:=A) (by rfl) HFc.out.ov (by rfl) (HNA.out _ HBc.out).2 (by simp) HAB.out HFc.out.bw ?_;intro v3 wb J0 jj hnear2;rw[List.nil_append,<-QZ.out] at J0;obtain⟨b3,c3,rfl⟩:=a0l J0;have pfd:=a0m jj pz qf1 (fun q hq=>by cases hq);have pcd:=Jw jj q1 (fun q hq=>by cases hq))
 obtain⟨wd,hwd⟩:∃ z,z=wb.setCell ⟨O,1,none⟩ (.slice b3 LA c3):=⟨_,rfl⟩;have HFd:Hid (FAt wd O (O+1) N A [] (.slice b2 LN c2) (.slice b3 LA c3) (.slice none 0 0)):=zh (by rw[hwd];exact FAt.setA HFc.out jj (by rw[<-QZ.out];exact J0) hnear2);have HBd:Hid (Below O t0 wd):=zh (by rw[hwd];exact(a3m HBc.out HFc.out.ov (by omega) (Nat.le_of_lt pz) jj).setCell (jC O) _);rw[<-hwd];clear hwd pfd pcd J0 jj hnear2 p1 q1 qf1 pz zF HFc HBc;obtain⟨J3,J2,XJ,Q7⟩:=HR1.out _ HBd.out;have zR:=Xk J3;have q0:=HFd.out.c0;have q1:=HFd.out.c1;have hBO:=HZ.out _ HBd.out;have hC1:R<O+1:=by have:=HRO.out;omega
 go_wp2_with fail;have hst:∀ {size n:Nat} {t:TypeId} {x:Value} {xs:List Value},wd.ownsRow (O+1) t size x n xs->((wd.setCell ⟨R,0,none⟩ (.slice b2 LN c2)).setCell ⟨R,1,none⟩ (.slice b3 LA c3)).ownsRow (O+1) t size x n xs:=fun h=>ownsRow_setCell_below (ownsRow_setCell_below h hC1 _) hC1 _
 refine jU (v:=.agg #[.slice b2 LN c2,.slice b3 LA c3]) (by simp[results,Tryz.results30,go_sem,J3,J2,XJ,Q7,zR,q0,q1]) rfl ?_;rw[J5.out];exact⟨⟨_,_,rfl,d6w (hst HFd.out.ou) (by have:=HLO.out;omega),d6w (hst HFd.out.ov) (by have:=HLO.out;omega),HFd.out.uv⟩,(hBO.setCell HLR.out _).setCell HLR.out _⟩
theorem f1e {l:List Value} {v:Value} {rest:List Value} {o i:Nat} (h:o+i<l.length):(l.set (o+i) v).take (o+(i+1))++rest++(l.set (o+i) v).drop (o+(i+1)+rest.length)=l.take (o+i)++v :: rest++l.drop (o+i+(v :: rest).length):=by
 have e1:(l.set (o+i) v).take (o+(i+1))=l.take (o+i) ++ [v]:=by
  apply List.ext_getElem?;intro k;rw[List.getElem?_take,List.getElem?_set,List.getElem?_append,List.length_take,List.getElem?_take];by_cases h1:k<o+i
  ·
   rw[if_pos (by omega),if_neg (by omega),if_pos (by omega),if_pos h1]
  ·
   by_cases h2:k=o+i
   ·
    subst h2;rw[if_pos (by omega),if_pos rfl,if_pos h,if_neg (by omega),show o+i-min (o+i) l.length=0 by omega];rfl
   ·
    rw[if_neg (by omega),if_neg (by omega),List.getElem?_eq_none (by simp;omega)]
 have e2:(l.set (o+i) v).drop (o+(i+1)+rest.length)=l.drop (o+i+(v :: rest).length):=by
  rw[List.drop_set_of_lt (by omega),List.length_cons]
  congr 1;omega
 rw[e1,e2];simp
theorem d9k {P:Program} (g o:Nat) (t:TypeId):∀ (vs:List Value) (i:Nat) (cur:Array Value) (w:World),w.heap[g]?=some (.cells cur t (0,0))->o+i+vs.length<=cur.size->(∀ v ∈ vs,v.oneCell'=true) ->
  (storeCells ⟨g,o,none⟩ vs i).run P w=.ok () (w.setRow g ⟨cur.toList.take (o+i)++vs++cur.toList.drop (o+i+vs.length)⟩)
 | [],i,cur,w,hg,hl,h1=>by
  have e:(⟨cur.toList.take (o+i) ++ []++cur.toList.drop (o+i+([]:List Value).length)⟩:Array Value)=cur:=by
   rw[List.append_nil,List.length_nil,Nat.add_zero,List.take_append_drop]
  rw[e];have h0:=run_storeCells_from (P:=P) g t [] cur.size cur w hg (by simp) (fun v hv=>by cases hv);have e2:(cur.toList.take cur.size++([]:List Value)).toArray=cur:=by rw[List.append_nil,jS (by simp)]
  rw[e2] at h0;exact h0
 | v :: rest,i,cur,w,hg,hl,h1=>by
  have hi:o+i<cur.size:=by simp at hl;omega
  have hadd:(⟨g,o,none⟩:Addr).add i=⟨g,o+i,none⟩:=by unfold Addr.add;split<;>simp_all
  have hcell:w.cell? ⟨g,o+i,none⟩=some cur[o+i]:=by simp[World.cell?,hg,hi]
  have hfro:w.frozen? ⟨g,o+i,none⟩=false:=by simp[World.frozen?,hg]
  have hst:(store ((⟨g,o,none⟩:Addr).add i) v).run P w=.ok () (w.setRow g (cur.setIfInBounds (o+i) v)):=by
   rw[hadd,run_store P w _ v _ (h1 v (by simp)),hcell];simp[hfro,setCell_eq_setRow w g (o+i) cur t (0,0) v hg]
  have ih:=d9k (P:=P) g o t rest (i+1) (cur.setIfInBounds (o+i) v) (w.setRow g (cur.setIfInBounds (o+i) v)) (setRow_heap w g cur _ t _ hg) (by simp at hl |-;omega) (fun x hx=>h1 x (by simp[hx]));simp only[storeCells,Sem.run_bind,hst,Result.andThen_ok,ih,setRow_setRow];rw[Array.toList_setIfInBounds,f1e (by simpa using hi)]
theorem e0g {P:Program} {o:Oper} {a:Act} {w:World} {K:Act->World->Prop} {Q:Exit->Act->World->Prop} (ty:TypeId) (x y:Operand) (ho:o.op=.store ty x y)
  (g b:Nat) (cells:Array Value) (hx:a.eval x=.pointer (some ⟨g,b,none⟩)) (hy:a.eval y=.agg cells) (t:TypeId) (old:Array Value) (hg:w.heap[g]?=some (.cells old t (0,0))) (hi:(P.info? ty).map (·.size)=some cells.size)
  (hold:b+cells.size<=old.size) (h1:cells.toList.all (·.oneCell')=true)
  (h:K (a.put o.dst undef) (w.setRow g ⟨old.toList.take b++cells.toList++old.toList.drop (b+cells.size)⟩)):o.wp P a w K Q:=by
 have hr:(storeVar ty ⟨g,b,none⟩ (.agg cells)).run P w=.ok () (w.setRow g ⟨old.toList.take b++cells.toList++old.toList.drop (b+cells.size)⟩):=by
  have:=d9k (P:=P) g b t cells.toList 0 old w hg (by simpa using hold) (fun v hv=>List.all_eq_true.1 h1 v hv)
  cases hq:P.info? ty with
  | none=>simp[hq] at hi
  | some i =>
   have hs:cells.size=i.size:=by simp[hq] at hi;omega
   simp[storeVar,sizeOf,typeInfo,hq,Value.cells,hs] at this |-
   exact this
 unfold Oper.wp execOp;simp only[ho,hx,hy,Instr.storeAt,Instr.sureAddr,Sem.run_bind,Sem.run_pure,Result.andThen_ok,hr];exact h
theorem e0h:∀ (N:List Nd) (k:Nat) (m:Nd),k<N.length->nodeL (N.set k m)=(nodeL N).take (k*19)++Qk m++(nodeL N).drop (k*19+19)
 | [],k,m,h=>by simp at h
 | n :: N,0,m,h=>by
  rw[List.set_cons_zero,nodeL,List.flatMap_cons,nodeL,List.flatMap_cons,Nat.zero_mul,List.take_zero,List.nil_append,Nat.zero_add]
  congr 1
 | n :: N,k+1,m,h=>by
  have ih:=e0h N k m (by simpa using h);rw[List.set_cons_succ,nodeL,List.flatMap_cons,<-nodeL,ih,nodeL,nodeL,List.flatMap_cons,<-nodeL,show (k+1)*19=(Qk n).length+k*19 by rw[a6h];omega,List.take_length_add_append,Nat.add_assoc,List.drop_length_add_append];simp only[List.append_assoc]
theorem e1b {w:World} {g k:Nat} {c:Array Value} (h:k≠g):(w.setRow g c).heap[k]?=w.heap[k]?:=by
 unfold World.setRow;simp only[Array.getElem?_modify];rw[if_neg (fun e=>h e.symm)]
theorem d7x {w:World} {g:Nat} {c:Array Value} : (w.setRow g c).heap.size=w.heap.size:=by unfold World.setRow;simp
