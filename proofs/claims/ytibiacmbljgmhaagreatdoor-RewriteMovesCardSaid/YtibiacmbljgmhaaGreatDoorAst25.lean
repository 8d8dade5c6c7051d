/-
  
  
-/
import Derived.Test.YtibiacmbljgmhaaGreatDoorAst21
import Derived.Test.YtibiacmbljgmhaaGreatDoorAst13
set_option maxHeartbeats 16000000
set_option maxRecDepth 100000
namespace Go.Proofs.YtibiacmbljgmhaaGreatDoor
open Go.RowKit Go.Shelf
set_option linter.all false
def cN (N:List Nd) (i:Nat):Bool:=match N[i]? with | some n=>a1x n | none=>false
theorem a3j {N:List Nd} {i:Nat} {n:Nd} (h:N[i]?=some n):cN N i=a1x n:=by unfold cN;rw[h]
def a0w (N:List Nd) (A:List Int):Bool:=a1w (cN N) (N.map shN) A
def a8t (N:List Nd) (A:List Int):Int:=if a0w N A then a4b (N.map shN) A else 0
theorem a3k {n:Nd} (h:a1x n=true) (h9:n.k=9):0<=n.b/\n.b<=20/\(n.b=0->n.a=0):=by
 unfold a1x at h;rw[Bool.and_eq_true] at h;have h1:=h.1;unfold a4i at h1;rw[if_neg (by omega),if_neg (by omega),if_neg (by omega),if_neg (by omega),if_neg (by omega),if_neg (by omega),if_neg (by omega),if_neg (by omega),if_pos h9] at h1;simp only[Bool.and_eq_true,decide_eq_true_eq,Bool.not_eq_true',Bool.and_eq_false_iff,Bool.not_eq_false',decide_eq_false_iff_not] at h1;obtain⟨h2,h3⟩:=h1;refine⟨by omega,by omega,fun h0=>?_⟩
 omega
theorem b8z {N:List Nd} (h:∀ i,i<N.length->cN N i=true):∀ n ∈ N,n.k=9->0<=n.b/\n.b<=20/\(n.b=0->n.a=0):=fun n hn h9=>by
 obtain⟨i,hi⟩:=List.getElem?_of_mem hn;have hlt:=(List.getElem?_eq_some_iff.1 hi).1;have:=h i hlt;rw[a3j hi] at this;exact a3k this h9
theorem a9t {N:List Nd} : (∀ i,i<(N.map shN).length->cN N i=true)->∀ n ∈ N.map shN,n.k=9->0<=n.b:=fun h n hn h9=>by
 obtain⟨m,hm,rfl⟩:=List.mem_map.1 hn;rw[List.length_map] at h;exact(b8z h m hm h9).1
theorem b9a {N:List Sh} {A:List Int} (hb:∀ n ∈ N,n.k=9->0<=n.b) (h0:0<N.length) (h1:N.length<=300) (h:a3v N A=true) {m:Nat} (hm:m<N.length):d7y A (N.getD m default)/\∀ c ∈ d6t A (N.getD m default),0<=c/\c<m:=by
 unfold a3v at h;rw[Bool.and_eq_true,decide_eq_true_eq,decide_eq_true_eq] at h;obtain⟨s,hs,_⟩:=(a5n hb h0 h1).1 h;obtain⟨s',hs'⟩:=b5i hs (show m+1<=N.length from hm);exact b5h hb hm hs'
def c7m (t0:World) (N:List Nd) (r:Value) (wr:World):Prop:=∃ k:Nat,k<=N.length/\r=I6 k/\(∀ j,j<k->cN N j=true)/\Bl t0 wr
theorem a9u (u v:Value) (N:List Nd) (A:List Int) (w:World) (hN:NodesAt w u N) (hA:IntsAt w v A) (hl:A.length<=1000) (hl2:N.length<=1000) (h : ¬ (1<=N.length/\N.length<=300/\A.length<=300)) :
  Calls Tryz.prog 12 #[.agg #[u,v]] w fun e w'=>e=.returned (Bv false)/\Bl w w':=by
 obtain⟨bn,cn,rfl,_⟩:=hN.slice;obtain⟨ba,ca,rfl,_⟩:=hA.slice;have hud:=hUd;clear hN hA;generalize N.length=L at *;generalize A.length=K at *;by_cases h1:L=0
 ·
  subst h1;clear h;go_enter Tryz.func12,Tryz.ntmps12
  go_upto_region 1 with fail
  obtain⟨s1,F,hws,hdF,hsz,zF⟩:=nm1 w (.cells #[.slice bn 0 cn,.slice ba K ca] 25);have hN:=bx0 (b:=F) hws hdF;have kF0:=hN 0 _ rfl;clear hN;have hBo:=bs1 bR hws;rw[<-hws];try rw[<-hdF]
  clear hws hsz hdF
  all_goals go_wp2_with fail
  all_goals first | go_ret | go_ret2
  all_goals exact⟨rfl,hBo⟩
 ·
  have h1' : ¬ (L:Int)<1:=by omega
  by_cases h2:L<=300
  ·
   have h2':(L:Int)<=300:=by omega
   have h3:300<K:=by omega
   clear h;go_enter Tryz.func12,Tryz.ntmps12
   go_upto_region 1 with fail
   obtain⟨s2,F,hws,hdF,hsz,zF⟩:=nm1 w (.cells #[.slice bn L cn,.slice ba K ca] 25);have hN:=bx0 (b:=F) hws hdF;have kF0:=hN 0 _ rfl;have kF1:=hN 1 _ rfl;clear hN;have hBo:=bs1 bR hws;rw[<-hws];try rw[<-hdF]
   clear hws hsz hdF
   all_goals go_wp2_with fail
   all_goals first | go_ret | go_ret2
   all_goals exact⟨rfl,hBo⟩
  ·
   have h2':300<L:=by omega
   clear h;go_enter Tryz.func12,Tryz.ntmps12
   go_upto_region 1 with fail
   obtain⟨s3,F,hws,hdF,hsz,zF⟩:=nm1 w (.cells #[.slice bn L cn,.slice ba K ca] 25);have hN:=bx0 (b:=F) hws hdF;have kF0:=hN 0 _ rfl;clear hN;have hBo:=bs1 bR hws;rw[<-hws];try rw[<-hdF]
   clear hws hsz hdF
   all_goals go_wp2_with fail
   all_goals first | go_ret | go_ret2
   all_goals exact⟨rfl,hBo⟩
theorem a9d {C:Nat->Bool} {N:List Sh} {A:List Int} (h : ¬ (1<=N.length/\N.length<=300/\A.length<=300)):a1w C N A=false:=by
 cases hx:a1w C N A with
 | false=>rfl
 | true =>
  unfold a1w at hx;simp only[Bool.and_eq_true,decide_eq_true_eq] at hx;omega
theorem b3u {C:Nat->Bool} {N:List Sh} {A:List Int} (h:1<=N.length/\N.length<=300/\A.length<=300):a1w C N A=(decide (∀ i,i<N.length->C i=true)&&a3v N A&&decide (a4b N A<=24)):=by
 unfold a1w;rw[jD h.1,jD h.2.1,jD h.2.2];rfl
theorem a3t (u v:Value) (N:List Nd) (A:List Int) (w:World) (hN:NodesAt w u N) (hA:IntsAt w v A) (hf:∀ n ∈ N,Fits n) (hl:A.length<=1000) (hl2:N.length<=1000) :
  Calls Tryz.prog 12 #[.agg #[u,v]] w fun e w'=>e=.returned (Bv (a0w N A))/\Bl w w':=by
 by_cases hsz:1<=N.length/\N.length<=300/\A.length<=300
 rotate_left 1
 ·
  rw[show a0w N A=false from a9d (by rw[List.length_map];exact hsz)];exact a9u u v N A w hN hA hl hl2 hsz
 have hR:=b3u (C:=cN N) (N:=N.map shN) (A:=A) (by rw[List.length_map];exact hsz);rw[List.length_map] at hR;obtain⟨R,hR0⟩:=nM (a0w N A);rw[<-hR0];have hR1:R=(decide (∀ i,i<N.length->cN N i=true)&&a3v (N.map shN) A&&decide (a4b (N.map shN) A<=24)):=hR0.trans hR;obtain⟨s1,s2,s3⟩:=hsz;have hud:=hUd;obtain⟨K19,hz19,HK19⟩:=a0q;have hNC:=zh hN;have HA:=zh hA;obtain⟨bn,cn,rfl,hN2⟩:=hN.slice;have HNN:=zh hN2;obtain⟨ba,ca,rfl,_⟩:=hA.slice;have HGE:Hid (∀ k,k<N.length->∃ n,N[k]?=some n):=fun k h=>⟨_,jH h⟩
 have HMAY:=zh (fun (k:Nat) (n:Nd) (h:N[k]?=some n) (w:World)=>b8t n w (hf n (List.mem_of_getElem? h)))
 have HNO1:Hid (∀ k,k<N.length->cN N k=false->R=false):=fun k hk h=>by
  rw[hR1,jE (fun h2=>by rw[h2 k hk] at h;cases h)];rfl
 have HNO2:Hid (a3v (N.map shN) A=false->R=false):=fun h=>by rw[hR1,h,Bool.and_false,Bool.false_and]
 have HYES:Hid ((∀ k,k<N.length->cN N k=true)->a3v (N.map shN) A=true->R=decide (a4b (N.map shN) A<=24)):=fun h1 h2=>by rw[hR1,jD h1,h2];rfl
 have HTD:=zh (fun (h:∀ k,k<N.length->cN N k=true) (w:World) hN hA=>b8y (.slice bn N.length cn) (.slice ba A.length ca) N A w hN hA hl s1 s2 (fun n hn h9=>(b8z h n hn h9).2.1))
 have HDP:=zh (fun (h:∀ k,k<N.length->cN N k=true) (ht:a3v (N.map shN) A=true) (w:World) hN hA=>a7y (.slice bn N.length cn) (.slice ba A.length ca) N A w hN hA hl s2 (fun m n hn=>by
  have hm:=(List.getElem?_eq_some_iff.1 hn).1;have:=b9a (N:=N.map shN) (A:=A) (a9t (N:=N) (by rw[List.length_map];exact h)) (by rw[List.length_map];exact s1) (by rw[List.length_map];exact s2) ht (m:=m) (by rw[List.length_map];exact hm);rw[a2m N m n hn] at this
  exact this))
 have HLAST:Hid (a4b (N.map shN) A=(a3g (N.map shN) A N.length).getD (N.length-1) 0):=zh (by unfold a4b;rw[List.length_map]);have hdl:=a7u (N.map shN) A N.length;generalize a4b (N.map shN) A=LD at *;generalize a3v (N.map shN) A=tb at *;generalize a3g (N.map shN) A N.length=D at *;have HCS:=zh (fun (k:Nat) (n:Nd) (h:N[k]?=some n)=>a3j h);obtain⟨L,hL⟩:=nM N.length;rw[<-hL] at hNC HGE HNO1 HYES HTD HDP HLAST hdl s1 s2 |-
 have HLL:=zh hL;obtain⟨K,hK⟩:=nM A.length;rw[<-hK] at HA HTD HDP s3 |-
 have HDL:=zh hdl;clear hR hR0 hR1 hN hA hN2 hf hL hK hl hl2 hdl;have s1' : ¬ (L:Int)<1:=by omega
 have s2':(L:Int)<=300:=by omega
 have s3':(K:Int)<=300:=by omega
 go_enter Tryz.func12,Tryz.ntmps12
 go_upto_region 1 with fail
 obtain⟨s4,F,hws,hdF,hsz,zF⟩:=nm1 w (.cells #[.slice bn L cn,.slice ba K ca] 25);have hN:=bx0 (b:=F) hws hdF;have kF0:=hN 0 _ rfl;have kF1:=hN 1 _ rfl;clear hN;have hBo:=bs1 bR hws;rw[<-hws];try rw[<-hdF]
 clear hws hsz hdF;obtain⟨t0,ht0⟩:=nM s4;rw[<-ht0] at hBo kF0 kF1 zF |-
 have HZ:Hid (∀ W,Bl t0 W->Bl w W):=fun W h=>bT hBo h
 have HFF:Hid (∀ W,Bl t0 W->W.cell? ⟨F,0,none⟩=some (.slice bn L cn)/\W.cell? ⟨F,1,none⟩=some (.slice ba K ca)):=fun W h=>⟨a0f h kF0 zF,a0f h kF1 zF⟩
 clear ht0 hBo;go_wp2_with fail;clear kF0 kF1 zF
 go_loopw [3] (c7m t0 N) (fun r _=>L-(intOf r).toNat)
 case atStart=>exact⟨0,Nat.zero_le _,rfl,fun j h=>absurd h (Nat.not_lt_zero _),Below.refl _ _⟩
 case round =>
  obtain⟨k,hk,rfl,hall,hW⟩:=hrel;have HALL:=zh hall;rw[<-HLL.out] at hk;obtain⟨kF0,kF1⟩:=HFF.out _ hW;have zF:=a0j kF0;have hBo:=HZ.out _ hW;have HW:=zh hW;clear hall hW;by_cases hlt:k<L
  ·
   obtain⟨n,hn⟩:=HGE.out k hlt;have HM:=zh (HMAY.out k n hn);have HC:=zh (HCS.out k n hn);obtain⟨gn,on,rfl,hcn⟩:=HNN.out k n hn;have LN:=a0p wr gn (on+k*K19) HK19 n (fun j u hu=>by rw[HK19.out];exact a0f hBo (hcn j u hu) (a0j (hcn j u hu)));clear hcn hn;generalize a1x n=cb at *
   cases cb with
   | false =>
    have HR:=zh (HNO1.out k hlt HC.out);go_wp2_with fail;refine cAn (HM.out _) fun w5 hb=>?_
    have HB5:=zh (bT hBo hb);clear hb;go_wp2_with fail
    go_ret
    exact⟨a0d HR.out.symm,HB5.out⟩
   | true =>
    go_wp2_with fail;refine cAn (HM.out _) fun w5 hb=>?_
    have HW5:Hid (Bl t0 w5):=HW.out.trans (hb.mono HW.out.size);clear hb;go_wp2_with fail
    go_roundw
    case rel=>exact⟨k+1,by rw[<-HLL.out];omega,by go_num,fun j hj=>if e:j=k then e ▸ HC.out else HALL.out j (by omega),HW5.out⟩
    case measure=>simp[intOf];omega
  ·
   obtain rfl:k=L:=by omega
   have HT1:=zh (HTD.out HALL.out);have HD1:=zh (HDP.out HALL.out);have HY1:=zh (HYES.out HALL.out)
   cases tb with
   | false =>
    have HR:=zh (HNO2.out rfl);go_wp2_with fail;refine cAn (HT1.out _ (hNC.out.below hBo) (HA.out.below hBo)) fun w5 hb=>?_
    have HB5:=zh (bT hBo hb);clear hb;go_wp2_with fail
    go_ret
    exact⟨a0d HR.out.symm,HB5.out⟩
   | true =>
    have HR:=zh (HY1.out rfl);have HD2:=zh (HD1.out rfl);go_wp2_with fail;refine cAn (HT1.out _ (hNC.out.below hBo) (HA.out.below hBo)) fun w5 hb=>?_
    have hB5:=bT hBo hb;replace kF0:=a0f hb kF0 zF;replace kF1:=a0f hb kF1 zF;clear hb hBo;go_wp2_with fail;refine(HD2.out _ (hNC.out.below hB5) (HA.out.below hB5)).mono ?_;rintro e w6 ⟨⟨r,rfl,hr⟩,hb⟩;have HB6:=zh (bT hB5 hb);obtain⟨bd,cd,rfl,hdc⟩:=hr.slice;rw[HDL.out] at hdc |-
    obtain⟨M,rfl⟩:∃ M,k=M+1:=⟨k-1,by omega⟩;obtain⟨gd,od,rfl,hcd⟩:=hdc M (by omega);rw[show D.getD M 0=LD from HLAST.out.symm] at hcd;clear hb hB5 kF0 kF1 zF hr hdc;go_wp2_with fail
    go_ret
    exact⟨a0d HR.out.symm,HB6.out⟩
theorem b3v {N:List Nd} {A:List Int} (h:a0w N A=true):1<=N.length/\N.length<=300/\A.length<=300:=by
 by_cases hs:1<=(N.map shN).length/\(N.map shN).length<=300/\A.length<=300
 ·
  rwa [List.length_map] at hs
 ·
  have:=a9d (C:=cN N) hs;rw[show a1w (cN N) (N.map shN) A=a0w N A from rfl,h] at this;cases this
end Go.Proofs.YtibiacmbljgmhaaGreatDoor
