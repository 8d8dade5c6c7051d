import Derived.Test.YtibiacmbljgmhaaGreatDoorAst21
import Derived.Test.YtibiacmbljgmhaaGreatDoorAst13
set_option maxHeartbeats 16000000
set_option maxRecDepth 100000
namespace Go.Proofs.YtibiacmbljgmhaaGreatDoor
open Go.RowKit Go.Shelf
set_option linter.all false
def cN (N:List Nd) (i:Nat):Bool:=match N[i]? with | some n=>X9 n | none=>false
theorem a3j {N:List Nd} {i:Nat} {n:Nd} (h:N[i]?=some n):cN N i=X9 n:=by unfold cN;rw[h]
def Yw (N:List Nd) (A:List Int):Bool:=a1w (cN N) (N.map qX) A
def a8t (N:List Nd) (A:List Int):Int:=if Yw N A then a4b (N.map qX) A else 0
theorem a3k {n:Nd} (h:X9 n=true) (h9:n.k=9):0<=n.b/\n.b<=20/\(n.b=0->n.a=0):=by
 unfold X9 at h;rw[Bool.and_eq_true] at h;have h1:=h.1;unfold a4i at h1;rw[if_neg (by omega),if_neg (by omega),if_neg (by omega),if_neg (by omega),if_neg (by omega),if_neg (by omega),if_neg (by omega),if_neg (by omega),if_pos h9] at h1;simp only[Bool.and_eq_true,decide_eq_true_eq,Bool.not_eq_true',Bool.and_eq_false_iff,Bool.not_eq_false',decide_eq_false_iff_not] at h1;obtain⟨h2,h3⟩:=h1;refine⟨by omega,by omega,fun h0=>?_⟩
 omega
theorem b8z {N:List Nd} (h:∀ i,i<N.length->cN N i=true):∀ n ∈ N,n.k=9->0<=n.b/\n.b<=20/\(n.b=0->n.a=0):=fun n hn h9=>by
 obtain⟨i,hi⟩:=List.getElem?_of_mem hn;have hlt:=(List.getElem?_eq_some_iff.1 hi).1;have:=h i hlt;rw[a3j hi] at this;exact a3k this h9
theorem a9t {N:List Nd} : (∀ i,i<(N.map qX).length->cN N i=true)->∀ n ∈ N.map qX,n.k=9->0<=n.b:=fun h n hn h9=>by
 obtain⟨m,hm,rfl⟩:=List.mem_map.1 hn;rw[List.length_map] at h;exact(b8z h m hm h9).1
theorem b9a {N:List Sh} {A:List Int} (hb:∀ n ∈ N,n.k=9->0<=n.b) (h0:0<N.length) (h1:N.length<=300) (h:a3v N A=true) {m:Nat} (hm:m<N.length):d7y A (N.getD m default)/\∀ c ∈ Xj A (N.getD m default),0<=c/\c<m:=by
 unfold a3v at h;rw[Bool.and_eq_true,decide_eq_true_eq,decide_eq_true_eq] at h;obtain⟨s,hs,_⟩:=(a5n hb h0 h1).1 h;obtain⟨s',hs'⟩:=b5i hs (show m+1<=N.length from hm);exact b5h hb hm hs'
def c7m (t0:World) (N:List Nd) (r:Value) (wr:World):Prop:=∃ k:Nat,k<=N.length/\r=I6 k/\(∀ j,j<k->cN N j=true)/\Bl t0 wr
theorem a9u (u v:Value) (N:List Nd) (A:List Int) (w:World) (hN:NodesAt w u N) (hA:IntsAt w v A) (hl:A.length<=1000) (hl2:N.length<=1000) (h : ¬ (1<=N.length/\N.length<=300/\A.length<=300)) :
  Ca 12 #[.agg #[u,v]] w (Bv false):=by
 obtain⟨bn,cn,rfl,_⟩:=hN.slice;obtain⟨ba,ca,rfl,_⟩:=hA.slice;have JY:=Qw;clear hN hA;generalize N.length=L at *;generalize A.length=K at *;by_cases h1:L=0
 ·
  subst h1;clear h;go_enter Tryz.func12,Tryz.ntmps12
  go_upto_region 1 with fail
  obtain⟨s1,F,j6,qY,j8,zF⟩:=qy w (.cells #[.slice bn 0 cn,.slice ba K ca] 25);have hN:=Qz (b:=F) j6 qY;have qV:=hN 0 _ rfl;clear hN;have j7:=qQ bR j6;rw[<-j6];try rw[<-qY]
  clear j6 j8 qY
  all_goals go_wp2
  all_goals first | go_ret | go_ret2
  all_goals exact⟨rfl,j7⟩
 ·
  have h1' : ¬ (L:Int)<1:=by omega
  by_cases h2:L<=300
  ·
   have h2':(L:Int)<=300:=by omega
   have h3:300<K:=by omega
   clear h;go_enter Tryz.func12,Tryz.ntmps12
   go_upto_region 1 with fail
   obtain⟨s2,F,j6,qY,j8,zF⟩:=qy w (.cells #[.slice bn L cn,.slice ba K ca] 25);have hN:=Qz (b:=F) j6 qY;have qV:=hN 0 _ rfl;have J1:=hN 1 _ rfl;clear hN;have j7:=qQ bR j6;rw[<-j6];try rw[<-qY]
   clear j6 j8 qY
   all_goals go_wp2
   all_goals first | go_ret | go_ret2
   all_goals exact⟨rfl,j7⟩
  ·
   have h2':300<L:=by omega
   clear h;go_enter Tryz.func12,Tryz.ntmps12
   go_upto_region 1 with fail
   obtain⟨s3,F,j6,qY,j8,zF⟩:=qy w (.cells #[.slice bn L cn,.slice ba K ca] 25);have hN:=Qz (b:=F) j6 qY;have qV:=hN 0 _ rfl;clear hN;have j7:=qQ bR j6;rw[<-j6];try rw[<-qY]
   clear j6 j8 qY
   all_goals go_wp2
   all_goals first | go_ret | go_ret2
   all_goals exact⟨rfl,j7⟩
theorem a9d {C:Nat->Bool} {N:List Sh} {A:List Int} (h : ¬ (1<=N.length/\N.length<=300/\A.length<=300)):a1w C N A=false:=by
 cases hx:a1w C N A with
 | false=>rfl
 | true =>
  unfold a1w at hx;simp only[Bool.and_eq_true,decide_eq_true_eq] at hx;omega
theorem b3u {C:Nat->Bool} {N:List Sh} {A:List Int} (h:1<=N.length/\N.length<=300/\A.length<=300):a1w C N A=(decide (∀ i,i<N.length->C i=true)&&a3v N A&&decide (a4b N A<=24)):=by
 unfold a1w;rw[jD h.1,jD h.2.1,jD h.2.2];rfl
theorem a3t (u v:Value) (N:List Nd) (A:List Int) (w:World) (hN:NodesAt w u N) (hA:IntsAt w v A) (hf:∀ n ∈ N,J8 n) (hl:A.length<=1000) (hl2:N.length<=1000) :
  Ca 12 #[.agg #[u,v]] w (Bv (Yw N A)):=by
 by_cases j8:1<=N.length/\N.length<=300/\A.length<=300
 rotate_left 1
 ·
  rw[show Yw N A=false from a9d (by rw[List.length_map];exact j8)];exact a9u u v N A w hN hA hl hl2 j8
 have hR:=b3u (C:=cN N) (N:=N.map qX) (A:=A) (by rw[List.length_map];exact j8);rw[List.length_map] at hR;obtain⟨R,hR0⟩:=nM (Yw N A);rw[<-hR0];have hR1:R=(decide (∀ i,i<N.length->cN N i=true)&&a3v (N.map qX) A&&decide (a4b (N.map qX) A<=24)):=hR0.trans hR;obtain⟨s1,s2,s3⟩:=j8;have JY:=Qw;obtain⟨K19,hz19,HK19⟩:=Y9;have hNC:=zh hN;have HA:=zh hA;obtain⟨bn,cn,rfl,hN2⟩:=hN.slice;have HNN:=zh hN2;obtain⟨ba,ca,rfl,_⟩:=hA.slice;have HGE:Hid (∀ k,k<N.length->∃ n,N[k]?=some n):=fun k h=>⟨_,jH h⟩
 have HMAY:=zh (fun (k:Nat) (n:Nd) (h:N[k]?=some n) (w:World)=>b8t n w (hf n (List.mem_of_getElem? h)))
 have HNO1:Hid (∀ k,k<N.length->cN N k=false->R=false):=fun k hk h=>by
  rw[hR1,jE (fun h2=>by rw[h2 k hk] at h;cases h)];rfl
 have HNO2:Hid (a3v (N.map qX) A=false->R=false):=fun h=>by rw[hR1,h,Bool.and_false,Bool.false_and]
 have HYES:Hid ((∀ k,k<N.length->cN N k=true)->a3v (N.map qX) A=true->R=decide (a4b (N.map qX) A<=24)):=fun h1 h2=>by rw[hR1,jD h1,h2];rfl
 have HTD:=zh (fun (h:∀ k,k<N.length->cN N k=true) (w:World) hN hA=>b8y (.slice bn N.length cn) (.slice ba A.length ca) N A w hN hA hl s1 s2 (fun n hn h9=>(b8z h n hn h9).2.1))
 have HDP:=zh (fun (h:∀ k,k<N.length->cN N k=true) (ht:a3v (N.map qX) A=true) (w:World) hN hA=>a7y (.slice bn N.length cn) (.slice ba A.length ca) N A w hN hA hl s2 (fun m n hn=>by
  have hm:=(List.getElem?_eq_some_iff.1 hn).1;have:=b9a (N:=N.map qX) (A:=A) (a9t (N:=N) (by rw[List.length_map];exact h)) (by rw[List.length_map];exact s1) (by rw[List.length_map];exact s2) ht (m:=m) (by rw[List.length_map];exact hm);rw[a2m N m n hn] at this
  exact this))
 have HLAST:Hid (a4b (N.map qX) A=(a3g (N.map qX) A N.length).getD (N.length-1) 0):=zh (by unfold a4b;rw[List.length_map]);have hdl:=a7u (N.map qX) A N.length;generalize a4b (N.map qX) A=LD at *;generalize a3v (N.map qX) A=tb at *;generalize a3g (N.map qX) A N.length=D at *;have HCS:=zh (fun (k:Nat) (n:Nd) (h:N[k]?=some n)=>a3j h);obtain⟨L,hL⟩:=nM N.length;rw[<-hL] at hNC HGE HNO1 HYES HTD HDP HLAST hdl s1 s2 |-
 have XW:=zh hL;obtain⟨K,hK⟩:=nM A.length;rw[<-hK] at HA HTD HDP s3 |-
 have HDL:=zh hdl;clear hR hR0 hR1 hN hA hN2 hf hL hK hl hl2 hdl;have s1' : ¬ (L:Int)<1:=by omega
 have s2':(L:Int)<=300:=by omega
 have s3':(K:Int)<=300:=by omega
 go_enter Tryz.func12,Tryz.ntmps12
 go_upto_region 1 with fail
 obtain⟨s4,F,j6,qY,j8,zF⟩:=qy w (.cells #[.slice bn L cn,.slice ba K ca] 25);have hN:=Qz (b:=F) j6 qY;have qV:=hN 0 _ rfl;have J1:=hN 1 _ rfl;clear hN;have j7:=qQ bR j6;rw[<-j6];try rw[<-qY]
 clear j6 j8 qY;obtain⟨t0,ht0⟩:=nM s4;rw[<-ht0] at j7 qV J1 zF |-
 have HZ:Hid (∀ W,Bl t0 W->Bl w W):=fun W h=>bT j7 h
 have HFF:Hid (∀ W,Bl t0 W->W.cell? ⟨F,0,none⟩=some (.slice bn L cn)/\W.cell? ⟨F,1,none⟩=some (.slice ba K ca)):=fun W h=>⟨q9 h qV zF,q9 h J1 zF⟩
 clear ht0 j7;go_wp2_with fail;clear qV J1 zF
 go_loopw [3] (c7m t0 N) (fun r _=>L-(intOf r).toNat)
 case atStart=>exact⟨0,Nat.zero_le _,rfl,fun j h=>absurd h (Nat.not_lt_zero _),Below.refl _ _⟩
 case round =>
  obtain⟨k,hk,rfl,hall,hW⟩:=hrel;have HALL:=zh hall;rw[<-XW.out] at hk;obtain⟨qV,J1⟩:=HFF.out _ hW;have zF:=Xk qV;have j7:=HZ.out _ hW;have HW:=zh hW;clear hall hW;by_cases hlt:k<L
  ·
   obtain⟨n,hn⟩:=HGE.out k hlt;have HM:=zh (HMAY.out k n hn);have HC:=zh (HCS.out k n hn);obtain⟨gn,on,rfl,hcn⟩:=HNN.out k n hn;have LN:=a0p wr gn (on+k*K19) HK19 n (fun j u hu=>by rw[HK19.out];exact q9 j7 (hcn j u hu) (Xk (hcn j u hu)));clear hcn hn;generalize X9 n=cb at *
   cases cb with
   | false =>
    have HR:=zh (HNO1.out k hlt HC.out);go_wp2_with fail;refine jy (HM.out _) fun w5 hb=>?_
    have HB5:=zh (bT j7 hb);clear hb;go_wp2
    go_ret
    exact⟨J4 HR.out.symm,HB5.out⟩
   | true =>
    go_wp2_with fail;refine jy (HM.out _) fun w5 hb=>?_
    have HW5:Hid (Bl t0 w5):=HW.out.trans (hb.mono HW.out.size);clear hb;go_wp2
    go_roundw
    case rel=>exact⟨k+1,by rw[<-XW.out];omega,by go_num,fun j hj=>if e:j=k then e ▸ HC.out else HALL.out j (by omega),HW5.out⟩
    case measure=>simp[intOf];omega
  ·
   obtain rfl:k=L:=by omega
   have HT1:=zh (HTD.out HALL.out);have HD1:=zh (HDP.out HALL.out);have HY1:=zh (HYES.out HALL.out)
   cases tb with
   | false =>
    have HR:=zh (HNO2.out rfl);go_wp2_with fail;refine jy (HT1.out _ (hNC.out.below j7) (HA.out.below j7)) fun w5 hb=>?_
    have HB5:=zh (bT j7 hb);clear hb;go_wp2
    go_ret
    exact⟨J4 HR.out.symm,HB5.out⟩
   | true =>
    have HR:=zh (HY1.out rfl);have HD2:=zh (HD1.out rfl);go_wp2_with fail;refine jy (HT1.out _ (hNC.out.below j7) (HA.out.below j7)) fun w5 hb=>?_
    have hB5:=bT j7 hb;replace qV:=q9 hb qV zF;replace J1:=q9 hb J1 zF;clear hb j7;go_wp2_with fail;refine(HD2.out _ (hNC.out.below hB5) (HA.out.below hB5)).mono ?_;rintro e w6 ⟨⟨r,rfl,hr⟩,hb⟩;have HB6:=zh (bT hB5 hb);obtain⟨bd,cd,rfl,hdc⟩:=hr.slice;rw[HDL.out] at hdc |-
    obtain⟨M,rfl⟩:∃ M,k=M+1:=⟨k-1,by omega⟩;obtain⟨gd,od,rfl,hcd⟩:=hdc M (by omega);rw[show D.getD M 0=LD from HLAST.out.symm] at hcd;clear hb hB5 qV J1 zF hr hdc;go_wp2
    go_ret
    exact⟨J4 HR.out.symm,HB6.out⟩
theorem b3v {N:List Nd} {A:List Int} (h:Yw N A=true):1<=N.length/\N.length<=300/\A.length<=300:=by
 by_cases hs:1<=(N.map qX).length/\(N.map qX).length<=300/\A.length<=300
 ·
  rwa [List.length_map] at hs
 ·
  have:=a9d (C:=cN N) hs;rw[show a1w (cN N) (N.map qX) A=Yw N A from rfl,h] at this;cases this
