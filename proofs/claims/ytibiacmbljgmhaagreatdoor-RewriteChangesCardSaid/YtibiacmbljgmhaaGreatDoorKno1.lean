import Derived.Test.YtibiacmbljgmhaaGreatDoorAst37
import Derived.Test.YtibiacmbljgmhaaGreatDoorPrt1
import Derived.Test.YtibiacmbljgmhaaGreatDoorRewb
import Derived.Test.YtibiacmbljgmhaaGreatDoorRewg
import Derived.Lib.SmallJoins
import Derived.OpenShut
import Derived.Deep.Slices
import Derived.Lib.LaidU8
namespace Go.Proofs.YtibiacmbljgmhaaGreatDoor
open Go.RowKit Go.Shelf
set_option linter.all false
abbrev knT:jW:=⟨#[65,49,43,65,53,43,120,33,65,53]⟩
abbrev e2i:jW:=⟨#[111,119,110]⟩
abbrev knX:jW:=⟨#[120]⟩
abbrev knI:jW:=⟨#[65,49,43,65,54,43,120,33,65,53]⟩
abbrev knD:jW:=⟨#[65,49,43,65,53,43,35,82,69,70,33]⟩
abbrev e2j (sh:jW) (r:Int):Nd:=⟨5,0,0,0,false,⟨#[]⟩,⟨#[]⟩,⟨#[]⟩,false,⟨sh,1,r,false,false⟩,Jj⟩
abbrev e0j (a b:Int):Nd:=⟨8,1,a,b,false,⟨#[]⟩,⟨#[]⟩,⟨#[]⟩,false,Jj,Jj⟩
abbrev knF:List Nd:=[e2j ⟨#[]⟩ 1,e2j ⟨#[]⟩ 5,e0j 0 1,e2j knX 5,e0j 2 3]
abbrev knG:List Nd:=[e2j ⟨#[]⟩ 1,e2j ⟨#[]⟩ 6,e0j 0 1,e2j knX 5,e0j 2 3]
abbrev knH:List Nd:=[e2j ⟨#[]⟩ 1,e2j ⟨#[]⟩ 5,e0j 0 1,Y7,e0j 2 3]
theorem f1u:f2f d9p knT.data.toList 60=some (knF,[],0,0):=by kernel_rfl
def noG (_:Nd):Rf × Rf × Bool:=(Jj,Jj,false)
theorem f1v:Y8 1 3 1 (XZ e2i e2i (f1o 1 3 1)) noG knF []=(knG,[],0):=by kernel_rfl
theorem f1w:Y8 1 5 1 (XZ e2i knX (f1p 1 5 1)) noG knF []=(knH,[],0):=by kernel_rfl
theorem f0j:(Yw knF []&&e0q e2i knX knF)=true:=by kernel_rfl
theorem f4d:Yw knG []=true:=by kernel_rfl
theorem f4e:Yw knH []=true:=by kernel_rfl
theorem d9h {N:List Nd} {A:List Int} {u v:Value} {i:Nat} {n:Nd} {z:jW} (hi:N[i]?=some n) (hl:A.length<=1000) (hl2:N.length<=1000) (hk:Xj A (qX n)=[]) (h9:a1h A (qX n)=true) (hok:f3v n) (hz:z=lfX n):TxP N A u v i z:=fun w hN hA =>
 e4l u v N A i n [] z w hN hA hi hl hl2 h9 (by rw[hk];rfl) (fun j h=>absurd h (Nat.not_lt_zero j)) (fun j h=>absurd h (Nat.not_lt_zero j)) (Or.inl ⟨hok,hz⟩)
theorem e1m {N:List Nd} {A:List Int} {u v:Value} {i a b:Nat} {na nb:Nd} {sa sb z:jW} (hi:N[i]?=some (e0j a b)) (hl:A.length<=1000) (hl2:N.length<=1000) (ha:N[a]?=some na) (hb:N[b]?=some nb) (k0:brk (qX (e0j a b)) (qX na) 0=false) (k1:brk (qX (e0j a b)) (qX nb) 1=false) (hta:TxP N A u v a sa) (htb:TxP N A u v b sb) (z1:sa.size<=1000) (z2:sb.size<=1000) (hz:z=(sa++⟨#[43]⟩)++sb):TxP N A u v i z:=fun w hN hA =>
 e4l u v N A i (e0j a b) [sa,sb] z w hN hA hi hl hl2 (by rfl) (by rfl)
  (fun j h=>by match j,h with | 0,_=>exact z1 | 1,_=>exact z2)
  (fun j h=>by match j,h with | 0,_=>exact⟨a,na,rfl,ha,k0,hta⟩ | 1,_=>exact⟨b,nb,rfl,hb,k1,htb⟩)
  (Or.inr ⟨rfl,rfl,0,by decide,rfl,hz⟩)
theorem e8u (u v:Value):TxP knG [] u v 4 knI :=
 e1m (a:=2) (b:=3) (sa:=⟨#[65,49,43,65,54]⟩) (sb:=⟨#[120,33,65,53]⟩) rfl (by decide) (by decide) rfl rfl (by kernel_rfl) (by kernel_rfl)
  (e1m (a:=0) (b:=1) (sa:=⟨#[65,49]⟩) (sb:=⟨#[65,54]⟩) rfl (by decide) (by decide) rfl rfl (by kernel_rfl) (by kernel_rfl)
   (d9h rfl (by decide) (by decide) (by kernel_rfl) (by kernel_rfl) (Or.inr ⟨rfl,by kernel_rfl,by decide⟩) (by decide +kernel))
   (d9h rfl (by decide) (by decide) (by kernel_rfl) (by kernel_rfl) (Or.inr ⟨rfl,by kernel_rfl,by decide⟩) (by decide +kernel))
   (by decide) (by decide) (by decide +kernel))
  (d9h rfl (by decide) (by decide) (by kernel_rfl) (by kernel_rfl) (Or.inr ⟨rfl,by kernel_rfl,by decide⟩) (by decide +kernel))
  (by decide) (by decide) (by decide +kernel)
theorem e8v (u v:Value):TxP knH [] u v 4 knD :=
 e1m (a:=2) (b:=3) (sa:=⟨#[65,49,43,65,53]⟩) (sb:=⟨#[35,82,69,70,33]⟩) rfl (by decide) (by decide) rfl rfl (by kernel_rfl) (by kernel_rfl)
  (e1m (a:=0) (b:=1) (sa:=⟨#[65,49]⟩) (sb:=⟨#[65,53]⟩) rfl (by decide) (by decide) rfl rfl (by kernel_rfl) (by kernel_rfl)
   (d9h rfl (by decide) (by decide) (by kernel_rfl) (by kernel_rfl) (Or.inr ⟨rfl,by kernel_rfl,by decide⟩) (by decide +kernel))
   (d9h rfl (by decide) (by decide) (by kernel_rfl) (by kernel_rfl) (Or.inr ⟨rfl,by kernel_rfl,by decide⟩) (by decide +kernel))
   (by decide) (by decide) (by decide +kernel))
  (d9h rfl (by decide) (by decide) (by kernel_rfl) (by kernel_rfl) (Or.inl ⟨rfl,by decide,by decide⟩) (by decide +kernel))
  (by decide) (by decide) (by decide +kernel)
theorem kn_fits:(∀ n ∈ knF,J8 n)/\(∀ n ∈ knG,J8 n)/\(∀ n ∈ knH,J8 n):=by
 unfold J8;refine⟨?_,?_,?_⟩<;>decide +kernel
theorem f4i:∀ n ∈ knF,n.k=5->X8 n.r=true/\n.r.sh.size<=maxLen:=by decide +kernel
theorem f4n:∀ n ∈ knF,n.k≠6:=by decide +kernel
theorem f4l (q:Rf) (way a n:Int) (w:World) (hs:q.sh.size<=maxLen) (hm:YY way a n=true) (hr:X8 q=true) :
  Ca 38 #[.agg #[Sg q.sh,I6 q.c,I6 q.r,Bv q.fc,Bv q.fr],I6 way,I6 a,I6 n] w (.tuple #[.agg #[Sg ((f1o way a n q).1).sh,I6 ((f1o way a n q).1).c,I6 ((f1o way a n q).1).r,Bv ((f1o way a n q).1).fc,Bv ((f1o way a n q).1).fr],Bv (f1o way a n q).2]):=by
 refine e5f q way a n _ _ w fun w=>?_
 obtain⟨k0,k1,k2,k3,k4,k5,k6⟩:=d9t hm;obtain⟨p1,p2⟩:=e4z hr k0;refine e0r _ f4c q way a n (shP (Q9 q way) a n) _ _ w hs hm hr (fun g p w=>d9v _ a n g p _ w (by omega) (by omega) (by omega) (by omega)) ?_;have hge:1<=shP (Q9 q way) a n:=by unfold shP;split<;>omega
 by_cases h:shP (Q9 q way) a n<=Yx way
 ·
  right;have hb:e2b q way a n=true:=(d8z hm hr).trans (jD h);exact⟨hge,h,(e1i hb).symm,hb⟩
 ·
  left;have hb:e2b q way a n=false:=(d8z hm hr).trans (jE h);exact⟨Or.inr (by omega),e3d hb,hb⟩
theorem f4m (q:Rf) (way a n:Int) (w:World) (hs:q.sh.size<=maxLen) (hm:YY way a n=true) (hr:X8 q=true) :
  Ca 45 #[.agg #[Sg q.sh,I6 q.c,I6 q.r,Bv q.fc,Bv q.fr],I6 way,I6 a,I6 n] w (.tuple #[.agg #[Sg ((f1p way a n q).1).sh,I6 ((f1p way a n q).1).c,I6 ((f1p way a n q).1).r,Bv ((f1p way a n q).1).fc,Bv ((f1p way a n q).1).fr],Bv (f1p way a n q).2]):=by
 refine e3f q way a n _ _ w fun w=>?_
 obtain⟨k0,k1,k2,k3,k4,k5,k6⟩:=d9t hm;obtain⟨p1,p2⟩:=e4z hr k0;refine e0r _ f3q q way a n (tkP (Q9 q way) a n) _ _ w hs hm hr (fun g p w=>d8c _ a n g p _ w (by omega) (by omega) (by omega) (by omega) (by omega) (by omega)) ?_;by_cases h2:a<=Q9 q way/\Q9 q way<a+n
 ·
  left;have hb:Xw q way a n=false:=(d9o hm hr).trans (by rw[jD h2.1,jD h2.2];rfl);have h3:tkP (Q9 q way) a n=0:=by unfold tkP;rw[if_neg (by omega),if_pos h2.1]
  exact⟨Or.inl (by omega),e3e hb,hb⟩
 ·
  right
  have hb:Xw q way a n=true:=(d9o hm hr).trans (by
   by_cases h4:a<=Q9 q way
   ·
    rw[jD h4,jE (fun h5=>h2 ⟨h4,h5⟩)];rfl
   ·
    rw[jE h4];rfl)
  have h3:tkP (Q9 q way) a n=YX (Q9 q way) a n:=by
   unfold tkP YX
   split
   ·
    rfl
   ·
    rw[if_neg (by omega)]
  have h4:1<=YX (Q9 q way) a n/\YX (Q9 q way) a n<=Yx way:=by unfold YX;split<;>omega
  rw[h3];exact⟨h4.1,h4.2,(d8w hb).symm,hb⟩
theorem f4o (u v:Value) (w:World) (hN:NodesAt w u knF) (hA:IntsAt w v []) (XK:NamesAt w):Cz 13 #[.agg #[u,v],Sg e2i,Sg e2i,I6 1,I6 3,I6 1] w (GotOwn knG [] 0 w):=by
 have h:=f4j e2i e2i 1 3 1 u v knF [] w _ hN hA XK fun w h1 h2 h3=>e2z e2i e2i 1 3 1 38 39 (XZ e2i e2i (f1o 1 3 1)) noG u v knF [] w h1 h2 kn_fits.1 h3 (by decide) (by decide)
  (fun _ _ m hm h5 w=>e6l e2i e2i 1 3 1 38 39 e9x m.r (XZ e2i e2i (f1o 1 3 1) m) w (fun h=>if_neg (by rw[h];simp)) (fun h w=>by rw[show XZ e2i e2i (f1o 1 3 1) m=f1o 1 3 1 m.r from if_pos h];exact f4l m.r 1 3 1 w (f4i m hm h5).2 (by decide +kernel) (f4i m hm h5).1))
  (fun _ _ m hm h6=>absurd h6 (f4n m hm))
 rw[f1v] at h;exact h
theorem f4p (u v:Value) (w:World) (hN:NodesAt w u knF) (hA:IntsAt w v []) (XK:NamesAt w):Cz 15 #[.agg #[u,v],Sg e2i,Sg knX,I6 1,I6 5,I6 1] w (GotOwn knH [] 0 w):=by
 have h:=f4k e2i knX 1 5 1 u v knF [] w _ hN hA XK fun w h1 h2 h3=>e2z e2i knX 1 5 1 45 46 (XZ e2i knX (f1p 1 5 1)) noG u v knF [] w h1 h2 kn_fits.1 h3 (by decide) (by decide)
  (fun _ _ m hm h5 w=>e6l e2i knX 1 5 1 45 46 e9y m.r (XZ e2i knX (f1p 1 5 1) m) w (fun h=>if_neg (by rw[h];simp)) (fun h w=>by rw[show XZ e2i knX (f1p 1 5 1) m=f1p 1 5 1 m.r from if_pos h];exact f4m m.r 1 5 1 w (f4i m hm h5).2 (by decide +kernel) (f4i m hm h5).1))
  (fun _ _ m hm h6=>absurd h6 (f4n m hm))
 rw[f1w] at h;exact h
set_option maxHeartbeats 16000000
set_option maxRecDepth 100000
theorem e3m (w:World) (XK:NamesAt w):Ca 9 #[] w (Bv true):=by
 have JY:=Qw;have Xv:=zh XK;have HF:=zh (fun w=>d8a knT w 60 knF [] 0 0 (by decide) f1u);have hu:=fun u v w h1 h2 h3=>e9v u v knF [] e2i knX w h1 h2 kn_fits.1 h3 (by decide) (by decide)
 rw[f0j] at hu;have HI:=zh f4o;have HD:=zh f4p;have HU:=zh hu;have HG:=zh (fun u v w h1 h2=>d9j u v knG [] 4 knI w h1 h2 kn_fits.2.1 (by decide) (by decide) f4d rfl (e8u u v) (by decide));have HH:=zh (fun u v w h1 h2=>d9j u v knH [] 4 knD w h1 h2 kn_fits.2.2 (by decide) (by decide) f4e rfl (e8v u v) (by decide));clear hu XK;generalize knF=NF at *;generalize knG=NG at *;generalize knH=NH at *;go_enter Tryz.func9,Tryz.ntmps9;go_wp2_with fail;refine(HF.out w).mono ?_;rintro e w1 ⟨⟨us,vs,rfl,hn,ha⟩,j7⟩;obtain⟨b1,c1,rfl,_⟩:=hn.slice;obtain⟨b2,c2,rfl,_⟩:=ha.slice;obtain⟨n1,hn1⟩:=nM NF.length;obtain⟨a1,ha1⟩:=nM (([]:List Int).length);rw[<-hn1] at hn |-
 rw[<-ha1] at ha |-
 have N1:=zh hn;have A1:=zh ha;clear hn ha hn1 ha1;go_wp2_with fail;obtain⟨s1,F,j6,qY,j8,zF⟩:=qy w1 (.cells #[.slice b1 n1 c1,.slice b2 a1 c2] 25);have j9:=JW j6;have hAF:w1.heap.size<=F:=by omega
 have hN:=Qz (b:=F) j6 qY;have qV:=hN 0 _ rfl;have J1:=hN 1 _ rfl;clear hN;replace j7:=qQ j7 j6;rw[<-j6];try rw[<-qY]
 clear j6 j8 qY;replace N1:=zh (N1.out.below j9);replace A1:=zh (A1.out.below j9);clear j9;refine(HI.out _ _ _ N1.out A1.out (Xv.out.below j7)).mono ?_;rintro e w2 hq;obtain⟨⟨u2,v2,rfl,hn,ha⟩,hb⟩:=hq.got;obtain⟨b1,c1,rfl,_⟩:=hn.slice;obtain⟨b2,c2,rfl,_⟩:=ha.slice;obtain⟨n2,hn1⟩:=nM NG.length;obtain⟨a2,ha1⟩:=nM (([]:List Int).length);dsimp only at hn ha |-
 rw[<-hn1] at hn |-
 rw[<-ha1] at ha |-
 have N2:=zh hn;have A2:=zh ha;clear hn ha hn1 ha1 hq;replace N1:=zh (N1.out.below hb);replace A1:=zh (A1.out.below hb);replace qV:=q9 hb qV zF;replace J1:=q9 hb J1 zF;replace zF:=jw hb zF;replace j7:=X4 j7 hb;clear hb;go_wp2_with fail;obtain⟨s2,G,j6,hdG,j8,zG⟩:=qy w2 (.cells #[.slice b1 n2 c1,.slice b2 a2 c2] 25);have j9:=JW j6;have hAG:w2.heap.size<=G:=by omega
 replace qV:=q9 j9 qV zF;replace J1:=q9 j9 J1 zF;replace zF:=jw j9 zF;have hN:=Qz (b:=G) j6 hdG;have kG0:=hN 0 _ rfl;have kG1:=hN 1 _ rfl;clear hN;replace j7:=qQ j7 j6;rw[<-j6];try rw[<-hdG]
 clear j6 j8 hdG;replace N1:=zh (N1.out.below j9);replace A1:=zh (A1.out.below j9);replace N2:=zh (N2.out.below j9);replace A2:=zh (A2.out.below j9);clear j9;refine(HD.out _ _ _ N1.out A1.out (Xv.out.below j7)).mono ?_;rintro e w3 hq;obtain⟨⟨u3,v3,rfl,hn,ha⟩,hb⟩:=hq.got;obtain⟨d1,e1,rfl,_⟩:=hn.slice;obtain⟨d2,e2,rfl,_⟩:=ha.slice;obtain⟨n3,hn1⟩:=nM NH.length;obtain⟨a3,ha1⟩:=nM (([]:List Int).length);dsimp only at hn ha |-
 rw[<-hn1] at hn |-
 rw[<-ha1] at ha |-
 have N3:=zh hn;have A3:=zh ha;clear hn ha hn1 ha1 hq;replace N1:=zh (N1.out.below hb);replace A1:=zh (A1.out.below hb);replace N2:=zh (N2.out.below hb);replace A2:=zh (A2.out.below hb);replace qV:=q9 hb qV zF;replace J1:=q9 hb J1 zF;replace zF:=jw hb zF;replace kG0:=q9 hb kG0 zG;replace kG1:=q9 hb kG1 zG;replace zG:=jw hb zG;replace j7:=X4 j7 hb;clear hb;go_wp2_with fail;obtain⟨s3,H,j6,hdH,j8,zH⟩:=qy w3 (.cells #[.slice d1 n3 e1,.slice d2 a3 e2] 25);have j9:=JW j6;have hAH:w3.heap.size<=H:=by omega
 replace qV:=q9 j9 qV zF;replace J1:=q9 j9 J1 zF;replace zF:=jw j9 zF;have hN:=Qz (b:=H) j6 hdH;have kH0:=hN 0 _ rfl;have kH1:=hN 1 _ rfl;clear hN;replace j7:=qQ j7 j6;rw[<-j6];try rw[<-hdH]
 clear j6 j8 hdH;replace N1:=zh (N1.out.below j9);replace A1:=zh (A1.out.below j9);replace N2:=zh (N2.out.below j9);replace A2:=zh (A2.out.below j9);replace N3:=zh (N3.out.below j9);replace A3:=zh (A3.out.below j9);clear j9;refine jy (HG.out _ _ _ N2.out A2.out) fun w4 hb=>?_
 replace N1:=zh (N1.out.below hb);replace A1:=zh (A1.out.below hb);replace N3:=zh (N3.out.below hb);replace A3:=zh (A3.out.below hb);clear N2 A2;replace qV:=q9 hb qV zF;replace J1:=q9 hb J1 zF;replace zF:=jw hb zF;replace kH0:=q9 hb kH0 zH;replace kH1:=q9 hb kH1 zH;replace j7:=X4 j7 hb;clear hb;go_wp2_with fail;refine jy (HH.out _ _ _ N3.out A3.out) fun w5 hb=>?_
 replace N1:=zh (N1.out.below hb);replace A1:=zh (A1.out.below hb);clear N3 A3;replace qV:=q9 hb qV zF;replace J1:=q9 hb J1 zF;replace j7:=X4 j7 hb;clear hb;go_wp2_with fail;refine jy (HU.out _ _ _ N1.out A1.out (Xv.out.below j7)) fun w6 hb=>?_
 replace j7:=X4 j7 hb;clear hb;go_wp2
 go_ret
 exact⟨rfl,j7⟩
theorem f5w {n:Nd} {way a c:Int} (hc:X9 n=true) (h6:n.k=6) (hm:YY way a c=true):e1z n.r n.t way a c=true:=by
 obtain⟨r1,r2⟩:=f6e hc h6;obtain⟨_,_,e2,e3,_⟩:=f4b hc h6;unfold e1z;rw[show X8 n.r=true from r1,show X8 n.t=true from r2,hm,jD]
 ·
  rfl
 ·
  rcases (d9t hm).1 with rfl | rfl
  ·
   exact e2
  ·
   exact e3
theorem f6k (own sheet:jW) (way a n:Int) (u v:Value) (N:List Nd) (A:List Int) (w:World) (hN:NodesAt w u N) (hA:IntsAt w v A) (hf:∀ n ∈ N,J8 n) (XK:NamesAt w) (hl:A.length<=1000) (hl2:N.length<=1000) :
  Cz 13 #[.agg #[u,v],Sg own,Sg sheet,I6 way,I6 a,I6 n] w (GotOwn (Y8 way a n (XZ own sheet (f1o way a n)) (Yy own sheet (Yv way a n)) N A).1 (Y8 way a n (XZ own sheet (f1o way a n)) (Yy own sheet (Yv way a n)) N A).2.1 (Y8 way a n (XZ own sheet (f1o way a n)) (Yy own sheet (Yv way a n)) N A).2.2 w) :=
 f4j own sheet way a n u v N A w _ hN hA XK fun w h1 h2 h3=>e2z own sheet way a n 38 39 (XZ own sheet (f1o way a n)) (Yy own sheet (Yv way a n)) u v N A w h1 h2 hf h3 hl hl2
  (fun hR hM m hm h5 w=>e6l own sheet way a n 38 39 e9x m.r (XZ own sheet (f1o way a n) m) w (fun h=>if_neg (by rw[h];simp)) (fun h w=>by rw[show XZ own sheet (f1o way a n) m=f1o way a n m.r from if_pos h];exact f4l m.r way a n w (f1n (hf m hm).2.2.2.1) hM (f4a (f4y hR hm) h5).2))
  (fun hR hM m hm h6 w=>e6m own sheet way a n 38 39 e8k m.r m.t (Yy own sheet (Yv way a n) m) w (fun h=>if_neg (by rw[h];simp)) (fun h w=>by rw[show Yy own sheet (Yv way a n) m=Yv way a n m.r m.t from if_pos h];exact f5m m.r m.t way a n w (f1n (hf m hm).2.2.2.1) (f1n (hf m hm).2.2.2.2) (f5w (f4y hR hm) h6 hM)))
theorem g0u {a:Rf} {way x n:Int} : (if Xw a way x n=true then e8n a way x n else Y1 a way x)=Y1 a way (if Xw a way x n=true then YX (Q9 a way) x n else x):=by
 cases h:Xw a way x n with
 | true=>rw[if_pos rfl,if_pos rfl,d8w h]
 | false=>rfl
theorem g0r {q:Rf} {way a n:Int} (h:Xw q way a n=true):X8 (e8n q way a n)=true:=by
 have h0:=h;unfold Xw at h;rw[Bool.and_eq_true,Bool.and_eq_true] at h;obtain⟨⟨h1,h2⟩,_⟩:=h;have h3:=(e4h h2 h1).1.1 h0;obtain⟨k0,k1,k2,k3,k4,k5,k6⟩:=d9t h2;obtain⟨p1,p2⟩:=e4z h1 k0;rw[d8w h0];exact f5u h1 k0 (by unfold YX;split<;>omega) (by unfold YX;split<;>omega)
theorem g0l {a b:Rf} {way x n:Int} (h:d9g a b way x n=true):X8 (e5i a b way x n)=true/\X8 (e5j a b way x n)=true/\(e5j a b way x n).sh=b.sh:=by
 obtain⟨e1,e2⟩:=e4g h;unfold d9g at h;rw[Bool.and_eq_true] at h;obtain⟨f1,f2,_⟩:=(g0e h.1).1 h.2
 have e3:(if Xw b way x n=true then e8n b way x n else Y1 b way (x-1))=Y1 b way (if Xw b way x n=true then YX (Q9 b way) x n else x-1):=by
  cases hb:Xw b way x n with
  | true=>rw[if_pos rfl,if_pos rfl,d8w hb]
  | false=>rfl
 rw[e1,e2,g0u,e3];exact⟨f1,f2,f5t _ _ _⟩
theorem g0j (own sheet:jW) (way a n:Int) {N:List Nd} {A:List Int} (h:Yw N A=true):Yw (N.map (e2a (XZ own sheet (f1p way a n)) (Yy own sheet (e6o way a n)))) A=true :=
 f7c (fun _ hy=>g0r hy) (fun _ _ hy=>g0l hy) h
theorem g0o {way a n:Int} {fo:Nd->Rf × Bool} {fb:Nd->Rf × Rf × Bool} {N:List Nd} {A:List Int} (h:(Y8 way a n fo fb N A).2.2=0):Yw N A=true/\Y8 way a n fo fb N A=(N.map (e2a fo fb),A,0):=by
 unfold Y8 at h |-
 cases hR:Yw N A with
 | false=>rw[hR,if_pos rfl] at h;exact absurd h (by decide)
 | true =>
  cases hM:YY way a n with
  | false=>rw[hR,hM,if_neg (by simp),if_pos rfl] at h;exact absurd h (by decide)
  | true=>exact⟨rfl,by rw[if_neg (by simp),if_neg (by simp)]⟩
theorem g0p {way a n:Int} {fo:Nd->Rf × Bool} {fb:Nd->Rf × Rf × Bool} {N:List Nd} {A:List Int} (h1:N.length<=1000) (h2:A.length<=1000):(Y8 way a n fo fb N A).1.length<=1000/\(Y8 way a n fo fb N A).2.1.length<=1000:=by
 unfold Y8
 split
 ·
  exact⟨by simp,by simp⟩
 ·
  split
  ·
   exact⟨by simp,by simp⟩
  ·
   exact⟨by rw[List.length_map];exact h1,h2⟩
theorem g0v {own sheet:jW} {p:Rf->Rf × Bool} {p2:Rf->Rf->Rf × Rf × Bool} {n:Nd} (hc:X9 n=true):g0h own sheet (fun n=>p n.r) (fun n=>p2 n.r n.t) n=e2a (XZ own sheet p) (Yy own sheet p2) n:=by
 unfold g0h f1l;by_cases h5:n.k=5
 ·
  rw[f3h (fo:=XZ own sheet p) (by simpa using h5),f3h (fo:=fun n=>p n.r) (by simpa using h5)]
  cases hT:e6j own sheet n.r with
  | false=>rw[if_neg (by simp),show XZ own sheet p n=(n.r,true) from if_neg (by rw[hT];simp)];exact(f5c hc h5).symm
  | true=>rw[if_pos (by simp[h5]),show XZ own sheet p n=p n.r from if_pos hT]
 ·
  by_cases h6:n.k=6
  ·
   rw[f3i (fb:=Yy own sheet p2) (by simpa using h5) (by simpa using h6),f3i (fb:=fun n=>p2 n.r n.t) (by simpa using h5) (by simpa using h6)]
   cases hT:e6j own sheet n.r with
   | false=>rw[if_neg (by simp),show Yy own sheet p2 n=(n.r,n.t,true) from if_neg (by rw[hT];simp)];exact(f5l hc h6).symm
   | true=>rw[if_pos (by simp[h6]),show Yy own sheet p2 n=p2 n.r n.t from if_pos hT]
  ·
   rw[f0e (fo:=XZ own sheet p) (by simpa using h5) (by simpa using h6),if_neg (by simp[h5,h6])]
theorem g0w {own sheet:jW} {way a n:Int} {p:Rf->Rf × Bool} {p2:Rf->Rf->Rf × Rf × Bool} {N:List Nd} {A:List Int} : dcQ own sheet way a n (fun n=>p n.r) (fun n=>p2 n.r n.t) N A=Y8 way a n (XZ own sheet p) (Yy own sheet p2) N A:=by
 unfold dcQ Y8
 cases hR:Yw N A with
 | false=>rfl
 | true =>
  rw[List.map_congr_left fun n hn=>g0v (f4y hR hn)]
theorem g0m (own sheet:jW) (way a n:Int) (u v:Value) (N:List Nd) (A:List Int) (w:World) (hN:NodesAt w u N) (hA:IntsAt w v A) (hf:∀ n ∈ N,J8 n) (XK:NamesAt w) (hl:A.length<=1000) (hl2:N.length<=1000) :
  Cz 15 #[.agg #[u,v],Sg own,Sg sheet,I6 way,I6 a,I6 n] w (GotOwn (Y8 way a n (XZ own sheet (f1p way a n)) (Yy own sheet (e6o way a n)) N A).1 (Y8 way a n (XZ own sheet (f1p way a n)) (Yy own sheet (e6o way a n)) N A).2.1 (Y8 way a n (XZ own sheet (f1p way a n)) (Yy own sheet (e6o way a n)) N A).2.2 w) :=
 f4k own sheet way a n u v N A w _ hN hA XK fun w h1 h2 h3=>e2z own sheet way a n 45 46 (XZ own sheet (f1p way a n)) (Yy own sheet (e6o way a n)) u v N A w h1 h2 hf h3 hl hl2
  (fun hR hM m hm h5 w=>e6l own sheet way a n 45 46 e9y m.r (XZ own sheet (f1p way a n) m) w (fun h=>if_neg (by rw[h];simp)) (fun h w=>by rw[show XZ own sheet (f1p way a n) m=f1p way a n m.r from if_pos h];exact f4m m.r way a n w (f1n (hf m hm).2.2.2.1) hM (f4a (f4y hR hm) h5).2))
  (fun hR hM m hm h6 w=>e6m own sheet way a n 45 46 e8l m.r m.t (Yy own sheet (e6o way a n) m) w (fun h=>if_neg (by rw[h];simp)) (fun h w=>by rw[show Yy own sheet (e6o way a n) m=e6o way a n m.r m.t from if_pos h];exact g0i m.r m.t way a n _ _ _ w (f1n (hf m hm).2.2.2.1) (f1n (hf m hm).2.2.2.2) (f5w (f4y hR hm) h6 hM) rfl rfl rfl))
theorem g0f (own sheet:jW) (way a n:Int) (u v:Value) (N:List Nd) (A:List Int) (w:World) (hN:NodesAt w u N) (hA:IntsAt w v A) (hf:∀ n ∈ N,J8 n) (hl:A.length<=1000) (hl2:N.length<=1000) :
  Cz 14 #[.agg #[u,v],Sg own,Sg sheet,I6 way,I6 a,I6 n,Bv true] w (d8s (Y8 way a n (XZ own sheet (f1o way a n)) (Yy own sheet (Yv way a n)) N A).1 (Y8 way a n (XZ own sheet (f1o way a n)) (Yy own sheet (Yv way a n)) N A).2.1 (Y8 way a n (XZ own sheet (f1o way a n)) (Yy own sheet (Yv way a n)) N A).2.2 w):=by
 rw[<-g0w]
 exact f9u true 41 43 ⟨fun h=>(by first | exact⟨rfl,rfl⟩ | cases h),fun h=>(by first | exact⟨rfl,rfl⟩ | cases h)⟩ own sheet way a n (fun m=>f1o way a n m.r) (fun m=>Yv way a n m.r m.t) u v N A w hN hA hf hl hl2
  (fun hR hM m hm h5 w=>f9s m.r way a n w (f1n (hf m hm).2.2.2.1) hM (f4a (f4y hR hm) h5).2)
  (fun hR hM m hm h6 w=>f9z m.r m.t way a n w (f1n (hf m hm).2.2.2.1) (f1n (hf m hm).2.2.2.2) (f5w (f4y hR hm) h6 hM))
theorem g0g (own sheet:jW) (way a n:Int) (u v:Value) (N:List Nd) (A:List Int) (w:World) (hN:NodesAt w u N) (hA:IntsAt w v A) (hf:∀ n ∈ N,J8 n) (hl:A.length<=1000) (hl2:N.length<=1000) :
  Cz 14 #[.agg #[u,v],Sg own,Sg sheet,I6 way,I6 a,I6 n,Bv false] w (d8s (Y8 way a n (XZ own sheet (f1p way a n)) (Yy own sheet (e6o way a n)) N A).1 (Y8 way a n (XZ own sheet (f1p way a n)) (Yy own sheet (e6o way a n)) N A).2.1 (Y8 way a n (XZ own sheet (f1p way a n)) (Yy own sheet (e6o way a n)) N A).2.2 w):=by
 rw[<-g0w]
 exact f9u false 42 44 ⟨fun h=>(by first | exact⟨rfl,rfl⟩ | cases h),fun h=>(by first | exact⟨rfl,rfl⟩ | cases h)⟩ own sheet way a n (fun m=>f1p way a n m.r) (fun m=>e6o way a n m.r m.t) u v N A w hN hA hf hl hl2
  (fun hR hM m hm h5 w=>f9t m.r way a n w (f1n (hf m hm).2.2.2.1) hM (f4a (f4y hR hm) h5).2)
  (fun hR hM m hm h6 w=>g0a m.r m.t way a n w (f1n (hf m hm).2.2.2.1) (f1n (hf m hm).2.2.2.2) (f5w (f4y hR hm) h6 hM))
set_option maxHeartbeats 64000000
-- (a region told a7i by a7i: %%hwalk)
theorem g0n (N:List Nd) (A:List Int):sameB N N A A=true:=by unfold sameB;rw[b3x rfl,jD rfl];rfl
def d1r (F C:Nat) (t:World) (own sheet:jW) (way a c:Int) (N:List Nd) (A:List Int) (wx:World):Prop:=(∃ u v,wx.cell? ⟨F,0,none⟩=some u/\wx.cell? ⟨F,1,none⟩=some v/\NodesAt wx u N/\IntsAt wx v A)/\(∀ j,wx.cell? ⟨C,j,none⟩=([Sg own,Sg sheet,I6 way,I6 a,I6 c]:List Value)[j]?)/\Bl t wx
theorem g0q {way a c:Int} {own sheet:jW} {p:Rf->Rf × Bool} {p2:Rf->Rf->Rf × Rf × Bool} {N:List Nd} {A:List Int} (hf:∀ n ∈ N,J8 n) (h1:∀ r:Rf,r.sh.size<=100->(p r).1.sh.size<=100) (h2:∀ r s:Rf,r.sh.size<=100->s.sh.size<=100->(p2 r s).1.sh.size<=100/\(p2 r s).2.1.sh.size<=100):∀ m ∈ (Y8 way a c (XZ own sheet p) (Yy own sheet p2) N A).1,J8 m:=by
 unfold Y8
 split
 ·
  exact fun m h=>by cases h
 ·
  split
  ·
   exact fun m h=>by cases h
  ·
   intro m hm;obtain⟨n,hn,rfl⟩:=List.mem_map.1 hm;have hq:=hf n hn;refine f6t hq ?_ ?_
   ·
    unfold XZ
    split
    ·
     exact h1 _ hq.2.2.2.1
    ·
     exact hq.2.2.2.1
   ·
    unfold Yy
    split
    ·
     exact h2 _ _ hq.2.2.2.1 hq.2.2.2.2
    ·
     exact⟨hq.2.2.2.1,hq.2.2.2.2⟩
theorem g0b {b:Bool} {p:Rf} (h:p.sh.size<=100):(if b=true then p else Jj).sh.size<=100:=by
 cases b with
 | true=>exact h
 | false=>show (ByteArray.mk #[]).size<=100;decide
theorem g0c {q:Rf} {way z:Int} (h:q.sh.size<=100):(Y1 q way z).sh.size<=100:=by rw[f5t];exact h
theorem g0k {b:Bool} {p q:Rf} (h1:p.sh.size<=100) (h2:q.sh.size<=100):(if b=true then p else q).sh.size<=100:=by cases b with | true=>exact h1 | false=>exact h2
theorem g0x {way a c:Int} {own sheet:jW} {N:List Nd} {A:List Int} (hf:∀ n ∈ N,J8 n):∀ m ∈ (Y8 way a c (XZ own sheet (f1o way a c)) (Yy own sheet (Yv way a c)) N A).1,J8 m :=
 g0q hf (fun _ h=>g0b (g0c h)) (fun _ _ h g=>⟨g0b (g0b (g0c h)),g0b (g0k (g0b (g0c g)) (g0c g))⟩)
theorem g0y {way a c:Int} {own sheet:jW} {N:List Nd} {A:List Int} (hf:∀ n ∈ N,J8 n):∀ m ∈ (Y8 way a c (XZ own sheet (f1p way a c)) (Yy own sheet (e6o way a c)) N A).1,J8 m :=
 g0q hf (fun _ h=>g0b (g0c h)) (fun _ _ h g=>⟨g0b (g0k (g0b (g0c h)) (g0c h)),g0b (g0k (g0b (g0c g)) (g0c g))⟩)
theorem g0s {way a n:Int} {fo fo':Nd->Rf × Bool} {fb fb':Nd->Rf × Rf × Bool} {N:List Nd} {A:List Int} : (Y8 way a n fo fb N A).2.2=(Y8 way a n fo' fb' N A).2.2:=by
 unfold Y8
 split
 ·
  rfl
 ·
  split<;>rfl
theorem bXs {s W:World} (h:Bl s W:=by first | assumption | exact(Below.refl _ _).drew):Bl s W:=h
theorem f9x (s own sheet:jW) (way a c:Int) (w:World) (XK:NamesAt w) (hs0:s.size<=maxLen) :
  Ca 4 #[Sg s,.agg #[Sg own,Sg sheet,I6 way,I6 a,I6 c]] w (Bv true):=by
 have JY:=Qw;have Xv:=zh XK;obtain⟨⟨N0,A0,p,q⟩,hq,l1,l2,hf⟩:=e9j e3r s.data.toList 20000 (jC _);dsimp only at l1 l2 hf;have HF:=zh (fun w=>d8a s w 20000 N0 A0 p q hs0 hq);have HK:=zh e3m;obtain⟨N,hN⟩:=nM (if q=0 then N0 else [])
 obtain⟨A,hA⟩:=nM (if q=0 then A0 else [])
 have hl:N.length<=1000/\A.length<=1000/\∀ n ∈ N,J8 n:=by
  rw[hN,hA]
  split
  ·
   exact⟨by omega,by omega,hf⟩
  ·
   exact⟨by simp,by simp,fun n h=>by cases h⟩
 obtain⟨m1,m2,m3⟩:=hl;have HNN:=zh hN;have HAA:=zh hA;have hpi:=fun u v w h1 h2 h3=>f6k own sheet way a c u v N A w h1 h2 m3 h3 m2 m1
 have hdi:=fun u v w h1 h2=>g0f own sheet way a c u v N A w h1 h2 m3 m2 m1
 have hpd:=fun u v w h1 h2 h3=>g0m own sheet way a c u v N A w h1 h2 m3 h3 m2 m1
 have hdd:=fun u v w h1 h2=>g0g own sheet way a c u v N A w h1 h2 m3 m2 m1
 have hup:=fun u v w h1 h2 h3=>e9v u v N A own sheet w h1 h2 m3 h3 m2 m1
 have hu2:=fun u v w h1 h2=>g0d u v N A own sheet w h1 h2 m3 m2 m1
 obtain⟨i1,i2⟩:=g0p (way:=way) (a:=a) (n:=c) (fo:=XZ own sheet (f1o way a c)) (fb:=Yy own sheet (Yv way a c)) m1 m2;obtain⟨j1,j2⟩:=g0p (way:=way) (a:=a) (n:=c) (fo:=XZ own sheet (f1p way a c)) (fb:=Yy own sheet (e6o way a c)) m1 m2;have fi:=g0x (way:=way) (a:=a) (c:=c) (own:=own) (sheet:=sheet) (A:=A) m3;have fd:=g0y (way:=way) (a:=a) (c:=c) (own:=own) (sheet:=sheet) (A:=A) m3;have hce:=g0s (way:=way) (a:=a) (n:=c) (fo:=XZ own sheet (f1o way a c)) (fb:=Yy own sheet (Yv way a c)) (fo':=XZ own sheet (f1p way a c)) (fb':=Yy own sheet (e6o way a c)) (N:=N) (A:=A)
 have hri:(Y8 way a c (XZ own sheet (f1o way a c)) (Yy own sheet (Yv way a c)) N A).2.2=0->Yw (Y8 way a c (XZ own sheet (f1o way a c)) (Yy own sheet (Yv way a c)) N A).1 (Y8 way a c (XZ own sheet (f1o way a c)) (Yy own sheet (Yv way a c)) N A).2.1=true:=fun h=>by
  obtain⟨hR,e⟩:=g0o h;rw[e];exact f6f own sheet way a c hR
 have hrd:(Y8 way a c (XZ own sheet (f1p way a c)) (Yy own sheet (e6o way a c)) N A).2.2=0->Yw (Y8 way a c (XZ own sheet (f1p way a c)) (Yy own sheet (e6o way a c)) N A).1 (Y8 way a c (XZ own sheet (f1p way a c)) (Yy own sheet (e6o way a c)) N A).2.1=true:=fun h=>by
  obtain⟨hR,e⟩:=g0o h;rw[e];exact g0j own sheet way a c hR
 generalize Y8 way a c (XZ own sheet (f1o way a c)) (Yy own sheet (Yv way a c)) N A=QI at *;generalize Y8 way a c (XZ own sheet (f1p way a c)) (Yy own sheet (e6o way a c)) N A=QD at *;generalize (Yw N A&&e0q own sheet N)=U at *;obtain⟨MI,BI,z⟩:=QI;obtain⟨MD,BD,z2⟩:=QD;dsimp only at *;subst hce;have HPI:=zh hpi;have HDI:=zh hdi;have HPD:=zh hpd;have HDD:=zh hdd;have HUP:=zh hup;have HUD:=zh hu2;have HSI:=zh (fun u v u2 v2 w h1 h2 h3 h4=>b4c u v u2 v2 MI MI BI BI w h1 h2 h3 h4 i1 i2 i1 i2);have HSD:=zh (fun u v u2 v2 w h1 h2 h3 h4=>b4c u v u2 v2 MD MD BD BD w h1 h2 h3 h4 j1 j2 j1 j2);rw[g0n] at HSI HSD
 have HRI:Hid (z=0->∀ u v w,NodesAt w u MI->IntsAt w v BI->Ca 12 #[.agg #[u,v]] w (Bv true)):=fun h u v w h1 h2=>by
  have:=a3t u v MI BI w h1 h2 fi i2 i1
  rwa [hri h] at this
 have HRD:Hid (z=0->∀ u v w,NodesAt w u MD->IntsAt w v BD->Ca 12 #[.agg #[u,v]] w (Bv true)):=fun h u v w h1 h2=>by
  have:=a3t u v MD BD w h1 h2 fd j2 j1
  rwa [hrd h] at this
 clear hpi hdi hpd hdd hup hu2 hri hrd fi fd i1 i2 j1 j2 m1 m2 m3 hN hA hf hq l1 l2 XK hs0;go_enter Tryz.func4,Tryz.ntmps4
 go_upto_region 1 with fail
 obtain⟨s1,C,j6,qq,j8,zC⟩:=qy w (.cells #[Sg own,Sg sheet,I6 way,I6 a,I6 c] 36);have yC:=qZ (b:=C) j6 qq;have j7:=qQ bR j6;rw[<-j6];try rw[<-qq]
 clear j6 j8 qq;go_wp2_with fail;refine(HF.out _).mono ?_;rintro e w1 ⟨⟨us,vs,rfl,hn,ha⟩,hb⟩;obtain⟨b1,c1,rfl,_⟩:=hn.slice;obtain⟨d0,d1,rfl,_⟩:=ha.slice;obtain⟨n1,hn1⟩:=nM N0.length;obtain⟨a1,ha1⟩:=nM A0.length;rw[<-hn1] at hn |-
 rw[<-ha1] at ha |-
 have N1:=zh hn;have A1:=zh ha;clear hn ha hn1 ha1;replace yC:=jv hb yC zC;replace zC:=jw hb zC;replace j7:=X4 j7 hb;clear hb
 go_upto_region 2 with fail
 obtain⟨s2,F,j6,qY,j8,zF⟩:=qy w1 (.cells #[.slice b1 n1 c1,.slice d0 a1 d1] 25);have j9:=JW j6;have hAF:w1.heap.size<=F:=by omega
 have dFC:F≠C:=by omega
 replace yC:=jv j9 yC zC;have hN:=Qz (b:=F) j6 qY;have hM:=Qq (b:=F) j6 qY;have qV:=hN 0 _ rfl;have J1:=hN 1 _ rfl;have fF0:=hM 0;have fF1:=hM 1;clear hN hM;have lF:w.heap.size<=F:=by have:=j7.size;omega
 replace j7:=qQ j7 j6;rw[<-j6];try rw[<-qY]
 clear j6 j8 qY;replace N1:=zh (N1.out.below j9);replace A1:=zh (A1.out.below j9);clear j9
 go_upto_if 23 with fail
 go_cut [] (d1r F C w own sheet way a c N A)
 case first =>
  by_cases hc:q=0
  ·
   have g0:(q != 0)=false:=by simpa using hc
   go_wp2
   go_meet
   rw[HNN.out,HAA.out,if_pos hc,if_pos hc];exact⟨⟨_,_,qV,J1,N1.out,A1.out⟩,yC,j7⟩
  ·
   have g0:(q != 0)=true:=by simpa using hc
   go_wp2_with fail;obtain⟨s3,j6⟩:∃ s,s=((s2.setCell ⟨F,0,none⟩ (.slice none 0 0)).setCell ⟨F,1,none⟩ (.slice none 0 0)):=⟨_,rfl⟩;have qJ:Bl w s3:=by rw[j6];exact(sc2 (j7) lF)
   have j8:=ss2 j6;replace yC:=Jv j6 (qz (qz yC dFC) dFC);have hq:∀ {p v},((s2.setCell ⟨F,0,none⟩ (.slice none 0 0)).setCell ⟨F,1,none⟩ (.slice none 0 0)).cell? p=some v->s3.cell? p=some v:=fun h=>by rw[j6];exact h
   replace qV:=hq (stO (stS qV) (by decide));replace J1:=hq (stS (stO J1 (by decide)));clear hq;have J9:=@fz2 _ _ _ _ _ _  j6;clear J9;rw[<-j6];clear j7 j6 j8;have j7:=qJ;clear qJ
   go_meet
   rw[HNN.out,HAA.out,if_neg hc,if_neg hc];exact⟨⟨_,_,qV,J1,Or.inl ⟨rfl,rfl⟩,Or.inl ⟨rfl,rfl⟩⟩,yC,j7⟩
 case rest =>
  clear qV J1 fF0 fF1 yC zC j7 N1 A1 HF;obtain⟨⟨u1,v1,qV,J1,hn,ha⟩,yC,j7⟩:=hcut;obtain⟨b1,c1,rfl,_⟩:=hn.slice;obtain⟨d0,d1,rfl,_⟩:=ha.slice;obtain⟨n1,hn1⟩:=nM N.length;obtain⟨a1,ha1⟩:=nM A.length;rw[<-hn1] at hn qV;rw[<-ha1] at ha J1;have N1:=zh hn;have A1:=zh ha;clear hn ha hn1 ha1;have zF:F<wc.heap.size:=World.block_lt_of_cell? _ _ qV;have zC:C<wc.heap.size:=World.block_lt_of_cell? _ _ (yC 0);obtain⟨w3,hw3⟩:=nM wc;rw[<-hw3] at N1 A1 qV J1 yC zF zC j7 |-
  clear hw3;go_wp2_with fail;refine(HPI.out _ _ _ N1.out A1.out (Xv.out.below j7)).mono ?_;rintro e wq2 hq;obtain⟨⟨u2,v2,rfl,hn,ha⟩,hb⟩:=hq.got;obtain⟨p2,e2,rfl,_⟩:=hn.slice;obtain⟨r2,f2,rfl,_⟩:=ha.slice;obtain⟨n2,hn1⟩:=nM MI.length;obtain⟨a2,ha1⟩:=nM BI.length;rw[<-hn1] at hn |-
  rw[<-ha1] at ha |-
  have N2:=zh hn;have A2:=zh ha;clear hn ha hn1 ha1 hq;replace N1:=zh (N1.out.below hb);replace A1:=zh (A1.out.below hb);replace yC:=jv hb yC zC;replace zC:=jw hb zC;replace qV:=q9 hb qV zF;replace J1:=q9 hb J1 zF;replace zF:=jw hb zF;replace j7:=X4 j7 hb;clear hb
  go_upto_region 5 with fail
  obtain⟨s4,G,j6,hdG,j8,zG⟩:=qy wq2 (.cells #[.slice p2 n2 e2,.slice r2 a2 f2] 25);have j9:=JW j6;have hAG:wq2.heap.size<=G:=by omega
  replace yC:=jv j9 yC zC;replace zC:=jw j9 zC;replace qV:=q9 j9 qV zF;replace J1:=q9 j9 J1 zF;replace zF:=jw j9 zF;have hN:=Qz (b:=G) j6 hdG;have kG0:=hN 0 _ rfl;have kG1:=hN 1 _ rfl;clear hN;replace j7:=qQ j7 j6;rw[<-j6];try rw[<-hdG]
  clear j6 j8 hdG;replace N1:=zh (N1.out.below j9);replace A1:=zh (A1.out.below j9);replace N2:=zh (N2.out.below j9);replace A2:=zh (A2.out.below j9);clear j9;go_wp2_with fail;refine(HDI.out _ _ _ N1.out A1.out).mono ?_;rintro e wq3 ⟨⟨u3,v3,rfl,hn,ha⟩,hb⟩;obtain⟨p3,e3,rfl,_⟩:=hn.slice;obtain⟨r3,f3,rfl,_⟩:=ha.slice;obtain⟨n3,hn1⟩:=nM MI.length;obtain⟨a3,ha1⟩:=nM BI.length;rw[<-hn1] at hn |-
  rw[<-ha1] at ha |-
  have N3:=zh hn;have A3:=zh ha;clear hn ha hn1 ha1;replace N1:=zh (N1.out.below hb);replace A1:=zh (A1.out.below hb);replace N2:=zh (N2.out.below hb);replace A2:=zh (A2.out.below hb);replace yC:=jv hb yC zC;replace zC:=jw hb zC;replace qV:=q9 hb qV zF;replace J1:=q9 hb J1 zF;replace zF:=jw hb zF;replace kG0:=q9 hb kG0 zG;replace kG1:=q9 hb kG1 zG;replace zG:=jw hb zG;replace j7:=X4 j7 hb;clear hb
  go_upto_region 6 with fail
  obtain⟨s5,H,j6,hdH,j8,zH⟩:=qy wq3 (.cells #[.slice p3 n3 e3,.slice r3 a3 f3] 25);have j9:=JW j6;have hAH:wq3.heap.size<=H:=by omega
  replace yC:=jv j9 yC zC;replace zC:=jw j9 zC;replace qV:=q9 j9 qV zF;replace J1:=q9 j9 J1 zF;replace zF:=jw j9 zF;replace kG0:=q9 j9 kG0 zG;replace kG1:=q9 j9 kG1 zG;replace zG:=jw j9 zG;have hN:=Qz (b:=H) j6 hdH;have kH0:=hN 0 _ rfl;have kH1:=hN 1 _ rfl;clear hN;replace j7:=qQ j7 j6;rw[<-j6];try rw[<-hdH]
  clear j6 j8 hdH;replace N1:=zh (N1.out.below j9);replace A1:=zh (A1.out.below j9);replace N2:=zh (N2.out.below j9);replace A2:=zh (A2.out.below j9);replace N3:=zh (N3.out.below j9);replace A3:=zh (A3.out.below j9);clear j9;go_wp2_with fail;refine(HPD.out _ _ _ N1.out A1.out (Xv.out.below j7)).mono ?_;rintro e wq4 hq;obtain⟨⟨u4,v4,rfl,hn,ha⟩,hb⟩:=hq.got;obtain⟨p4,e4,rfl,_⟩:=hn.slice;obtain⟨r4,f4,rfl,_⟩:=ha.slice;obtain⟨n4,hn1⟩:=nM MD.length;obtain⟨a4,ha1⟩:=nM BD.length;rw[<-hn1] at hn |-
  rw[<-ha1] at ha |-
  have N4:=zh hn;have A4:=zh ha;clear hn ha hn1 ha1 hq;replace N1:=zh (N1.out.below hb);replace A1:=zh (A1.out.below hb);replace N2:=zh (N2.out.below hb);replace A2:=zh (A2.out.below hb);replace N3:=zh (N3.out.below hb);replace A3:=zh (A3.out.below hb);replace yC:=jv hb yC zC;replace zC:=jw hb zC;replace qV:=q9 hb qV zF;replace J1:=q9 hb J1 zF;replace zF:=jw hb zF;replace kG0:=q9 hb kG0 zG;replace kG1:=q9 hb kG1 zG;replace zG:=jw hb zG;replace kH0:=q9 hb kH0 zH;replace kH1:=q9 hb kH1 zH;replace zH:=jw hb zH;replace j7:=X4 j7 hb;clear hb
  go_upto_region 7 with fail
  obtain⟨s6,X,j6,qw,j8,zX⟩:=qy wq4 (.cells #[.slice p4 n4 e4,.slice r4 a4 f4] 25);have j9:=JW j6;have hAX:wq4.heap.size<=X:=by omega
  replace yC:=jv j9 yC zC;replace zC:=jw j9 zC;replace qV:=q9 j9 qV zF;replace J1:=q9 j9 J1 zF;replace zF:=jw j9 zF;replace kG0:=q9 j9 kG0 zG;replace kG1:=q9 j9 kG1 zG;replace zG:=jw j9 zG;replace kH0:=q9 j9 kH0 zH;replace kH1:=q9 j9 kH1 zH;replace zH:=jw j9 zH;have hN:=Qz (b:=X) j6 qw;have Qx:=hN 0 _ rfl;have Qj:=hN 1 _ rfl;clear hN;replace j7:=qQ j7 j6;rw[<-j6];try rw[<-qw]
  clear j6 j8 qw;replace N1:=zh (N1.out.below j9);replace A1:=zh (A1.out.below j9);replace N2:=zh (N2.out.below j9);replace A2:=zh (A2.out.below j9);replace N3:=zh (N3.out.below j9);replace A3:=zh (A3.out.below j9);replace N4:=zh (N4.out.below j9);replace A4:=zh (A4.out.below j9);clear j9;go_wp2_with fail;refine(HDD.out _ _ _ N1.out A1.out).mono ?_;rintro e wq5 ⟨⟨u5,v5,rfl,hn,ha⟩,hb⟩;obtain⟨p5,e5,rfl,_⟩:=hn.slice;obtain⟨r5,f5,rfl,_⟩:=ha.slice;obtain⟨n5,hn1⟩:=nM MD.length;obtain⟨a5,ha1⟩:=nM BD.length;rw[<-hn1] at hn |-
  rw[<-ha1] at ha |-
  have N5:=zh hn;have A5:=zh ha;clear hn ha hn1 ha1;replace N1:=zh (N1.out.below hb);replace A1:=zh (A1.out.below hb);replace N2:=zh (N2.out.below hb);replace A2:=zh (A2.out.below hb);replace N3:=zh (N3.out.below hb);replace A3:=zh (A3.out.below hb);replace N4:=zh (N4.out.below hb);replace A4:=zh (A4.out.below hb);replace yC:=jv hb yC zC;replace zC:=jw hb zC;replace qV:=q9 hb qV zF;replace J1:=q9 hb J1 zF;replace zF:=jw hb zF;replace kG0:=q9 hb kG0 zG;replace kG1:=q9 hb kG1 zG;replace zG:=jw hb zG;replace kH0:=q9 hb kH0 zH;replace kH1:=q9 hb kH1 zH;replace zH:=jw hb zH;replace Qx:=q9 hb Qx zX;replace Qj:=q9 hb Qj zX;replace zX:=jw hb zX;replace j7:=X4 j7 hb;clear hb
  go_upto_region 8 with fail
  obtain⟨s7,Y,j6,Qy,j8,zY⟩:=qy wq5 (.cells #[.slice p5 n5 e5,.slice r5 a5 f5] 25);have j9:=JW j6;have hAY:wq5.heap.size<=Y:=by omega
  replace yC:=jv j9 yC zC;replace zC:=jw j9 zC;replace qV:=q9 j9 qV zF;replace J1:=q9 j9 J1 zF;replace zF:=jw j9 zF;replace kG0:=q9 j9 kG0 zG;replace kG1:=q9 j9 kG1 zG;replace zG:=jw j9 zG;replace kH0:=q9 j9 kH0 zH;replace kH1:=q9 j9 kH1 zH;replace zH:=jw j9 zH;replace Qx:=q9 j9 Qx zX;replace Qj:=q9 j9 Qj zX;replace zX:=jw j9 zX;have hN:=Qz (b:=Y) j6 Qy;have kY0:=hN 0 _ rfl;have kY1:=hN 1 _ rfl;clear hN;replace j7:=qQ j7 j6;rw[<-j6];try rw[<-Qy]
  clear j6 j8 Qy;replace N1:=zh (N1.out.below j9);replace A1:=zh (A1.out.below j9);replace N2:=zh (N2.out.below j9);replace A2:=zh (A2.out.below j9);replace N3:=zh (N3.out.below j9);replace A3:=zh (A3.out.below j9);replace N4:=zh (N4.out.below j9);replace A4:=zh (A4.out.below j9);replace N5:=zh (N5.out.below j9);replace A5:=zh (A5.out.below j9);clear j9;by_cases hz:z=0
  ·
   subst hz;have HF:=QX j7;clear j7;refine wrp (S:=fun w'=>(∀ j,w'.cell? ⟨C,j,none⟩=([Sg own,Sg sheet,I6 way,I6 a,I6 c]:List Value)[j]?)/\w'.cell? ⟨F,0,none⟩=some (.slice b1 n1 c1)/\w'.cell? ⟨F,1,none⟩=some (.slice d0 a1 d1)/\w'.cell? ⟨G,0,none⟩=some (.slice p2 n2 e2)/\w'.cell? ⟨G,1,none⟩=some (.slice r2 a2 f2)/\w'.cell? ⟨H,0,none⟩=some (.slice p3 n3 e3)/\w'.cell? ⟨H,1,none⟩=some (.slice r3 a3 f3)/\w'.cell? ⟨X,0,none⟩=some (.slice p4 n4 e4)/\w'.cell? ⟨X,1,none⟩=some (.slice r4 a4 f4)/\w'.cell? ⟨Y,0,none⟩=some (.slice p5 n5 e5)/\w'.cell? ⟨Y,1,none⟩=some (.slice r5 a5 f5)) (by kernel_rfl) (fun w' hx=>JM) (fun Q6 jx=>?_)
   refine tk 0 ?_;refine tk 1 ?_;refine Jq 2 (by kernel_rfl) rfl fun K hK=>?_
   go_simp
   (go_at_call 11;refine jy (HSI.out _ _ _ _ _ (N2.out.below bXs) (A2.out.below bXs) (N3.out.below bXs) (A3.out.below bXs)) fun x8 qk=>?_;obtain⟨qx,jk,qK⟩:=Q4 s7 qk)
   try (go_wp2_with fail)
   refine hK.out _ _ (X2 Q6) (fun jx=>?_);clear hK K;try simp only[pz]
   refine tk 3 ?_;refine tk 4 ?_;refine tk 5 ?_;refine tk 6 ?_;refine tk 7 ?_;refine tk 8 ?_;refine tk 9 ?_;refine tk 10 ?_;refine Jq 11 (by kernel_rfl) rfl fun K hK=>?_
   go_simp
   (go_at_call 11;refine jy (HSD.out _ _ _ _ _ (N4.out.below bXs) (A4.out.below bXs) (N5.out.below bXs) (A5.out.below bXs)) fun x8 qk=>?_;obtain⟨qx,jk,qK⟩:=Q4 s7 qk)
   try (go_wp2_with fail)
   refine hK.out _ _ (X2 Q6) (fun jx=>?_);clear hK K;try simp only[pz]
   refine tk 12 ?_;refine tk 13 ?_;refine tk 14 ?_;refine tk 15 ?_;refine tk 16 ?_;refine tk 17 ?_;refine tk 18 ?_;refine tk 19 ?_;refine tk 20 ?_;refine tk 21 ?_;refine tk 22 ?_;refine Jq 23 (by kernel_rfl) rfl fun K hK=>?_
   go_simp
   (go_at_call 12;refine jy (HRI.out (by trivial) _ _ _ (N2.out.below bXs) (A2.out.below bXs)) fun x8 qk=>?_;obtain⟨qx,jk,qK⟩:=Q4 s7 qk)
   try (go_wp2_with fail)
   refine hK.out _ _ (X2 Q6) (fun jx=>?_);clear hK K;try simp only[pz]
   refine tk 24 ?_;refine tk 25 ?_;refine tk 26 ?_;refine tk 27 ?_;refine tk 28 ?_;refine tk 29 ?_;refine tk 30 ?_;refine Jq 31 (by kernel_rfl) rfl fun K hK=>?_
   go_simp
   (go_at_call 12;refine jy (HRD.out (by trivial) _ _ _ (N4.out.below bXs) (A4.out.below bXs)) fun x8 qk=>?_;obtain⟨qx,jk,qK⟩:=Q4 s7 qk)
   try (go_wp2_with fail)
   refine hK.out _ _ (X2 Q6) (fun jx=>?_);clear hK K;try simp only[pz]
   refine tk 32 ?_;refine tk 33 ?_;refine tk 34 ?_;refine tk 35 ?_;refine tk 36 ?_;refine tk 37 ?_;refine tk 38 ?_;refine tk 39 ?_;refine tk 41 ?_;refine tk 42 ?_;refine tk 43 ?_;refine tk 44 ?_;refine tk 45 ?_;refine Jq 40 (by kernel_rfl) rfl fun K hK=>?_
   go_simp
   (go_at_call 16;refine jy (HUP.out _ _ _ (N1.out.below bXs) (A1.out.below bXs) (Xv.out.below (HF.out _ bXs))) fun x8 qk=>?_;obtain⟨qx,jk,qK⟩:=Q4 s7 qk)
   try (go_wp2_with fail)
   refine hK.out _ _ (X2 Q6) (fun jx=>?_);clear hK K;try simp only[pz]
   refine Jq 46 (by kernel_rfl) rfl fun K hK=>?_
   go_simp
   (go_at_call 17;refine jy (HUD.out _ _ _ (N1.out.below bXs) (A1.out.below bXs)) fun x8 qk=>?_;obtain⟨qx,jk,qK⟩:=Q4 s7 qk)
   try (go_wp2_with fail)
   refine hK.out _ _ (X2 Q6) (fun jx=>?_);clear hK K;try simp only[pz]
   refine tk 47 ?_;refine tk 48 ?_;refine tk 49 ?_;refine Jq 50 (by kernel_rfl) rfl fun K hK=>?_
   go_simp
   (go_at_call 9;refine jy (HK.out _ (Xv.out.below (HF.out _ bXs))) fun x8 qk=>?_;obtain⟨qx,jk,qK⟩:=Q4 s7 qk)
   try (go_wp2_with fail)
   refine hK.out _ _ (X2 Q6) (fun jx=>?_);clear hK K;try simp only[pz]
   refine tk 51 ?_;refine tk 52 ?_;refine wpAnyH_done (by kernel_rfl) ?_ _;have j7:=HF.out _ qx;clear HF jk qK qx;go_wp2
   go_ret
   exact⟨rfl,j7⟩
  ·
   have g1:(z != 0)=true:=by simpa using hz
   clear hz;have HF:=QX j7;clear j7;refine wrp (S:=fun w'=>(∀ j,w'.cell? ⟨C,j,none⟩=([Sg own,Sg sheet,I6 way,I6 a,I6 c]:List Value)[j]?)/\w'.cell? ⟨F,0,none⟩=some (.slice b1 n1 c1)/\w'.cell? ⟨F,1,none⟩=some (.slice d0 a1 d1)/\w'.cell? ⟨G,0,none⟩=some (.slice p2 n2 e2)/\w'.cell? ⟨G,1,none⟩=some (.slice r2 a2 f2)/\w'.cell? ⟨H,0,none⟩=some (.slice p3 n3 e3)/\w'.cell? ⟨H,1,none⟩=some (.slice r3 a3 f3)/\w'.cell? ⟨X,0,none⟩=some (.slice p4 n4 e4)/\w'.cell? ⟨X,1,none⟩=some (.slice r4 a4 f4)/\w'.cell? ⟨Y,0,none⟩=some (.slice p5 n5 e5)/\w'.cell? ⟨Y,1,none⟩=some (.slice r5 a5 f5)) (by kernel_rfl) (fun w' hx=>JM) (fun Q6 jx=>?_)
   refine tk 0 ?_;refine tk 1 ?_;refine Jq 2 (by kernel_rfl) rfl fun K hK=>?_
   go_simp
   (go_at_call 11;refine jy (HSI.out _ _ _ _ _ (N2.out.below bXs) (A2.out.below bXs) (N3.out.below bXs) (A3.out.below bXs)) fun x9 qk=>?_;obtain⟨qx,jk,qK⟩:=Q4 s7 qk)
   try (go_wp2_with fail)
   refine hK.out _ _ (X2 Q6) (fun jx=>?_);clear hK K;try simp only[pz]
   refine tk 3 ?_;refine tk 4 ?_;refine tk 5 ?_;refine tk 6 ?_;refine tk 7 ?_;refine tk 8 ?_;refine tk 9 ?_;refine tk 10 ?_;refine Jq 11 (by kernel_rfl) rfl fun K hK=>?_
   go_simp
   (go_at_call 11;refine jy (HSD.out _ _ _ _ _ (N4.out.below bXs) (A4.out.below bXs) (N5.out.below bXs) (A5.out.below bXs)) fun x9 qk=>?_;obtain⟨qx,jk,qK⟩:=Q4 s7 qk)
   try (go_wp2_with fail)
   refine hK.out _ _ (X2 Q6) (fun jx=>?_);clear hK K;try simp only[pz]
   refine tk 12 ?_;refine tk 13 ?_;refine tk 14 ?_;refine tk 15 ?_;refine tk 16 ?_;refine tk 17 ?_;refine tk 18 ?_;refine tk 19 ?_;refine tk 20 ?_;refine tk 21 ?_;refine Q5 22 ?_;refine Q5 23 ?_;refine tk 24 ?_;refine tk 25 ?_;refine tk 26 ?_;refine tk 27 ?_;refine tk 28 ?_;refine tk 29 ?_;refine Q5 30 ?_;refine Q5 31 ?_;refine tk 32 ?_;refine tk 33 ?_;refine tk 34 ?_;refine tk 35 ?_;refine tk 36 ?_;refine tk 37 ?_;refine tk 38 ?_;refine tk 39 ?_;refine tk 41 ?_;refine tk 42 ?_;refine tk 43 ?_;refine tk 44 ?_;refine tk 45 ?_;refine Jq 40 (by kernel_rfl) rfl fun K hK=>?_
   go_simp
   (go_at_call 16;refine jy (HUP.out _ _ _ (N1.out.below bXs) (A1.out.below bXs) (Xv.out.below (HF.out _ bXs))) fun x9 qk=>?_;obtain⟨qx,jk,qK⟩:=Q4 s7 qk)
   try (go_wp2_with fail)
   refine hK.out _ _ (X2 Q6) (fun jx=>?_);clear hK K;try simp only[pz]
   refine Jq 46 (by kernel_rfl) rfl fun K hK=>?_
   go_simp
   (go_at_call 17;refine jy (HUD.out _ _ _ (N1.out.below bXs) (A1.out.below bXs)) fun x9 qk=>?_;obtain⟨qx,jk,qK⟩:=Q4 s7 qk)
   try (go_wp2_with fail)
   refine hK.out _ _ (X2 Q6) (fun jx=>?_);clear hK K;try simp only[pz]
   refine tk 47 ?_;refine tk 48 ?_;refine tk 49 ?_;refine Jq 50 (by kernel_rfl) rfl fun K hK=>?_
   go_simp
   (go_at_call 9;refine jy (HK.out _ (Xv.out.below (HF.out _ bXs))) fun x9 qk=>?_;obtain⟨qx,jk,qK⟩:=Q4 s7 qk)
   try (go_wp2_with fail)
   refine hK.out _ _ (X2 Q6) (fun jx=>?_);clear hK K;try simp only[pz]
   refine tk 51 ?_;refine tk 52 ?_;refine wpAnyH_done (by kernel_rfl) ?_ _;have j7:=HF.out _ qx;clear HF jk qK qx;go_wp2
   go_ret
   exact⟨rfl,j7⟩
