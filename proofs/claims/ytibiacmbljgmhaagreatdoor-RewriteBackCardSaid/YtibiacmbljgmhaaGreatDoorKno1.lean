/-
  
  
  
  
  
  
  
  
-/
import Derived.Test.YtibiacmbljgmhaaGreatDoorPrt1
import Derived.Test.YtibiacmbljgmhaaGreatDoorAst37
import Derived.Lib.SmallJoins
import Derived.OpenShut
import Derived.Deep.Slices
import Derived.Lib.LaidU8
namespace Go.Proofs.YtibiacmbljgmhaaGreatDoor
open Go.RowKit Go.Shelf
set_option linter.all false
abbrev knT:ByteArray:=⟨#[65,49,43,65,53,43,120,33,65,53]⟩
abbrev e2i:ByteArray:=⟨#[111,119,110]⟩
abbrev knX:ByteArray:=⟨#[120]⟩
abbrev knI:ByteArray:=⟨#[65,49,43,65,54,43,120,33,65,53]⟩
abbrev knD:ByteArray:=⟨#[65,49,43,65,53,43,35,82,69,70,33]⟩
abbrev e2j (sh:ByteArray) (r:Int):Nd:=⟨5,0,0,0,false,⟨#[]⟩,⟨#[]⟩,⟨#[]⟩,false,⟨sh,1,r,false,false⟩,rf0⟩
abbrev e0j (a b:Int):Nd:=⟨8,1,a,b,false,⟨#[]⟩,⟨#[]⟩,⟨#[]⟩,false,rf0,rf0⟩
abbrev knF:List Nd:=[e2j ⟨#[]⟩ 1,e2j ⟨#[]⟩ 5,e0j 0 1,e2j knX 5,e0j 2 3]
abbrev knG:List Nd:=[e2j ⟨#[]⟩ 1,e2j ⟨#[]⟩ 6,e0j 0 1,e2j knX 5,e0j 2 3]
abbrev knH:List Nd:=[e2j ⟨#[]⟩ 1,e2j ⟨#[]⟩ 5,e0j 0 1,d7c,e0j 2 3]
theorem f1u:f2f d9p knT.data.toList 60=some (knF,[],0,0):=by kernel_rfl
def noG (_:Nd):Rf × Rf × Bool:=(rf0,rf0,false)
theorem f1v:chQ 1 3 1 (chF e2i e2i (f1o 1 3 1)) noG knF []=(knG,[],0):=by kernel_rfl
theorem f1w:chQ 1 5 1 (chF e2i knX (f1p 1 5 1)) noG knF []=(knH,[],0):=by kernel_rfl
theorem f0j:(a0w knF []&&e0q e2i knX knF)=true:=by kernel_rfl
theorem f4d:a0w knG []=true:=by kernel_rfl
theorem f4e:a0w knH []=true:=by kernel_rfl
theorem d9h {N:List Nd} {A:List Int} {u v:Value} {i:Nat} {n:Nd} {z:ByteArray} (hi:N[i]?=some n) (hl:A.length<=1000) (hl2:N.length<=1000) (hk:d6t A (shN n)=[]) (h9:a1h A (shN n)=true) (hok:f3v n) (hz:z=lfX n):TxP N A u v i z:=fun w hN hA =>
 e4l u v N A i n [] z w hN hA hi hl hl2 h9 (by rw[hk];rfl) (fun j h=>absurd h (Nat.not_lt_zero j)) (fun j h=>absurd h (Nat.not_lt_zero j)) (Or.inl ⟨hok,hz⟩)
theorem e1m {N:List Nd} {A:List Int} {u v:Value} {i a b:Nat} {na nb:Nd} {sa sb z:ByteArray} (hi:N[i]?=some (e0j a b)) (hl:A.length<=1000) (hl2:N.length<=1000) (ha:N[a]?=some na) (hb:N[b]?=some nb) (k0:brk (shN (e0j a b)) (shN na) 0=false) (k1:brk (shN (e0j a b)) (shN nb) 1=false) (hta:TxP N A u v a sa) (htb:TxP N A u v b sb) (z1:sa.size<=1000) (z2:sb.size<=1000) (hz:z=(sa++⟨#[43]⟩)++sb):TxP N A u v i z:=fun w hN hA =>
 e4l u v N A i (e0j a b) [sa,sb] z w hN hA hi hl hl2 (by rfl) (by rfl)
  (fun j h=>by match j,h with | 0,_=>exact z1 | 1,_=>exact z2)
  (fun j h=>by match j,h with | 0,_=>exact⟨a,na,rfl,ha,k0,hta⟩ | 1,_=>exact⟨b,nb,rfl,hb,k1,htb⟩)
  (Or.inr ⟨rfl,rfl,0,by decide,rfl,hz⟩)
theorem e8u (u v:Value):TxP knG [] u v 4 knI :=
 e1m (a:=2) (b:=3) (sa:=⟨#[65,49,43,65,54]⟩) (sb:=⟨#[120,33,65,53]⟩) rfl (by decide) (by decide) rfl rfl (by kernel_rfl) (by kernel_rfl)
  (e1m (a:=0) (b:=1) (sa:=⟨#[65,49]⟩) (sb:=⟨#[65,54]⟩) rfl (by decide) (by decide) rfl rfl (by kernel_rfl) (by kernel_rfl)
   (d9h rfl (by decide) (by decide) (by kernel_rfl) (by kernel_rfl) (Or.inr ⟨rfl,by kernel_rfl,by decide⟩) (by decide +kernel))
   (d9h rfl (by decide) (by decide) (by kernel_rfl) (by kernel_rfl) (Or.inr ⟨rfl,by kernel_rfl,by decide⟩) (by decide +kernel))
   (by decide) (by decide) (by decide +kernel))
  (d9h rfl (by decide) (by decide) (by kernel_rfl) (by kernel_rfl) (Or.inr ⟨rfl,by kernel_rfl,by decide⟩) (by decide +kernel))
  (by decide) (by decide) (by decide +kernel)
theorem e8v (u v:Value):TxP knH [] u v 4 knD :=
 e1m (a:=2) (b:=3) (sa:=⟨#[65,49,43,65,53]⟩) (sb:=⟨#[35,82,69,70,33]⟩) rfl (by decide) (by decide) rfl rfl (by kernel_rfl) (by kernel_rfl)
  (e1m (a:=0) (b:=1) (sa:=⟨#[65,49]⟩) (sb:=⟨#[65,53]⟩) rfl (by decide) (by decide) rfl rfl (by kernel_rfl) (by kernel_rfl)
   (d9h rfl (by decide) (by decide) (by kernel_rfl) (by kernel_rfl) (Or.inr ⟨rfl,by kernel_rfl,by decide⟩) (by decide +kernel))
   (d9h rfl (by decide) (by decide) (by kernel_rfl) (by kernel_rfl) (Or.inr ⟨rfl,by kernel_rfl,by decide⟩) (by decide +kernel))
   (by decide) (by decide) (by decide +kernel))
  (d9h rfl (by decide) (by decide) (by kernel_rfl) (by kernel_rfl) (Or.inl ⟨rfl,by decide,by decide⟩) (by decide +kernel))
  (by decide) (by decide) (by decide +kernel)
theorem kn_fits:(∀ n ∈ knF,Fits n)/\(∀ n ∈ knG,Fits n)/\(∀ n ∈ knH,Fits n):=by
 unfold Fits;refine⟨?_,?_,?_⟩<;>decide +kernel
theorem f4i:∀ n ∈ knF,n.k=5->d7t n.r=true/\n.r.sh.size<=maxLen:=by decide +kernel
theorem f4n:∀ n ∈ knF,n.k≠6:=by decide +kernel
theorem f4l (q:Rf) (way a n:Int) (w:World) (hs:q.sh.size<=maxLen) (hm:d8b way a n=true) (hr:d7t q=true) :
  Calls Tryz.prog 38 #[.agg #[Sg q.sh,I6 q.c,I6 q.r,Bv q.fc,Bv q.fr],I6 way,I6 a,I6 n] w fun e w'=>e=.returned (.tuple #[.agg #[Sg ((f1o way a n q).1).sh,I6 ((f1o way a n q).1).c,I6 ((f1o way a n q).1).r,Bv ((f1o way a n q).1).fc,Bv ((f1o way a n q).1).fr],Bv (f1o way a n q).2])/\Bl w w':=by
 refine e5f q way a n _ _ w fun w=>?_
 obtain⟨k0,k1,k2,k3,k4,k5,k6⟩:=d9t hm;obtain⟨p1,p2⟩:=e4z hr k0;refine e0r _ f4c q way a n (shP (plZ q way) a n) _ _ w hs hm hr (fun g p w=>d9v _ a n g p _ w (by omega) (by omega) (by omega) (by omega)) ?_;have hge:1<=shP (plZ q way) a n:=by unfold shP;split<;>omega
 by_cases h:shP (plZ q way) a n<=d7d way
 ·
  right;have hb:e2b q way a n=true:=(d8z hm hr).trans (decide_eq_true h);exact⟨hge,h,(e1i hb).symm,hb⟩
 ·
  left;have hb:e2b q way a n=false:=(d8z hm hr).trans (decide_eq_false h);exact⟨Or.inr (by omega),e3d hb,hb⟩
theorem f4m (q:Rf) (way a n:Int) (w:World) (hs:q.sh.size<=maxLen) (hm:d8b way a n=true) (hr:d7t q=true) :
  Calls Tryz.prog 45 #[.agg #[Sg q.sh,I6 q.c,I6 q.r,Bv q.fc,Bv q.fr],I6 way,I6 a,I6 n] w fun e w'=>e=.returned (.tuple #[.agg #[Sg ((f1p way a n q).1).sh,I6 ((f1p way a n q).1).c,I6 ((f1p way a n q).1).r,Bv ((f1p way a n q).1).fc,Bv ((f1p way a n q).1).fr],Bv (f1p way a n q).2])/\Bl w w':=by
 refine e3f q way a n _ _ w fun w=>?_
 obtain⟨k0,k1,k2,k3,k4,k5,k6⟩:=d9t hm;obtain⟨p1,p2⟩:=e4z hr k0;refine e0r _ f3q q way a n (tkP (plZ q way) a n) _ _ w hs hm hr (fun g p w=>d8c _ a n g p _ w (by omega) (by omega) (by omega) (by omega) (by omega) (by omega)) ?_;by_cases h2:a<=plZ q way/\plZ q way<a+n
 ·
  left;have hb:d9n q way a n=false:=(d9o hm hr).trans (by rw[decide_eq_true h2.1,decide_eq_true h2.2];rfl);have h3:tkP (plZ q way) a n=0:=by unfold tkP;rw[if_neg (by omega),if_pos h2.1]
  exact⟨Or.inl (by omega),e3e hb,hb⟩
 ·
  right
  have hb:d9n q way a n=true:=(d9o hm hr).trans (by
   by_cases h4:a<=plZ q way
   ·
    rw[decide_eq_true h4,decide_eq_false (fun h5=>h2 ⟨h4,h5⟩)];rfl
   ·
    rw[decide_eq_false h4];rfl)
  have h3:tkP (plZ q way) a n=dlP (plZ q way) a n:=by
   unfold tkP dlP
   split
   ·
    rfl
   ·
    rw[if_neg (by omega)]
  have h4:1<=dlP (plZ q way) a n/\dlP (plZ q way) a n<=d7d way:=by unfold dlP;split<;>omega
  rw[h3];exact⟨h4.1,h4.2,(d8w hb).symm,hb⟩
theorem f4o (u v:Value) (w:World) (hN:NodesAt w u knF) (hA:IntsAt w v []) (hnm:NamesAt w):Calls Tryz.prog 13 #[.agg #[u,v],Sg e2i,Sg e2i,I6 1,I6 3,I6 1] w (GotOwn knG [] 0 w):=by
 have h:=f4j e2i e2i 1 3 1 u v knF [] w _ hN hA hnm fun w h1 h2 h3=>e2z e2i e2i 1 3 1 38 39 (chF e2i e2i (f1o 1 3 1)) noG u v knF [] w h1 h2 kn_fits.1 h3 (by decide) (by decide)
  (fun _ _ m hm h5 w=>e6l e2i e2i 1 3 1 38 39 e9x m.r (chF e2i e2i (f1o 1 3 1) m) w (fun h=>if_neg (by rw[h];simp)) (fun h w=>by rw[show chF e2i e2i (f1o 1 3 1) m=f1o 1 3 1 m.r from if_pos h];exact f4l m.r 1 3 1 w (f4i m hm h5).2 (by decide +kernel) (f4i m hm h5).1))
  (fun _ _ m hm h6=>absurd h6 (f4n m hm))
 rw[f1v] at h;exact h
theorem f4p (u v:Value) (w:World) (hN:NodesAt w u knF) (hA:IntsAt w v []) (hnm:NamesAt w):Calls Tryz.prog 15 #[.agg #[u,v],Sg e2i,Sg knX,I6 1,I6 5,I6 1] w (GotOwn knH [] 0 w):=by
 have h:=f4k e2i knX 1 5 1 u v knF [] w _ hN hA hnm fun w h1 h2 h3=>e2z e2i knX 1 5 1 45 46 (chF e2i knX (f1p 1 5 1)) noG u v knF [] w h1 h2 kn_fits.1 h3 (by decide) (by decide)
  (fun _ _ m hm h5 w=>e6l e2i knX 1 5 1 45 46 e9y m.r (chF e2i knX (f1p 1 5 1) m) w (fun h=>if_neg (by rw[h];simp)) (fun h w=>by rw[show chF e2i knX (f1p 1 5 1) m=f1p 1 5 1 m.r from if_pos h];exact f4m m.r 1 5 1 w (f4i m hm h5).2 (by decide +kernel) (f4i m hm h5).1))
  (fun _ _ m hm h6=>absurd h6 (f4n m hm))
 rw[f1w] at h;exact h
set_option maxHeartbeats 16000000
set_option maxRecDepth 100000
theorem e3m (w:World) (hnm:NamesAt w):Calls Tryz.prog 9 #[] w fun e w'=>e=.returned (Bv true)/\Bl w w':=by
 have hud:=hUd;have HNM:=zh hnm;have HF:=zh (fun w=>d8a knT w 60 knF [] 0 0 (by decide) f1u);have hu:=fun u v w h1 h2 h3=>e9v u v knF [] e2i knX w h1 h2 kn_fits.1 h3 (by decide) (by decide)
 rw[f0j] at hu;have HI:=zh f4o;have HD:=zh f4p;have HU:=zh hu;have HG:=zh (fun u v w h1 h2=>d9j u v knG [] 4 knI w h1 h2 kn_fits.2.1 (by decide) (by decide) f4d rfl (e8u u v) (by decide));have HH:=zh (fun u v w h1 h2=>d9j u v knH [] 4 knD w h1 h2 kn_fits.2.2 (by decide) (by decide) f4e rfl (e8v u v) (by decide));clear hu hnm;generalize knF=NF at *;generalize knG=NG at *;generalize knH=NH at *;go_enter Tryz.func9,Tryz.ntmps9;go_wp2_with fail;refine(HF.out w).mono ?_;rintro e w1 ⟨⟨us,vs,rfl,hn,ha⟩,hBo⟩;obtain⟨b1,c1,rfl,_⟩:=hn.slice;obtain⟨b2,c2,rfl,_⟩:=ha.slice;obtain⟨n1,hn1⟩:=nM NF.length;obtain⟨a1,ha1⟩:=nM (([]:List Int).length);rw[<-hn1] at hn |-
 rw[<-ha1] at ha |-
 have N1:=zh hn;have A1:=zh ha;clear hn ha hn1 ha1;go_wp2_with fail;obtain⟨s1,F,hws,hdF,hsz,zF⟩:=nm1 w1 (.cells #[.slice b1 n1 c1,.slice b2 a1 c2] 25);have hUp:=up1 hws;have hAF:w1.heap.size<=F:=by omega
 have hN:=bx0 (b:=F) hws hdF;have kF0:=hN 0 _ rfl;have kF1:=hN 1 _ rfl;clear hN;replace hBo:=bs1 hBo hws;rw[<-hws];try rw[<-hdF]
 clear hws hsz hdF;replace N1:=zh (N1.out.below hUp);replace A1:=zh (A1.out.below hUp);clear hUp;refine(HI.out _ _ _ N1.out A1.out (HNM.out.below hBo)).mono ?_;rintro e w2 hq;obtain⟨⟨u2,v2,rfl,hn,ha⟩,hb⟩:=hq.got;obtain⟨b1,c1,rfl,_⟩:=hn.slice;obtain⟨b2,c2,rfl,_⟩:=ha.slice;obtain⟨n2,hn1⟩:=nM NG.length;obtain⟨a2,ha1⟩:=nM (([]:List Int).length);dsimp only at hn ha |-
 rw[<-hn1] at hn |-
 rw[<-ha1] at ha |-
 have N2:=zh hn;have A2:=zh ha;clear hn ha hn1 ha1 hq;replace N1:=zh (N1.out.below hb);replace A1:=zh (A1.out.below hb);replace kF0:=a0f hb kF0 zF;replace kF1:=a0f hb kF1 zF;replace zF:=zHl hb zF;replace hBo:=f4s hBo hb;clear hb;go_wp2_with fail;obtain⟨s2,G,hws,hdG,hsz,zG⟩:=nm1 w2 (.cells #[.slice b1 n2 c1,.slice b2 a2 c2] 25);have hUp:=up1 hws;have hAG:w2.heap.size<=G:=by omega
 replace kF0:=a0f hUp kF0 zF;replace kF1:=a0f hUp kF1 zF;replace zF:=zHl hUp zF;have hN:=bx0 (b:=G) hws hdG;have kG0:=hN 0 _ rfl;have kG1:=hN 1 _ rfl;clear hN;replace hBo:=bs1 hBo hws;rw[<-hws];try rw[<-hdG]
 clear hws hsz hdG;replace N1:=zh (N1.out.below hUp);replace A1:=zh (A1.out.below hUp);replace N2:=zh (N2.out.below hUp);replace A2:=zh (A2.out.below hUp);clear hUp;refine(HD.out _ _ _ N1.out A1.out (HNM.out.below hBo)).mono ?_;rintro e w3 hq;obtain⟨⟨u3,v3,rfl,hn,ha⟩,hb⟩:=hq.got;obtain⟨d1,e1,rfl,_⟩:=hn.slice;obtain⟨d2,e2,rfl,_⟩:=ha.slice;obtain⟨n3,hn1⟩:=nM NH.length;obtain⟨a3,ha1⟩:=nM (([]:List Int).length);dsimp only at hn ha |-
 rw[<-hn1] at hn |-
 rw[<-ha1] at ha |-
 have N3:=zh hn;have A3:=zh ha;clear hn ha hn1 ha1 hq;replace N1:=zh (N1.out.below hb);replace A1:=zh (A1.out.below hb);replace N2:=zh (N2.out.below hb);replace A2:=zh (A2.out.below hb);replace kF0:=a0f hb kF0 zF;replace kF1:=a0f hb kF1 zF;replace zF:=zHl hb zF;replace kG0:=a0f hb kG0 zG;replace kG1:=a0f hb kG1 zG;replace zG:=zHl hb zG;replace hBo:=f4s hBo hb;clear hb;go_wp2_with fail;obtain⟨s3,H,hws,hdH,hsz,zH⟩:=nm1 w3 (.cells #[.slice d1 n3 e1,.slice d2 a3 e2] 25);have hUp:=up1 hws;have hAH:w3.heap.size<=H:=by omega
 replace kF0:=a0f hUp kF0 zF;replace kF1:=a0f hUp kF1 zF;replace zF:=zHl hUp zF;have hN:=bx0 (b:=H) hws hdH;have kH0:=hN 0 _ rfl;have kH1:=hN 1 _ rfl;clear hN;replace hBo:=bs1 hBo hws;rw[<-hws];try rw[<-hdH]
 clear hws hsz hdH;replace N1:=zh (N1.out.below hUp);replace A1:=zh (A1.out.below hUp);replace N2:=zh (N2.out.below hUp);replace A2:=zh (A2.out.below hUp);replace N3:=zh (N3.out.below hUp);replace A3:=zh (A3.out.below hUp);clear hUp;refine cAn (HG.out _ _ _ N2.out A2.out) fun w4 hb=>?_
 replace N1:=zh (N1.out.below hb);replace A1:=zh (A1.out.below hb);replace N3:=zh (N3.out.below hb);replace A3:=zh (A3.out.below hb);clear N2 A2;replace kF0:=a0f hb kF0 zF;replace kF1:=a0f hb kF1 zF;replace zF:=zHl hb zF;replace kH0:=a0f hb kH0 zH;replace kH1:=a0f hb kH1 zH;replace hBo:=f4s hBo hb;clear hb;go_wp2_with fail;refine cAn (HH.out _ _ _ N3.out A3.out) fun w5 hb=>?_
 replace N1:=zh (N1.out.below hb);replace A1:=zh (A1.out.below hb);clear N3 A3;replace kF0:=a0f hb kF0 zF;replace kF1:=a0f hb kF1 zF;replace hBo:=f4s hBo hb;clear hb;go_wp2_with fail;refine cAn (HU.out _ _ _ N1.out A1.out (HNM.out.below hBo)) fun w6 hb=>?_
 replace hBo:=f4s hBo hb;clear hb;go_wp2_with fail
 go_ret
 exact⟨rfl,hBo⟩
theorem f5w {n:Nd} {way a c:Int} (hc:a1x n=true) (h6:n.k=6) (hm:d8b way a c=true):e1z n.r n.t way a c=true:=by
 obtain⟨r1,r2⟩:=f6e hc h6;obtain⟨_,_,e2,e3,_⟩:=f4b hc h6;unfold e1z;rw[r1,r2,hm,decide_eq_true]
 ·
  rfl
 ·
  rcases (d9t hm).1 with rfl | rfl
  ·
   exact e2
  ·
   exact e3
theorem f4y {N:List Nd} {A:List Int} (h:a0w N A=true) {m:Nd} (hm:m ∈ N):a1x m=true:=by
 obtain⟨k,hk⟩:=List.getElem?_of_mem hm;exact b9k h hk
theorem f6k (own sheet:ByteArray) (way a n:Int) (u v:Value) (N:List Nd) (A:List Int) (w:World) (hN:NodesAt w u N) (hA:IntsAt w v A) (hf:∀ n ∈ N,Fits n) (hnm:NamesAt w) (hl:A.length<=1000) (hl2:N.length<=1000) :
  Calls Tryz.prog 13 #[.agg #[u,v],Sg own,Sg sheet,I6 way,I6 a,I6 n] w (GotOwn (chQ way a n (chF own sheet (f1o way a n)) (chG own sheet (e6n way a n)) N A).1 (chQ way a n (chF own sheet (f1o way a n)) (chG own sheet (e6n way a n)) N A).2.1 (chQ way a n (chF own sheet (f1o way a n)) (chG own sheet (e6n way a n)) N A).2.2 w) :=
 f4j own sheet way a n u v N A w _ hN hA hnm fun w h1 h2 h3=>e2z own sheet way a n 38 39 (chF own sheet (f1o way a n)) (chG own sheet (e6n way a n)) u v N A w h1 h2 hf h3 hl hl2
  (fun hR hM m hm h5 w=>e6l own sheet way a n 38 39 e9x m.r (chF own sheet (f1o way a n) m) w (fun h=>if_neg (by rw[h];simp)) (fun h w=>by rw[show chF own sheet (f1o way a n) m=f1o way a n m.r from if_pos h];exact f4l m.r way a n w (f1n (hf m hm).2.2.2.1) hM (f4a (f4y hR hm) h5).2))
  (fun hR hM m hm h6 w=>e6m own sheet way a n 38 39 e8k m.r m.t (chG own sheet (e6n way a n) m) w (fun h=>if_neg (by rw[h];simp)) (fun h w=>by rw[show chG own sheet (e6n way a n) m=e6n way a n m.r m.t from if_pos h];exact f5m m.r m.t way a n w (f1n (hf m hm).2.2.2.1) (f1n (hf m hm).2.2.2.2) (f5w (f4y hR hm) h6 hM)))
theorem f6l (own sheet:ByteArray) (way a n:Int) (u v:Value) (N:List Nd) (A:List Int) (w:World) (hN:NodesAt w u N) (hA:IntsAt w v A) (hf:∀ n ∈ N,Fits n) (hnm:NamesAt w) (hl:A.length<=1000) (hl2:N.length<=1000) (hd:∀ m ∈ N,m.k=6->e6j own sheet m.r=true->d9n m.r way a n=true/\d9n m.t way a n=true) :
  Calls Tryz.prog 15 #[.agg #[u,v],Sg own,Sg sheet,I6 way,I6 a,I6 n] w (GotOwn (chQ way a n (chF own sheet (f1p way a n)) (chG own sheet (e6o way a n)) N A).1 (chQ way a n (chF own sheet (f1p way a n)) (chG own sheet (e6o way a n)) N A).2.1 (chQ way a n (chF own sheet (f1p way a n)) (chG own sheet (e6o way a n)) N A).2.2 w) :=
 f4k own sheet way a n u v N A w _ hN hA hnm fun w h1 h2 h3=>e2z own sheet way a n 45 46 (chF own sheet (f1p way a n)) (chG own sheet (e6o way a n)) u v N A w h1 h2 hf h3 hl hl2
  (fun hR hM m hm h5 w=>e6l own sheet way a n 45 46 e9y m.r (chF own sheet (f1p way a n) m) w (fun h=>if_neg (by rw[h];simp)) (fun h w=>by rw[show chF own sheet (f1p way a n) m=f1p way a n m.r from if_pos h];exact f4m m.r way a n w (f1n (hf m hm).2.2.2.1) hM (f4a (f4y hR hm) h5).2))
  (fun hR hM m hm h6 w=>e6m own sheet way a n 45 46 e8l m.r m.t (chG own sheet (e6o way a n) m) w (fun h=>if_neg (by rw[h];simp)) (fun h w=>by rw[show chG own sheet (e6o way a n) m=e6o way a n m.r m.t from if_pos h];exact f5n m.r m.t way a n w (f1n (hf m hm).2.2.2.1) (f1n (hf m hm).2.2.2.2) (f5w (f4y hR hm) h6 hM) (hd m hm h6 h).1 (hd m hm h6 h).2))
def f7f (t0:World) (way c:Int) (f:Nd->Nd) (N:List Nd) (r:Value) (wr:World):Prop:=∃ k:Nat,k<=N.length/\r=I6 k/\(∀ (j:Nat) (n:Nd),j<k->N[j]?=some n->f6g way c n (f n)=false)/\Bl t0 wr
def f7b (way c:Int) (f:Nd->Nd) (N:List Nd) (w:World) (e:Ending) (w':World):Prop:=(∃ b:Bool,e=.returned (Bv b)/\(b=true->∀ (k:Nat) (n:Nd),N[k]?=some n->f6g way c n (f n)=false))/\Bl w w'
theorem f5o (u v x y:Value) (N:List Nd) (f:Nd->Nd) (own sheet:ByteArray) (way a c:Int) (w:World) (hN:NodesAt w u N) (hM:NodesAt w x (N.map f)) (hl2:N.length<=1000) (hc:1<=c/\c<=99) :
  Calls Tryz.prog 20 #[.agg #[u,v],.agg #[x,y],.agg #[Sg own,Sg sheet,I6 way,I6 a,I6 c]] w (f7b way c f N w):=by
 have hud:=hUd;obtain⟨K19,hz19,HK19⟩:=a0q;have q52:IntKind.i64.wrap (52-c)=52-c:=IntWalk.i64_in _ (by omega);have q99:IntKind.i64.wrap (99-c)=99-c:=IntWalk.i64_in _ (by omega);have HN:=zh hN;have HM:=zh hM;obtain⟨bq,cq,rfl,_⟩:=hN.slice;obtain⟨bm,cm,rfl,_⟩:=hM.slice;rw[List.length_map] at HM |-
 have HGE:Hid (∀ k,k<N.length->∃ n,N[k]?=some n):=fun k h=>⟨_,List.getElem?_eq_getElem h⟩
 obtain⟨LN,hLN⟩:=nM N.length;rw[<-hLN] at HGE hl2 HM HN |-
 have HLN:=zh hLN;clear hN hM hLN hc;go_enter Tryz.func20,Tryz.ntmps20
 go_upto_region 1 with fail
 obtain⟨s1,F,G,C,hws,hdF,hdG,hdC,hsz,zF,zG,zC⟩:=nm3 w (.cells #[.slice bq LN cq,v] 25) (.cells #[.slice bm LN cm,y] 25) (.cells #[Sg own,Sg sheet,I6 way,I6 a,I6 c] 36);have hN:=bx2 (b:=F) hws hdF;have kF0:=hN 0 _ rfl;have kF1:=hN 1 _ rfl;clear hN;have hN:=bx1 (b:=G) hws (by simp[hdG]);have kG0:=hN 0 _ rfl;have kG1:=hN 1 _ rfl;clear hN;have yC:=by0 (b:=C) hws (by simp[hdC]);have hBo:=bs3 bR hws;rw[<-hws];try rw[<-hdC]
 try rw[<-hdG]
 try rw[<-hdF]
 clear hws hsz hdF hdG hdC;have HZ:Hid (∀ W,Below (s1).heap.size s1 W->Bl w W):=fun W h=>bT hBo h
 have HF1:Hid (∀ W,Below (s1).heap.size s1 W->W.cell? ⟨F,0,none⟩=some (.slice bq LN cq)/\W.cell? ⟨G,0,none⟩=some (.slice bm LN cm)):=fun W h=>⟨a0f h kF0 zF,a0f h kG0 zG⟩
 have HC1:Hid (∀ W,Below (s1).heap.size s1 W->(∀ j,W.cell? ⟨C,j,none⟩=([Sg own,Sg sheet,I6 way,I6 a,I6 c]:List Value)[j]?)/\C<W.heap.size):=fun W h=>⟨eqB h yC zC,zHl h zC⟩
 obtain⟨t0,ht0⟩:=nM s1;rw[<-ht0] at HZ HF1 HC1 kF0 zF hBo |-
 clear ht0 kF1 kG0 kG1 zG yC zC;go_wp2_with fail
 go_loopw [7] (f7f t0 way c f N) (fun r _=>LN-(intOf r).toNat)
 case atStart=>exact⟨0,Nat.zero_le _,rfl,fun j n h=>absurd h (Nat.not_lt_zero j),Below.refl _ _⟩
 case round =>
  obtain⟨k,hk,rfl,hall,hW⟩:=hrel;rw[<-HLN.out] at hk;have HAL:=zh hall;have HW:=zh hW;have hBo:=HZ.out _ hW;obtain⟨kF0,kG0⟩:=HF1.out _ hW;obtain⟨yC,zC⟩:=HC1.out _ hW;have zF:=a0j kF0;have zG:=a0j kG0;clear hall hW;by_cases hlt:k<LN
  ·
   obtain⟨n,hn⟩:=HGE.out k hlt;obtain⟨bz,cz,hq,hcs⟩:=(HN.out.below hBo).slice;obtain⟨gn,om,rfl,hcn⟩:=hcs k n hn;obtain⟨rfl,-,-⟩:(bq=some ⟨gn,om,none⟩)/\LN=N.length/\cq=cz:=by simpa using hq
   obtain⟨bz2,cz2,hq2,hcs2⟩:=(HM.out.below hBo).slice;obtain⟨gm,oq,rfl,hcm⟩:=hcs2 k (f n) (by rw[List.getElem?_map,hn];rfl);obtain⟨rfl,-,-⟩:(bm=some ⟨gm,oq,none⟩)/\LN=N.length/\cm=cz2:=by simpa using hq2
   have LN0:=a0p wr gn (om+k*K19) HK19 n (fun j u hu=>by rw[HK19.out];exact hcn j u hu);have hgk:wr.cell? ⟨gm,oq+k*K19,none⟩=some (I6 (f n).k):=by rw[HK19.out];exact hcm 0 _ rfl
   have HN0:=zh hn;clear hcn hcs hq hn hcm hcs2 hq2
   go_upto_region 5 with (refine a0c rfl _ _ rfl rfl _ _ _ rfl rfl rfl (by rfl) (by rfl) (by rfl) ?_)
   obtain⟨s2,X,hws,hdX,hsz,zX⟩:=nm1 wr (.cells #[I6 n.k,I6 n.o,I6 n.a,I6 n.b,Bv n.qn,Sg n.qa,Sg n.qd,Sg n.s,Bv n.tr,Sg n.r.sh,I6 n.r.c,I6 n.r.r,Bv n.r.fc,Bv n.r.fr,Sg n.t.sh,I6 n.t.c,I6 n.t.r,Bv n.t.fc,Bv n.t.fr] 69);have hUp:=up1 hws;have hAX:wr.heap.size<=X:=by omega
   have yX:=by0 (b:=X) hws hdX;have kX0:s2.cell? ⟨X,0,none⟩=some (I6 n.k):=yX 0;have LX:=eqM HK19 yX;replace hBo:=bs1 hBo hws;rw[<-hws];try rw[<-hdX]
   clear hws hsz hdX;clear LN0;replace kG0:=a0f hUp kG0 zG;replace yC:=eqB hUp yC zC;replace zC:=zHl hUp zC;replace hgk:=a0f hUp hgk (a0j hgk);have HWX:Hid (Bl t0 s2):=HW.out.trans (hUp.mono HW.out.size);clear hUp hAX kF0 zF zG;obtain⟨mk,hmk⟩:=nM ((f n).k);rw[<-hmk] at hgk;have HMK:=zh hmk;clear hmk
   cases g1:(n.k==mk) with
   | false =>
    have g1b:(n.k != mk)=true:=by unfold bne;rw[g1];rfl
    go_region
    go_wp2_with fail
    go_ret
    exact⟨⟨false,rfl,fun h=>by cases h⟩,HZ.out _ HWX.out.drew⟩
   | true =>
    have g1b:(n.k != mk)=false:=by unfold bne;rw[g1];rfl
    obtain⟨B,hB⟩:=nM (((n.k==6)&&(((way==0)&&decide (52-c<n.t.c)) || ((way==1)&&decide (99-c<n.t.r)))))
    have HBN:Hid (f6g way c n (f n)=B):=zh (by unfold f6g;rw[<-HMK.out,g1,hB];rfl)
    go_region
    have hDr:Below (s2).heap.size s2 (s2).drew:=(Below.refl _ _).drew;replace yC:=eqB hDr yC zC;replace zC:=zHl hDr zC;replace yX:=eqB hDr yX zX;replace zX:=zHl hDr zX;replace HWX:=zh HWX.out.drew;clear kX0 hgk kG0 hDr;obtain⟨w5,hw5⟩:=nM ((s2).drew);rw[<-hw5] at yC zC yX zX HWX |-
    clear hw5
    go_upto_region 7 with fail
    go_cut [67] (fun v wx=>v=Bv B/\wx=w5)
    case first =>
     cases g6:(n.k==6)<;>cases g0:(way==0)<;>cases g2:decide (52-c<n.t.c)<;>cases g3:(way==1)<;>cases g4:decide (99-c<n.t.r)
     all_goals
      rw[g6,g0,g2,g3,g4] at hB;have HB:=zh hB;clear hB;go_wp2_with fail
      go_meet
      exact⟨by rw[HB.out];rfl,rfl⟩
    obtain⟨rfl,hwc⟩:=hcut;rw[hwc];clear hwc wc hB
    cases B with
    | true =>
     go_wp2_with fail
     go_ret
     exact⟨⟨false,rfl,fun h=>by cases h⟩,HZ.out _ HWX.out⟩
    | false =>
     go_wp2_with fail
     go_roundw
     case rel=>exact⟨k+1,by rw[<-HLN.out];omega,by go_num,fun j m hj hm=>by
      by_cases e:j=k
      ·
       subst e;rw[HN0.out] at hm;rw[<-Option.some.inj hm];exact HBN.out
      ·
       exact HAL.out j m (by omega) hm,HWX.out⟩
     case measure=>simp[intOf];omega
  ·
   obtain rfl:k=LN:=by omega
   go_wp2_with fail
   go_ret
   exact⟨⟨true,rfl,fun _ j n hn=>HAL.out j n (by rw[HLN.out];exact(List.getElem?_eq_some_iff.1 hn).1) hn⟩,hBo⟩
theorem f5x (N:List Nd) (A:List Int):sameB N N A A=true:=by unfold sameB;rw[b3x rfl,decide_eq_true rfl];rfl
theorem f4z (s own sheet:ByteArray) (way a c:Int) (w:World) (hnm:NamesAt w) (hs0:s.size<=maxLen) :
  Calls Tryz.prog 6 #[Sg s,.agg #[Sg own,Sg sheet,I6 way,I6 a,I6 c]] w fun e w'=>e=.returned (Bv true)/\Bl w w':=by
 have hud:=hUd;have HNM:=zh hnm;obtain⟨⟨N,A,p,q⟩,hq,l1,l2,hf⟩:=e9j e3r s.data.toList 20000 (Nat.le_refl _);dsimp only at l1 l2 hf;have HF:=zh (fun w=>d8a s w 20000 N A p q hs0 hq);have HK:=zh e3m;have hp:=fun u v w h1 h2 h3=>f6k own sheet way a c u v N A w h1 h2 hf h3 (by omega) (by omega)
 obtain⟨Q,hQ⟩:=nM (chQ way a c (chF own sheet (f1o way a c)) (chG own sheet (e6n way a c)) N A);rw[<-hQ] at hp
 have hgood:Q.2.2=0->a0w N A=true/\d8b way a c=true/\Q=(N.map (e2a (chF own sheet (f1o way a c)) (chG own sheet (e6n way a c))),A,0):=fun h=>by
  unfold chQ at hQ
  cases hR:a0w N A with
  | false=>rw[if_pos hR] at hQ;rw[hQ] at h;exact absurd h (by decide)
  | true =>
   cases hM:d8b way a c with
   | false=>rw[if_neg (by rw[hR];simp),if_pos hM] at hQ;rw[hQ] at h;exact absurd h (by decide)
   | true=>rw[if_neg (by rw[hR];simp),if_neg (by rw[hM];simp)] at hQ;exact⟨rfl,rfl,hQ⟩
 obtain⟨M,B,z⟩:=Q;dsimp only at hp hgood;have HP:=zh hp;have HG:=zh hgood;have HFT:=zh hf;have HL:Hid (N.length<=1000/\A.length<=1000):=zh ⟨by omega,by omega⟩;clear hp hQ hgood hf hq l1 l2 hnm hs0;go_enter Tryz.func6,Tryz.ntmps6
 go_upto_region 1 with fail
 obtain⟨s1,C,hws,hdC,hsz,zC⟩:=nm1 w (.cells #[Sg own,Sg sheet,I6 way,I6 a,I6 c] 36);have yC:=by0 (b:=C) hws hdC;have hBo:=bs1 bR hws;rw[<-hws];try rw[<-hdC]
 clear hws hsz hdC;go_wp2_with fail;refine(HF.out _).mono ?_;rintro e w1 ⟨⟨us,vs,rfl,hn,ha⟩,hb⟩;obtain⟨b1,c1,rfl,_⟩:=hn.slice;obtain⟨d0,d1,rfl,_⟩:=ha.slice;obtain⟨n1,hn1⟩:=nM N.length;obtain⟨a1,ha1⟩:=nM A.length;rw[<-hn1] at hn |-
 rw[<-ha1] at ha |-
 have N1:=zh hn;have A1:=zh ha;have HN1:=zh hn1;have HA1:=zh ha1;clear hn ha hn1 ha1;replace yC:=eqB hb yC zC;replace zC:=zHl hb zC;replace hBo:=f4s hBo hb;clear hb;by_cases hc:q=0
 case neg =>
  have g0:(q != 0)=true:=by simpa using hc
  clear hc
  go_upto_region 2 with fail
  obtain⟨s2,F,hws,hdF,hsz,zF⟩:=nm1 w1 (.cells #[.slice b1 n1 c1,.slice d0 a1 d1] 25);have hUp:=up1 hws;have hAF:w1.heap.size<=F:=by omega
  have hN:=bx0 (b:=F) hws hdF;clear hN;replace hBo:=bs1 hBo hws;rw[<-hws];try rw[<-hdF]
  clear hws hsz hdF;clear hUp N1 A1;go_wp2_with fail;refine cAn (HK.out _ (HNM.out.below hBo)) fun w5 hb=>?_
  replace hBo:=f4s hBo hb;clear hb;go_wp2_with fail
  go_ret
  exact⟨rfl,hBo⟩
 have g0:(q != 0)=false:=by simpa using hc
 clear hc
 go_upto_region 2 with fail
 obtain⟨s3,F,hws,hdF,hsz,zF⟩:=nm1 w1 (.cells #[.slice b1 n1 c1,.slice d0 a1 d1] 25);have hUp:=up1 hws;have hAF:w1.heap.size<=F:=by omega
 replace yC:=eqB hUp yC zC;replace zC:=zHl hUp zC;have hN:=bx0 (b:=F) hws hdF;have kF0:=hN 0 _ rfl;have kF1:=hN 1 _ rfl;clear hN;replace hBo:=bs1 hBo hws;rw[<-hws];try rw[<-hdF]
 clear hws hsz hdF;replace N1:=zh (N1.out.below hUp);replace A1:=zh (A1.out.below hUp);clear hUp;go_wp2_with fail;refine(HP.out _ _ _ N1.out A1.out (HNM.out.below hBo)).mono ?_;rintro e w2 hq;obtain⟨⟨u2,v2,rfl,hn,ha⟩,hb⟩:=hq.got;obtain⟨b2,e2,rfl,_⟩:=hn.slice;obtain⟨d2,f2,rfl,_⟩:=ha.slice;obtain⟨n2,hn1⟩:=nM M.length;obtain⟨a2,ha1⟩:=nM B.length;dsimp only at hn ha |-
 rw[<-hn1] at hn |-
 rw[<-ha1] at ha |-
 have N2:=zh hn;have A2:=zh ha;have HN2:=zh hn1;have HA2:=zh ha1;clear hn ha hn1 ha1 hq;replace N1:=zh (N1.out.below hb);replace A1:=zh (A1.out.below hb);replace yC:=eqB hb yC zC;replace zC:=zHl hb zC;replace kF0:=a0f hb kF0 zF;replace kF1:=a0f hb kF1 zF;replace zF:=zHl hb zF;replace hBo:=f4s hBo hb;clear hb
 go_upto_region 5 with fail
 obtain⟨s4,G,hws,hdG,hsz,zG⟩:=nm1 w2 (.cells #[.slice b2 n2 e2,.slice d2 a2 f2] 25);have hUp:=up1 hws;have hAG:w2.heap.size<=G:=by omega
 replace yC:=eqB hUp yC zC;replace zC:=zHl hUp zC;replace kF0:=a0f hUp kF0 zF;replace kF1:=a0f hUp kF1 zF;replace zF:=zHl hUp zF;have hN:=bx0 (b:=G) hws hdG;have kG0:=hN 0 _ rfl;have kG1:=hN 1 _ rfl;clear hN;replace hBo:=bs1 hBo hws;rw[<-hws];try rw[<-hdG]
 clear hws hsz hdG;replace N1:=zh (N1.out.below hUp);replace A1:=zh (A1.out.below hUp);replace N2:=zh (N2.out.below hUp);replace A2:=zh (A2.out.below hUp);clear hUp;by_cases hz:z=0
 case neg =>
  have g1:(z != 0)=true:=by simpa using hz
  clear hz N1 A1 N2 A2;go_wp2_with fail;refine cAn (HK.out _ (HNM.out.below hBo)) fun w5 hb=>?_
  replace hBo:=f4s hBo hb;clear hb;go_wp2_with fail
  go_ret
  exact⟨rfl,hBo⟩
 have g1:(z != 0)=false:=by simpa using hz
 obtain⟨hR,hM,hE⟩:=HG.out hz;obtain⟨rfl,rfl,rfl⟩:M=N.map (e2a (chF own sheet (f1o way a c)) (chG own sheet (e6n way a c)))/\B=A/\z=0:=by simpa using hE
 have hcan:∀ n ∈ N,a1x n=true:=fun n hn=>f4y hR hn
 have HCN:=zh hcan;have HRM:=zh (f6f own sheet way a c hR);have HMY:=zh hM;have hw:=fun w h1 h2=>f5o (.slice b1 n1 c1) (.slice d0 a1 d1) (.slice b2 n2 e2) (.slice d2 a2 f2) N (e2a (chF own sheet (f1o way a c)) (chG own sheet (e6n way a c))) own sheet way a c w h1 h2 HL.out.1 ⟨(d9t hM).2.2.2.1,by have:=(d9t hM).2.2.2.2;omega⟩
 have HW:=zh hw;clear hw hcan hR hM hE hz;go_wp2_with fail;refine(HW.out _ N1.out N2.out).mono ?_;rintro e w3 ⟨⟨b,rfl,hall⟩,hb⟩;replace N1:=zh (N1.out.below hb);replace A1:=zh (A1.out.below hb);replace N2:=zh (N2.out.below hb);replace A2:=zh (A2.out.below hb);have HAL:=zh hall;clear hall;replace yC:=eqB hb yC zC;replace kF0:=a0f hb kF0 zF;replace kF1:=a0f hb kF1 zF;replace zF:=zHl hb zF;replace kG0:=a0f hb kG0 zG;replace kG1:=a0f hb kG1 zG;replace hBo:=f4s hBo hb;clear hb
 cases b with
 | false =>
  clear N1 A1 N2 A2;go_wp2_with fail;refine cAn (HK.out _ (HNM.out.below hBo)) fun w5 hb=>?_
  replace hBo:=f4s hBo hb;clear hb;go_wp2_with fail
  go_ret
  exact⟨rfl,hBo⟩
 | true =>
 have hbad:∀ n ∈ N,f6g way c n (e2a (chF own sheet (f1o way a c)) (chG own sheet (e6n way a c)) n)=false:=fun n hn=>by
  obtain⟨k,hk⟩:=List.getElem?_of_mem hn;exact HAL.out rfl k n hk
 have hd:=fun w h1 h2 h3=>f6l own sheet way a c (.slice b2 n2 e2) (.slice d2 a2 f2) (N.map (e2a (chF own sheet (f1o way a c)) (chG own sheet (e6n way a c)))) B w h1 h2 (fun m hm=>by obtain⟨n,hn,rfl⟩:=List.mem_map.1 hm;exact f6u (HFT.out n hn)) h3 HL.out.2 (by rw[List.length_map];exact HL.out.1) (fun m hm h6 ht=>by obtain⟨n,hn,rfl⟩:=List.mem_map.1 hm;exact f6r (HCN.out n hn) (hbad n hn) h6 ht)
 have hdq:chQ way a c (chF own sheet (f1p way a c)) (chG own sheet (e6o way a c)) (N.map (e2a (chF own sheet (f1o way a c)) (chG own sheet (e6n way a c)))) B=(N,B,0):=by
  unfold chQ;rw[if_neg (by rw[HRM.out];simp),if_neg (by rw[HMY.out];simp),f6s HCN.out hbad]
 rw[hdq] at hd;have HD:=zh hd;have HS:=zh (fun u v u2 v2 w h1 h2 h3 h4=>b4c u v u2 v2 N N B B w h1 h2 h3 h4 HL.out.1 HL.out.2 HL.out.1 HL.out.2);rw[f5x] at HS;clear hd hdq hbad HAL HCN HRM HMY HW;go_wp2_with fail;refine(HD.out _ N2.out A2.out (HNM.out.below hBo)).mono ?_;rintro e w4 hq;obtain⟨⟨u3,v3,rfl,hn,ha⟩,hb⟩:=hq.got;obtain⟨b3,e3,rfl,_⟩:=hn.slice;obtain⟨d3,f3,rfl,_⟩:=ha.slice;dsimp only at hn ha |-
 rw[<-HN1.out] at hn |-
 rw[<-HA1.out] at ha |-
 have N3:=zh hn;have A3:=zh ha;clear hn ha hq N2 A2;replace N1:=zh (N1.out.below hb);replace A1:=zh (A1.out.below hb);replace kF0:=a0f hb kF0 zF;replace kF1:=a0f hb kF1 zF;replace zF:=zHl hb zF;replace hBo:=f4s hBo hb;clear hb
 go_upto_region 8 with fail
 obtain⟨s5,X,hws,hdX,hsz,zX⟩:=nm1 w4 (.cells #[.slice b3 n1 e3,.slice d3 a1 f3] 25);have hUp:=up1 hws;have hAX:w4.heap.size<=X:=by omega
 replace kF0:=a0f hUp kF0 zF;replace kF1:=a0f hUp kF1 zF;have hN:=bx0 (b:=X) hws hdX;have kX0:=hN 0 _ rfl;have kX1:=hN 1 _ rfl;clear hN;replace hBo:=bs1 hBo hws;rw[<-hws];try rw[<-hdX]
 clear hws hsz hdX;replace N1:=zh (N1.out.below hUp);replace A1:=zh (A1.out.below hUp);replace N3:=zh (N3.out.below hUp);replace A3:=zh (A3.out.below hUp);clear hUp;go_wp2_with fail;refine cAn (HS.out _ _ _ _ _ N3.out A3.out N1.out A1.out) fun w6 hb=>?_
 clear N1 A1 N3 A3;replace hBo:=f4s hBo hb;clear hb;go_wp2_with fail;refine cAn (HK.out _ (HNM.out.below hBo)) fun w5 hb=>?_
 replace hBo:=f4s hBo hb;clear hb;go_wp2_with fail
 go_ret
 exact⟨rfl,hBo⟩
open Go.ChangeShapes Go.WideShapes Go.ChangeAt Go.ChangeMaps Go.Joins Go.Deep
theorem c2p {W : World} {d : List (DataW Unit)} (hd : d = (List.range 8).map fun i => .lit (.string (c2o i).data.toList)) (h : Lib.VarReads Tryz.prog W "abacist/value.names" (.agg d)) : NamesAt W := by
 obtain⟨g,t,cs,fuel,p,hg,ht,hv,htr⟩:=h
 obtain rfl : 4 = g := Option.some.inj ((show Tryz.prog.globalNamed "abacist/value.names" = some 4 by kernel_rfl).symm.trans hg)
 obtain rfl : 246=t:=Option.some.inj ((show (Tryz.prog.globals[4]?).map (·.type)=some 246 by kernel_rfl).symm.trans ht);have k1 : Tryz.prog.cellsOf 9=1:=by kernel_rfl
 have hgn : Tryz.prog.globalNamed "abacist/value.names" = some 4 := by kernel_rfl
 simp only[World.var?,hgn,Option.bind_some] at hv
 cases hh:W.heap[4]? with
 | none=>rw[hh] at hv;cases hv
 | some o =>
  rw[hh] at hv;have hlt : 4 < W.heap.size:=(Array.getElem?_eq_some_iff.1 hh).1
  cases o with
  | cells row ty fr =>
   obtain rfl:row=cs:=by simpa using hv
   refine⟨hlt,fun j hj=>?_⟩
   obtain⟨fuel',dj,q,hdj,htj⟩:=Lib.array_elem Tryz.underlying246 htr j hj;rw[k1,Nat.mul_one] at htj;obtain⟨s,hs,hx,_⟩:=DataW.trod_string Tryz.underlying9 htj;rw[hd,List.getElem?_map,List.getElem?_range hj] at hdj;have hdd:(DataW.lit (.string (c2o j).data.toList):DataW Unit)=dj:=by simpa using hdj
   have hsb:s.data.toList=(c2o j).data.toList:=by
    rw[<-hdd] at hx;simp at hx;rw[<-hx.1]
   have hse:s=c2o j:=by
    cases s with
    | mk sd =>
     cases hf:c2o j with
     | mk fd =>
      rw[hf] at hsb
      congr 1
      exact Array.toList_inj.1 hsb
   rw[cell_of_row W 4 j row ty fr hh]
   have h4:row.toList[j]?=some (Sg s):=by
    have:=congrArg (·[0]?) hs;simpa [List.getElem?_take,List.getElem?_drop] using this
   rw[<-hse];simpa using h4
  | _=>simp at hv
section
variable {H:Type} {enc:TypeId × Value->H} {W:World} {base:Nat} {spare:Nat->Bool} {held:Bool}
theorem b8n {α:Type} {l:List α} (h:l.length=5):∃ a b c d e,l=[a,b,c,d,e]:=by
 match l,h with
 | [a,b,c,d,e],_=>exact⟨a,b,c,d,e,rfl⟩
theorem a1u {n:Nat} {t:TypeId} {c:Value} {y:DataW H × List MemPlace} (ht : Tryz.prog.underlying t=some (.int .i64)) (h:DataW.trod enc Tryz.prog W base spare held n t [c]=some y):∃ k:Int,c=I6 k/\y=(.lit (.int .i64 k),[])/\(Lit.int .i64 k).wf=true:=by
 obtain⟨k,h1,hx,hw⟩:=DataW.trod_int ht h;simp at h1;exact⟨k,h1,hx,hw⟩
theorem a2l {n:Nat} {t:TypeId} {c:Value} {y:DataW H × List MemPlace} (ht : Tryz.prog.underlying t=some .string) (h:DataW.trod enc Tryz.prog W base spare held n t [c]=some y):∃ s:ByteArray,c=.string s/\y=(.lit (.string s.data.toList),[])/\s.size<=maxLen:=by
 obtain⟨s,h1,hx,hs⟩:=DataW.trod_string ht h;simp at h1;exact⟨s,h1,hx,hs⟩
end
section
variable {H:Type} {enc:TypeId × Value->H} {W:World} {base:Nat} {spare:Nat->Bool} {held:Bool}
theorem f5a : Tryz.prog.cellsOf 36=5:=by kernel_rfl
theorem f5r {r:Reach} {b0:Nat} {v:Value} {d:DataW H} {p:List MemPlace} (hv:Value.okWide Tryz.prog W r b0 36 v) (h:DataW.Trod enc Tryz.prog W base spare held 36 v d p) :
  ∃ (s t:ByteArray) (x y z:Int),v=.agg #[.string s,.string t,I6 x,I6 y,I6 z]/\d=.agg [.lit (.string s.data.toList),.lit (.string t.data.toList),.lit (.int .i64 x),.lit (.int .i64 y),.lit (.int .i64 z)]/\p=[]/\s.size<=maxLen/\t.size<=maxLen/\(Lit.int .i64 x).wf=true/\(Lit.int .i64 y).wf=true/\(Lit.int .i64 z).wf=true:=by
 obtain⟨cs,rfl,hsz⟩:=okWide_struct Tryz.underlying36 hv;obtain⟨cl⟩:=cs;obtain⟨c0,c1,c2,c3,c4,rfl⟩:=b8n (l:=cl) (hsz.trans f5a);obtain⟨fuel,hf⟩:=h;obtain⟨xs,n,_,hx,_,hlen,hg⟩:=DataW.trod_struct Tryz.underlying36 hf;obtain⟨y0,y1,y2,y3,y4,rfl⟩:=b8n (l:=xs) hlen;have k1 : Tryz.prog.cellsOf 9=1:=by kernel_rfl
 have k2 : Tryz.prog.cellsOf 3=1:=by kernel_rfl
 have g0:=hg 0 _ rfl;have g1:=hg 1 _ rfl;have g2:=hg 2 _ rfl;have g3:=hg 3 _ rfl;have g4:=hg 4 _ rfl;simp[Value.cells,k1,k2] at g0 g1 g2 g3 g4;obtain⟨s,rfl,rfl,hs⟩:=a2l Tryz.underlying9 g0;obtain⟨t,rfl,rfl,ht⟩:=a2l Tryz.underlying9 g1;obtain⟨x,rfl,rfl,hx1⟩:=a1u Tryz.underlying3 g2;obtain⟨y,rfl,rfl,hy1⟩:=a1u Tryz.underlying3 g3;obtain⟨z,rfl,rfl,hz1⟩:=a1u Tryz.underlying3 g4;simp at hx;exact⟨s,t,x,y,z,rfl,hx.1,hx.2,hs,ht,hx1,hy1,hz1⟩
theorem f5s {s t:ByteArray} {x y z:Int} (hs:s.size<=maxLen) (ht:t.size<=maxLen) (hx:(Lit.int .i64 x).wf=true) (hy:(Lit.int .i64 y).wf=true) (hz:(Lit.int .i64 z).wf=true) :
  DataW.Trod enc Tryz.prog W base spare held 36 (.agg #[.string s,.string t,I6 x,I6 y,I6 z]) (.agg [.lit (.string s.data.toList),.lit (.string t.data.toList),.lit (.int .i64 x),.lit (.int .i64 y),.lit (.int .i64 z)]) []:=by
 have k1 : Tryz.prog.cellsOf 9=1:=by kernel_rfl
 have k2 : Tryz.prog.cellsOf 3=1:=by kernel_rfl
 have ti:∀ x:Int,(Lit.int .i64 x).wf=true->DataW.trod enc Tryz.prog W base spare held 1 3 [I6 x]=some (.lit (.int .i64 x),[]):=fun x h=>by simp[DataW.trod,Tryz.underlying3,h]
 have tt:∀ s:ByteArray,s.size<=maxLen->DataW.trod enc Tryz.prog W base spare held 1 9 [.string s]=some (.lit (.string s.data.toList),[]):=fun s h=>by simp[DataW.trod,Tryz.underlying9,h]
 have ts:=trod_struct_mk (enc:=enc) (w:=W) (base:=base) (spare:=spare) (held:=held) (n:=1) (cs:=[Sg s,Sg t,I6 x,I6 y,I6 z])
  (xs:=[(.lit (.string s.data.toList),[]),(.lit (.string t.data.toList),[]),(.lit (.int .i64 x),[]),(.lit (.int .i64 y),[]),(.lit (.int .i64 z),[])]) Tryz.underlying36 (by simp[f5a]) (by simp[k1,k2,tt s hs,tt t ht,ti x hx,ti y hy,ti z hz])
 exact⟨_,by simpa [Value.cells] using ts⟩
end
end Go.Proofs.YtibiacmbljgmhaaGreatDoor
