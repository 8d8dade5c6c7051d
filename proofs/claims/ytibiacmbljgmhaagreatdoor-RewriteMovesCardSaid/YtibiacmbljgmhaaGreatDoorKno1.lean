/-
  
  
  
  
-/
import Derived.Test.YtibiacmbljgmhaaGreatDoorPrt1
import Derived.Test.YtibiacmbljgmhaaGreatDoorAst37
import Derived.Test.YtibiacmbljgmhaaGreatDoorRewg
import Derived.Lib.SmallJoins
import Derived.OpenShut
import Derived.Deep.Slices
import Derived.Lib.LaidU8
namespace Go.Proofs.YtibiacmbljgmhaaGreatDoor
open Go.RowKit Go.Shelf
set_option linter.all false
abbrev knT:jW:=⟨#[65,49,43,65,53,43,120,33,65,53]⟩
abbrev e2i:jW:=⟨#[111,119,110]⟩
abbrev knX:jW:=⟨#[120]⟩
abbrev knI:jW:=⟨#[65,49,43,65,54,43,120,33,65,53]⟩
abbrev knD:jW:=⟨#[65,49,43,65,53,43,35,82,69,70,33]⟩
abbrev e2j (sh:jW) (r:Int):Nd:=⟨5,0,0,0,false,⟨#[]⟩,⟨#[]⟩,⟨#[]⟩,false,⟨sh,1,r,false,false⟩,rf0⟩
abbrev e0j (a b:Int):Nd:=⟨8,1,a,b,false,⟨#[]⟩,⟨#[]⟩,⟨#[]⟩,false,rf0,rf0⟩
abbrev knF:List Nd:=[e2j ⟨#[]⟩ 1,e2j ⟨#[]⟩ 5,e0j 0 1,e2j knX 5,e0j 2 3]
abbrev knG:List Nd:=[e2j ⟨#[]⟩ 1,e2j ⟨#[]⟩ 6,e0j 0 1,e2j knX 5,e0j 2 3]
abbrev knH:List Nd:=[e2j ⟨#[]⟩ 1,e2j ⟨#[]⟩ 5,e0j 0 1,d7c,e0j 2 3]
theorem f1u:f2f d9p knT.data.toList 60=some (knF,[],0,0):=by kernel_rfl
def noG (_:Nd):Rf × Rf × Bool:=(rf0,rf0,false)
theorem f1v:chQ 1 3 1 (chF e2i e2i (f1o 1 3 1)) noG knF []=(knG,[],0):=by kernel_rfl
theorem f1w:chQ 1 5 1 (chF e2i knX (f1p 1 5 1)) noG knF []=(knH,[],0):=by kernel_rfl
theorem f0j:(a0w knF []&&e0q e2i knX knF)=true:=by kernel_rfl
theorem f4d:a0w knG []=true:=by kernel_rfl
theorem f4e:a0w knH []=true:=by kernel_rfl
theorem d9h {N:List Nd} {A:List Int} {u v:Value} {i:Nat} {n:Nd} {z:jW} (hi:N[i]?=some n) (hl:A.length<=1000) (hl2:N.length<=1000) (hk:d6t A (shN n)=[]) (h9:a1h A (shN n)=true) (hok:f3v n) (hz:z=lfX n):TxP N A u v i z:=fun w hN hA =>
 e4l u v N A i n [] z w hN hA hi hl hl2 h9 (by rw[hk];rfl) (fun j h=>absurd h (Nat.not_lt_zero j)) (fun j h=>absurd h (Nat.not_lt_zero j)) (Or.inl ⟨hok,hz⟩)
theorem e1m {N:List Nd} {A:List Int} {u v:Value} {i a b:Nat} {na nb:Nd} {sa sb z:jW} (hi:N[i]?=some (e0j a b)) (hl:A.length<=1000) (hl2:N.length<=1000) (ha:N[a]?=some na) (hb:N[b]?=some nb) (k0:brk (shN (e0j a b)) (shN na) 0=false) (k1:brk (shN (e0j a b)) (shN nb) 1=false) (hta:TxP N A u v a sa) (htb:TxP N A u v b sb) (z1:sa.size<=1000) (z2:sb.size<=1000) (hz:z=(sa++⟨#[43]⟩)++sb):TxP N A u v i z:=fun w hN hA =>
 e4l u v N A i (e0j a b) [sa,sb] z w hN hA hi hl hl2 (by rfl) (by rfl)
  (fun j h=>by match j,h with | 0,_=>exact z1 | 1,_=>exact z2)
  (fun j h=>by match j,h with | 0,_=>exact⟨a,na,rfl,ha,k0,hta⟩ | 1,_=>exact⟨b,nb,rfl,hb,k1,htb⟩)
  (Or.inr ⟨rfl,rfl,0,by decide,rfl,hz⟩)
theorem e8u (u v:Value):TxP knG [] u v 4 knI :=
 e1m (a:=2) (b:=3) (sa:=⟨#[65,49,43,65,54]⟩) (sb:=⟨#[120,33,65,53]⟩) rfl (by decide) (by decide) rfl rfl (by kernel_rfl) (by kernel_rfl)
  (e1m (a:=0) (b:=1) (sa:=⟨#[65,49]⟩) (sb:=⟨#[65,54]⟩) rfl (by decide) (by decide) rfl rfl (by kernel_rfl) (by kernel_rfl)
   (d9h rfl (by decide) (by decide) (by kernel_rfl) (by kernel_rfl) (Or.inr ⟨rfl,by kernel_rfl,by decide⟩) (by decide +kernel))
   (d9h rfl (by decide) (by decide) (by kernel_rfl) (by kernel_rfl) (Or.inr ⟨rfl,by kernel_rfl,by decide⟩) (by decide +kernel))
   (by decide) (by decide) (by decide +kernel))
  (d9h rfl (by decide) (by decide) (by kernel_rfl) (by kernel_rfl) (Or.inr ⟨rfl,by kernel_rfl,by decide⟩) (by decide +kernel))
  (by decide) (by decide) (by decide +kernel)
theorem e8v (u v:Value):TxP knH [] u v 4 knD :=
 e1m (a:=2) (b:=3) (sa:=⟨#[65,49,43,65,53]⟩) (sb:=⟨#[35,82,69,70,33]⟩) rfl (by decide) (by decide) rfl rfl (by kernel_rfl) (by kernel_rfl)
  (e1m (a:=0) (b:=1) (sa:=⟨#[65,49]⟩) (sb:=⟨#[65,53]⟩) rfl (by decide) (by decide) rfl rfl (by kernel_rfl) (by kernel_rfl)
   (d9h rfl (by decide) (by decide) (by kernel_rfl) (by kernel_rfl) (Or.inr ⟨rfl,by kernel_rfl,by decide⟩) (by decide +kernel))
   (d9h rfl (by decide) (by decide) (by kernel_rfl) (by kernel_rfl) (Or.inr ⟨rfl,by kernel_rfl,by decide⟩) (by decide +kernel))
   (by decide) (by decide) (by decide +kernel))
  (d9h rfl (by decide) (by decide) (by kernel_rfl) (by kernel_rfl) (Or.inl ⟨rfl,by decide,by decide⟩) (by decide +kernel))
  (by decide) (by decide) (by decide +kernel)
theorem kn_fits:(∀ n ∈ knF,Fits n)/\(∀ n ∈ knG,Fits n)/\(∀ n ∈ knH,Fits n):=by
 unfold Fits;refine⟨?_,?_,?_⟩<;>decide +kernel
theorem f4i:∀ n ∈ knF,n.k=5->d7t n.r=true/\n.r.sh.size<=maxLen:=by decide +kernel
theorem f4n:∀ n ∈ knF,n.k≠6:=by decide +kernel
theorem f4l (q:Rf) (way a n:Int) (w:World) (hs:q.sh.size<=maxLen) (hm:d8b way a n=true) (hr:d7t q=true) :
  Calls Tryz.prog 38 #[.agg #[Sg q.sh,I6 q.c,I6 q.r,Bv q.fc,Bv q.fr],I6 way,I6 a,I6 n] w fun e w'=>e=.returned (.tuple #[.agg #[Sg ((f1o way a n q).1).sh,I6 ((f1o way a n q).1).c,I6 ((f1o way a n q).1).r,Bv ((f1o way a n q).1).fc,Bv ((f1o way a n q).1).fr],Bv (f1o way a n q).2])/\Bl w w':=by
 refine e5f q way a n _ _ w fun w=>?_
 obtain⟨k0,k1,k2,k3,k4,k5,k6⟩:=d9t hm;obtain⟨p1,p2⟩:=e4z hr k0;refine e0r _ f4c q way a n (shP (plZ q way) a n) _ _ w hs hm hr (fun g p w=>d9v _ a n g p _ w (by omega) (by omega) (by omega) (by omega)) ?_;have hge:1<=shP (plZ q way) a n:=by unfold shP;split<;>omega
 by_cases h:shP (plZ q way) a n<=d7d way
 ·
  right;have hb:e2b q way a n=true:=(d8z hm hr).trans (jD h);exact⟨hge,h,(e1i hb).symm,hb⟩
 ·
  left;have hb:e2b q way a n=false:=(d8z hm hr).trans (jE h);exact⟨Or.inr (by omega),e3d hb,hb⟩
theorem f4m (q:Rf) (way a n:Int) (w:World) (hs:q.sh.size<=maxLen) (hm:d8b way a n=true) (hr:d7t q=true) :
  Calls Tryz.prog 45 #[.agg #[Sg q.sh,I6 q.c,I6 q.r,Bv q.fc,Bv q.fr],I6 way,I6 a,I6 n] w fun e w'=>e=.returned (.tuple #[.agg #[Sg ((f1p way a n q).1).sh,I6 ((f1p way a n q).1).c,I6 ((f1p way a n q).1).r,Bv ((f1p way a n q).1).fc,Bv ((f1p way a n q).1).fr],Bv (f1p way a n q).2])/\Bl w w':=by
 refine e3f q way a n _ _ w fun w=>?_
 obtain⟨k0,k1,k2,k3,k4,k5,k6⟩:=d9t hm;obtain⟨p1,p2⟩:=e4z hr k0;refine e0r _ f3q q way a n (tkP (plZ q way) a n) _ _ w hs hm hr (fun g p w=>d8c _ a n g p _ w (by omega) (by omega) (by omega) (by omega) (by omega) (by omega)) ?_;by_cases h2:a<=plZ q way/\plZ q way<a+n
 ·
  left;have hb:d9n q way a n=false:=(d9o hm hr).trans (by rw[jD h2.1,jD h2.2];rfl);have h3:tkP (plZ q way) a n=0:=by unfold tkP;rw[if_neg (by omega),if_pos h2.1]
  exact⟨Or.inl (by omega),e3e hb,hb⟩
 ·
  right
  have hb:d9n q way a n=true:=(d9o hm hr).trans (by
   by_cases h4:a<=plZ q way
   ·
    rw[jD h4,jE (fun h5=>h2 ⟨h4,h5⟩)];rfl
   ·
    rw[jE h4];rfl)
  have h3:tkP (plZ q way) a n=dlP (plZ q way) a n:=by
   unfold tkP dlP
   split
   ·
    rfl
   ·
    rw[if_neg (by omega)]
  have h4:1<=dlP (plZ q way) a n/\dlP (plZ q way) a n<=d7d way:=by unfold dlP;split<;>omega
  rw[h3];exact⟨h4.1,h4.2,(d8w hb).symm,hb⟩
theorem f4o (u v:Value) (w:World) (hN:NodesAt w u knF) (hA:IntsAt w v []) (hnm:NamesAt w):Calls Tryz.prog 13 #[.agg #[u,v],Sg e2i,Sg e2i,I6 1,I6 3,I6 1] w (GotOwn knG [] 0 w):=by
 have h:=f4j e2i e2i 1 3 1 u v knF [] w _ hN hA hnm fun w h1 h2 h3=>e2z e2i e2i 1 3 1 38 39 (chF e2i e2i (f1o 1 3 1)) noG u v knF [] w h1 h2 kn_fits.1 h3 (by decide) (by decide)
  (fun _ _ m hm h5 w=>e6l e2i e2i 1 3 1 38 39 e9x m.r (chF e2i e2i (f1o 1 3 1) m) w (fun h=>if_neg (by rw[h];simp)) (fun h w=>by rw[show chF e2i e2i (f1o 1 3 1) m=f1o 1 3 1 m.r from if_pos h];exact f4l m.r 1 3 1 w (f4i m hm h5).2 (by decide +kernel) (f4i m hm h5).1))
  (fun _ _ m hm h6=>absurd h6 (f4n m hm))
 rw[f1v] at h;exact h
theorem f4p (u v:Value) (w:World) (hN:NodesAt w u knF) (hA:IntsAt w v []) (hnm:NamesAt w):Calls Tryz.prog 15 #[.agg #[u,v],Sg e2i,Sg knX,I6 1,I6 5,I6 1] w (GotOwn knH [] 0 w):=by
 have h:=f4k e2i knX 1 5 1 u v knF [] w _ hN hA hnm fun w h1 h2 h3=>e2z e2i knX 1 5 1 45 46 (chF e2i knX (f1p 1 5 1)) noG u v knF [] w h1 h2 kn_fits.1 h3 (by decide) (by decide)
  (fun _ _ m hm h5 w=>e6l e2i knX 1 5 1 45 46 e9y m.r (chF e2i knX (f1p 1 5 1) m) w (fun h=>if_neg (by rw[h];simp)) (fun h w=>by rw[show chF e2i knX (f1p 1 5 1) m=f1p 1 5 1 m.r from if_pos h];exact f4m m.r 1 5 1 w (f4i m hm h5).2 (by decide +kernel) (f4i m hm h5).1))
  (fun _ _ m hm h6=>absurd h6 (f4n m hm))
 rw[f1w] at h;exact h
set_option maxHeartbeats 16000000
set_option maxRecDepth 100000
theorem e3m (w:World) (hnm:NamesAt w):Calls Tryz.prog 9 #[] w fun e w'=>e=.returned (Bv true)/\Bl w w':=by
 have hud:=hUd;have HNM:=zh hnm;have HF:=zh (fun w=>d8a knT w 60 knF [] 0 0 (by decide) f1u);have hu:=fun u v w h1 h2 h3=>e9v u v knF [] e2i knX w h1 h2 kn_fits.1 h3 (by decide) (by decide)
 rw[f0j] at hu;have HI:=zh f4o;have HD:=zh f4p;have HU:=zh hu;have HG:=zh (fun u v w h1 h2=>d9j u v knG [] 4 knI w h1 h2 kn_fits.2.1 (by decide) (by decide) f4d rfl (e8u u v) (by decide));have HH:=zh (fun u v w h1 h2=>d9j u v knH [] 4 knD w h1 h2 kn_fits.2.2 (by decide) (by decide) f4e rfl (e8v u v) (by decide));clear hu hnm;generalize knF=NF at *;generalize knG=NG at *;generalize knH=NH at *;go_enter Tryz.func9,Tryz.ntmps9;go_wp2_with fail;refine(HF.out w).mono ?_;rintro e w1 ⟨⟨us,vs,rfl,hn,ha⟩,hBo⟩;obtain⟨b1,c1,rfl,_⟩:=hn.slice;obtain⟨b2,c2,rfl,_⟩:=ha.slice;obtain⟨n1,hn1⟩:=nM NF.length;obtain⟨a1,ha1⟩:=nM (([]:List Int).length);rw[<-hn1] at hn |-
 rw[<-ha1] at ha |-
 have N1:=zh hn;have A1:=zh ha;clear hn ha hn1 ha1;go_wp2_with fail;obtain⟨s1,F,hws,hdF,hsz,zF⟩:=nm1 w1 (.cells #[.slice b1 n1 c1,.slice b2 a1 c2] 25);have hUp:=up1 hws;have hAF:w1.heap.size<=F:=by omega
 have hN:=bx0 (b:=F) hws hdF;have kF0:=hN 0 _ rfl;have kF1:=hN 1 _ rfl;clear hN;replace hBo:=bs1 hBo hws;rw[<-hws];try rw[<-hdF]
 clear hws hsz hdF;replace N1:=zh (N1.out.below hUp);replace A1:=zh (A1.out.below hUp);clear hUp;refine(HI.out _ _ _ N1.out A1.out (HNM.out.below hBo)).mono ?_;rintro e w2 hq;obtain⟨⟨u2,v2,rfl,hn,ha⟩,hb⟩:=hq.got;obtain⟨b1,c1,rfl,_⟩:=hn.slice;obtain⟨b2,c2,rfl,_⟩:=ha.slice;obtain⟨n2,hn1⟩:=nM NG.length;obtain⟨a2,ha1⟩:=nM (([]:List Int).length);dsimp only at hn ha |-
 rw[<-hn1] at hn |-
 rw[<-ha1] at ha |-
 have N2:=zh hn;have A2:=zh ha;clear hn ha hn1 ha1 hq;replace N1:=zh (N1.out.below hb);replace A1:=zh (A1.out.below hb);replace kF0:=a0f hb kF0 zF;replace kF1:=a0f hb kF1 zF;replace zF:=zHl hb zF;replace hBo:=f4s hBo hb;clear hb;go_wp2_with fail;obtain⟨s2,G,hws,hdG,hsz,zG⟩:=nm1 w2 (.cells #[.slice b1 n2 c1,.slice b2 a2 c2] 25);have hUp:=up1 hws;have hAG:w2.heap.size<=G:=by omega
 replace kF0:=a0f hUp kF0 zF;replace kF1:=a0f hUp kF1 zF;replace zF:=zHl hUp zF;have hN:=bx0 (b:=G) hws hdG;have kG0:=hN 0 _ rfl;have kG1:=hN 1 _ rfl;clear hN;replace hBo:=bs1 hBo hws;rw[<-hws];try rw[<-hdG]
 clear hws hsz hdG;replace N1:=zh (N1.out.below hUp);replace A1:=zh (A1.out.below hUp);replace N2:=zh (N2.out.below hUp);replace A2:=zh (A2.out.below hUp);clear hUp;refine(HD.out _ _ _ N1.out A1.out (HNM.out.below hBo)).mono ?_;rintro e w3 hq;obtain⟨⟨u3,v3,rfl,hn,ha⟩,hb⟩:=hq.got;obtain⟨d1,e1,rfl,_⟩:=hn.slice;obtain⟨d2,e2,rfl,_⟩:=ha.slice;obtain⟨n3,hn1⟩:=nM NH.length;obtain⟨a3,ha1⟩:=nM (([]:List Int).length);dsimp only at hn ha |-
 rw[<-hn1] at hn |-
 rw[<-ha1] at ha |-
 have N3:=zh hn;have A3:=zh ha;clear hn ha hn1 ha1 hq;replace N1:=zh (N1.out.below hb);replace A1:=zh (A1.out.below hb);replace N2:=zh (N2.out.below hb);replace A2:=zh (A2.out.below hb);replace kF0:=a0f hb kF0 zF;replace kF1:=a0f hb kF1 zF;replace zF:=zHl hb zF;replace kG0:=a0f hb kG0 zG;replace kG1:=a0f hb kG1 zG;replace zG:=zHl hb zG;replace hBo:=f4s hBo hb;clear hb;go_wp2_with fail;obtain⟨s3,H,hws,hdH,hsz,zH⟩:=nm1 w3 (.cells #[.slice d1 n3 e1,.slice d2 a3 e2] 25);have hUp:=up1 hws;have hAH:w3.heap.size<=H:=by omega
 replace kF0:=a0f hUp kF0 zF;replace kF1:=a0f hUp kF1 zF;replace zF:=zHl hUp zF;have hN:=bx0 (b:=H) hws hdH;have kH0:=hN 0 _ rfl;have kH1:=hN 1 _ rfl;clear hN;replace hBo:=bs1 hBo hws;rw[<-hws];try rw[<-hdH]
 clear hws hsz hdH;replace N1:=zh (N1.out.below hUp);replace A1:=zh (A1.out.below hUp);replace N2:=zh (N2.out.below hUp);replace A2:=zh (A2.out.below hUp);replace N3:=zh (N3.out.below hUp);replace A3:=zh (A3.out.below hUp);clear hUp;refine cAn (HG.out _ _ _ N2.out A2.out) fun w4 hb=>?_
 replace N1:=zh (N1.out.below hb);replace A1:=zh (A1.out.below hb);replace N3:=zh (N3.out.below hb);replace A3:=zh (A3.out.below hb);clear N2 A2;replace kF0:=a0f hb kF0 zF;replace kF1:=a0f hb kF1 zF;replace zF:=zHl hb zF;replace kH0:=a0f hb kH0 zH;replace kH1:=a0f hb kH1 zH;replace hBo:=f4s hBo hb;clear hb;go_wp2_with fail;refine cAn (HH.out _ _ _ N3.out A3.out) fun w5 hb=>?_
 replace N1:=zh (N1.out.below hb);replace A1:=zh (A1.out.below hb);clear N3 A3;replace kF0:=a0f hb kF0 zF;replace kF1:=a0f hb kF1 zF;replace hBo:=f4s hBo hb;clear hb;go_wp2_with fail;refine cAn (HU.out _ _ _ N1.out A1.out (HNM.out.below hBo)) fun w6 hb=>?_
 replace hBo:=f4s hBo hb;clear hb;go_wp2_with fail
 go_ret
 exact⟨rfl,hBo⟩
theorem f8x (N:List Nd) (A:List Int):sameB N N A A=true:=by unfold sameB;rw[b3x rfl,jD rfl];rfl
theorem f7q (s:jW) (xd xe:Int) (w:World) (hnm:NamesAt w) (hs0:s.size<=maxLen) (hd1 : -9223372036854775808<=xd) (hd2:xd<=9223372036854775807) (he1 : -9223372036854775808<=xe) (he2:xe<=9223372036854775807) :
  Calls Tryz.prog 3 #[Sg s,I6 xd,I6 xe] w fun e w'=>e=.returned (Bv true)/\Bl w w':=by
 have hud:=hUd;have HNM:=zh hnm;obtain⟨⟨N,A,p,q⟩,hq,l1,l2,hf⟩:=e9j e3r s.data.toList 20000 (jC _);dsimp only at l1 l2 hf;have HF:=zh (fun w=>d8a s w 20000 N A p q hs0 hq);have HK:=zh e3m;by_cases hc:q=0
 case neg =>
  have g0:(q != 0)=true:=by simpa using hc
  have hp:=fun w h1 h2 h3=>f7o (.slice none 0 0) (.slice none 0 0) [] [] xd xe w h1 h2 (fun n hn=>by cases hn) h3 (by simp) (by simp) hd1 hd2 he1 he2
  rw[show f7z [] [] xd xe=([],[],3) from if_pos (by kernel_rfl)] at hp;have HP:=zh hp;clear hp hq hf hc l1 l2 hnm hs0 hd1 hd2 he1 he2;go_enter Tryz.func3,Tryz.ntmps3;go_wp2_with fail;refine(HF.out w).mono ?_;rintro e w1 ⟨⟨us,vs,rfl,hn,ha⟩,hBo⟩;obtain⟨b1,c1,rfl,_⟩:=hn.slice;obtain⟨d0,d1,rfl,_⟩:=ha.slice;obtain⟨n1,hn1⟩:=nM N.length;obtain⟨a1,ha1⟩:=nM A.length;rw[<-hn1,<-ha1];clear hn ha hn1 ha1
  go_upto_region 2 with fail
  obtain⟨s1,F,hws,hdF,hsz,zF⟩:=nm1 w1 (.cells #[.slice b1 n1 c1,.slice d0 a1 d1] 25);have hUp:=up1 hws;have hAF:w1.heap.size<=F:=by omega
  have hN:=bx0 (b:=F) hws hdF;have kF0:=hN 0 _ rfl;have kF1:=hN 1 _ rfl;clear hN;replace hBo:=bs1 hBo hws;rw[<-hws];try rw[<-hdF]
  clear hws hsz hdF;clear hUp;go_wp2_with fail;have N1:Hid (NodesAt s1 (.slice none 0 0) []):=zh (Or.inl ⟨rfl,rfl⟩);have A1:Hid (IntsAt s1 (.slice none 0 0) []):=zh (Or.inl ⟨rfl,rfl⟩);refine(HP.out _ N1.out A1.out (HNM.out.below hBo)).mono ?_;rintro e w2 hq;obtain⟨⟨u2,v2,rfl,hn,ha⟩,hb⟩:=hq.got;obtain⟨b2,e2,rfl,_⟩:=hn.slice;obtain⟨d2,f2,rfl,_⟩:=ha.slice;clear hn ha hq N1 A1;replace kF0:=a0f hb kF0 zF;replace kF1:=a0f hb kF1 zF;replace zF:=zHl hb zF;replace hBo:=f4s hBo hb;clear hb
  go_upto_region 4 with fail
  obtain⟨s2,G,hws,hdG,hsz,zG⟩:=nm1 w2 (.cells #[.slice b2 0 e2,.slice d2 0 f2] 25);have hUp:=up1 hws;have hAG:w2.heap.size<=G:=by omega
  replace kF0:=a0f hUp kF0 zF;replace kF1:=a0f hUp kF1 zF;replace zF:=zHl hUp zF;have hN:=bx0 (b:=G) hws hdG;have kG0:=hN 0 _ rfl;have kG1:=hN 1 _ rfl;clear hN;replace hBo:=bs1 hBo hws;rw[<-hws];try rw[<-hdG]
  clear hws hsz hdG;clear hUp;go_wp2_with fail;refine cAn (HK.out _ (HNM.out.below hBo)) fun w5 hb=>?_
  replace kF0:=a0f hb kF0 zF;replace kF1:=a0f hb kF1 zF;replace zF:=zHl hb zF;replace kG0:=a0f hb kG0 zG;replace kG1:=a0f hb kG1 zG;replace zG:=zHl hb zG;replace hBo:=f4s hBo hb;clear hb;go_wp2_with fail
  go_ret
  exact⟨rfl,hBo⟩
 subst hc;have hR:=f8r e3r f8t hq;have hRM:=f8v xd xe hR;have hfM:∀ m ∈ N.map (e2a (f7j xd xe) (f7k xd xe)),Fits m:=fun m hm=>by obtain⟨n,hn,rfl⟩:=List.mem_map.1 hm;exact f9b xd xe (hf n hn)
 have hlM:(N.map (e2a (f7j xd xe) (f7k xd xe))).length<=1000:=by rw[List.length_map];omega
 have hp:=fun u v w h1 h2 h3=>f7o u v N A xd xe w h1 h2 hf h3 (by omega) (by omega) hd1 hd2 he1 he2
 have hd:=fun u v w h1 h2=>f7x u v N A xd xe w h1 h2 hf (by omega) (by omega) hd1 hd2 he1 he2
 have hz:=fun u v w h1 h2 h3=>f7o u v N A 0 0 w h1 h2 hf h3 (by omega) (by omega) (by decide) (by decide) (by decide) (by decide)
 rw[f9a _ _ hR] at hp hd hz;rw[f8z hR] at hz;dsimp only at hp hd hz;have hr:=fun u v w h1 h2=>a3t u v (N.map (e2a (f7j xd xe) (f7k xd xe))) A w h1 h2 hfM (by omega) hlM
 rw[hRM] at hr;generalize N.map (e2a (f7j xd xe) (f7k xd xe))=M at *;have hs1:=fun u v u2 v2 w h1 h2 h3 h4=>b4c u v u2 v2 M M A A w h1 h2 h3 h4 hlM (by omega) hlM (by omega)
 have hs2:=fun u v u2 v2 w h1 h2 h3 h4=>b4c u v u2 v2 N N A A w h1 h2 h3 h4 (by omega) (by omega) (by omega) (by omega)
 rw[f8x] at hs1 hs2;have HP:=zh hp;have HD:=zh hd;have HZ:=zh hz;have HR:=zh hr;have HS1:=zh hs1;have HS2:=zh hs2;clear hp hd hz hr hs1 hs2 hR hRM hfM hlM hq hf l1 l2 hnm hs0 hd1 hd2 he1 he2;go_enter Tryz.func3,Tryz.ntmps3;go_wp2_with fail;refine(HF.out w).mono ?_;rintro e w1 ⟨⟨us,vs,rfl,hn,ha⟩,hBo⟩;obtain⟨b1,c1,rfl,_⟩:=hn.slice;obtain⟨d0,d1,rfl,_⟩:=ha.slice;obtain⟨n1,hn1⟩:=nM N.length;obtain⟨a1,ha1⟩:=nM A.length;rw[<-hn1] at hn |-
 rw[<-ha1] at ha |-
 have N1:=zh hn;have A1:=zh ha;have HN1:=zh hn1;have HA1:=zh ha1;clear hn ha hn1 ha1
 go_upto_region 2 with fail
 obtain⟨s3,F,hws,hdF,hsz,zF⟩:=nm1 w1 (.cells #[.slice b1 n1 c1,.slice d0 a1 d1] 25);have hUp:=up1 hws;have hAF:w1.heap.size<=F:=by omega
 have hN:=bx0 (b:=F) hws hdF;have kF0:=hN 0 _ rfl;have kF1:=hN 1 _ rfl;clear hN;replace hBo:=bs1 hBo hws;rw[<-hws];try rw[<-hdF]
 clear hws hsz hdF;replace N1:=zh (N1.out.below hUp);replace A1:=zh (A1.out.below hUp);clear hUp;go_wp2_with fail;refine(HP.out _ _ _ N1.out A1.out (HNM.out.below hBo)).mono ?_;rintro e w2 hq;obtain⟨⟨u2,v2,rfl,hn,ha⟩,hb⟩:=hq.got;obtain⟨b2,e2,rfl,_⟩:=hn.slice;obtain⟨d2,f2,rfl,_⟩:=ha.slice;obtain⟨n2,hn2⟩:=nM M.length;rw[<-hn2] at hn |-
 rw[<-HA1.out] at ha |-
 have N2:=zh hn;have A2:=zh ha;have HN2:=zh hn2;clear hn ha hq hn2;replace N1:=zh (N1.out.below hb);replace A1:=zh (A1.out.below hb);replace kF0:=a0f hb kF0 zF;replace kF1:=a0f hb kF1 zF;replace zF:=zHl hb zF;replace hBo:=f4s hBo hb;clear hb
 go_upto_region 6 with fail
 obtain⟨s4,G,hws,hdG,hsz,zG⟩:=nm1 w2 (.cells #[.slice b2 n2 e2,.slice d2 a1 f2] 25);have hUp:=up1 hws;have hAG:w2.heap.size<=G:=by omega
 replace kF0:=a0f hUp kF0 zF;replace kF1:=a0f hUp kF1 zF;replace zF:=zHl hUp zF;have hN:=bx0 (b:=G) hws hdG;have kG0:=hN 0 _ rfl;have kG1:=hN 1 _ rfl;clear hN;replace hBo:=bs1 hBo hws;rw[<-hws];try rw[<-hdG]
 clear hws hsz hdG;replace N1:=zh (N1.out.below hUp);replace A1:=zh (A1.out.below hUp);replace N2:=zh (N2.out.below hUp);replace A2:=zh (A2.out.below hUp);clear hUp;go_wp2_with fail;refine(HD.out _ _ _ N1.out A1.out).mono ?_;rintro e w3 ⟨⟨u3,v3,rfl,hn,ha⟩,hb⟩;obtain⟨b3,e3,rfl,_⟩:=hn.slice;obtain⟨d3,f3,rfl,_⟩:=ha.slice;rw[<-HN2.out] at hn |-
 rw[<-HA1.out] at ha |-
 have N3:=zh hn;have A3:=zh ha;clear hn ha;replace N1:=zh (N1.out.below hb);replace A1:=zh (A1.out.below hb);replace N2:=zh (N2.out.below hb);replace A2:=zh (A2.out.below hb);replace kF0:=a0f hb kF0 zF;replace kF1:=a0f hb kF1 zF;replace zF:=zHl hb zF;replace kG0:=a0f hb kG0 zG;replace kG1:=a0f hb kG1 zG;replace zG:=zHl hb zG;replace hBo:=f4s hBo hb;clear hb
 go_upto_region 7 with fail
 obtain⟨s5,H,hws,hdH,hsz,zH⟩:=nm1 w3 (.cells #[.slice b3 n2 e3,.slice d3 a1 f3] 25);have hUp:=up1 hws;have hAH:w3.heap.size<=H:=by omega
 replace kF0:=a0f hUp kF0 zF;replace kF1:=a0f hUp kF1 zF;replace zF:=zHl hUp zF;replace kG0:=a0f hUp kG0 zG;replace kG1:=a0f hUp kG1 zG;replace zG:=zHl hUp zG;have hN:=bx0 (b:=H) hws hdH;have kH0:=hN 0 _ rfl;have kH1:=hN 1 _ rfl;clear hN;replace hBo:=bs1 hBo hws;rw[<-hws];try rw[<-hdH]
 clear hws hsz hdH;replace N1:=zh (N1.out.below hUp);replace A1:=zh (A1.out.below hUp);replace N2:=zh (N2.out.below hUp);replace A2:=zh (A2.out.below hUp);replace N3:=zh (N3.out.below hUp);replace A3:=zh (A3.out.below hUp);clear hUp;go_wp2_with fail;refine(HZ.out _ _ _ N1.out A1.out (HNM.out.below hBo)).mono ?_;rintro e w4 hq;obtain⟨⟨u4,v4,rfl,hn,ha⟩,hb⟩:=hq.got;obtain⟨b4,e4,rfl,_⟩:=hn.slice;obtain⟨d4,f4,rfl,_⟩:=ha.slice;rw[<-HN1.out] at hn |-
 rw[<-HA1.out] at ha |-
 have N4:=zh hn;have A4:=zh ha;clear hn ha hq;replace N1:=zh (N1.out.below hb);replace A1:=zh (A1.out.below hb);replace N2:=zh (N2.out.below hb);replace A2:=zh (A2.out.below hb);replace N3:=zh (N3.out.below hb);replace A3:=zh (A3.out.below hb);replace kF0:=a0f hb kF0 zF;replace kF1:=a0f hb kF1 zF;replace zF:=zHl hb zF;replace kG0:=a0f hb kG0 zG;replace kG1:=a0f hb kG1 zG;replace zG:=zHl hb zG;replace kH0:=a0f hb kH0 zH;replace kH1:=a0f hb kH1 zH;replace zH:=zHl hb zH;replace hBo:=f4s hBo hb;clear hb
 go_upto_region 8 with fail
 obtain⟨s6,X,hws,hdX,hsz,zX⟩:=nm1 w4 (.cells #[.slice b4 n1 e4,.slice d4 a1 f4] 25);have hUp:=up1 hws;have hAX:w4.heap.size<=X:=by omega
 replace kF0:=a0f hUp kF0 zF;replace kF1:=a0f hUp kF1 zF;replace zF:=zHl hUp zF;replace kG0:=a0f hUp kG0 zG;replace kG1:=a0f hUp kG1 zG;replace zG:=zHl hUp zG;replace kH0:=a0f hUp kH0 zH;replace kH1:=a0f hUp kH1 zH;replace zH:=zHl hUp zH;have hN:=bx0 (b:=X) hws hdX;have kX0:=hN 0 _ rfl;have kX1:=hN 1 _ rfl;clear hN;replace hBo:=bs1 hBo hws;rw[<-hws];try rw[<-hdX]
 clear hws hsz hdX;replace N1:=zh (N1.out.below hUp);replace A1:=zh (A1.out.below hUp);replace N2:=zh (N2.out.below hUp);replace A2:=zh (A2.out.below hUp);replace N3:=zh (N3.out.below hUp);replace A3:=zh (A3.out.below hUp);replace N4:=zh (N4.out.below hUp);replace A4:=zh (A4.out.below hUp);clear hUp;go_wp2_with fail;refine cAn (HS1.out _ _ _ _ _ N2.out A2.out N3.out A3.out) fun w6 hb=>?_
 replace N1:=zh (N1.out.below hb);replace A1:=zh (A1.out.below hb);replace N2:=zh (N2.out.below hb);replace A2:=zh (A2.out.below hb);replace N4:=zh (N4.out.below hb);replace A4:=zh (A4.out.below hb);clear N3 A3;replace kF0:=a0f hb kF0 zF;replace kF1:=a0f hb kF1 zF;replace zF:=zHl hb zF;replace kG0:=a0f hb kG0 zG;replace kG1:=a0f hb kG1 zG;replace zG:=zHl hb zG;replace kH0:=a0f hb kH0 zH;replace kH1:=a0f hb kH1 zH;replace zH:=zHl hb zH;replace kX0:=a0f hb kX0 zX;replace kX1:=a0f hb kX1 zX;replace zX:=zHl hb zX;replace hBo:=f4s hBo hb;clear hb;go_wp2_with fail;refine cAn (HR.out _ _ _ N2.out A2.out) fun w7 hb=>?_
 replace N1:=zh (N1.out.below hb);replace A1:=zh (A1.out.below hb);replace N4:=zh (N4.out.below hb);replace A4:=zh (A4.out.below hb);clear N2 A2;replace kF0:=a0f hb kF0 zF;replace kF1:=a0f hb kF1 zF;replace zF:=zHl hb zF;replace kG0:=a0f hb kG0 zG;replace kG1:=a0f hb kG1 zG;replace zG:=zHl hb zG;replace kH0:=a0f hb kH0 zH;replace kH1:=a0f hb kH1 zH;replace zH:=zHl hb zH;replace kX0:=a0f hb kX0 zX;replace kX1:=a0f hb kX1 zX;replace zX:=zHl hb zX;replace hBo:=f4s hBo hb;clear hb;go_wp2_with fail;refine cAn (HS2.out _ _ _ _ _ N4.out A4.out N1.out A1.out) fun w8 hb=>?_
 clear N1 A1 N4 A4;replace kF0:=a0f hb kF0 zF;replace kF1:=a0f hb kF1 zF;replace zF:=zHl hb zF;replace kG0:=a0f hb kG0 zG;replace kG1:=a0f hb kG1 zG;replace zG:=zHl hb zG;replace kH0:=a0f hb kH0 zH;replace kH1:=a0f hb kH1 zH;replace zH:=zHl hb zH;replace kX0:=a0f hb kX0 zX;replace kX1:=a0f hb kX1 zX;replace zX:=zHl hb zX;replace hBo:=f4s hBo hb;clear hb;go_wp2_with fail;refine cAn (HK.out _ (HNM.out.below hBo)) fun w5 hb=>?_
 replace kF0:=a0f hb kF0 zF;replace kF1:=a0f hb kF1 zF;replace zF:=zHl hb zF;replace kG0:=a0f hb kG0 zG;replace kG1:=a0f hb kG1 zG;replace zG:=zHl hb zG;replace kH0:=a0f hb kH0 zH;replace kH1:=a0f hb kH1 zH;replace zH:=zHl hb zH;replace kX0:=a0f hb kX0 zX;replace kX1:=a0f hb kX1 zX;replace zX:=zHl hb zX;replace hBo:=f4s hBo hb;clear hb;go_wp2_with fail
 go_ret
 exact⟨rfl,hBo⟩
open Go.ChangeShapes Go.WideShapes Go.ChangeAt Go.ChangeMaps Go.Joins Go.Deep
theorem c2p {W : World} {d : List (DataW Unit)} (hd : d = (List.range 8).map fun i => .lit (.string (c2o i).data.toList)) (h : Lib.VarReads Tryz.prog W "abacist/value.names" (.agg d)) : NamesAt W := by
 obtain⟨g,t,cs,fuel,p,hg,ht,hv,htr⟩:=h
 obtain rfl : 4 = g := jA ((show Tryz.prog.globalNamed "abacist/value.names" = some 4 by kernel_rfl).symm.trans hg)
 obtain rfl : 246=t:=jA ((show (Tryz.prog.globals[4]?).map (·.type)=some 246 by kernel_rfl).symm.trans ht);have k1 : Tryz.prog.cellsOf 9=1:=by kernel_rfl
 have hgn : Tryz.prog.globalNamed "abacist/value.names" = some 4 := by kernel_rfl
 simp only[World.var?,hgn,Option.bind_some] at hv
 cases hh:W.heap[4]? with
 | none=>rw[hh] at hv;cases hv
 | some o =>
  rw[hh] at hv;have hlt : 4 < W.heap.size:=(Array.getElem?_eq_some_iff.1 hh).1
  cases o with
  | cells row ty fr =>
   obtain rfl:row=cs:=by simpa using hv
   refine⟨hlt,fun j hj=>?_⟩
   obtain⟨fuel',dj,q,hdj,htj⟩:=Lib.array_elem Tryz.underlying246 htr j hj;rw[k1,Nat.mul_one] at htj;obtain⟨s,hs,hx,_⟩:=DataW.trod_string Tryz.underlying9 htj;rw[hd,List.getElem?_map,List.getElem?_range hj] at hdj;have hdd:(DataW.lit (.string (c2o j).data.toList):DataW Unit)=dj:=by simpa using hdj
   have hsb:s.data.toList=(c2o j).data.toList:=by
    rw[<-hdd] at hx;simp at hx;rw[<-hx.1]
   have hse:s=c2o j:=by
    cases s with
    | mk sd =>
     cases hf:c2o j with
     | mk fd =>
      rw[hf] at hsb
      congr 1
      exact Array.toList_inj.1 hsb
   rw[cell_of_row W 4 j row ty fr hh]
   have h4:row.toList[j]?=some (Sg s):=by
    have:=congrArg (·[0]?) hs;simpa [List.getElem?_take,List.getElem?_drop] using this
   rw[<-hse];simpa using h4
  | _=>simp at hv
end Go.Proofs.YtibiacmbljgmhaaGreatDoor
