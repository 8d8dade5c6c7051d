/-
  
  
  
  
  
  
  
-/
import Derived.Test.YtibiacmbljgmhaaGreatDoorRewa
import Derived.Test.YtibiacmbljgmhaaGreatDoorCel8
namespace Go.Proofs.YtibiacmbljgmhaaGreatDoor
open Go.RowKit Go.Shelf
set_option linter.all false
theorem e4v {n:Nd} (h:a1x n=true):n=a0s n/\a4i n=true:=by
 unfold a1x at h;rw[Bool.and_eq_true] at h;exact⟨(a2o _ _).1 h.2,h.1⟩
theorem f4a {n:Nd} (h:a1x n=true) (hk:n.k=5):n=⟨5,0,0,0,false,⟨#[]⟩,⟨#[]⟩,⟨#[]⟩,false,n.r,rf0⟩/\a8g n.r.sh n.r.c n.r.r=true:=by
 obtain⟨hb,hu⟩:=e4v h;unfold a0s at hb;unfold a4i at hu;rw[hk] at hb hu;exact⟨hb,hu⟩
theorem f4b {n:Nd} (h:a1x n=true) (hk:n.k=6):n=⟨6,0,0,0,false,⟨#[]⟩,⟨#[]⟩,⟨#[]⟩,false,n.r,n.t⟩/\a8z n.r.c n.r.r n.t.c n.t.r=0/\n.r.c<=n.t.c/\n.r.r<=n.t.r/\n.t.sh=⟨#[]⟩:=by
 obtain⟨hb,hu⟩:=e4v h;unfold a0s at hb;unfold a4i at hu;rw[hk] at hb hu;have hu:arB n.r n.t=true:=hu;unfold arB at hu;simp only[Bool.and_eq_true,decide_eq_true_eq] at hu;obtain⟨⟨⟨h1,_⟩,_⟩,h4⟩:=hu;obtain⟨e1,e2,e3⟩:=(a7h _ _ _ _).1 h1;exact⟨hb,e1,e2,e3,by have:=ByteArray.size_eq_zero_iff.1 h4;exact this⟩
theorem f6e {n:Nd} (h:a1x n=true) (hk:n.k=6):a8g n.r.sh n.r.c n.r.r=true/\a8g n.t.sh n.t.c n.t.r=true:=by
 obtain⟨hb,hu⟩:=e4v h;unfold a4i at hu;rw[hk] at hu;have hu:arB n.r n.t=true:=hu;unfold arB at hu;simp only[Bool.and_eq_true] at hu;exact⟨hu.1.1.2,hu.1.2⟩
theorem f4y {N:List Nd} {A:List Int} (h:a0w N A=true) {m:Nd} (hm:m ∈ N):a1x m=true:=by
 obtain⟨k,hk⟩:=List.getElem?_of_mem hm;exact b9k h hk
theorem e9w {a b:Rf} (h1:a.c<=b.c) (h2:a.r<=b.r):d7o a b=(a,b):=by
 have e:e0m a b=(a,b):=if_neg (by omega);unfold d7o;rw[e];exact if_neg (by dsimp only;omega)
def GotOwn (N:List Nd) (A:List Int) (c:Int) (w:World) (e:Ending) (w':World):Prop:=(∃ us vs,e=.returned (.tuple #[.agg #[us,vs],I6 c])/\w'.ownsRow w.heap.size 69 19 us N.length (nodeL N)/\w'.ownsRow w.heap.size 3 1 vs A.length (intL A))/\Bl w w'
theorem d9r {c:Int} {w w':World} (hb:Bl w w'):GotOwn [] [] c w (.returned (.tuple #[.agg #[.slice none 0 0,.slice none 0 0],I6 c])) w':=⟨⟨_,_,rfl,World.ownsRow_nil _ _ _ _,World.ownsRow_nil _ _ _ _⟩,hb⟩
theorem GotOwn.got {N:List Nd} {A:List Int} {c:Int} {w:World} {e:Ending} {w':World} (h:GotOwn N A c w e w'):d8s N A c w e w':=by
 obtain⟨⟨us,vs,he,h1,h2⟩,hb⟩:=h;exact⟨⟨us,vs,he,(NodesAt.of_owns h1).2,(IntsAt.of_owns h2).2⟩,hb⟩
theorem f3k (x y z:Value) (w:World):(callFunc 28 #[x,y,z]).run Tryz.prog w=.ok (.enter 28 #[x,y,z]) w:=by kernel_rfl
set_option maxHeartbeats 16000000
set_option maxRecDepth 100000
abbrev f1j (own sheet:jW) (way a n:Int) (K1 K2:Nat):Value:=.agg #[Sg own,Sg sheet,I6 way,I6 a,I6 n,.func (.func K1) #[] #[],.func (.func K2) #[] #[]]
theorem e8j (own sheet:jW) (way a n:Int) (K1 K2:Nat) (w:World):Calls Tryz.prog 75 #[f1j own sheet way a n K1 K2] w fun e w'=>e=.returned (Bv (d8b way a n))/\Bl w w':=by
 have hud:=hUd;obtain⟨R,hR⟩:=nM (d8b way a n);rw[<-hR];unfold d8b at hR
 have hL:((way==0)=true/\d7d way=52)\/((way==0)=false/\(way==1)=true/\d7d way=99)\/((way==0)=false/\(way==1)=false/\d7d way=0):=by
  by_cases h:way=0
  ·
   exact Or.inl ⟨by simpa using h,if_pos h⟩
  ·
   by_cases h1:way=1
   ·
    exact Or.inr (Or.inl ⟨by simpa using h,by simpa using h1,(if_neg h).trans (if_pos h1)⟩)
   ·
    exact Or.inr (Or.inr ⟨by simpa using h,by simpa using h1,(if_neg h).trans (if_neg h1)⟩)
 rcases hL with ⟨w0,e⟩ | ⟨w0,w1,e⟩ | ⟨w0,w1,e⟩
 case inl =>
  rw[e] at hR;clear e
  cases h1:decide (1<=a)<;>cases h2:decide (a<=52)<;>cases h3:decide (1<=n)<;>cases h4:decide (n<=52)
  all_goals
   rw[h1,h2,h3,h4] at hR;have HR:=zh hR;clear hR;go_enter Tryz.func75,Tryz.ntmps75
   go_upto_region 1 with fail
   obtain⟨s1,C,hws,hdC,hsz,zC⟩:=nm1 w (.cells #[Sg own,Sg sheet,I6 way,I6 a,I6 n,.func (.func K1) #[] #[],.func (.func K2) #[] #[]] 82);have yC:=by0 (b:=C) hws hdC;have hBo:=bs1 bR hws;rw[<-hws];try rw[<-hdC]
   clear hws hsz hdC;go_wp2_with fail
   go_ret
   exact⟨a0d HR.out.symm,hBo⟩
 case inr.inl =>
  rw[e] at hR;clear e
  cases h1:decide (1<=a)<;>cases h2:decide (a<=99)<;>cases h3:decide (1<=n)<;>cases h4:decide (n<=99)
  all_goals
   rw[h1,h2,h3,h4] at hR;have HR:=zh hR;clear hR;go_enter Tryz.func75,Tryz.ntmps75
   go_upto_region 1 with fail
   obtain⟨s2,C,hws,hdC,hsz,zC⟩:=nm1 w (.cells #[Sg own,Sg sheet,I6 way,I6 a,I6 n,.func (.func K1) #[] #[],.func (.func K2) #[] #[]] 82);have yC:=by0 (b:=C) hws hdC;have hBo:=bs1 bR hws;rw[<-hws];try rw[<-hdC]
   clear hws hsz hdC;go_wp2_with fail
   go_ret
   exact⟨a0d HR.out.symm,hBo⟩
 case inr.inr =>
  rw[e] at hR;clear e
  cases h1:decide (1<=a)<;>cases h2:decide (a<=0)<;>cases h3:decide (1<=n)<;>cases h4:decide (n<=0)
  all_goals
   rw[h1,h2,h3,h4] at hR;have HR:=zh hR;clear hR;go_enter Tryz.func75,Tryz.ntmps75
   go_upto_region 1 with fail
   obtain⟨s3,C,hws,hdC,hsz,zC⟩:=nm1 w (.cells #[Sg own,Sg sheet,I6 way,I6 a,I6 n,.func (.func K1) #[] #[],.func (.func K2) #[] #[]] 82);have yC:=by0 (b:=C) hws hdC;have hBo:=bs1 bR hws;rw[<-hws];try rw[<-hdC]
   clear hws hsz hdC;go_wp2_with fail
   go_ret
   exact⟨a0d HR.out.symm,hBo⟩
theorem e6l (own sheet:jW) (way a n:Int) (K1 K2:Nat) (HCF:∀ (x y z t:Value) (w:World),(callFunc K1 #[x,y,z,t]).run Tryz.prog w=.ok (.enter K1 #[x,y,z,t]) w) (r:Rf) (q:Rf × Bool) (w:World)
  (h0:e6j own sheet r=false->q=(r,true)) (h1:e6j own sheet r=true->∀ w,Calls Tryz.prog K1 #[.agg #[Sg r.sh,I6 r.c,I6 r.r,Bv r.fc,Bv r.fr],I6 way,I6 a,I6 n] w fun e w'=>e=.returned (.tuple #[.agg #[Sg q.1.sh,I6 q.1.c,I6 q.1.r,Bv q.1.fc,Bv q.1.fr],Bv q.2])/\Bl w w') :
  Calls Tryz.prog 76 #[f1j own sheet way a n K1 K2,.agg #[Sg r.sh,I6 r.c,I6 r.r,Bv r.fc,Bv r.fr]] w fun e w'=>e=.returned (.tuple #[.agg #[Sg q.1.sh,I6 q.1.c,I6 q.1.r,Bv q.1.fc,Bv q.1.fr],Bv q.2])/\Bl w w':=by
 have hud:=hUd;have hp:=fun w=>d8h own sheet r w
 obtain⟨⟨csh,cc,cr,cf,cg⟩,p⟩:=q;obtain⟨rs,rc,rr,rf,rg⟩:=r;dsimp only at h0 h1 hp |-
 cases hT:e6j own sheet ⟨rs,rc,rr,rf,rg⟩ with
 | false =>
  rw[hT] at hp;have HP:=zh hp;have h:=h0 hT;simp only[Prod.mk.injEq,Rf.mk.injEq] at h;obtain⟨⟨rfl,rfl,rfl,rfl,rfl⟩,rfl⟩:=h;clear h0 h1 hp hT;go_enter Tryz.func76,Tryz.ntmps76
  go_upto_region 1 with fail
  obtain⟨s4,C,A,R,hws,hdC,hdA,hdR,hsz,zC,zA,zR⟩:=nm3 w (.cells #[Sg own,Sg sheet,I6 way,I6 a,I6 n,.func (.func K1) #[] #[],.func (.func K2) #[] #[]] 82) (.cells #[Sg csh,I6 cc,I6 cr,Bv cf,Bv cg] 67) (.cells #[S0,I6 0,I6 0,Bv false,Bv false] 67);have dRC:R≠C:=by omega
  have dRA:R≠A:=by omega
  have yC:=by2 (b:=C) hws hdC;have yA:=by1 (b:=A) hws (by simp[hdA]);have yR:=by0 (b:=R) hws (by simp[hdR]);have fR:=bf0 (b:=R) hws (by simp[hdR]);have lR:w.heap.size<=R:=by omega
  have hBo:=bs3 bR hws;rw[<-hws];try rw[<-hdR]
  try rw[<-hdA]
  try rw[<-hdC]
  clear hws hsz hdC hdA hdR;go_wp2_with fail;refine cAn (HP.out _) fun w5 hb=>?_
  replace yA:=eqB hb yA zA;replace yR:=eqB hb yR zR;replace fR:=fun j=>a0g hb (fR j) zR
  replace hBo:=f4s hBo hb;clear hb
  all_goals go_wp2_with fail
  all_goals refine jU (v:=.tuple #[.agg #[Sg csh,I6 cc,I6 cr,Bv cf,Bv cg],Bv true]) (by simp[results,Tryz.results76,go_sem,yR]) rfl ⟨rfl,?_⟩
  all_goals exact(sc5 hBo lR)
 | true =>
  rw[hT] at hp;have HP:=zh hp;have HC:=zh (h1 hT);clear h0 h1 hp hT;go_enter Tryz.func76,Tryz.ntmps76
  go_upto_region 1 with fail
  obtain⟨s5,C,A,R,hws,hdC,hdA,hdR,hsz,zC,zA,zR⟩:=nm3 w (.cells #[Sg own,Sg sheet,I6 way,I6 a,I6 n,.func (.func K1) #[] #[],.func (.func K2) #[] #[]] 82) (.cells #[Sg rs,I6 rc,I6 rr,Bv rf,Bv rg] 67) (.cells #[S0,I6 0,I6 0,Bv false,Bv false] 67);have dRC:R≠C:=by omega
  have dRA:R≠A:=by omega
  have yC:=by2 (b:=C) hws hdC;have yA:=by1 (b:=A) hws (by simp[hdA]);have yR:=by0 (b:=R) hws (by simp[hdR]);have fR:=bf0 (b:=R) hws (by simp[hdR]);have lR:w.heap.size<=R:=by omega
  have hBo:=bs3 bR hws;rw[<-hws];try rw[<-hdR]
  try rw[<-hdA]
  try rw[<-hdC]
  clear hws hsz hdC hdA hdR;go_wp2_with fail;refine cAn (HP.out _) fun w5 hb=>?_
  replace yC:=eqB hb yC zC;replace yA:=eqB hb yA zA;replace yR:=eqB hb yR zR;replace fR:=fun j=>a0g hb (fR j) zR;replace zR:=zHl hb zR
  replace hBo:=f4s hBo hb;clear hb;go_wp2_with fail;refine cAn (HC.out _) fun w6 hb=>?_
  replace yR:=eqB hb yR zR;replace fR:=fun j=>a0g hb (fR j) zR
  replace hBo:=f4s hBo hb;clear hb
  all_goals go_wp2_with fail
  all_goals refine jU (v:=.tuple #[.agg #[Sg csh,I6 cc,I6 cr,Bv cf,Bv cg],Bv p]) (by simp[results,Tryz.results76,go_sem,yR,zR]) rfl ⟨rfl,?_⟩
  all_goals exact(sc5 hBo lR)
def f1o (way a n:Int) (r:Rf):Rf × Bool:=(e8m r way a n,e2b r way a n)
def f1p (way a n:Int) (r:Rf):Rf × Bool:=(e8n r way a n,d9n r way a n)
def chF (own sheet:jW) (p:Rf->Rf × Bool) (n:Nd):Rf × Bool:=if e6j own sheet n.r=true then p n.r else (n.r,true)
def chQ (way a n:Int) (fo:Nd->Rf × Bool) (fb:Nd->Rf × Rf × Bool) (N:List Nd) (A:List Int):List Nd × List Int × Int:=if a0w N A=false then ([],[],3) else if d8b way a n=false then ([],[],2) else (N.map (e2a fo fb),A,0)
theorem f3l (x y:Value) (w:World):(callFunc 76 #[x,y]).run Tryz.prog w=.ok (.enter 76 #[x,y]) w:=by kernel_rfl
theorem f3m (x y z:Value) (w:World):(callFunc 77 #[x,y,z]).run Tryz.prog w=.ok (.enter 77 #[x,y,z]) w:=by kernel_rfl
theorem e2z (own sheet:jW) (way a n:Int) (K1 K2:Nat) (fo:Nd->Rf × Bool) (fb:Nd->Rf × Rf × Bool) (u v:Value) (N:List Nd) (A:List Int) (w:World) (hN:NodesAt w u N) (hA:IntsAt w v A) (hf:∀ n ∈ N,Fits n) (hnm:NamesAt w) (hl:A.length<=1000) (hl2:N.length<=1000)
  (h1:a0w N A=true->d8b way a n=true->∀ m ∈ N,m.k=5->∀ w,Calls Tryz.prog 76 #[f1j own sheet way a n K1 K2,.agg #[Sg m.r.sh,I6 m.r.c,I6 m.r.r,Bv m.r.fc,Bv m.r.fr]] w fun e w'=>e=.returned (.tuple #[.agg #[Sg ((fo m).1).sh,I6 ((fo m).1).c,I6 ((fo m).1).r,Bv ((fo m).1).fc,Bv ((fo m).1).fr],Bv (fo m).2])/\Bl w w')
  (h2:a0w N A=true->d8b way a n=true->∀ m ∈ N,m.k=6->∀ w,Calls Tryz.prog 77 #[f1j own sheet way a n K1 K2,.agg #[Sg m.r.sh,I6 m.r.c,I6 m.r.r,Bv m.r.fc,Bv m.r.fr],.agg #[Sg m.t.sh,I6 m.t.c,I6 m.t.r,Bv m.t.fc,Bv m.t.fr]] w fun e w'=>e=.returned (.tuple #[.agg #[Sg ((fb m).1).sh,I6 ((fb m).1).c,I6 ((fb m).1).r,Bv ((fb m).1).fc,Bv ((fb m).1).fr],.agg #[Sg ((fb m).2.1).sh,I6 ((fb m).2.1).c,I6 ((fb m).2.1).r,Bv ((fb m).2.1).fc,Bv ((fb m).2.1).fr],Bv (fb m).2.2])/\Bl w w') :
  Calls Tryz.prog 37 #[.agg #[u,v],f1j own sheet way a n K1 K2] w (GotOwn (chQ way a n fo fb N A).1 (chQ way a n fo fb N A).2.1 (chQ way a n fo fb N A).2.2 w):=by
 have hud:=hUd;have hr:=fun W h1 h2 h3=>a3y u v N A W h1 h2 hf h3 hl hl2
 have hmb:=fun w=>e8j own sheet way a n K1 K2 w
 have hfw:=fun W (hn:0<N.length) hR hM h3 h4=>e1g u v 76 77 (f1j own sheet way a n K1 K2) (f1j own sheet way a n K1 K2) f3l f3m fo fb N A W h3 h4 hl hl2 hn (h1 hR hM) (h2 hR hM)
 have HN:=zh hN;have HA:=zh hA;have HM:=zh hnm;obtain⟨Po,hPo⟩:=nM (GotOwn (chQ way a n fo fb N A).1 (chQ way a n fo fb N A).2.1 (chQ way a n fo fb N A).2.2 w);rw[<-hPo];obtain⟨F1,hF1⟩:=nM (Value.func (.func K1) #[] #[]);obtain⟨F2,hF2⟩:=nM (Value.func (.func K2) #[] #[]);unfold f1j at hmb hfw |-
 rw[<-hF1,<-hF2] at hmb hfw |-
 clear hF1 hF2 h1 h2
 cases hR:a0w N A with
 | false =>
  rw[hR] at hr;have HR:=zh hr;have HPO:Hid (Po=GotOwn [] [] 3 w):=zh (hPo.trans (by unfold chQ;rw[if_pos hR]));clear hr hR hN hA hf hPo hnm hmb hfw;go_enter Tryz.func37,Tryz.ntmps37
  go_upto_region 1 with fail
  obtain⟨s6,F,C,R,hws,hdF,hdC,hdR,hsz,zF,zC,zR⟩:=nm3 w (.cells #[u,v] 25) (.cells #[Sg own,Sg sheet,I6 way,I6 a,I6 n,F1,F2] 82) (.cells #[.slice none 0 0,.slice none 0 0] 25);have hN:=bx2 (b:=F) hws hdF;have kF0:=hN 0 _ rfl;have kF1:=hN 1 _ rfl;clear hN;have hN:=bx0 (b:=R) hws (by simp[hdR]);have hM:=bf0 (b:=R) hws (by simp[hdR]);have kR0:=hN 0 _ rfl;have kR1:=hN 1 _ rfl;have fR0:=hM 0;have fR1:=hM 1;clear hN hM;have lR:w.heap.size<=R:=by omega
  have hBo:=bs3 bR hws;rw[<-hws];try rw[<-hdR]
  try rw[<-hdC]
  try rw[<-hdF]
  clear hws hsz hdF hdC hdR;go_wp2_with fail;refine cAn (HR.out _ (HN.out.below hBo) (HA.out.below hBo) (HM.out.below hBo)) fun w5 hb=>?_
  replace kR0:=a0f hb kR0 zR;replace kR1:=a0f hb kR1 zR;replace fR0:=a0g hb fR0 zR;replace fR1:=a0g hb fR1 zR;replace hBo:=f4s hBo hb;clear hb;go_wp2_with fail;refine jU (v:=.tuple #[.agg #[.slice none 0 0,.slice none 0 0],I6 3]) (by simp[results,Tryz.results37,go_sem,kR0,kR1,fR0,fR1]) rfl ?_;rw[HPO.out];exact d9r (sc2 hBo lR)
 | true =>
  have hS:=b3v hR;rw[hR] at hr;have HR:=zh hr
  cases hM:d8b way a n with
  | false =>
   rw[hM] at hmb;have HMB:=zh hmb;have HPO:Hid (Po=GotOwn [] [] 2 w):=zh (hPo.trans (by unfold chQ;rw[if_neg (by rw[hR];simp),if_pos hM]));clear hr hR hM hN hA hf hPo hnm hmb hfw hS;go_enter Tryz.func37,Tryz.ntmps37
   go_upto_region 1 with fail
   obtain⟨s7,F,C,R,hws,hdF,hdC,hdR,hsz,zF,zC,zR⟩:=nm3 w (.cells #[u,v] 25) (.cells #[Sg own,Sg sheet,I6 way,I6 a,I6 n,F1,F2] 82) (.cells #[.slice none 0 0,.slice none 0 0] 25);have hN:=bx2 (b:=F) hws hdF;have kF0:=hN 0 _ rfl;have kF1:=hN 1 _ rfl;clear hN;have yC:=by1 (b:=C) hws (by simp[hdC]);have hN:=bx0 (b:=R) hws (by simp[hdR]);have hM:=bf0 (b:=R) hws (by simp[hdR]);have kR0:=hN 0 _ rfl;have kR1:=hN 1 _ rfl;have fR0:=hM 0;have fR1:=hM 1;clear hN hM;have lR:w.heap.size<=R:=by omega
   have hBo:=bs3 bR hws;rw[<-hws];try rw[<-hdR]
   try rw[<-hdC]
   try rw[<-hdF]
   clear hws hsz hdF hdC hdR;go_wp2_with fail;refine cAn (HR.out _ (HN.out.below hBo) (HA.out.below hBo) (HM.out.below hBo)) fun w5 hb=>?_
   replace yC:=eqB hb yC zC;replace kR0:=a0f hb kR0 zR;replace kR1:=a0f hb kR1 zR;replace fR0:=a0g hb fR0 zR;replace fR1:=a0g hb fR1 zR;replace zR:=zHl hb zR;replace hBo:=f4s hBo hb;clear hb;go_wp2_with fail;refine cAn (HMB.out _) fun w6 hb=>?_
   replace kR0:=a0f hb kR0 zR;replace kR1:=a0f hb kR1 zR;replace fR0:=a0g hb fR0 zR;replace fR1:=a0g hb fR1 zR;replace hBo:=f4s hBo hb;clear hb;go_wp2_with fail;refine jU (v:=.tuple #[.agg #[.slice none 0 0,.slice none 0 0],I6 2]) (by simp[results,Tryz.results37,go_sem,kR0,kR1,fR0,fR1,zR]) rfl ?_;rw[HPO.out];exact d9r (sc2 hBo lR)
  | true =>
   rw[hM] at hmb;have HMB:=zh hmb;have HFW:=zh (fun W=>hfw W (by omega) hR hM);have HPO:Hid (Po=GotOwn (N.map (e2a fo fb)) A 0 w):=zh (hPo.trans (by unfold chQ;rw[if_neg (by rw[hR];simp),if_neg (by rw[hM];simp)]));clear hr hR hM hN hA hf hPo hnm hmb hfw hS;generalize N.map (e2a fo fb)=M at HFW HPO;go_enter Tryz.func37,Tryz.ntmps37
   go_upto_region 1 with fail
   obtain⟨s8,F,C,R,hws,hdF,hdC,hdR,hsz,zF,zC,zR⟩:=nm3 w (.cells #[u,v] 25) (.cells #[Sg own,Sg sheet,I6 way,I6 a,I6 n,F1,F2] 82) (.cells #[.slice none 0 0,.slice none 0 0] 25);have hN:=bx2 (b:=F) hws hdF;have kF0:=hN 0 _ rfl;have kF1:=hN 1 _ rfl;clear hN;have yC:=by1 (b:=C) hws (by simp[hdC]);have hN:=bx0 (b:=R) hws (by simp[hdR]);have hM:=bf0 (b:=R) hws (by simp[hdR]);have kR0:=hN 0 _ rfl;have kR1:=hN 1 _ rfl;have fR0:=hM 0;have fR1:=hM 1;clear hN hM;have lR:w.heap.size<=R:=by omega
   have hBo:=bs3 bR hws;rw[<-hws];try rw[<-hdR]
   try rw[<-hdC]
   try rw[<-hdF]
   clear hws hsz hdF hdC hdR;go_wp2_with fail;refine cAn (HR.out _ (HN.out.below hBo) (HA.out.below hBo) (HM.out.below hBo)) fun w5 hb=>?_
   replace kF0:=a0f hb kF0 zF;replace kF1:=a0f hb kF1 zF;replace zF:=zHl hb zF;replace yC:=eqB hb yC zC;replace zC:=zHl hb zC;replace kR0:=a0f hb kR0 zR;replace kR1:=a0f hb kR1 zR;replace fR0:=a0g hb fR0 zR;replace fR1:=a0g hb fR1 zR;replace zR:=zHl hb zR;replace hBo:=f4s hBo hb;clear hb;go_wp2_with fail;refine cAn (HMB.out _) fun w6 hb=>?_
   replace kF0:=a0f hb kF0 zF;replace kF1:=a0f hb kF1 zF;replace yC:=eqB hb yC zC;replace kR0:=a0f hb kR0 zR;replace kR1:=a0f hb kR1 zR;replace fR0:=a0g hb fR0 zR;replace fR1:=a0g hb fR1 zR;replace zR:=zHl hb zR;replace hBo:=f4s hBo hb;clear hb;go_wp2_with fail;refine(HFW.out _ (HN.out.below hBo) (HA.out.below hBo)).mono ?_;rintro e w7 ⟨⟨us,vs,rfl,h1,h2,-⟩,hb⟩;obtain⟨b1,c1,rfl⟩:=a0l h1;obtain⟨b2,c2,rfl⟩:=a0l h2;have HZR:=zh zR;have HWB:=zh hBo.size;have HN7:=zh h1;have HA7:=zh h2;clear h1 h2;obtain⟨ml,hml⟩:=nM M.length;obtain⟨al,hal⟩:=nM A.length;rw[<-hml] at HN7 |-
   rw[<-hal] at HA7 |-
   have HML:=zh hml;have HAL:=zh hal;clear hml hal;replace kR0:=a0f hb kR0 zR;replace kR1:=a0f hb kR1 zR;replace fR0:=a0g hb fR0 zR;replace fR1:=a0g hb fR1 zR;replace hBo:=f4s hBo hb;clear hb;go_wp2_with fail;refine jU (v:=.tuple #[.agg #[.slice b1 ml c1,.slice b2 al c2],I6 0]) (by simp[results,Tryz.results37,go_sem,kR0,kR1,fR0,fR1,zR]) rfl ?_;rw[HPO.out];exact⟨⟨_,_,rfl,by rw[<-HML.out];exact d6w (ownsRow_setCell_below (ownsRow_setCell_below HN7.out HZR.out _) HZR.out _) HWB.out,by rw[<-HAL.out];exact d6w (ownsRow_setCell_below (ownsRow_setCell_below HA7.out HZR.out _) HZR.out _) HWB.out⟩,(hBo.setCell lR _).setCell lR _⟩
theorem e9x (x y z t:Value) (w:World):(callFunc 38 #[x,y,z,t]).run Tryz.prog w=.ok (.enter 38 #[x,y,z,t]) w:=by kernel_rfl
theorem f4j (own sheet:jW) (way a n:Int) (u v:Value) (N:List Nd) (A:List Int) (w:World) (q:List Nd × List Int × Int) (hN:NodesAt w u N) (hA:IntsAt w v A) (hnm:NamesAt w)
  (hsh:∀ w,NodesAt w u N->IntsAt w v A->NamesAt w->Calls Tryz.prog 37 #[.agg #[u,v],f1j own sheet way a n 38 39] w (GotOwn q.1 q.2.1 q.2.2 w)) :
  Calls Tryz.prog 13 #[.agg #[u,v],Sg own,Sg sheet,I6 way,I6 a,I6 n] w (GotOwn q.1 q.2.1 q.2.2 w):=by
 have hud:=hUd;obtain⟨M,B,c⟩:=q;dsimp only at hsh |-
 have HSH:=zh hsh;have HN:=zh hN;have HA:=zh hA;have HM:=zh hnm;obtain⟨Po,hPo⟩:=nM (GotOwn M B c w);rw[<-hPo];have HPO:=zh hPo;clear hsh hN hA hnm hPo;go_enter Tryz.func13,Tryz.ntmps13
 go_upto_region 1 with fail
 obtain⟨s1,F,R,hws,hdF,hdR,hsz,zF,zR⟩:=nm2 w (.cells #[u,v] 25) (.cells #[.slice none 0 0,.slice none 0 0] 25);have hN:=bx1 (b:=F) hws hdF;have kF0:=hN 0 _ rfl;have kF1:=hN 1 _ rfl;clear hN;have hN:=bx0 (b:=R) hws (by simp[hdR]);have hM:=bf0 (b:=R) hws (by simp[hdR]);have kR0:=hN 0 _ rfl;have kR1:=hN 1 _ rfl;have fR0:=hM 0;have fR1:=hM 1;clear hN hM;have lR:w.heap.size<=R:=by omega
 have hBo:=bs2 bR hws;rw[<-hws];try rw[<-hdR]
 try rw[<-hdF]
 clear hws hsz hdF hdR;go_wp2_with fail;refine(HSH.out _ (HN.out.below hBo) (HA.out.below hBo) (HM.out.below hBo)).mono ?_;rintro e w7 ⟨⟨us,vs,rfl,h1,h2⟩,hb⟩;obtain⟨b1,c1,rfl⟩:=a0l h1;obtain⟨b2,c2,rfl⟩:=a0l h2;have HZR:=zh zR;have HWB:=zh hBo.size;have HN7:=zh h1;have HA7:=zh h2;clear h1 h2;obtain⟨ml,hml⟩:=nM M.length;obtain⟨al,hal⟩:=nM B.length;rw[<-hml] at HN7 |-
 rw[<-hal] at HA7 |-
 have HML:=zh hml;have HAL:=zh hal;clear hml hal;replace kR0:=a0f hb kR0 zR;replace kR1:=a0f hb kR1 zR;replace fR0:=a0g hb fR0 zR;replace fR1:=a0g hb fR1 zR;replace hBo:=f4s hBo hb;clear hb;go_wp2_with fail;refine jU (v:=.tuple #[.agg #[.slice b1 ml c1,.slice b2 al c2],I6 c]) (by simp[results,Tryz.results13,go_sem,kR0,kR1,fR0,fR1]) rfl ?_;rw[HPO.out];exact⟨⟨_,_,rfl,by rw[<-HML.out];exact d6w (ownsRow_setCell_below (ownsRow_setCell_below HN7.out HZR.out _) HZR.out _) HWB.out,by rw[<-HAL.out];exact d6w (ownsRow_setCell_below (ownsRow_setCell_below HA7.out HZR.out _) HZR.out _) HWB.out⟩,(hBo.setCell lR _).setCell lR _⟩
theorem e9y (x y z t:Value) (w:World):(callFunc 45 #[x,y,z,t]).run Tryz.prog w=.ok (.enter 45 #[x,y,z,t]) w:=by kernel_rfl
theorem f4k (own sheet:jW) (way a n:Int) (u v:Value) (N:List Nd) (A:List Int) (w:World) (q:List Nd × List Int × Int) (hN:NodesAt w u N) (hA:IntsAt w v A) (hnm:NamesAt w)
  (hsh:∀ w,NodesAt w u N->IntsAt w v A->NamesAt w->Calls Tryz.prog 37 #[.agg #[u,v],f1j own sheet way a n 45 46] w (GotOwn q.1 q.2.1 q.2.2 w)) :
  Calls Tryz.prog 15 #[.agg #[u,v],Sg own,Sg sheet,I6 way,I6 a,I6 n] w (GotOwn q.1 q.2.1 q.2.2 w):=by
 have hud:=hUd;obtain⟨M,B,c⟩:=q;dsimp only at hsh |-
 have HSH:=zh hsh;have HN:=zh hN;have HA:=zh hA;have HM:=zh hnm;obtain⟨Po,hPo⟩:=nM (GotOwn M B c w);rw[<-hPo];have HPO:=zh hPo;clear hsh hN hA hnm hPo;go_enter Tryz.func15,Tryz.ntmps15
 go_upto_region 1 with fail
 obtain⟨s2,F,R,hws,hdF,hdR,hsz,zF,zR⟩:=nm2 w (.cells #[u,v] 25) (.cells #[.slice none 0 0,.slice none 0 0] 25);have hN:=bx1 (b:=F) hws hdF;have kF0:=hN 0 _ rfl;have kF1:=hN 1 _ rfl;clear hN;have hN:=bx0 (b:=R) hws (by simp[hdR]);have hM:=bf0 (b:=R) hws (by simp[hdR]);have kR0:=hN 0 _ rfl;have kR1:=hN 1 _ rfl;have fR0:=hM 0;have fR1:=hM 1;clear hN hM;have lR:w.heap.size<=R:=by omega
 have hBo:=bs2 bR hws;rw[<-hws];try rw[<-hdR]
 try rw[<-hdF]
 clear hws hsz hdF hdR;go_wp2_with fail;refine(HSH.out _ (HN.out.below hBo) (HA.out.below hBo) (HM.out.below hBo)).mono ?_;rintro e w7 ⟨⟨us,vs,rfl,h1,h2⟩,hb⟩;obtain⟨b1,c1,rfl⟩:=a0l h1;obtain⟨b2,c2,rfl⟩:=a0l h2;have HZR:=zh zR;have HWB:=zh hBo.size;have HN7:=zh h1;have HA7:=zh h2;clear h1 h2;obtain⟨ml,hml⟩:=nM M.length;obtain⟨al,hal⟩:=nM B.length;rw[<-hml] at HN7 |-
 rw[<-hal] at HA7 |-
 have HML:=zh hml;have HAL:=zh hal;clear hml hal;replace kR0:=a0f hb kR0 zR;replace kR1:=a0f hb kR1 zR;replace fR0:=a0g hb fR0 zR;replace fR1:=a0g hb fR1 zR;replace hBo:=f4s hBo hb;clear hb;go_wp2_with fail;refine jU (v:=.tuple #[.agg #[.slice b1 ml c1,.slice b2 al c2],I6 c]) (by simp[results,Tryz.results15,go_sem,kR0,kR1,fR0,fR1]) rfl ?_;rw[HPO.out];exact⟨⟨_,_,rfl,by rw[<-HML.out];exact d6w (ownsRow_setCell_below (ownsRow_setCell_below HN7.out HZR.out _) HZR.out _) HWB.out,by rw[<-HAL.out];exact d6w (ownsRow_setCell_below (ownsRow_setCell_below HA7.out HZR.out _) HZR.out _) HWB.out⟩,(hBo.setCell lR _).setCell lR _⟩
def f4w (n m:Sh):Prop:=n=m\/(n.k<7/\m.k<7/\n.lv=m.lv)
theorem f5i (n:Sh):f4w n n:=Or.inl rfl
theorem f5y {n m:Sh} (h:f4w n m) (A:List Int):d6t A n=d6t A m:=by
 rcases h with rfl | ⟨h1,h2,_⟩
 ·
  rfl
 ·
  unfold d6t;rw[if_neg (by omega),if_neg (by omega),if_neg (by omega),if_neg (by omega),if_neg (by omega),if_neg (by omega)]
theorem f5z {n m:Sh} (h:f4w n m) (A:List Int) (s:Ms):a1f A s n=a1f A s m:=by
 rcases h with rfl | ⟨h1,h2,_⟩
 ·
  rfl
 ·
  unfold a1f;rw[jE (show ¬ n.k=9 by omega),jE (show ¬ m.k=9 by omega)];rfl
theorem f6a {n m:Sh} (h:f4w n m):a0n n=a0n m:=by
 rcases h with rfl | ⟨h1,h2,_⟩
 ·
  rfl
 ·
  unfold a0n;rw[if_neg (by omega),if_neg (by omega)]
theorem f6m {n m:Sh} (h:f4w n m):a1v n=a1v m:=by
 rcases h with rfl | ⟨h1,h2,h3⟩
 ·
  rfl
 ·
  unfold a1v;rw[h3];by_cases h6:m.lv=6
  ·
   rw[if_pos (Or.inr h6),if_pos (Or.inr h6)]
  ·
   rw[if_neg (by omega),if_neg (by omega)]
theorem f6w {n m:Sh} (h:f4w n m):n.lv=m.lv:=by
 rcases h with rfl | ⟨_,_,h3⟩
 ·
  rfl
 ·
  exact h3
theorem f6n {n m x y:Sh} (h:f4w n m) (hx:f4w x y) (i:Nat):brk n x i=brk m y i:=by
 unfold brk;rw[f6w hx]
 rcases h with rfl | ⟨h1,h2,h3⟩
 ·
  rfl
 ·
  rw[if_neg (by omega),if_neg (by omega),if_neg (by omega),if_neg (by omega),h3]
theorem f5j {N M:List Sh} (hl:∀ c,f4w (N.getD c default) (M.getD c default)) (D:List Int) {n m:Sh} (h:f4w n m):∀ (l:List Int) (i:Nat) (d:Int),a2z N D n i l d=a2z M D m i l d
 | [],_,_=>rfl
 | c :: l,i,d=>by
  rw[a2z,a2z,f6n h (hl c.toNat) i];exact f5j hl D h l _ _
theorem f6b {N M:List Sh} (hl:∀ c,f4w (N.getD c default) (M.getD c default)) (A:List Int) (s:Ms) {n m:Sh} (h:f4w n m):step N A s n=step M A s m:=by
 unfold step b3j;rw[f5z h,f5y h,f6a h,f6m h,f5j hl s.deps h]
theorem f5p {N M:List Sh} (hl:∀ c,f4w (N.getD c default) (M.getD c default)) (A:List Int):∀ k,run N A k=run M A k
 | 0=>rfl
 | k+1=>by
  rw[run,run,f5p hl A k]
  cases run M A k with
  | none=>rfl
  | some s=>exact f6b hl A s (hl k)
theorem f6c {N:List Nd} {A:List Int} (f:Nd->Nd) (h:a0w N A=true) (hs:∀ n ∈ N,a1x n=true->a1x (f n)=true/\f4w (shN n) (shN (f n))):a0w (N.map f) A=true:=by
 obtain⟨s,hr,h1,h2,h3,h4,h5,hC,h6⟩:=a3h (C:=cN N) (a9t (N:=N)) h;rw[List.length_map] at hr h1 h3 h4 hC
 have hcan:∀ n ∈ N,a1x n=true:=fun n hn=>by
  obtain⟨i,hi⟩:=List.getElem?_of_mem hn;rw[<-a3j hi];exact hC i (List.getElem?_eq_some_iff.1 hi).1
 have hl:∀ c,f4w ((N.map shN).getD c default) (((N.map f).map shN).getD c default):=fun c=>by
  rw[jJ,jJ,List.getElem?_map,List.getElem?_map,List.getElem?_map]
  cases hn:N[c]? with
  | none=>exact f5i _
  | some n=>exact(hs n (List.mem_of_getElem? hn) (hcan n (List.mem_of_getElem? hn))).2
 have hcM:∀ i,i<(N.map f).length->cN (N.map f) i=true:=fun i hi=>by
  obtain⟨n,hn⟩:∃ n,N[i]?=some n:=⟨_,jH (by simpa using hi)⟩;rw[a3j (n:=f n) (by rw[List.getElem?_map,hn];rfl)];exact(hs n (List.mem_of_getElem? hn) (hcan n (List.mem_of_getElem? hn))).1
 have hrun:run ((N.map f).map shN) A N.length=some s:=by rw[<-f5p hl A];exact hr
 have hlen:((N.map f).map shN).length=N.length:=by simp
 have hd:s.deps.getD (s.tops.headD 0).toNat 0=a4b (N.map shN) A:=by
  rw[h1,b5g hr];unfold a4b;rw[List.length_map]
  congr 1
  simp only[List.headD_cons];omega
 unfold a0w;rw[(b1l (C:=cN (N.map f)) (a9t (N:=N.map f))).1];refine jD ?_;unfold a1q;rw[hlen,if_neg (by omega),runC_iff.2 ⟨fun i hi=>hcM i (by simpa using hi),hrun⟩];unfold c4r;dsimp only;rw[if_neg (by rw[h1,h2];simp),if_neg (by rw[hd];omega)]
theorem f4x {n:Nd} (h:a0s n=n) (hu:a4i n=true):a1x n=true:=by
 unfold a1x;rw[hu,(a2o _ _).2 h.symm];rfl
theorem f5g:a1x d7c=true:=f4x rfl rfl
theorem f6o {r:Rf} (h:d7t r=true):a1x (e9t r true)=true:=f4x rfl h
theorem f6d {a b:Rf} (ha:d7t a=true) (hb:d7t b=true):d7t (e0m a b).1=true/\d7t (e0m a b).2=true/\(e0m a b).2.sh=b.sh/\(e0m a b).1.c<=(e0m a b).2.c:=by
 unfold d7t a8g e0m at *;rw[Bool.and_eq_true,a9p] at ha hb;obtain⟨a1,a2⟩:=ha;obtain⟨b1,b2⟩:=hb;by_cases h:a.c > b.c
 ·
  rw[if_pos h];dsimp only;rw[Bool.and_eq_true,Bool.and_eq_true,a9p,a9p];exact⟨⟨a1,by omega⟩,⟨b1,by omega⟩,rfl,by omega⟩
 ·
  rw[if_neg h];dsimp only;rw[Bool.and_eq_true,Bool.and_eq_true,a9p,a9p];exact⟨⟨a1,by omega⟩,⟨b1,by omega⟩,rfl,by omega⟩
theorem f6x {a b:Rf} (ha:d7t a=true) (hb:d7t b=true):d7t (d7o a b).1=true/\d7t (d7o a b).2=true/\(d7o a b).2.sh=b.sh/\(d7o a b).1.c<=(d7o a b).2.c/\(d7o a b).1.r<=(d7o a b).2.r:=by
 obtain⟨h1,h2,h3,h4⟩:=f6d ha hb;unfold d7o;dsimp only;generalize (e0m a b).1=p at *;generalize (e0m a b).2=q at *;rw[<-h3];clear ha hb h3;unfold d7t a8g e0n at *;rw[Bool.and_eq_true,a9p] at h1 h2;obtain⟨a1,a2⟩:=h1;obtain⟨b1,b2⟩:=h2;by_cases h:p.r > q.r
 ·
  rw[if_pos h];dsimp only;rw[Bool.and_eq_true,Bool.and_eq_true,a9p,a9p];exact⟨⟨a1,by omega⟩,⟨b1,by omega⟩,rfl,by omega,by omega⟩
 ·
  rw[if_neg h];dsimp only;rw[Bool.and_eq_true,Bool.and_eq_true,a9p,a9p];exact⟨⟨a1,by omega⟩,⟨b1,by omega⟩,rfl,by omega,by omega⟩
theorem f6p {a b:Rf} (ha:d7t a=true) (hb:d7t b=true) (hs:b.sh=⟨#[]⟩):a1x (e8h a b true)=true:=by
 unfold e8h;rw[if_pos rfl]
 split
 case isFalse=>exact f5g
 case isTrue hn =>
  obtain⟨h1,h2,h3,h4,h5⟩:=f6x ha hb;refine f4x rfl ?_;show arB (d7o a b).1 (d7o a b).2=true;unfold arB;rw[(a7h _ _ _ _).2 ⟨hn,h4,h5⟩,show a8g (d7o a b).1.sh (d7o a b).1.c (d7o a b).1.r=true from h1,show a8g (d7o a b).2.sh (d7o a b).2.c (d7o a b).2.r=true from h2,h3,hs];rfl
theorem f5k {n m:Nd} (h1:n.k<7) (h2:m.k<7):f4w (shN n) (shN m):=by
 refine Or.inr ⟨h1,h2,?_⟩;show lvI n.k n.o=lvI m.k m.o;unfold lvI;rw[if_neg (by omega),if_neg (by omega),if_neg (by omega),if_neg (by omega)]
theorem f6y (r:Rf) (p:Bool):(e9t r p).k<7:=by cases p<;>exact jB rfl
theorem f6z (r s:Rf) (p:Bool):(e8h r s p).k<7:=by unfold e8h;split<;>(try split)<;>exact jB rfl
theorem f7a {fo:Nd->Rf × Bool} {fb:Nd->Rf × Rf × Bool} {n:Nd} (h:a1x n=true) (h1:n.k=5->(fo n).2=true->d7t (fo n).1=true) (h2:n.k=6->(fb n).2.2=true->d7t (fb n).1=true/\d7t (fb n).2.1=true/\(fb n).2.1.sh=⟨#[]⟩) :
  a1x (e2a fo fb n)=true/\f4w (shN n) (shN (e2a fo fb n)):=by
 by_cases h5:n.k=5
 ·
  rw[f3h (by simpa using h5)];refine⟨?_,f5k (by omega) (f6y _ _)⟩
  cases hp:(fo n).2 with
  | false=>exact f5g
  | true=>exact f6o (h1 h5 hp)
 ·
  by_cases h6:n.k=6
  ·
   rw[f3i (by simpa using h5) (by simpa using h6)];refine⟨?_,f5k (by omega) (f6z _ _ _)⟩
   cases hp:(fb n).2.2 with
   | false=>exact f5g
   | true =>
    obtain⟨g1,g2,g3⟩:=h2 h6 hp;exact f6p g1 g2 g3
  ·
   rw[f0e (by simpa using h5) (by simpa using h6)];exact⟨h,f5i _⟩
theorem f5c {n:Nd} (h:a1x n=true) (hk:n.k=5):e9t n.r true=n:=(f4a h hk).1.symm
theorem f5l {n:Nd} (h:a1x n=true) (hk:n.k=6):e8h n.r n.t true=n:=by
 obtain⟨e,e1,e2,e3,e4⟩:=f4b h hk;unfold e8h;rw[if_pos rfl,e9w e2 e3];dsimp only;rw[if_pos e1];exact e.symm
theorem f6t {fo:Nd->Rf × Bool} {fb:Nd->Rf × Rf × Bool} {n:Nd} (h:Fits n) (h1:(fo n).1.sh.size<=100) (h2:(fb n).1.sh.size<=100/\(fb n).2.1.sh.size<=100):Fits (e2a fo fb n):=by
 have h0:Fits d7c:=by unfold Fits;decide
 have hz:(⟨#[]⟩:jW).size<=100:=by decide
 have hz5:(⟨#[]⟩:jW).size<=500:=by decide
 unfold e2a
 split
 ·
  unfold e9t
  split
  ·
   exact⟨hz,hz,hz5,h1,hz⟩
  ·
   exact h0
 ·
  split
  ·
   unfold e8h
   split
   ·
    split
    ·
     refine⟨hz,hz,hz5,?_,?_⟩
     ·
      show ((d7o (fb n).1 (fb n).2.1).1.sh).size<=100;unfold d7o e0m e0n;dsimp only
      split<;>split<;>exact h2.1
     ·
      show ((d7o (fb n).1 (fb n).2.1).2.sh).size<=100;unfold d7o e0m e0n;dsimp only
      split<;>split<;>exact h2.2
    ·
     exact h0
   ·
    exact h0
  ·
   exact h
structure Top where
 a:Int
 b:Int
 l:Int
structure StD (N:List Nd) (A:List Int) (T:List Top):Prop where
 run:∀ X Y,∃ D,run (N.map shN++X) (A++Y) N.length=some ⟨D,T.map Top.a,A.length⟩/\∀ t ∈ T,D.getD t.a.toNat 0<=t.b
 at_:∀ t ∈ T,0<=t.a/\t.a.toNat<N.length/\((N.map shN).getD t.a.toNat default).lv=t.l
def f9f (n:Sh) (l:Int) (i:Nat):Bool:=if n.k=9 then false else if n.k=8/\i=1 then decide (l<=n.lv) else decide (l<n.lv)
theorem f9l (n kid:Sh) (i:Nat):brk n kid i=f9f n kid.lv i:=rfl
theorem f8a {N:List Sh} {D:List Int} {n:Sh} {δ:Int} : ∀ (K:List Top) (i:Nat) (d:Int),d<=δ->(∀ t ∈ K,D.getD t.a.toNat 0<=t.b/\(N.getD t.a.toNat default).lv=t.l)->(∀ j t,K[j]?=some t->t.b+(if f9f n t.l (i+j)=true then 1 else 0)<=δ)->a2z N D n i (K.map Top.a) d<=δ
 | [],_,d,hd,_,_=>hd
 | t :: K,i,d,hd,ht,hb=>by
  rw[List.map_cons,a2z];refine f8a K (i+1) _ ?_ (fun x hx=>ht x (List.mem_cons_of_mem _ hx)) (fun j x hx=>by have:=hb (j+1) x hx;rwa [show i+1+j=i+(j+1) by omega]);obtain⟨h1,h2⟩:=ht t (List.mem_cons_self ..);have h3:=hb 0 t rfl;rw[f9l,h2];rw[Nat.add_zero] at h3;omega
theorem f7l {α:Type} [Inhabited α] {l m:List α} {c:Nat} {x:α} (h:c<l.length):(l++m).getD c x=l.getD c x:=by
 rw[jJ,jJ,List.getElem?_append_left h]
theorem f7m {α:Type} {l:List α} {x y:α} {m:List α} : (l++x :: m).getD l.length y=x:=by
 rw[jJ,List.getElem?_append_right (jC _),Nat.sub_self];rfl
theorem StD.push {N:List Nd} {A:List Int} {T K:List Top} (h:StD N A (T++K)) (n:Nd) (Y0:List Int) (δ:Int) (hk:∀ Y,d6t (A++(Y0++Y)) (shN n)=K.map Top.a) (ha:n.k=9->0<n.b->n.a=A.length/\n.b=Y0.length) (hy:a0n (shN n)=Y0.length)
  (h0:0<=δ) (hb:∀ j t,K[j]?=some t->t.b+(if f9f (shN n) t.l j=true then 1 else 0)<=δ):StD (N ++ [n]) (A++Y0) (T ++ [⟨N.length,δ+a1v (shN n),(shN n).lv⟩]):=by
 obtain⟨hr,hat⟩:=h;refine⟨fun X Y=>?_,fun t ht=>?_⟩
 ·
  obtain⟨D,e,hD⟩:=hr (shN n :: X) (Y0++Y);have hl:=a4j e;dsimp only at hl;have hlm:(N.map shN).length=N.length:=List.length_map ..;refine⟨D ++ [b3j ((N ++ [n]).map shN++X) (A++Y0++Y) D (shN n)],?_,fun t ht=>?_⟩
  ·
   have eN:(N ++ [n]).map shN++X=N.map shN++shN n :: X:=by simp
   have eA:A++Y0++Y=A++(Y0++Y):=by simp
   rw[eN,eA,jM,List.length_singleton,a1y e,show (N.map shN++shN n :: X).getD N.length default=shN n by rw[<-hlm];exact f7m];rw[a9x (o:=T.length)]
   ·
    simp only[hy,List.map_append,List.map_cons,List.map_nil,hl];rw[List.take_append_of_le_length (by simp),jS (by simp)];simp
   ·
    unfold a1f;by_cases h9:n.k=9
    ·
     by_cases hb0:0<n.b
     ·
      obtain⟨q1,q2⟩:=ha h9 hb0;simp only[show (shN n).k=9 from h9,show (shN n).b=n.b from rfl,show (shN n).a=n.a from rfl,q1,q2,jM];simp;omega
     ·
      simp[show (shN n).b=n.b from rfl,hb0]
    ·
     simp[show (shN n).k=n.k from rfl,h9]
   ·
    rw[hk Y];simp
   ·
    rw[hk Y];simp
  ·
   rcases List.mem_append.1 ht with h1 | h1
   ·
    rw[f7l (by rw[hl];exact(hat t (List.mem_append_left _ h1)).2.1)];exact hD t (List.mem_append_left _ h1)
   ·
    rw[List.mem_singleton.1 h1];dsimp only;rw[show ((N.length:Int)).toNat=D.length by rw[hl];rfl,f7m];unfold b3j;rw[show A++Y0++Y=A++(Y0++Y) by simp,hk Y]
    have:=f8a (N:=(N ++ [n]).map shN++X) (D:=D) (n:=shN n) (δ:=δ) K 0 0 h0 (fun t ht=>⟨hD t (List.mem_append_right _ ht),by
     obtain⟨_,g2,g3⟩:=hat t (List.mem_append_right _ ht)
     rw[<-g3,List.map_append,List.append_assoc,f7l (by rw[hlm];exact g2)]⟩) (fun j t ht=>by rw[Nat.zero_add];exact hb j t ht)
    omega
 ·
  rcases List.mem_append.1 ht with h1 | h1
  ·
   obtain⟨g1,g2,g3⟩:=hat t (List.mem_append_left _ h1);refine⟨g1,by rw[jM];omega,?_⟩;rw[List.map_append,f7l (by rw[List.length_map];exact g2)];exact g3
  ·
   rw[List.mem_singleton.1 h1];refine⟨by dsimp only;omega,by dsimp only;rw[jM];simp,?_⟩;dsimp only;rw[List.map_append,show ((N.length:Int)).toNat=(N.map shN).length by rw[List.length_map];rfl];exact congrArg Sh.lv f7m
theorem f8b {N:List Nd} {A:List Int} {a b l:Int} (h:StD N A [⟨a,b,l⟩]) (hb:b<=24) (hl:N.length<=300) (hc:∀ n ∈ N,a1x n=true):a0w N A=true:=by
 obtain⟨hr,hat⟩:=h;obtain⟨D,e,hD⟩:=hr [] [];rw[List.append_nil,List.append_nil] at e
 have hcN:∀ i,i<N.length->cN N i=true:=fun i hi=>by
  rw[a3j (jH hi)];exact hc _ (List.getElem_mem hi)
 have hlm:(N.map shN).length=N.length:=List.length_map ..;unfold a0w;rw[(b1l (C:=cN N) (a9t (N:=N))).1];refine jD ?_;unfold a1q;rw[hlm,if_neg (by omega),runC_iff.2 ⟨hcN,e⟩];unfold c4r;dsimp only;have:=hD _ (List.mem_singleton.2 rfl);dsimp only at this;rw[if_neg (by simp),if_neg (by simp only[List.map_cons,List.map_nil,List.headD_cons];omega)]
def f7p (t:Tok):Prop:=(t.k=1->amB false t.qa t.qd=true)/\(t.k=2->b7h t.x=true)/\(t.k=10->∃ i,1<=i/\i<8/\c2o i=t.x)
def Res (lv:Int) (s s':Rd) (r:Int) (T:List Top):Prop:=s'.d=s.d/\(∀ n ∈ s'.N,a1x n=true)/\∃ b l,StD s'.N s'.A (T ++ [⟨r,b,l⟩])/\b<=24-s.d/\(l<lv->b+1<=24-s.d)
theorem Res.mono {lv lv':Int} {s s':Rd} {r:Int} {T:List Top} (h:Res lv s s' r T) (hl:lv'<=lv):Res lv' s s' r T:=by
 obtain⟨h1,h2,b,l,h3,h4,h5⟩:=h;exact⟨h1,h2,b,l,h3,h4,fun h=>h5 (by omega)⟩
def f9m:Job->Rd->Rd->Int->Prop
 | .bin lv,s,s',r=>lv<=6->∀ T,StD s.N s.A T->Res lv s s' r T
 | .binL lv a,s,s',r=>lv<=5->∀ T (b l:Int),StD s.N s.A (T ++ [⟨a,b,l⟩])->b<=24-s.d->(l<lv->b+1<=24-s.d)->Res lv s s' r T
 | .minus,s,s',r=>∀ T,StD s.N s.A T->Res 6 s s' r T
 | .pct,s,s',r=>∀ T,StD s.N s.A T->Res 7 s s' r T
 | .pctL a,s,s',r=>∀ T (b l:Int),StD s.N s.A (T ++ [⟨a,b,l⟩])->b<=24-s.d->(l<7->b+1<=24-s.d)->Res 7 s s' r T
 | .first,s,s',r=>∀ T,StD s.N s.A T->Res 8 s s' r T
 | .argsL l,s,s',r=>∀ T L,L.map Top.a=l->L.length<=20->(∀ t ∈ L,t.b<=24-s.d)->StD s.N s.A (T++L)->s'.d=s.d/\(∀ n ∈ s'.N,a1x n=true)/\∃ L' A0,s'.A=A0++L'.map Top.a/\r=L'.length/\L'.length<=20/\(∀ t ∈ L',t.b<=24-s.d)/\StD s'.N A0 (T++L')
theorem f7h {s:Rd} {n:Nd} {T:List Top} {i:Nat} (hc:a1x n=true) (hk:n.k<7) (hd:0<=s.d/\s.d<=24) (hN:∀ n ∈ s.N,a1x n=true) (hT:StD s.N s.A T):Res 8 s (({ s with i:=i } : Rd).add n).1 (({ s with i:=i } : Rd).add n).2 T:=by
 have hk9 : ¬ (shN n).k=9:=by show ¬ n.k=9;omega
 have hlv:(shN n).lv=8:=by
  show lvI n.k n.o=8;unfold lvI;rw[if_neg (by omega),if_neg (by omega)]
 have h:=StD.push (K:=[]) (T:=T) (by rw[List.append_nil];exact hT) n [] 0 (fun Y=>by
  unfold d6t;rw[if_neg (by show ¬ n.k=7;omega),if_neg (by show ¬ n.k=8;omega),if_neg hk9]
  rfl) (fun h9=>absurd h9 (by omega)) (by unfold a0n;rw[if_neg (by omega)];rfl) (Int.le_refl _) (fun j t h=>by cases j<;>cases h)
 rw[List.append_nil,hlv,show a1v (shN n)=0 by unfold a1v;rw[if_neg (by omega)]] at h;refine⟨rfl,fun m hm=>?_,_,_,h,by show (0:Int)+0<=24-s.d;omega,fun h=>absurd h (by omega)⟩
 rcases List.mem_append.1 hm with h1 | h1
 ·
  exact hN m h1
 ·
  rw[List.mem_singleton.1 h1];exact hc
theorem f7n {s:Rd} {t:Tok} {e:Int} (h:e≠0):(s.wrong t e).e≠0:=by
 unfold Rd.wrong
 split
 ·
  exact h
 ·
  assumption
theorem f8m {s:Rd} {t:Tok} (h:(!(s.deeper t).2)=true):(s.deeper t).1.e≠0:=by
 unfold Rd.deeper at h |-
 split at h
 case isTrue hd=>rw[if_pos hd];exact f7n (by decide)
 case isFalse hd=>cases h
theorem f8f {s:Rd} {t:Tok} (h : ¬ (!(s.deeper t).2)=true):(s.deeper t).1={ s with d:=s.d+1 }/\s.d+1<=24:=by
 unfold Rd.deeper at h |-
 split at h
 case isTrue hd=>exact absurd rfl h
 case isFalse hd=>rw[if_neg hd];exact⟨rfl,by omega⟩
theorem f9i {t:Tok} {lv:Int} (h : ¬ e6p t lv=0):lvI 8 (e6p t lv)=lv:=by
 unfold e6p at h |-
 split at h
 case isTrue hk=>exact absurd rfl h
 case isFalse hk =>
  rw[if_neg hk]
  cases hf:(List.range 12).find? (fun i=>decide (opsT.getD i []=t.x.data.toList)&&decide (lvI 8 (i+1)=lv)) with
  | none=>rw[hf] at h;exact absurd rfl h
  | some i =>
   have:=List.find?_some hf;simp only[Bool.and_eq_true,decide_eq_true_eq] at this;exact this.2
theorem Res.of_d {lv:Int} {s1 s s':Rd} {r:Int} {T:List Top} (h:Res lv s1 s' r T) (hd:s1.d=s.d):Res lv s s' r T:=by
 unfold Res at h |-
 rw[<-hd];exact h
theorem f7r {l:List UInt8} {sh:jW} (h:(d8f l sh).2=0) (hs:(decide (sh.size=0) || b4n sh)=true):d7t (d8f l sh).1=true/\(d8f l sh).1.sh=sh:=by
 have key:∀ (q:Nat × Nat × Nat) (f g:Bool),(q.2.2=0->inG q.1 q.2.1=true)->(if q.2.2=0 then ((⟨sh,q.1,q.2.1,f,g⟩:Rf),(0:Int)) else (rf0,(q.2.2:Int))).2=0->d7t (if q.2.2=0 then ((⟨sh,q.1,q.2.1,f,g⟩:Rf),(0:Int)) else (rf0,(q.2.2:Int))).1=true/\(if q.2.2=0 then ((⟨sh,q.1,q.2.1,f,g⟩:Rf),(0:Int)) else (rf0,(q.2.2:Int))).1.sh=sh:=fun q f g hq he=>by
  by_cases h0:q.2.2=0
  ·
   rw[if_pos h0];refine⟨?_,rfl⟩;unfold d7t a8g;rw[hs,hq h0];rfl
  ·
   rw[if_neg h0] at he;exact absurd (show (q.2.2:Int)=0 from he) (by omega)
 exact key _ _ _ (fun h0=>f1a h0) h
theorem f7i {n:Nd} (h:a0s n=n) (hu:a4i n=true):a1x n=true:=f4x h hu
theorem f8j {T:List Tok} {s:Rd} {w:Tok} {sh:jW} {T0:List Top} (h:(e0o T s w sh).1.e=0) (hs:(decide (sh.size=0) || b4n sh)=true) (hd:0<=s.d/\s.d<=24) (hN:∀ n ∈ s.N,a1x n=true) (hT:StD s.N s.A T0):Res 8 s (e0o T s w sh).1 (e0o T s w sh).2 T0:=by
 unfold e0o at h |-
 dsimp only at h |-
 by_cases c1:(d8f w.x.data.toList sh).2≠0
 ·
  rw[if_pos c1] at h;exact absurd h (f7n c1)
 rw[if_neg c1] at h |-
 obtain⟨r1,r2⟩:=f7r (by simpa using c1) hs;generalize (d8f w.x.data.toList sh).1=p at *;by_cases c2:(tokAt T (s.i+1)).k≠8
 ·
  rw[if_pos c2];exact f7h (f7i rfl r1) (by show (5:Int)<7;decide) hd hN hT
 rw[if_neg c2] at h |-
 by_cases c3:(tokAt T (s.i+1+1)).k≠3
 ·
  rw[if_pos c3] at h;exact absurd h (f7n (by decide))
 rw[if_neg c3] at h |-
 by_cases c4:(d8f (tokAt T (s.i+1+1)).x.data.toList ⟨#[]⟩).2≠0
 ·
  rw[if_pos c4] at h;exact absurd h (f7n c4)
 rw[if_neg c4] at h |-
 obtain⟨q1,q2⟩:=f7r (by simpa using c4) (by decide);generalize (d8f (tokAt T (s.i+1+1)).x.data.toList ⟨#[]⟩).1=q at *;obtain⟨o1,o2,o3,o4,o5⟩:=f6x r1 q1;by_cases c5:((d7o p q).2.c-(d7o p q).1.c+1)*((d7o p q).2.r-(d7o p q).1.r+1) > 200
 ·
  rw[if_pos c5] at h;exact absurd h (f7n (by decide))
 rw[if_neg c5];refine f7h (f7i rfl ?_) (by show (6:Int)<7;decide) hd hN hT;show arB (d7o p q).1 (d7o p q).2=true;unfold arB;have g1:inG (d7o p q).1.c (d7o p q).1.r=true:=by unfold d7t a8g at o1;rw[Bool.and_eq_true] at o1;exact o1.2
 have g2:inG (d7o p q).2.c (d7o p q).2.r=true:=by unfold d7t a8g at o2;rw[Bool.and_eq_true] at o2;exact o2.2
 rw[(a7h _ _ _ _).2 ⟨(c4p g1 g2 (by unfold cnt;rw[Int.min_eq_left o4,Int.min_eq_left o5,Int.max_eq_right o4,Int.max_eq_right o5];exact c5)).1,o4,o5⟩,show a8g (d7o p q).1.sh (d7o p q).1.c (d7o p q).1.r=true from o1,show a8g (d7o p q).2.sh (d7o p q).2.c (d7o p q).2.r=true from o2,o3,q2];rfl
def FjR (s:Rd):Fj->Prop
 | .done q=>q.1.e=0->∀ T0,StD s.N s.A T0->Res 8 s q.1 q.2 T0
 | .paren s1=>s1.d=s.d+1/\s.d+1<=24/\s1.N=s.N/\s1.A=s.A/\s1.e=s.e
 | .call s1 x=>(s1.d=s.d+1/\s.d+1<=24/\s1.N=s.N/\s1.A=s.A/\s1.e=s.e)/\b9e x.data.toList=true
theorem f8y {T:List Tok} {s:Rd} {t:Tok} (hd:0<=s.d/\s.d<=24) (hN:∀ n ∈ s.N,a1x n=true):FjR s (d9b T s t):=by
 unfold d9b;dsimp only;by_cases c1:(tokAt T (s.i+1)).k=5
 ·
  rw[if_pos c1];by_cases c2:(!b9e t.x.data.toList)=true
  ·
   rw[if_pos c2];exact fun h=>absurd h (f7n (by decide))
  ·
   rw[if_neg c2];by_cases c3:(!(s.deeper t).2)=true
   ·
    rw[if_pos c3];exact fun h=>absurd h (f8m c3)
   ·
    rw[if_neg c3];obtain⟨e,h24⟩:=f8f c3;rw[e];exact⟨⟨rfl,h24,rfl,rfl,rfl⟩,by simpa using c2⟩
 rw[if_neg c1];by_cases c4:(tokAt T (s.i+1)).k≠9/\(t.x.data.toList=a7f\/t.x.data.toList=a4h)
 ·
  rw[if_pos c4];exact fun _ T0 hT=>f7h (f7i rfl rfl) (by show (3:Int)<7;decide) hd hN hT
 rw[if_neg c4];by_cases c5:(tokAt T (s.i+1)).k=9
 ·
  rw[if_pos c5];by_cases c6:(!b4n t.x)=true
  ·
   rw[if_pos c6];exact fun h=>absurd h (f7n (by decide))
  rw[if_neg c6];by_cases c7:(tokAt T (s.i+2)).k≠3
  ·
   rw[if_pos c7];exact fun h=>absurd h (f7n (by decide))
  rw[if_neg c7];exact fun h T0 hT=>(f8j (s:={ s with i:=s.i+2 }) h (by rw[show b4n t.x=true by simpa using c6,Bool.or_true]) hd hN hT).of_d rfl
 ·
  rw[if_neg c5];exact fun h T0 hT=>f8j h (by decide) hd hN hT
theorem f8n {T:List Tok} (hR:∀ i,f7p (tokAt T i)) {s:Rd} (hd:0<=s.d/\s.d<=24) (hN:∀ n ∈ s.N,a1x n=true):FjR s (d7z T s):=by
 obtain⟨t1,t2,t3⟩:=hR s.i;unfold d7z;dsimp only;generalize tokAt T s.i=t at *;by_cases c1:t.k=1
 ·
  rw[if_pos c1];exact fun _ T0 hT=>f7h (f7i rfl (t1 c1)) (by show (1:Int)<7;decide) hd hN hT
 rw[if_neg c1];by_cases c2:t.k=2
 ·
  rw[if_pos c2];exact fun _ T0 hT=>f7h (f7i rfl (t2 c2)) (by show (2:Int)<7;decide) hd hN hT
 rw[if_neg c2];by_cases c3:t.k=10
 ·
  rw[if_pos c3];refine fun _ T0 hT=>f7h (f7i rfl ?_) (by show (4:Int)<7;decide) hd hN hT
  obtain⟨i,h1,h8,hx⟩:=t3 c3;show (decide ((1:Int)<=(((List.range 8).find? fun j=>decide (1<=j)&&decide (c2o j=t.x)).getD 0:Nat))&&decide (((((List.range 8).find? fun j=>decide (1<=j)&&decide (c2o j=t.x)).getD 0:Nat):Int)<=7))=true
  cases hf:(List.range 8).find? fun j=>decide (1<=j)&&decide (c2o j=t.x) with
  | none =>
   have:=List.find?_eq_none.1 hf i (List.mem_range.2 h8);simp[h1,hx] at this
  | some j =>
   have h2:=List.find?_some hf;have h3:=List.mem_of_find?_eq_some hf;simp only[Bool.and_eq_true,decide_eq_true_eq] at h2;rw[List.mem_range] at h3;rw[Option.getD_some,Bool.and_eq_true,decide_eq_true_eq,decide_eq_true_eq];omega
 rw[if_neg c3];by_cases c4:t.k=5
 ·
  rw[if_pos c4];by_cases c5:(!(s.deeper t).2)=true
  ·
   rw[if_pos c5];exact fun h=>absurd h (f8m c5)
  ·
   rw[if_neg c5];obtain⟨e,h24⟩:=f8f c5;rw[e];exact⟨rfl,h24,rfl,rfl,rfl⟩
 rw[if_neg c4];by_cases c6:t.k=3
 ·
  rw[if_pos c6];exact f8y hd hN
 ·
  rw[if_neg c6];exact fun h=>absurd h (f7n (by decide))
theorem f9j {T:List Tok} {f:Nat} {lv:Nat} {a:Int} {s s':Rd} {r:Int} (h:par T f (.binL lv a) s=some (s',r)) (he:s.e≠0):s'=s:=by
 cases f with
 | zero=>cases h
 | succ f=>simp only[par] at h;rw[if_pos he] at h;exact(Prod.mk.inj (jA h)).1.symm
theorem f9k {T:List Tok} {f:Nat} {a:Int} {s s':Rd} {r:Int} (h:par T f (.pctL a) s=some (s',r)) (he:s.e≠0):s'=s:=by
 cases f with
 | zero=>cases h
 | succ f=>simp only[par] at h;rw[if_pos he] at h;exact(Prod.mk.inj (jA h)).1.symm
theorem f7u {s:Rd} {n:Nd} (hN:∀ m ∈ s.N,a1x m=true) (hc:a1x n=true):∀ m ∈ s.N ++ [n],a1x m=true:=fun m hm=>by
 rcases List.mem_append.1 hm with h | h
 ·
  exact hN m h
 ·
  rw[List.mem_singleton.1 h];exact hc
theorem f8k {N:List Nd} {A:List Int} {T:List Top} {a b l o δ:Int} (st:StD N A (T ++ [⟨a,b,l⟩])) (h0:0<=δ) (hb:b+(if l<lvI 7 o then 1 else 0)<=δ) :
  StD (N ++ [{ nd5 7 with o:=o,a:=a }]) A (T ++ [⟨N.length,δ+(if lvI 7 o=6 then 1 else 0),lvI 7 o⟩]):=by
 have h:=st.push (K:=[⟨a,b,l⟩]) { nd5 7 with o:=o,a:=a } [] δ (fun Y=>rfl) (fun h9=>absurd (show (7:Int)=9 from h9) (by decide)) rfl h0 (fun j t ht=>by
  match j,ht with
  | 0,ht =>
   obtain rfl:=jA ht;have e:f9f (shN { nd5 7 with o:=o,a:=a }) l 0=decide (l<lvI 7 o):=rfl;dsimp only;rw[e]
   simpa using hb)
 rw[List.append_nil] at h
 have e:a1v (shN { nd5 7 with o:=o,a:=a })=if lvI 7 o=6 then 1 else 0:=by
  unfold a1v;have:(shN { nd5 7 with o:=o,a:=a }).lv=lvI 7 o:=rfl;rw[this];by_cases h6:lvI 7 o=6
  ·
   rw[if_pos (Or.inr h6),if_pos h6]
  ·
   rw[if_neg (fun h=>by rcases h with h | h;exact absurd (show (7:Int)=9 from h) (by decide);exact h6 h),if_neg h6]
 rw[e] at h;exact h
theorem f8o {T:List Tok} (hR:∀ i,f7p (tokAt T i)):∀ (f:Nat) (j:Job) (s s':Rd) (r:Int),par T f j s=some (s',r)->s'.e=0->s.e=0->0<=s.d/\s.d<=24->(∀ n ∈ s.N,a1x n=true)->f9m j s s' r:=by
 intro f
 induction f with
 | zero=>intro j s s' r h;cases h
 | succ f ih =>
  intro j s s' r h he hs hd hN
  cases j with
  | bin lv =>
   intro h6 T0 hT;simp only[par] at h
   split at h
   case isTrue h5=>exact(ih .minus _ _ _ h he hs hd hN T0 hT).mono (by omega)
   case isFalse h5 =>
    split at h
    ·
     cases h
    ·
     rename_i s1 a h1
     by_cases e1:s1.e=0
     ·
      obtain⟨d1,c1,b,l,st,hb,hl⟩:=ih (.bin (lv+1)) s s1 a h1 e1 hs hd hN (by omega) T0 hT;exact(ih (.binL lv a) s1 s' r h he e1 (by rw[d1];exact hd) c1 (by omega) T0 b l st (by rw[d1];exact hb) (fun x=>by rw[d1];exact hl (by push_cast;omega))).of_d d1
     ·
      exact absurd he (by rw[f9j h e1];exact e1)
  | binL lv a =>
   intro h5 T0 b l st hb hl;simp only[par] at h;rw[if_neg (by rw[hs];simp)] at h
   split at h
   case isTrue h0 =>
    obtain⟨rfl,rfl⟩:=Prod.mk.inj (jA h);exact⟨rfl,hN,b,l,st,hb,hl⟩
   case isFalse h0 =>
    have hlv:=f9i h0
    split at h
    ·
     cases h
    ·
     rename_i s1 b1 h1
     split at h
     case isTrue e1=>exact absurd he (by rw[<-(Prod.mk.inj (jA h)).1];exact e1)
     case isFalse e1 =>
      obtain⟨d1,c1,b2,l2,st2,hb2,hl2⟩:=ih (.bin (lv+1)) { s with i:=s.i+1 } s1 b1 h1 (Decidable.not_not.1 e1) hs hd hN (by omega) (T0 ++ [⟨a,b,l⟩]) st;dsimp only at d1 hb2 hl2;rw[List.append_assoc] at st2;generalize hop:e6p (tokAt T s.i) lv=op at *;have hn:a1x { nd5 8 with o:=op,a:=a,b:=b1 }=true:=f7i rfl (by show decide (lvI 8 op<8)=true;rw[hlv];exact jD (by omega));have hnl:(shN { nd5 8 with o:=op,a:=a,b:=b1 }).lv=lv:=hlv
      have st3:=st2.push (K:=[⟨a,b,l⟩,⟨b1,b2,l2⟩]) { nd5 8 with o:=op,a:=a,b:=b1 } [] (24-s.d) (fun Y=>rfl) (fun h9=>absurd (show (8:Int)=9 from h9) (by decide)) rfl (by omega) (fun j t ht=>by
       match j,ht with
       | 0,ht =>
        obtain rfl:=jA ht
        have e:f9f (shN { nd5 8 with o:=op,a:=a,b:=b1 }) l 0=decide (l<lv):=by
         show decide (l<(shN { nd5 8 with o:=op,a:=a,b:=b1 }).lv)=_;rw[hnl]
        dsimp only;rw[e];by_cases hx:l<(lv:Int)
        ·
         rw[if_pos (by simpa using hx)];exact hl hx
        ·
         rw[if_neg (by simpa using hx)];omega
       | 1,ht =>
        obtain rfl:=jA ht
        have e:f9f (shN { nd5 8 with o:=op,a:=a,b:=b1 }) l2 1=decide (l2<=lv):=by
         show decide (l2<=(shN { nd5 8 with o:=op,a:=a,b:=b1 }).lv)=_;rw[hnl]
        dsimp only;rw[e];by_cases hx:l2<=(lv:Int)
        ·
         rw[if_pos (by simpa using hx)];exact hl2 (by push_cast;omega)
        ·
         rw[if_neg (by simpa using hx)];omega)
      rw[List.append_nil,hnl,show a1v (shN { nd5 8 with o:=op,a:=a,b:=b1 })=0 by
       unfold a1v
       rw[hnl,if_neg (fun h=>by rcases h with h | h;exact absurd (show (8:Int)=9 from h) (by decide);omega)]] at st3
      exact(ih (.binL lv _) _ s' r h he (Decidable.not_not.1 e1) (by show 0<=s1.d/\s1.d<=24;rw[d1];exact hd) (f7u c1 hn) h5 T0 _ _ st3 (by show 24-s.d+0<=24-s1.d;omega) (fun x=>absurd x (by omega))).of_d d1
  | minus =>
   intro T0 hT;simp only[par] at h
   split at h
   case isTrue=>exact(ih .pct _ _ _ h he hs hd hN T0 hT).mono (by decide)
   case isFalse =>
    split at h
    case isTrue hdp=>exact absurd he (by rw[<-(Prod.mk.inj (jA h)).1];exact f8m hdp)
    case isFalse hdp =>
     obtain⟨e0,h24⟩:=f8f hdp;rw[e0] at h
     split at h
     ·
      cases h
     ·
      rename_i s1 a h1
      split at h
      case isTrue e1=>exact absurd he (by rw[<-(Prod.mk.inj (jA h)).1];exact e1)
      case isFalse e1 =>
       obtain⟨d1,c1,b,l,st,hb,hl⟩:=ih .minus { s with i:=s.i+1,d:=s.d+1 } s1 a h1 (Decidable.not_not.1 e1) hs ⟨by show 0<=s.d+1;omega,h24⟩ hN T0 hT;dsimp only at d1 hb hl;obtain⟨rfl,rfl⟩:=Prod.mk.inj (jA h)
       have st2:=f8k (o:=13) (δ:=24-(s.d+1)) st (by omega) (by
        rw[show lvI 7 13=6 from rfl]
        split<;>omega)
       exact⟨by show s1.d-1=s.d;omega,f7u c1 (f7i rfl rfl),_,_,st2,by rw[show lvI 7 13=6 from rfl,if_pos rfl];omega,fun x=>absurd (show (6:Int)<6 from x) (by decide)⟩
  | pct =>
   intro T0 hT;simp only[par] at h
   split at h
   ·
    cases h
   ·
    rename_i s1 a h1
    by_cases e1:s1.e=0
    ·
     obtain⟨d1,c1,b,l,st,hb,hl⟩:=ih .first s s1 a h1 e1 hs hd hN T0 hT
     exact(ih (.pctL a) s1 s' r h he e1 (by rw[d1];exact hd) c1 T0 b l st (by rw[d1];exact hb) (fun x=>by rw[d1];exact hl (by omega))).of_d d1
    ·
     exact absurd he (by rw[f9k h e1];exact e1)
  | pctL a =>
   intro T0 b l st hb hl;simp only[par] at h;rw[if_neg (by rw[hs];simp)] at h
   split at h
   case isTrue =>
    obtain⟨rfl,rfl⟩:=Prod.mk.inj (jA h);exact⟨rfl,hN,b,l,st,hb,hl⟩
   case isFalse =>
    have st2:=f8k (o:=14) (δ:=24-s.d) st (by omega) (by
     rw[show lvI 7 14=7 from rfl]
     split<;>omega)
    exact(ih (.pctL _) _ s' r h he hs hd (f7u hN (f7i rfl rfl)) T0 _ _ st2 (by rw[show lvI 7 14=7 from rfl];show 24-s.d+0<=24-s.d;omega) (fun x=>absurd (show (7:Int)<7 from x) (by decide))).of_d rfl
  | first =>
   intro T0 hT;have hj:=f8n hR hd hN;simp only[par] at h
   revert hj h
   cases d7z T s with
   | done q =>
    intro h hj;obtain rfl:=jA h;exact hj he T0 hT
   | paren s1 =>
    intro h hj;obtain⟨j1,j2,j3,j4,j5⟩:=hj;dsimp only at h
    split at h
    ·
     cases h
    ·
     rename_i s2 a h1
     have hq:=jA h;unfold d9c at hq
     split at hq
     case isTrue e2=>exact absurd he (by rw[<-(Prod.mk.inj hq).1];exact e2)
     case isFalse e2 =>
      split at hq
      case isTrue=>exact absurd he (by rw[<-(Prod.mk.inj hq).1];exact f7n (by decide))
      case isFalse =>
       obtain⟨d1,c1,b,l,st,hb,hl⟩:=ih (.bin 1) s1 s2 a h1 (Decidable.not_not.1 e2) (j5.trans hs) (by omega) (by rw[j3];exact hN) (by decide) T0 (by rw[j3,j4];exact hT);obtain⟨rfl,rfl⟩:=Prod.mk.inj hq;exact⟨by show s2.d-1=s.d;omega,c1,b,l,st,by omega,fun _=>by omega⟩
   | call s1 x =>
    intro h hj;obtain⟨⟨j1,j2,j3,j4,j5⟩,j6⟩:=hj;dsimp only at h
    split at h
    ·
     cases h
    ·
     rename_i s2 c h1
     have hq:=jA h;unfold d8g at hq
     split at hq
     case isTrue e2=>exact absurd he (by rw[<-(Prod.mk.inj hq).1];exact e2)
     case isFalse e2 =>
      obtain⟨d1,c1,L,A0,eA,rfl,l20,hb,st⟩:=ih (.argsL []) s1 s2 c h1 (Decidable.not_not.1 e2) (j5.trans hs) (by omega) (by rw[j3];exact hN) T0 [] rfl (by decide) (fun t ht=>by cases ht) (by rw[j3,j4,List.append_nil];exact hT);have hal:(s2.A.length:Int)-(L.length:Int)=A0.length:=by rw[eA,jM,List.length_map];omega
      obtain⟨rfl,rfl⟩:=Prod.mk.inj hq
      have hn:a1x { nd5 9 with s:=x,b:=(L.length:Int),a:=if (0:Int)<L.length then (s2.A.length:Int)-L.length else 0 }=true:=f7i rfl (by
       show (decide ((0:Int)<=L.length)&&decide ((L.length:Int)<=20) && !(decide ((L.length:Int)=0) && !decide ((if (0:Int)<L.length then (s2.A.length:Int)-L.length else 0)=0))&&b9e x.data.toList)=true;rw[j6,jD (show (0:Int)<=L.length by omega),jD (show (L.length:Int)<=20 by omega)];by_cases h0:(L.length:Int)=0
       ·
        rw[if_neg (by omega),jD h0];rfl
       ·
        rw[jE h0];rfl)
      have st2:=st.push (K:=L) { nd5 9 with s:=x,b:=(L.length:Int),a:=if (0:Int)<L.length then (s2.A.length:Int)-L.length else 0 } (L.map Top.a) (24-(s.d+1)) (fun Y=>by
        show ((A0++(L.map Top.a++Y)).drop (if (0:Int)<L.length then (s2.A.length:Int)-L.length else 0).toNat).take ((L.length:Int)).toNat=L.map Top.a;by_cases h0:(0:Int)<L.length
        ·
         rw[if_pos h0,hal,show ((A0.length:Int)).toNat=A0.length from rfl,List.drop_left,show ((L.length:Int)).toNat=(L.map Top.a).length by rw[List.length_map];rfl,List.take_left]
        ·
         obtain rfl:L=[]:=jT (by omega)
         rfl) (fun _ hb0=>by
        have h0:(0:Int)<L.length:=hb0
        exact⟨by show (if (0:Int)<L.length then (s2.A.length:Int)-L.length else 0)=A0.length;rw[if_pos h0,hal],by show (L.length:Int)=(L.map Top.a).length;rw[List.length_map]⟩) (by
        show (if (9:Int)=9/\(0:Int)<L.length then (L.length:Int) else 0)=(L.map Top.a).length;rw[List.length_map];by_cases h0:(0:Int)<L.length
        ·
         rw[if_pos ⟨rfl,h0⟩]
        ·
         rw[if_neg (fun x=>h0 x.2)];omega) (by omega) (fun j t ht=>by
        have hm:=hb t (List.mem_of_getElem? ht);rw[show f9f (shN { nd5 9 with s:=x,b:=(L.length:Int),a:=if (0:Int)<L.length then (s2.A.length:Int)-L.length else 0 }) t.l j=false from rfl,if_neg Bool.false_ne_true]
        omega)
      rw[<-eA,show a1v (shN { nd5 9 with s:=x,b:=(L.length:Int),a:=if (0:Int)<L.length then (s2.A.length:Int)-L.length else 0 })=1 from rfl] at st2;exact⟨by show s2.d-1=s.d;omega,f7u c1 hn,_,_,st2,by omega,fun hx=>absurd (show (8:Int)<8 from hx) (by decide)⟩
  | argsL l =>
   intro T0 L hL h20 hb st;simp only[par] at h
   split at h
   case isTrue hc =>
    obtain⟨rfl,rfl⟩:=Prod.mk.inj (jA h);obtain rfl:L=[]:=List.map_eq_nil_iff.1 (hL.trans hc.2);exact⟨rfl,hN,[],s.A,by simp,rfl,by decide,fun t ht=>(by cases ht),st⟩
   case isFalse hc =>
    split at h
    case isTrue=>exact absurd he (by rw[<-(Prod.mk.inj (jA h)).1];exact f7n (by decide))
    case isFalse hl20 =>
     split at h
     ·
      cases h
     ·
      rename_i s1 a h1
      split at h
      case isTrue e1=>exact absurd he (by rw[<-(Prod.mk.inj (jA h)).1];exact e1)
      case isFalse e1 =>
       obtain⟨d1,c1,b,l0,st1,hb1,_⟩:=ih (.bin 1) s s1 a h1 (Decidable.not_not.1 e1) hs hd hN (by decide) (T0++L) st;have hlen:L.length=l.length:=by rw[<-hL,List.length_map]
       have hb':∀ t ∈ L ++ [(⟨a,b,l0⟩:Top)],t.b<=24-s.d:=fun t ht=>by
        rcases List.mem_append.1 ht with h2 | h2
        ·
         exact hb t h2
        ·
         rw[List.mem_singleton.1 h2];exact hb1
       have hmap:(L ++ [(⟨a,b,l0⟩:Top)]).map Top.a=l ++ [a]:=by rw[List.map_append,hL];rfl
       rw[List.append_assoc] at st1
       split at h
       case isTrue =>
        obtain⟨rfl,rfl⟩:=Prod.mk.inj (jA h);exact⟨d1,c1,L ++ [⟨a,b,l0⟩],s1.A,by rw[hmap],by rw[jM,jM,hlen];rfl,by rw[jM];simp;omega,hb',st1⟩
       case isFalse =>
        split at h
        case isTrue=>exact absurd he (by rw[<-(Prod.mk.inj (jA h)).1];exact f7n (by decide))
        case isFalse =>
         obtain⟨g1,g2,L',A0,g3,g4,g5,g6,g7⟩:=ih (.argsL (l ++ [a])) { s1 with i:=s1.i+1 } s' r h he (Decidable.not_not.1 e1) (by show 0<=s1.d/\s1.d<=24;rw[d1];exact hd) c1 T0 (L ++ [⟨a,b,l0⟩]) hmap (by rw[jM];simp;omega) (fun t ht=>by show t.b<=24-s1.d;rw[d1];exact hb' t ht) st1;exact⟨g1.trans d1,g2,L',A0,g3,g4,g5,fun t ht=>by have:=g6 t ht;dsimp only at this;omega,g7⟩
def f8c (D:List UInt8->jW × jW × Int):Prop:=∀ l,(D l).2.2=0->amB false (D l).1 (D l).2.1=true
theorem f7g {t:Tok} (h1:t.k≠1) (h2:t.k≠2) (h3:t.k≠10):f7p t:=⟨fun h=>absurd h h1,fun h=>absurd h h2,fun h=>absurd h h3⟩
theorem f9g (l:List UInt8) (h:d7q l≠[]):∃ i,1<=i/\i<8/\c2o i=c3x (d7q l):=by
 unfold d7q at h |-
 have key:∀ (q:List Nat) (b:List UInt8),(b≠[]->∃ i,1<=i/\i<8/\c2o i=c3x b)->(∀ i ∈ q,i<8) ->
   (q.foldl (fun b i=>if (c2o i).size > b.length/\(c2o i).data.toList.isPrefixOf l then (c2o i).data.toList else b) b)≠[]->∃ i,1<=i/\i<8/\c2o i=c3x (q.foldl (fun b i=>if (c2o i).size > b.length/\(c2o i).data.toList.isPrefixOf l then (c2o i).data.toList else b) b):=by
  intro q
  induction q with
  | nil=>intro b hb _ h;exact hb h
  | cons i q ih =>
   intro b hb hq;refine ih _ ?_ (fun j hj=>hq j (List.mem_cons_of_mem _ hj));dsimp only
   split
   ·
    rename_i h
    intro _;refine⟨i,?_,hq i (List.mem_cons_self ..),?_⟩
    ·
     match i,h with
     | 0,h=>exact absurd h.1 (by rw[show (c2o 0).size=0 from rfl];omega)
     | i+1,_=>omega
    ·
     unfold c3x;rw[Array.toArray_toList]
   ·
    exact hb
 exact key _ [] (fun h=>absurd rfl h) (fun i hi=>by simpa using hi) h
theorem f8l {D:List UInt8->jW × jW × Int} (hD:f8c D) {l:List UInt8} {a0:Nat} (he:(d7l D l a0).2.2=0):f7p (d7l D l a0).1:=by
 unfold d7l at he |-
 dsimp only at he |-
 generalize a0+((l.drop a0).takeWhile (· == 32)).length=a at *
 cases hd:l.drop a with
 | nil=>exact f7g (by show (0:Int)≠1;decide) (by show (0:Int)≠2;decide) (by show (0:Int)≠10;decide)
 | cons c r =>
  rw[hd] at he;dsimp only at he |-
  by_cases c1:Nt.isDig c=true
  ·
   rw[if_pos c1] at he |-
   generalize (if l.getD (dgE l a) 0=46/\dgE l a+1<l.length/\Nt.isDig (l.getD (dgE l a+1) 0)=true then dgE l (dgE l a+1) else dgE l a)=u at he |-
   by_cases c5:(D (((c :: r)).take (u-a))).2.2=0
   ·
    rw[if_pos c5];exact⟨fun _=>hD _ c5,fun h=>absurd (show (1:Int)=2 from h) (by decide),fun h=>absurd (show (1:Int)=10 from h) (by decide)⟩
   ·
    rw[if_neg c5] at he;exact absurd he c5
  rw[if_neg c1] at he |-
  by_cases c2:c=34
  ·
   rw[if_pos c2] at he |-
   cases ht:txE r [] 1 with
   | none=>rw[ht] at he;simp at he
   | some q =>
    obtain⟨x,n⟩:=q;rw[ht] at he;dsimp only at he |-
    by_cases c3:b7h (c3x x)=true
    ·
     rw[if_pos c3];exact⟨fun h=>absurd (show (2:Int)=1 from h) (by decide),fun _=>c3,fun h=>absurd (show (2:Int)=10 from h) (by decide)⟩
    ·
     rw[if_neg c3] at he;simp at he
  rw[if_neg c2] at he |-
  by_cases c3:c=35
  ·
   rw[if_pos c3] at he |-
   by_cases c4:d7q (c :: r)=[]
   ·
    rw[if_pos c4] at he;simp at he
   ·
    rw[if_neg c4];exact⟨fun h=>absurd (show (10:Int)=1 from h) (by decide),fun h=>absurd (show (10:Int)=2 from h) (by decide),fun _=>f9g _ c4⟩
  rw[if_neg c3] at he |-
  by_cases c4:d7f c=true
  ·
   rw[if_pos c4];exact f7g (by show (3:Int)≠1;decide) (by show (3:Int)≠2;decide) (by show (3:Int)≠10;decide)
  rw[if_neg c4] at he |-
  by_cases c5:(c :: r).take 2=[60,62]\/(c :: r).take 2=[60,61]\/(c :: r).take 2=[62,61]
  ·
   rw[if_pos c5];exact f7g (by show (4:Int)≠1;decide) (by show (4:Int)≠2;decide) (by show (4:Int)≠10;decide)
  rw[if_neg c5] at he |-
  by_cases c6:d8m c=0
  ·
   rw[if_pos c6] at he;simp at he
  ·
   rw[if_neg c6]
   have hs:∀ z:Int,z=1\/z=2\/z=10->d8m c≠z:=fun z hz h=>by
    unfold d8m at h
    (repeat' split at h)<;>omega
   exact f7g (hs 1 (Or.inl rfl)) (hs 2 (Or.inr (Or.inl rfl))) (hs 10 (Or.inr (Or.inr rfl)))
theorem f8p {D:List UInt8->jW × jW × Int} (hD:f8c D) {l:List UInt8} : ∀ (n a:Nat) (out:List Tok),(∀ t ∈ out,f7p t)->∀ t ∈ (e2o D l n a out).1,f7p t:=by
 intro n
 induction n with
 | zero=>intro a out ho t ht;exact ho t ht
 | succ n ih =>
  intro a out ho t ht;rw[e2o] at ht;try dsimp only at ht
  by_cases c1:(d7l D l a).2.2≠0
  ·
   rw[if_pos c1] at ht;cases ht
  rw[if_neg c1] at ht;have q:=f8l hD (l:=l) (a0:=a) (by simpa using c1)
  have ho':∀ t ∈ out ++ [(d7l D l a).1],f7p t:=fun t ht=>by
   rcases List.mem_append.1 ht with h | h
   ·
    exact ho t h
   ·
    rw[List.mem_singleton.1 h];exact q
  by_cases c2:(d7l D l a).1.k=0
  ·
   rw[if_pos c2] at ht;exact ho' t ht
  ·
   rw[if_neg c2] at ht;exact ih _ _ ho' t ht
theorem f8q {D:List UInt8->jW × jW × Int} (hD:f8c D) (l:List UInt8) (i:Nat):f7p (tokAt (e2p D l).1 i):=by
 unfold tokAt;rw[jJ]
 cases h:(e2p D l).1[i]? with
 | none=>exact f7g (by show (0:Int)≠1;decide) (by show (0:Int)≠2;decide) (by show (0:Int)≠10;decide)
 | some t =>
  have ht:=List.mem_of_getElem? h;unfold e2p at ht
  split at ht
  ·
   cases ht
  ·
   exact f8p hD _ _ _ (fun t h=>by cases h) t ht
theorem f8r {D:List UInt8->jW × jW × Int} (hD:DOk D) (hR:f8c D) {l:List UInt8} {f:Nat} {N:List Nd} {A:List Int} {p:Nat} (h:f2f D l f=some (N,A,p,0)):a0w N A=true:=by
 unfold f2f at h;dsimp only at h;by_cases c:(e2p D l).2.2≠0
 ·
  rw[if_pos c] at h;exact absurd (show (e2p D l).2.2=0 by have:=jA h;simp only[Prod.mk.injEq] at this;exact this.2.2.2) c
 rw[if_neg c] at h;obtain⟨hT,h1,h3⟩:=e7p hD (by simpa using c)
 split at h
 ·
  cases h
 ·
  rename_i s a hp
  have g:=d7a hT f (.bin 1) rd0 s a hp (by have:=hT.h1;show 0<_;omega) (fun m hm=>by cases hm);generalize hs:(if s.e=0/\(tokAt (e2p D l).1 s.i).k≠0 then s.wrong (tokAt (e2p D l).1 s.i) 10 else s)=s1 at h;by_cases c2:s1.e≠0
  ·
   rw[if_pos c2] at h;exact absurd (show s1.e=0 by have:=jA h;simp only[Prod.mk.injEq] at this;exact this.2.2.2) c2
  rw[if_neg c2] at h
  have he:s1=s:=by
   split at hs
   ·
    exact absurd (Decidable.not_not.1 c2) (by rw[<-hs];exact f7n (by decide))
   ·
    exact hs.symm
  subst he;have hq:=f8o (f8q hR l) f (.bin 1) rd0 s1 a hp (Decidable.not_not.1 c2) rfl ⟨by decide,by decide⟩ (fun n hn=>by cases hn) (by decide) [] ⟨fun X Y=>⟨[],rfl,fun t ht=>by cases ht⟩,fun t ht=>by cases ht⟩
  obtain⟨d1,c1,b,l0,st,hb,_⟩:=hq;obtain⟨rfl,rfl,-⟩:s1.N=N/\s1.A=A/\_:=by have:=jA h;simp only[Prod.mk.injEq] at this;exact⟨this.1,this.2.1,trivial⟩
  have gn:=g.n;have gl:=g.l;have z1:rd0.N.length=0:=rfl;have z3:rd0.i=0:=rfl;rw[List.nil_append] at st;exact f8b st (by have:rd0.d=0:=rfl;omega) (by omega) c1
theorem f8s {p:Nat} (hp:2<=p):∀ (n:Nat),n≠0->∃ k,Nt.IsVl p n k:=by
 intro n
 induction n using Nat.strongRecOn with
 | _ n ih =>
  intro hn;by_cases h:p ∣ n
  ·
   obtain⟨m,rfl⟩:=h;have hm:m≠0:=fun h=>hn (by rw[h,Nat.mul_zero])
   obtain⟨k,h1,h2⟩:=ih m (by
    have:=Nat.mul_le_mul_right m hp
    omega) hm
   refine⟨k+1,?_,fun h3=>h2 ?_⟩
   ·
    rw[jN,jK];exact Nat.mul_dvd_mul_left p h1
   ·
    rw[jN,jK] at h3;exact Nat.dvd_of_mul_dvd_mul_left (by omega) h3
  ·
   exact⟨0,by rw[Nat.pow_zero];exact Nat.one_dvd _,by rw[Nat.zero_add,Nat.pow_one];exact h⟩
theorem f9h {a b:Nat} (hb:b≠0):Nat.gcd (a/Nat.gcd a b) (b/Nat.gcd a b)=1 :=
 Nat.Coprime.eq_1 _ _ ▸ Nat.coprime_div_gcd_div_gcd (Nat.gcd_pos_of_pos_right a (Nat.pos_of_ne_zero hb))
theorem f8t:f8c d9p:=by
 intro l h;unfold d9p at h |-
 dsimp only at h |-
 split at h
 ·
  cases h
 ·
  rename_i hc
  rw[if_neg hc];dsimp only at h |-
  generalize l.takeWhile (e3c 46)++l.drop ((l.takeWhile (e3c 46)).length+1)=z at *;generalize (l.drop ((l.takeWhile (e3c 46)).length+1)).length=k at *;have hng:=f0r (Nt.dv z) (10^k);generalize hx:((Nt.dv z:Nat):Int)=x at *;generalize hy:((10^k:Nat):Int)=y at *;have hpos:0<10^k:=jO (by decide);have hy0:y≠0:=by omega
  have hb : ¬ (256<Nt.blen (mkN x y)\/256<Nt.blen (mkD x y)):=fun hb=>by rw[(c8q hy0 hb).2] at h;cases h
  obtain⟨e1,_⟩:=c6t hy0 hb;have hyn:y.natAbs=10^k:=by rw[<-hy];rfl
  have hg:=Nat.gcd_pos_of_pos_right x.natAbs (show 0<y.natAbs by omega)
  have hd0:mkD x y≠0:=by
   have:=Nat.div_pos (Nat.le_of_dvd (show 0<y.natAbs by omega) (Nat.gcd_dvd_right x.natAbs y.natAbs)) hg;unfold mkD;omega
  have hdv:mkD x y ∣ 10^k:=by
   rw[<-hyn];exact Nat.div_dvd_of_dvd (Nat.gcd_dvd_right x.natAbs y.natAbs)
  have hn1:rb (mkR x y)=false:=hng;rw[e1] at hn1 |-
  have v1:Nt.V (rn ⟨(zb x != zb y)&&decide (mkN x y≠0),mkN x y,mkD x y⟩)=mkN x y:=Nt.V_E _;have v2:Nt.V (rd ⟨(zb x != zb y)&&decide (mkN x y≠0),mkN x y,mkD x y⟩)=mkD x y:=Nt.V_E _;unfold amB;rw[(a1p _ _ _).2 ⟨by rw[v1];rfl,by rw[v2];rfl,by rw[v2];exact hd0,by rw[v1,v2];exact f9h (by omega),by rw[v1];show Nt.blen (mkN x y)<=256;omega,by rw[v2];show Nt.blen (mkD x y)<=256;omega,fun _=>rfl⟩,v2]
  obtain⟨t,ht⟩:=f8s (show 2<=2 by decide) (mkD x y) hd0;obtain⟨q,hq⟩:=f8s (show 2<=5 by decide) (mkD x y) hd0;rw[c7x hd0 (by omega) ht hq,jD (b0d ht hq hdv).symm];rfl
end Go.Proofs.YtibiacmbljgmhaaGreatDoor
