/-
  
  
  
  
  
  
-/
import Derived.Test.YtibiacmbljgmhaaGreatDoorRewa
import Derived.Test.YtibiacmbljgmhaaGreatDoorCel8
namespace Go.Proofs.YtibiacmbljgmhaaGreatDoor
open Go.RowKit Go.Shelf
set_option linter.all false
theorem e4v {n:Nd} (h:a1x n=true):n=a0s n/\a4i n=true:=by
 unfold a1x at h;rw[Bool.and_eq_true] at h;exact⟨(a2o _ _).1 h.2,h.1⟩
theorem f4a {n:Nd} (h:a1x n=true) (hk:n.k=5):n=⟨5,0,0,0,false,⟨#[]⟩,⟨#[]⟩,⟨#[]⟩,false,n.r,rf0⟩/\a8g n.r.sh n.r.c n.r.r=true:=by
 obtain⟨hb,hu⟩:=e4v h;unfold a0s at hb;unfold a4i at hu;rw[hk] at hb hu;exact⟨hb,hu⟩
theorem f4b {n:Nd} (h:a1x n=true) (hk:n.k=6):n=⟨6,0,0,0,false,⟨#[]⟩,⟨#[]⟩,⟨#[]⟩,false,n.r,n.t⟩/\a8z n.r.c n.r.r n.t.c n.t.r=0/\n.r.c<=n.t.c/\n.r.r<=n.t.r/\n.t.sh=⟨#[]⟩:=by
 obtain⟨hb,hu⟩:=e4v h;unfold a0s at hb;unfold a4i at hu;rw[hk] at hb hu;have hu:arB n.r n.t=true:=hu;unfold arB at hu;simp only[Bool.and_eq_true,decide_eq_true_eq] at hu;obtain⟨⟨⟨h1,_⟩,_⟩,h4⟩:=hu;obtain⟨e1,e2,e3⟩:=(a7h _ _ _ _).1 h1;exact⟨hb,e1,e2,e3,by have:=ByteArray.size_eq_zero_iff.1 h4;exact this⟩
theorem e9w {a b:Rf} (h1:a.c<=b.c) (h2:a.r<=b.r):d7o a b=(a,b):=by
 have e:e0m a b=(a,b):=if_neg (by omega);unfold d7o;rw[e];exact if_neg (by dsimp only;omega)
def GotOwn (N:List Nd) (A:List Int) (c:Int) (w:World) (e:Ending) (w':World):Prop:=(∃ us vs,e=.returned (.tuple #[.agg #[us,vs],I6 c])/\w'.ownsRow w.heap.size 69 19 us N.length (nodeL N)/\w'.ownsRow w.heap.size 3 1 vs A.length (intL A))/\Bl w w'
theorem d9r {c:Int} {w w':World} (hb:Bl w w'):GotOwn [] [] c w (.returned (.tuple #[.agg #[.slice none 0 0,.slice none 0 0],I6 c])) w':=⟨⟨_,_,rfl,World.ownsRow_nil _ _ _ _,World.ownsRow_nil _ _ _ _⟩,hb⟩
theorem GotOwn.got {N:List Nd} {A:List Int} {c:Int} {w:World} {e:Ending} {w':World} (h:GotOwn N A c w e w'):d8s N A c w e w':=by
 obtain⟨⟨us,vs,he,h1,h2⟩,hb⟩:=h;exact⟨⟨us,vs,he,(NodesAt.of_owns h1).2,(IntsAt.of_owns h2).2⟩,hb⟩
set_option maxHeartbeats 16000000
set_option maxRecDepth 100000
abbrev f1j (own sheet:ByteArray) (way a n:Int) (K1 K2:Nat):Value:=.agg #[Sg own,Sg sheet,I6 way,I6 a,I6 n,.func (.func K1) #[] #[],.func (.func K2) #[] #[]]
theorem e8j (own sheet:ByteArray) (way a n:Int) (K1 K2:Nat) (w:World):Calls Tryz.prog 75 #[f1j own sheet way a n K1 K2] w fun e w'=>e=.returned (Bv (d8b way a n))/\Bl w w':=by
 have hud:=hUd;obtain⟨R,hR⟩:=nM (d8b way a n);rw[<-hR];unfold d8b at hR
 have hL:((way==0)=true/\d7d way=52)\/((way==0)=false/\(way==1)=true/\d7d way=99)\/((way==0)=false/\(way==1)=false/\d7d way=0):=by
  by_cases h:way=0
  ·
   exact Or.inl ⟨by simpa using h,if_pos h⟩
  ·
   by_cases h1:way=1
   ·
    exact Or.inr (Or.inl ⟨by simpa using h,by simpa using h1,(if_neg h).trans (if_pos h1)⟩)
   ·
    exact Or.inr (Or.inr ⟨by simpa using h,by simpa using h1,(if_neg h).trans (if_neg h1)⟩)
 rcases hL with ⟨w0,e⟩ | ⟨w0,w1,e⟩ | ⟨w0,w1,e⟩
 case inl =>
  rw[e] at hR;clear e
  cases h1:decide (1<=a)<;>cases h2:decide (a<=52)<;>cases h3:decide (1<=n)<;>cases h4:decide (n<=52)
  all_goals
   rw[h1,h2,h3,h4] at hR;have HR:=zh hR;clear hR;go_enter Tryz.func75,Tryz.ntmps75
   go_upto_region 1 with fail
   obtain⟨s1,C,hws,hdC,hsz,zC⟩:=nm1 w (.cells #[Sg own,Sg sheet,I6 way,I6 a,I6 n,.func (.func K1) #[] #[],.func (.func K2) #[] #[]] 82);have yC:=by0 (b:=C) hws hdC;have hBo:=bs1 bR hws;rw[<-hws];try rw[<-hdC]
   clear hws hsz hdC;go_wp2_with fail
   go_ret
   exact⟨a0d HR.out.symm,hBo⟩
 case inr.inl =>
  rw[e] at hR;clear e
  cases h1:decide (1<=a)<;>cases h2:decide (a<=99)<;>cases h3:decide (1<=n)<;>cases h4:decide (n<=99)
  all_goals
   rw[h1,h2,h3,h4] at hR;have HR:=zh hR;clear hR;go_enter Tryz.func75,Tryz.ntmps75
   go_upto_region 1 with fail
   obtain⟨s2,C,hws,hdC,hsz,zC⟩:=nm1 w (.cells #[Sg own,Sg sheet,I6 way,I6 a,I6 n,.func (.func K1) #[] #[],.func (.func K2) #[] #[]] 82);have yC:=by0 (b:=C) hws hdC;have hBo:=bs1 bR hws;rw[<-hws];try rw[<-hdC]
   clear hws hsz hdC;go_wp2_with fail
   go_ret
   exact⟨a0d HR.out.symm,hBo⟩
 case inr.inr =>
  rw[e] at hR;clear e
  cases h1:decide (1<=a)<;>cases h2:decide (a<=0)<;>cases h3:decide (1<=n)<;>cases h4:decide (n<=0)
  all_goals
   rw[h1,h2,h3,h4] at hR;have HR:=zh hR;clear hR;go_enter Tryz.func75,Tryz.ntmps75
   go_upto_region 1 with fail
   obtain⟨s3,C,hws,hdC,hsz,zC⟩:=nm1 w (.cells #[Sg own,Sg sheet,I6 way,I6 a,I6 n,.func (.func K1) #[] #[],.func (.func K2) #[] #[]] 82);have yC:=by0 (b:=C) hws hdC;have hBo:=bs1 bR hws;rw[<-hws];try rw[<-hdC]
   clear hws hsz hdC;go_wp2_with fail
   go_ret
   exact⟨a0d HR.out.symm,hBo⟩
theorem e6l (own sheet:ByteArray) (way a n:Int) (K1 K2:Nat) (HCF:∀ (x y z t:Value) (w:World),(callFunc K1 #[x,y,z,t]).run Tryz.prog w=.ok (.enter K1 #[x,y,z,t]) w) (r:Rf) (q:Rf × Bool) (w:World)
  (h0:e6j own sheet r=false->q=(r,true)) (h1:e6j own sheet r=true->∀ w,Calls Tryz.prog K1 #[.agg #[Sg r.sh,I6 r.c,I6 r.r,Bv r.fc,Bv r.fr],I6 way,I6 a,I6 n] w fun e w'=>e=.returned (.tuple #[.agg #[Sg q.1.sh,I6 q.1.c,I6 q.1.r,Bv q.1.fc,Bv q.1.fr],Bv q.2])/\Bl w w') :
  Calls Tryz.prog 76 #[f1j own sheet way a n K1 K2,.agg #[Sg r.sh,I6 r.c,I6 r.r,Bv r.fc,Bv r.fr]] w fun e w'=>e=.returned (.tuple #[.agg #[Sg q.1.sh,I6 q.1.c,I6 q.1.r,Bv q.1.fc,Bv q.1.fr],Bv q.2])/\Bl w w':=by
 have hud:=hUd;have hp:=fun w=>d8h own sheet r w
 obtain⟨⟨csh,cc,cr,cf,cg⟩,p⟩:=q;obtain⟨rs,rc,rr,rf,rg⟩:=r;dsimp only at h0 h1 hp |-
 cases hT:e6j own sheet ⟨rs,rc,rr,rf,rg⟩ with
 | false =>
  rw[hT] at hp;have HP:=zh hp;have h:=h0 hT;simp only[Prod.mk.injEq,Rf.mk.injEq] at h;obtain⟨⟨rfl,rfl,rfl,rfl,rfl⟩,rfl⟩:=h;clear h0 h1 hp hT;go_enter Tryz.func76,Tryz.ntmps76
  go_upto_region 1 with fail
  obtain⟨s4,C,A,R,hws,hdC,hdA,hdR,hsz,zC,zA,zR⟩:=nm3 w (.cells #[Sg own,Sg sheet,I6 way,I6 a,I6 n,.func (.func K1) #[] #[],.func (.func K2) #[] #[]] 82) (.cells #[Sg csh,I6 cc,I6 cr,Bv cf,Bv cg] 67) (.cells #[S0,I6 0,I6 0,Bv false,Bv false] 67);have dRC:R≠C:=by omega
  have dRA:R≠A:=by omega
  have yC:=by2 (b:=C) hws hdC;have yA:=by1 (b:=A) hws (by simp[hdA]);have yR:=by0 (b:=R) hws (by simp[hdR]);have fR:=bf0 (b:=R) hws (by simp[hdR]);have lR:w.heap.size<=R:=by omega
  have hBo:=bs3 bR hws;rw[<-hws];try rw[<-hdR]
  try rw[<-hdA]
  try rw[<-hdC]
  clear hws hsz hdC hdA hdR;go_wp2_with fail;refine cAn (HP.out _) fun w5 hb=>?_
  replace yA:=eqB hb yA zA;replace yR:=eqB hb yR zR;replace fR:=fun j=>a0g hb (fR j) zR
  replace hBo:=f4s hBo hb;clear hb
  all_goals go_wp2_with fail
  all_goals refine bodyPost_ret (v:=.tuple #[.agg #[Sg csh,I6 cc,I6 cr,Bv cf,Bv cg],Bv true]) (by simp[results,Tryz.results76,go_sem,yR]) rfl ⟨rfl,?_⟩
  all_goals exact(sc5 hBo lR)
 | true =>
  rw[hT] at hp;have HP:=zh hp;have HC:=zh (h1 hT);clear h0 h1 hp hT;go_enter Tryz.func76,Tryz.ntmps76
  go_upto_region 1 with fail
  obtain⟨s5,C,A,R,hws,hdC,hdA,hdR,hsz,zC,zA,zR⟩:=nm3 w (.cells #[Sg own,Sg sheet,I6 way,I6 a,I6 n,.func (.func K1) #[] #[],.func (.func K2) #[] #[]] 82) (.cells #[Sg rs,I6 rc,I6 rr,Bv rf,Bv rg] 67) (.cells #[S0,I6 0,I6 0,Bv false,Bv false] 67);have dRC:R≠C:=by omega
  have dRA:R≠A:=by omega
  have yC:=by2 (b:=C) hws hdC;have yA:=by1 (b:=A) hws (by simp[hdA]);have yR:=by0 (b:=R) hws (by simp[hdR]);have fR:=bf0 (b:=R) hws (by simp[hdR]);have lR:w.heap.size<=R:=by omega
  have hBo:=bs3 bR hws;rw[<-hws];try rw[<-hdR]
  try rw[<-hdA]
  try rw[<-hdC]
  clear hws hsz hdC hdA hdR;go_wp2_with fail;refine cAn (HP.out _) fun w5 hb=>?_
  replace yC:=eqB hb yC zC;replace yA:=eqB hb yA zA;replace yR:=eqB hb yR zR;replace fR:=fun j=>a0g hb (fR j) zR;replace zR:=zHl hb zR
  replace hBo:=f4s hBo hb;clear hb;go_wp2_with fail;refine cAn (HC.out _) fun w6 hb=>?_
  replace yR:=eqB hb yR zR;replace fR:=fun j=>a0g hb (fR j) zR
  replace hBo:=f4s hBo hb;clear hb
  all_goals go_wp2_with fail
  all_goals refine bodyPost_ret (v:=.tuple #[.agg #[Sg csh,I6 cc,I6 cr,Bv cf,Bv cg],Bv p]) (by simp[results,Tryz.results76,go_sem,yR,zR]) rfl ⟨rfl,?_⟩
  all_goals exact(sc5 hBo lR)
def f1o (way a n:Int) (r:Rf):Rf × Bool:=(e8m r way a n,e2b r way a n)
def f1p (way a n:Int) (r:Rf):Rf × Bool:=(e8n r way a n,d9n r way a n)
def chF (own sheet:ByteArray) (p:Rf->Rf × Bool) (n:Nd):Rf × Bool:=if e6j own sheet n.r=true then p n.r else (n.r,true)
def chQ (way a n:Int) (fo:Nd->Rf × Bool) (fb:Nd->Rf × Rf × Bool) (N:List Nd) (A:List Int):List Nd × List Int × Int:=if a0w N A=false then ([],[],3) else if d8b way a n=false then ([],[],2) else (N.map (e2a fo fb),A,0)
theorem f3l (x y:Value) (w:World):(callFunc 76 #[x,y]).run Tryz.prog w=.ok (.enter 76 #[x,y]) w:=by kernel_rfl
theorem f3m (x y z:Value) (w:World):(callFunc 77 #[x,y,z]).run Tryz.prog w=.ok (.enter 77 #[x,y,z]) w:=by kernel_rfl
theorem e2z (own sheet:ByteArray) (way a n:Int) (K1 K2:Nat) (fo:Nd->Rf × Bool) (fb:Nd->Rf × Rf × Bool) (u v:Value) (N:List Nd) (A:List Int) (w:World) (hN:NodesAt w u N) (hA:IntsAt w v A) (hf:∀ n ∈ N,Fits n) (hnm:NamesAt w) (hl:A.length<=1000) (hl2:N.length<=1000)
  (h1:a0w N A=true->d8b way a n=true->∀ m ∈ N,m.k=5->∀ w,Calls Tryz.prog 76 #[f1j own sheet way a n K1 K2,.agg #[Sg m.r.sh,I6 m.r.c,I6 m.r.r,Bv m.r.fc,Bv m.r.fr]] w fun e w'=>e=.returned (.tuple #[.agg #[Sg ((fo m).1).sh,I6 ((fo m).1).c,I6 ((fo m).1).r,Bv ((fo m).1).fc,Bv ((fo m).1).fr],Bv (fo m).2])/\Bl w w')
  (h2:a0w N A=true->d8b way a n=true->∀ m ∈ N,m.k=6->∀ w,Calls Tryz.prog 77 #[f1j own sheet way a n K1 K2,.agg #[Sg m.r.sh,I6 m.r.c,I6 m.r.r,Bv m.r.fc,Bv m.r.fr],.agg #[Sg m.t.sh,I6 m.t.c,I6 m.t.r,Bv m.t.fc,Bv m.t.fr]] w fun e w'=>e=.returned (.tuple #[.agg #[Sg ((fb m).1).sh,I6 ((fb m).1).c,I6 ((fb m).1).r,Bv ((fb m).1).fc,Bv ((fb m).1).fr],.agg #[Sg ((fb m).2.1).sh,I6 ((fb m).2.1).c,I6 ((fb m).2.1).r,Bv ((fb m).2.1).fc,Bv ((fb m).2.1).fr],Bv (fb m).2.2])/\Bl w w') :
  Calls Tryz.prog 37 #[.agg #[u,v],f1j own sheet way a n K1 K2] w (GotOwn (chQ way a n fo fb N A).1 (chQ way a n fo fb N A).2.1 (chQ way a n fo fb N A).2.2 w):=by
 have hud:=hUd;have hr:=fun W h1 h2 h3=>a3y u v N A W h1 h2 hf h3 hl hl2
 have hmb:=fun w=>e8j own sheet way a n K1 K2 w
 have hfw:=fun W (hn:0<N.length) hR hM h3 h4=>e1g u v 76 77 (f1j own sheet way a n K1 K2) (f1j own sheet way a n K1 K2) f3l f3m fo fb N A W h3 h4 hl hl2 hn (h1 hR hM) (h2 hR hM)
 have HN:=zh hN;have HA:=zh hA;have HM:=zh hnm;obtain⟨Po,hPo⟩:=nM (GotOwn (chQ way a n fo fb N A).1 (chQ way a n fo fb N A).2.1 (chQ way a n fo fb N A).2.2 w);rw[<-hPo];obtain⟨F1,hF1⟩:=nM (Value.func (.func K1) #[] #[]);obtain⟨F2,hF2⟩:=nM (Value.func (.func K2) #[] #[]);unfold f1j at hmb hfw |-
 rw[<-hF1,<-hF2] at hmb hfw |-
 clear hF1 hF2 h1 h2
 cases hR:a0w N A with
 | false =>
  rw[hR] at hr;have HR:=zh hr;have HPO:Hid (Po=GotOwn [] [] 3 w):=zh (hPo.trans (by unfold chQ;rw[if_pos hR]));clear hr hR hN hA hf hPo hnm hmb hfw;go_enter Tryz.func37,Tryz.ntmps37
  go_upto_region 1 with fail
  obtain⟨s6,F,C,R,hws,hdF,hdC,hdR,hsz,zF,zC,zR⟩:=nm3 w (.cells #[u,v] 25) (.cells #[Sg own,Sg sheet,I6 way,I6 a,I6 n,F1,F2] 82) (.cells #[.slice none 0 0,.slice none 0 0] 25);have hN:=bx2 (b:=F) hws hdF;have kF0:=hN 0 _ rfl;have kF1:=hN 1 _ rfl;clear hN;have hN:=bx0 (b:=R) hws (by simp[hdR]);have hM:=bf0 (b:=R) hws (by simp[hdR]);have kR0:=hN 0 _ rfl;have kR1:=hN 1 _ rfl;have fR0:=hM 0;have fR1:=hM 1;clear hN hM;have lR:w.heap.size<=R:=by omega
  have hBo:=bs3 bR hws;rw[<-hws];try rw[<-hdR]
  try rw[<-hdC]
  try rw[<-hdF]
  clear hws hsz hdF hdC hdR;go_wp2_with fail;refine cAn (HR.out _ (HN.out.below hBo) (HA.out.below hBo) (HM.out.below hBo)) fun w5 hb=>?_
  replace kR0:=a0f hb kR0 zR;replace kR1:=a0f hb kR1 zR;replace fR0:=a0g hb fR0 zR;replace fR1:=a0g hb fR1 zR;replace hBo:=f4s hBo hb;clear hb;go_wp2_with fail;refine bodyPost_ret (v:=.tuple #[.agg #[.slice none 0 0,.slice none 0 0],I6 3]) (by simp[results,Tryz.results37,go_sem,kR0,kR1,fR0,fR1]) rfl ?_;rw[HPO.out];exact d9r (sc2 hBo lR)
 | true =>
  have hS:=b3v hR;rw[hR] at hr;have HR:=zh hr
  cases hM:d8b way a n with
  | false =>
   rw[hM] at hmb;have HMB:=zh hmb;have HPO:Hid (Po=GotOwn [] [] 2 w):=zh (hPo.trans (by unfold chQ;rw[if_neg (by rw[hR];simp),if_pos hM]));clear hr hR hM hN hA hf hPo hnm hmb hfw hS;go_enter Tryz.func37,Tryz.ntmps37
   go_upto_region 1 with fail
   obtain⟨s7,F,C,R,hws,hdF,hdC,hdR,hsz,zF,zC,zR⟩:=nm3 w (.cells #[u,v] 25) (.cells #[Sg own,Sg sheet,I6 way,I6 a,I6 n,F1,F2] 82) (.cells #[.slice none 0 0,.slice none 0 0] 25);have hN:=bx2 (b:=F) hws hdF;have kF0:=hN 0 _ rfl;have kF1:=hN 1 _ rfl;clear hN;have yC:=by1 (b:=C) hws (by simp[hdC]);have hN:=bx0 (b:=R) hws (by simp[hdR]);have hM:=bf0 (b:=R) hws (by simp[hdR]);have kR0:=hN 0 _ rfl;have kR1:=hN 1 _ rfl;have fR0:=hM 0;have fR1:=hM 1;clear hN hM;have lR:w.heap.size<=R:=by omega
   have hBo:=bs3 bR hws;rw[<-hws];try rw[<-hdR]
   try rw[<-hdC]
   try rw[<-hdF]
   clear hws hsz hdF hdC hdR;go_wp2_with fail;refine cAn (HR.out _ (HN.out.below hBo) (HA.out.below hBo) (HM.out.below hBo)) fun w5 hb=>?_
   replace yC:=eqB hb yC zC;replace kR0:=a0f hb kR0 zR;replace kR1:=a0f hb kR1 zR;replace fR0:=a0g hb fR0 zR;replace fR1:=a0g hb fR1 zR;replace zR:=zHl hb zR;replace hBo:=f4s hBo hb;clear hb;go_wp2_with fail;refine cAn (HMB.out _) fun w6 hb=>?_
   replace kR0:=a0f hb kR0 zR;replace kR1:=a0f hb kR1 zR;replace fR0:=a0g hb fR0 zR;replace fR1:=a0g hb fR1 zR;replace hBo:=f4s hBo hb;clear hb;go_wp2_with fail;refine bodyPost_ret (v:=.tuple #[.agg #[.slice none 0 0,.slice none 0 0],I6 2]) (by simp[results,Tryz.results37,go_sem,kR0,kR1,fR0,fR1,zR]) rfl ?_;rw[HPO.out];exact d9r (sc2 hBo lR)
  | true =>
   rw[hM] at hmb;have HMB:=zh hmb;have HFW:=zh (fun W=>hfw W (by omega) hR hM);have HPO:Hid (Po=GotOwn (N.map (e2a fo fb)) A 0 w):=zh (hPo.trans (by unfold chQ;rw[if_neg (by rw[hR];simp),if_neg (by rw[hM];simp)]));clear hr hR hM hN hA hf hPo hnm hmb hfw hS;generalize N.map (e2a fo fb)=M at HFW HPO;go_enter Tryz.func37,Tryz.ntmps37
   go_upto_region 1 with fail
   obtain⟨s8,F,C,R,hws,hdF,hdC,hdR,hsz,zF,zC,zR⟩:=nm3 w (.cells #[u,v] 25) (.cells #[Sg own,Sg sheet,I6 way,I6 a,I6 n,F1,F2] 82) (.cells #[.slice none 0 0,.slice none 0 0] 25);have hN:=bx2 (b:=F) hws hdF;have kF0:=hN 0 _ rfl;have kF1:=hN 1 _ rfl;clear hN;have yC:=by1 (b:=C) hws (by simp[hdC]);have hN:=bx0 (b:=R) hws (by simp[hdR]);have hM:=bf0 (b:=R) hws (by simp[hdR]);have kR0:=hN 0 _ rfl;have kR1:=hN 1 _ rfl;have fR0:=hM 0;have fR1:=hM 1;clear hN hM;have lR:w.heap.size<=R:=by omega
   have hBo:=bs3 bR hws;rw[<-hws];try rw[<-hdR]
   try rw[<-hdC]
   try rw[<-hdF]
   clear hws hsz hdF hdC hdR;go_wp2_with fail;refine cAn (HR.out _ (HN.out.below hBo) (HA.out.below hBo) (HM.out.below hBo)) fun w5 hb=>?_
   replace kF0:=a0f hb kF0 zF;replace kF1:=a0f hb kF1 zF;replace zF:=zHl hb zF;replace yC:=eqB hb yC zC;replace zC:=zHl hb zC;replace kR0:=a0f hb kR0 zR;replace kR1:=a0f hb kR1 zR;replace fR0:=a0g hb fR0 zR;replace fR1:=a0g hb fR1 zR;replace zR:=zHl hb zR;replace hBo:=f4s hBo hb;clear hb;go_wp2_with fail;refine cAn (HMB.out _) fun w6 hb=>?_
   replace kF0:=a0f hb kF0 zF;replace kF1:=a0f hb kF1 zF;replace yC:=eqB hb yC zC;replace kR0:=a0f hb kR0 zR;replace kR1:=a0f hb kR1 zR;replace fR0:=a0g hb fR0 zR;replace fR1:=a0g hb fR1 zR;replace zR:=zHl hb zR;replace hBo:=f4s hBo hb;clear hb;go_wp2_with fail;refine(HFW.out _ (HN.out.below hBo) (HA.out.below hBo)).mono ?_;rintro e w7 ⟨⟨us,vs,rfl,h1,h2,-⟩,hb⟩;obtain⟨b1,c1,rfl⟩:=a0l h1;obtain⟨b2,c2,rfl⟩:=a0l h2;have HZR:=zh zR;have HWB:=zh hBo.size;have HN7:=zh h1;have HA7:=zh h2;clear h1 h2;obtain⟨ml,hml⟩:=nM M.length;obtain⟨al,hal⟩:=nM A.length;rw[<-hml] at HN7 |-
   rw[<-hal] at HA7 |-
   have HML:=zh hml;have HAL:=zh hal;clear hml hal;replace kR0:=a0f hb kR0 zR;replace kR1:=a0f hb kR1 zR;replace fR0:=a0g hb fR0 zR;replace fR1:=a0g hb fR1 zR;replace hBo:=f4s hBo hb;clear hb;go_wp2_with fail;refine bodyPost_ret (v:=.tuple #[.agg #[.slice b1 ml c1,.slice b2 al c2],I6 0]) (by simp[results,Tryz.results37,go_sem,kR0,kR1,fR0,fR1,zR]) rfl ?_;rw[HPO.out];exact⟨⟨_,_,rfl,by rw[<-HML.out];exact d6w (ownsRow_setCell_below (ownsRow_setCell_below HN7.out HZR.out _) HZR.out _) HWB.out,by rw[<-HAL.out];exact d6w (ownsRow_setCell_below (ownsRow_setCell_below HA7.out HZR.out _) HZR.out _) HWB.out⟩,(hBo.setCell lR _).setCell lR _⟩
theorem f1n {a:Nat} (h:a<=100):a<=maxLen:=Nat.le_trans h (by decide)
theorem e9x (x y z t:Value) (w:World):(callFunc 38 #[x,y,z,t]).run Tryz.prog w=.ok (.enter 38 #[x,y,z,t]) w:=by kernel_rfl
theorem f4j (own sheet:ByteArray) (way a n:Int) (u v:Value) (N:List Nd) (A:List Int) (w:World) (q:List Nd × List Int × Int) (hN:NodesAt w u N) (hA:IntsAt w v A) (hnm:NamesAt w)
  (hsh:∀ w,NodesAt w u N->IntsAt w v A->NamesAt w->Calls Tryz.prog 37 #[.agg #[u,v],f1j own sheet way a n 38 39] w (GotOwn q.1 q.2.1 q.2.2 w)) :
  Calls Tryz.prog 13 #[.agg #[u,v],Sg own,Sg sheet,I6 way,I6 a,I6 n] w (GotOwn q.1 q.2.1 q.2.2 w):=by
 have hud:=hUd;obtain⟨M,B,c⟩:=q;dsimp only at hsh |-
 have HSH:=zh hsh;have HN:=zh hN;have HA:=zh hA;have HM:=zh hnm;obtain⟨Po,hPo⟩:=nM (GotOwn M B c w);rw[<-hPo];have HPO:=zh hPo;clear hsh hN hA hnm hPo;go_enter Tryz.func13,Tryz.ntmps13
 go_upto_region 1 with fail
 obtain⟨s1,F,R,hws,hdF,hdR,hsz,zF,zR⟩:=nm2 w (.cells #[u,v] 25) (.cells #[.slice none 0 0,.slice none 0 0] 25);have hN:=bx1 (b:=F) hws hdF;have kF0:=hN 0 _ rfl;have kF1:=hN 1 _ rfl;clear hN;have hN:=bx0 (b:=R) hws (by simp[hdR]);have hM:=bf0 (b:=R) hws (by simp[hdR]);have kR0:=hN 0 _ rfl;have kR1:=hN 1 _ rfl;have fR0:=hM 0;have fR1:=hM 1;clear hN hM;have lR:w.heap.size<=R:=by omega
 have hBo:=bs2 bR hws;rw[<-hws];try rw[<-hdR]
 try rw[<-hdF]
 clear hws hsz hdF hdR;go_wp2_with fail;refine(HSH.out _ (HN.out.below hBo) (HA.out.below hBo) (HM.out.below hBo)).mono ?_;rintro e w7 ⟨⟨us,vs,rfl,h1,h2⟩,hb⟩;obtain⟨b1,c1,rfl⟩:=a0l h1;obtain⟨b2,c2,rfl⟩:=a0l h2;have HZR:=zh zR;have HWB:=zh hBo.size;have HN7:=zh h1;have HA7:=zh h2;clear h1 h2;obtain⟨ml,hml⟩:=nM M.length;obtain⟨al,hal⟩:=nM B.length;rw[<-hml] at HN7 |-
 rw[<-hal] at HA7 |-
 have HML:=zh hml;have HAL:=zh hal;clear hml hal;replace kR0:=a0f hb kR0 zR;replace kR1:=a0f hb kR1 zR;replace fR0:=a0g hb fR0 zR;replace fR1:=a0g hb fR1 zR;replace hBo:=f4s hBo hb;clear hb;go_wp2_with fail;refine bodyPost_ret (v:=.tuple #[.agg #[.slice b1 ml c1,.slice b2 al c2],I6 c]) (by simp[results,Tryz.results13,go_sem,kR0,kR1,fR0,fR1]) rfl ?_;rw[HPO.out];exact⟨⟨_,_,rfl,by rw[<-HML.out];exact d6w (ownsRow_setCell_below (ownsRow_setCell_below HN7.out HZR.out _) HZR.out _) HWB.out,by rw[<-HAL.out];exact d6w (ownsRow_setCell_below (ownsRow_setCell_below HA7.out HZR.out _) HZR.out _) HWB.out⟩,(hBo.setCell lR _).setCell lR _⟩
theorem e9y (x y z t:Value) (w:World):(callFunc 45 #[x,y,z,t]).run Tryz.prog w=.ok (.enter 45 #[x,y,z,t]) w:=by kernel_rfl
theorem f4k (own sheet:ByteArray) (way a n:Int) (u v:Value) (N:List Nd) (A:List Int) (w:World) (q:List Nd × List Int × Int) (hN:NodesAt w u N) (hA:IntsAt w v A) (hnm:NamesAt w)
  (hsh:∀ w,NodesAt w u N->IntsAt w v A->NamesAt w->Calls Tryz.prog 37 #[.agg #[u,v],f1j own sheet way a n 45 46] w (GotOwn q.1 q.2.1 q.2.2 w)) :
  Calls Tryz.prog 15 #[.agg #[u,v],Sg own,Sg sheet,I6 way,I6 a,I6 n] w (GotOwn q.1 q.2.1 q.2.2 w):=by
 have hud:=hUd;obtain⟨M,B,c⟩:=q;dsimp only at hsh |-
 have HSH:=zh hsh;have HN:=zh hN;have HA:=zh hA;have HM:=zh hnm;obtain⟨Po,hPo⟩:=nM (GotOwn M B c w);rw[<-hPo];have HPO:=zh hPo;clear hsh hN hA hnm hPo;go_enter Tryz.func15,Tryz.ntmps15
 go_upto_region 1 with fail
 obtain⟨s2,F,R,hws,hdF,hdR,hsz,zF,zR⟩:=nm2 w (.cells #[u,v] 25) (.cells #[.slice none 0 0,.slice none 0 0] 25);have hN:=bx1 (b:=F) hws hdF;have kF0:=hN 0 _ rfl;have kF1:=hN 1 _ rfl;clear hN;have hN:=bx0 (b:=R) hws (by simp[hdR]);have hM:=bf0 (b:=R) hws (by simp[hdR]);have kR0:=hN 0 _ rfl;have kR1:=hN 1 _ rfl;have fR0:=hM 0;have fR1:=hM 1;clear hN hM;have lR:w.heap.size<=R:=by omega
 have hBo:=bs2 bR hws;rw[<-hws];try rw[<-hdR]
 try rw[<-hdF]
 clear hws hsz hdF hdR;go_wp2_with fail;refine(HSH.out _ (HN.out.below hBo) (HA.out.below hBo) (HM.out.below hBo)).mono ?_;rintro e w7 ⟨⟨us,vs,rfl,h1,h2⟩,hb⟩;obtain⟨b1,c1,rfl⟩:=a0l h1;obtain⟨b2,c2,rfl⟩:=a0l h2;have HZR:=zh zR;have HWB:=zh hBo.size;have HN7:=zh h1;have HA7:=zh h2;clear h1 h2;obtain⟨ml,hml⟩:=nM M.length;obtain⟨al,hal⟩:=nM B.length;rw[<-hml] at HN7 |-
 rw[<-hal] at HA7 |-
 have HML:=zh hml;have HAL:=zh hal;clear hml hal;replace kR0:=a0f hb kR0 zR;replace kR1:=a0f hb kR1 zR;replace fR0:=a0g hb fR0 zR;replace fR1:=a0g hb fR1 zR;replace hBo:=f4s hBo hb;clear hb;go_wp2_with fail;refine bodyPost_ret (v:=.tuple #[.agg #[.slice b1 ml c1,.slice b2 al c2],I6 c]) (by simp[results,Tryz.results15,go_sem,kR0,kR1,fR0,fR1]) rfl ?_;rw[HPO.out];exact⟨⟨_,_,rfl,by rw[<-HML.out];exact d6w (ownsRow_setCell_below (ownsRow_setCell_below HN7.out HZR.out _) HZR.out _) HWB.out,by rw[<-HAL.out];exact d6w (ownsRow_setCell_below (ownsRow_setCell_below HA7.out HZR.out _) HZR.out _) HWB.out⟩,(hBo.setCell lR _).setCell lR _⟩
set_option maxHeartbeats 8000000
theorem e6m (own sheet:ByteArray) (way a n:Int) (K1 K2:Nat) (HCF:∀ (x y z t v:Value) (w:World),(callFunc K2 #[x,y,z,t,v]).run Tryz.prog w=.ok (.enter K2 #[x,y,z,t,v]) w) (r s:Rf) (q:Rf × Rf × Bool) (w:World)
  (h0:e6j own sheet r=false->q=(r,s,true)) (h1:e6j own sheet r=true->∀ w,Calls Tryz.prog K2 #[.agg #[Sg r.sh,I6 r.c,I6 r.r,Bv r.fc,Bv r.fr],.agg #[Sg s.sh,I6 s.c,I6 s.r,Bv s.fc,Bv s.fr],I6 way,I6 a,I6 n] w fun e w'=>e=.returned (.tuple #[.agg #[Sg q.1.sh,I6 q.1.c,I6 q.1.r,Bv q.1.fc,Bv q.1.fr],.agg #[Sg q.2.1.sh,I6 q.2.1.c,I6 q.2.1.r,Bv q.2.1.fc,Bv q.2.1.fr],Bv q.2.2])/\Bl w w') :
  Calls Tryz.prog 77 #[f1j own sheet way a n K1 K2,.agg #[Sg r.sh,I6 r.c,I6 r.r,Bv r.fc,Bv r.fr],.agg #[Sg s.sh,I6 s.c,I6 s.r,Bv s.fc,Bv s.fr]] w fun e w'=>e=.returned (.tuple #[.agg #[Sg q.1.sh,I6 q.1.c,I6 q.1.r,Bv q.1.fc,Bv q.1.fr],.agg #[Sg q.2.1.sh,I6 q.2.1.c,I6 q.2.1.r,Bv q.2.1.fc,Bv q.2.1.fr],Bv q.2.2])/\Bl w w':=by
 have hud:=hUd;have hp:=fun w=>d8h own sheet r w
 obtain⟨⟨csh,cc,cr,cf,cg⟩,⟨dsh,dc,dr,df,dg⟩,p⟩:=q;obtain⟨rs,rc,rr,rf,rg⟩:=r;obtain⟨ss,sc,sr,sf,sg⟩:=s;dsimp only at h0 h1 hp |-
 cases hT:e6j own sheet ⟨rs,rc,rr,rf,rg⟩ with
 | false =>
  rw[hT] at hp;have HP:=zh hp;have h:=h0 hT;simp only[Prod.mk.injEq,Rf.mk.injEq] at h;obtain⟨⟨rfl,rfl,rfl,rfl,rfl⟩,⟨rfl,rfl,rfl,rfl,rfl⟩,rfl⟩:=h;clear h0 h1 hp hT;go_enter Tryz.func77,Tryz.ntmps77
  go_upto_region 1 with fail
  obtain⟨s1,C,A,B,R,S,hws,hdC,hdA,hdB,hdR,hdS,hsz,zC,zA,zB,zR,zS⟩:=nm5 w (.cells #[Sg own,Sg sheet,I6 way,I6 a,I6 n,.func (.func K1) #[] #[],.func (.func K2) #[] #[]] 82) (.cells #[Sg csh,I6 cc,I6 cr,Bv cf,Bv cg] 67) (.cells #[Sg dsh,I6 dc,I6 dr,Bv df,Bv dg] 67) (.cells #[S0,I6 0,I6 0,Bv false,Bv false] 67) (.cells #[S0,I6 0,I6 0,Bv false,Bv false] 67);have dRC:R≠C:=by omega
  have dRA:R≠A:=by omega
  have dRB:R≠B:=by omega
  have dRS:R≠S:=by omega
  have dSC:S≠C:=by omega
  have dSA:S≠A:=by omega
  have dSB:S≠B:=by omega
  have dSR:S≠R:=by omega
  have yC:=by4 (b:=C) hws hdC;have yA:=by3 (b:=A) hws (by simp[hdA]);have yB:=by2 (b:=B) hws (by simp[hdB]);have yR:=by1 (b:=R) hws (by simp[hdR]);have fR:=bf1 (b:=R) hws (by simp[hdR]);have lR:w.heap.size<=R:=by omega
  have yS:=by0 (b:=S) hws (by simp[hdS]);have fS:=bf0 (b:=S) hws (by simp[hdS]);have lS:w.heap.size<=S:=by omega
  have hBo:=bs5 bR hws;rw[<-hws];try rw[<-hdS]
  try rw[<-hdR]
  try rw[<-hdB]
  try rw[<-hdA]
  try rw[<-hdC]
  clear hws hsz hdC hdA hdB hdR hdS;go_wp2_with fail;refine cAn (HP.out _) fun w5 hb=>?_
  replace yA:=eqB hb yA zA;replace yB:=eqB hb yB zB;replace yR:=eqB hb yR zR;replace fR:=fun j=>a0g hb (fR j) zR
  replace yS:=eqB hb yS zS;replace fS:=fun j=>a0g hb (fS j) zS
  replace hBo:=f4s hBo hb;clear hb
  go_upto_region 2 with fail
  go_region
  all_goals go_wp2_with fail
  all_goals refine bodyPost_ret (v:=.tuple #[.agg #[Sg csh,I6 cc,I6 cr,Bv cf,Bv cg],.agg #[Sg dsh,I6 dc,I6 dr,Bv df,Bv dg],Bv true]) (by simp[results,Tryz.results77,go_sem,yR,yS]) rfl ⟨rfl,?_⟩
  all_goals exact(Below.drew (sc5 (sc5 hBo lR) lS))
 | true =>
  rw[hT] at hp;have HP:=zh hp;have HC:=zh (h1 hT);clear h0 h1 hp hT;go_enter Tryz.func77,Tryz.ntmps77
  go_upto_region 1 with fail
  obtain⟨s2,C,A,B,R,S,hws,hdC,hdA,hdB,hdR,hdS,hsz,zC,zA,zB,zR,zS⟩:=nm5 w (.cells #[Sg own,Sg sheet,I6 way,I6 a,I6 n,.func (.func K1) #[] #[],.func (.func K2) #[] #[]] 82) (.cells #[Sg rs,I6 rc,I6 rr,Bv rf,Bv rg] 67) (.cells #[Sg ss,I6 sc,I6 sr,Bv sf,Bv sg] 67) (.cells #[S0,I6 0,I6 0,Bv false,Bv false] 67) (.cells #[S0,I6 0,I6 0,Bv false,Bv false] 67);have dRC:R≠C:=by omega
  have dRA:R≠A:=by omega
  have dRB:R≠B:=by omega
  have dRS:R≠S:=by omega
  have dSC:S≠C:=by omega
  have dSA:S≠A:=by omega
  have dSB:S≠B:=by omega
  have dSR:S≠R:=by omega
  have yC:=by4 (b:=C) hws hdC;have yA:=by3 (b:=A) hws (by simp[hdA]);have yB:=by2 (b:=B) hws (by simp[hdB]);have yR:=by1 (b:=R) hws (by simp[hdR]);have fR:=bf1 (b:=R) hws (by simp[hdR]);have lR:w.heap.size<=R:=by omega
  have yS:=by0 (b:=S) hws (by simp[hdS]);have fS:=bf0 (b:=S) hws (by simp[hdS]);have lS:w.heap.size<=S:=by omega
  have hBo:=bs5 bR hws;rw[<-hws];try rw[<-hdS]
  try rw[<-hdR]
  try rw[<-hdB]
  try rw[<-hdA]
  try rw[<-hdC]
  clear hws hsz hdC hdA hdB hdR hdS;go_wp2_with fail;refine cAn (HP.out _) fun w5 hb=>?_
  replace yC:=eqB hb yC zC;replace yA:=eqB hb yA zA;replace yB:=eqB hb yB zB;replace yR:=eqB hb yR zR;replace fR:=fun j=>a0g hb (fR j) zR;replace zR:=zHl hb zR
  replace yS:=eqB hb yS zS;replace fS:=fun j=>a0g hb (fS j) zS;replace zS:=zHl hb zS
  replace hBo:=f4s hBo hb;clear hb;go_wp2_with fail;refine cAn (HC.out _) fun w6 hb=>?_
  replace yR:=eqB hb yR zR;replace fR:=fun j=>a0g hb (fR j) zR
  replace yS:=eqB hb yS zS;replace fS:=fun j=>a0g hb (fS j) zS
  replace hBo:=f4s hBo hb;clear hb
  all_goals go_wp2_with fail
  all_goals refine bodyPost_ret (v:=.tuple #[.agg #[Sg csh,I6 cc,I6 cr,Bv cf,Bv cg],.agg #[Sg dsh,I6 dc,I6 dr,Bv df,Bv dg],Bv p]) (by simp[results,Tryz.results77,go_sem,yR,yS,zR,zS]) rfl ⟨rfl,?_⟩
  all_goals exact(sc5 (sc5 hBo lR) lS)
def chG (own sheet:ByteArray) (p:Rf->Rf->Rf × Rf × Bool) (n:Nd):Rf × Rf × Bool:=if e6j own sheet n.r=true then p n.r n.t else (n.r,n.t,true)
theorem e8k (x y z t v:Value) (w:World):(callFunc 39 #[x,y,z,t,v]).run Tryz.prog w=.ok (.enter 39 #[x,y,z,t,v]) w:=by kernel_rfl
theorem e8l (x y z t v:Value) (w:World):(callFunc 46 #[x,y,z,t,v]).run Tryz.prog w=.ok (.enter 46 #[x,y,z,t,v]) w:=by kernel_rfl
def f4w (n m:Sh):Prop:=n=m\/(n.k<7/\m.k<7/\n.lv=m.lv)
theorem f5i (n:Sh):f4w n n:=Or.inl rfl
theorem f5y {n m:Sh} (h:f4w n m) (A:List Int):d6t A n=d6t A m:=by
 rcases h with rfl | ⟨h1,h2,_⟩
 ·
  rfl
 ·
  unfold d6t;rw[if_neg (by omega),if_neg (by omega),if_neg (by omega),if_neg (by omega),if_neg (by omega),if_neg (by omega)]
theorem f5z {n m:Sh} (h:f4w n m) (A:List Int) (s:Ms):a1f A s n=a1f A s m:=by
 rcases h with rfl | ⟨h1,h2,_⟩
 ·
  rfl
 ·
  unfold a1f;rw[decide_eq_false (show ¬ n.k=9 by omega),decide_eq_false (show ¬ m.k=9 by omega)];rfl
theorem f6a {n m:Sh} (h:f4w n m):a0n n=a0n m:=by
 rcases h with rfl | ⟨h1,h2,_⟩
 ·
  rfl
 ·
  unfold a0n;rw[if_neg (by omega),if_neg (by omega)]
theorem f6m {n m:Sh} (h:f4w n m):a1v n=a1v m:=by
 rcases h with rfl | ⟨h1,h2,h3⟩
 ·
  rfl
 ·
  unfold a1v;rw[h3];by_cases h6:m.lv=6
  ·
   rw[if_pos (Or.inr h6),if_pos (Or.inr h6)]
  ·
   rw[if_neg (by omega),if_neg (by omega)]
theorem f6w {n m:Sh} (h:f4w n m):n.lv=m.lv:=by
 rcases h with rfl | ⟨_,_,h3⟩
 ·
  rfl
 ·
  exact h3
theorem f6n {n m x y:Sh} (h:f4w n m) (hx:f4w x y) (i:Nat):brk n x i=brk m y i:=by
 unfold brk;rw[f6w hx]
 rcases h with rfl | ⟨h1,h2,h3⟩
 ·
  rfl
 ·
  rw[if_neg (by omega),if_neg (by omega),if_neg (by omega),if_neg (by omega),h3]
theorem f5j {N M:List Sh} (hl:∀ c,f4w (N.getD c default) (M.getD c default)) (D:List Int) {n m:Sh} (h:f4w n m):∀ (l:List Int) (i:Nat) (d:Int),a2z N D n i l d=a2z M D m i l d
 | [],_,_=>rfl
 | c :: l,i,d=>by
  rw[a2z,a2z,f6n h (hl c.toNat) i];exact f5j hl D h l _ _
theorem f6b {N M:List Sh} (hl:∀ c,f4w (N.getD c default) (M.getD c default)) (A:List Int) (s:Ms) {n m:Sh} (h:f4w n m):a7i N A s n=a7i M A s m:=by
 unfold a7i b3j;rw[f5z h,f5y h,f6a h,f6m h,f5j hl s.deps h]
theorem f5p {N M:List Sh} (hl:∀ c,f4w (N.getD c default) (M.getD c default)) (A:List Int):∀ k,run N A k=run M A k
 | 0=>rfl
 | k+1=>by
  rw[run,run,f5p hl A k]
  cases run M A k with
  | none=>rfl
  | some s=>exact f6b hl A s (hl k)
theorem f6c {N:List Nd} {A:List Int} (f:Nd->Nd) (h:a0w N A=true) (hs:∀ n ∈ N,a1x n=true->a1x (f n)=true/\f4w (shN n) (shN (f n))):a0w (N.map f) A=true:=by
 obtain⟨s,hr,h1,h2,h3,h4,h5,hC,h6⟩:=a3h (C:=cN N) (a9t (N:=N)) h;rw[List.length_map] at hr h1 h3 h4 hC
 have hcan:∀ n ∈ N,a1x n=true:=fun n hn=>by
  obtain⟨i,hi⟩:=List.getElem?_of_mem hn;rw[<-a3j hi];exact hC i (List.getElem?_eq_some_iff.1 hi).1
 have hl:∀ c,f4w ((N.map shN).getD c default) (((N.map f).map shN).getD c default):=fun c=>by
  rw[List.getD_eq_getElem?_getD,List.getD_eq_getElem?_getD,List.getElem?_map,List.getElem?_map,List.getElem?_map]
  cases hn:N[c]? with
  | none=>exact f5i _
  | some n=>exact(hs n (List.mem_of_getElem? hn) (hcan n (List.mem_of_getElem? hn))).2
 have hcM:∀ i,i<(N.map f).length->cN (N.map f) i=true:=fun i hi=>by
  obtain⟨n,hn⟩:∃ n,N[i]?=some n:=⟨_,List.getElem?_eq_getElem (by simpa using hi)⟩;rw[a3j (n:=f n) (by rw[List.getElem?_map,hn];rfl)];exact(hs n (List.mem_of_getElem? hn) (hcan n (List.mem_of_getElem? hn))).1
 have hrun:run ((N.map f).map shN) A N.length=some s:=by rw[<-f5p hl A];exact hr
 have hlen:((N.map f).map shN).length=N.length:=by simp
 have hd:s.deps.getD (s.tops.headD 0).toNat 0=a4b (N.map shN) A:=by
  rw[h1,b5g hr];unfold a4b;rw[List.length_map]
  congr 1
  simp only[List.headD_cons];omega
 unfold a0w;rw[(b1l (C:=cN (N.map f)) (a9t (N:=N.map f))).1];refine decide_eq_true ?_;unfold a1q;rw[hlen,if_neg (by omega),runC_iff.2 ⟨fun i hi=>hcM i (by simpa using hi),hrun⟩];unfold c4r;dsimp only;rw[if_neg (by rw[h1,h2];simp),if_neg (by rw[hd];omega)]
theorem f4x {n:Nd} (h:a0s n=n) (hu:a4i n=true):a1x n=true:=by
 unfold a1x;rw[hu,(a2o _ _).2 h.symm];rfl
theorem f5g:a1x d7c=true:=f4x rfl rfl
theorem f6o {r:Rf} (h:d7t r=true):a1x (e9t r true)=true:=f4x rfl h
theorem f6d {a b:Rf} (ha:d7t a=true) (hb:d7t b=true):d7t (e0m a b).1=true/\d7t (e0m a b).2=true/\(e0m a b).2.sh=b.sh/\(e0m a b).1.c<=(e0m a b).2.c:=by
 unfold d7t a8g e0m at *;rw[Bool.and_eq_true,a9p] at ha hb;obtain⟨a1,a2⟩:=ha;obtain⟨b1,b2⟩:=hb;by_cases h:a.c > b.c
 ·
  rw[if_pos h];dsimp only;rw[Bool.and_eq_true,Bool.and_eq_true,a9p,a9p];exact⟨⟨a1,by omega⟩,⟨b1,by omega⟩,rfl,by omega⟩
 ·
  rw[if_neg h];dsimp only;rw[Bool.and_eq_true,Bool.and_eq_true,a9p,a9p];exact⟨⟨a1,by omega⟩,⟨b1,by omega⟩,rfl,by omega⟩
theorem f6x {a b:Rf} (ha:d7t a=true) (hb:d7t b=true):d7t (d7o a b).1=true/\d7t (d7o a b).2=true/\(d7o a b).2.sh=b.sh/\(d7o a b).1.c<=(d7o a b).2.c/\(d7o a b).1.r<=(d7o a b).2.r:=by
 obtain⟨h1,h2,h3,h4⟩:=f6d ha hb;unfold d7o;dsimp only;generalize (e0m a b).1=p at *;generalize (e0m a b).2=q at *;rw[<-h3];clear ha hb h3;unfold d7t a8g e0n at *;rw[Bool.and_eq_true,a9p] at h1 h2;obtain⟨a1,a2⟩:=h1;obtain⟨b1,b2⟩:=h2;by_cases h:p.r > q.r
 ·
  rw[if_pos h];dsimp only;rw[Bool.and_eq_true,Bool.and_eq_true,a9p,a9p];exact⟨⟨a1,by omega⟩,⟨b1,by omega⟩,rfl,by omega,by omega⟩
 ·
  rw[if_neg h];dsimp only;rw[Bool.and_eq_true,Bool.and_eq_true,a9p,a9p];exact⟨⟨a1,by omega⟩,⟨b1,by omega⟩,rfl,by omega,by omega⟩
theorem f6p {a b:Rf} (ha:d7t a=true) (hb:d7t b=true) (hs:b.sh=⟨#[]⟩):a1x (e8h a b true)=true:=by
 unfold e8h;rw[if_pos rfl]
 split
 case isFalse=>exact f5g
 case isTrue hn =>
  obtain⟨h1,h2,h3,h4,h5⟩:=f6x ha hb;refine f4x rfl ?_;show arB (d7o a b).1 (d7o a b).2=true;unfold arB;rw[(a7h _ _ _ _).2 ⟨hn,h4,h5⟩,show a8g (d7o a b).1.sh (d7o a b).1.c (d7o a b).1.r=true from h1,show a8g (d7o a b).2.sh (d7o a b).2.c (d7o a b).2.r=true from h2,h3,hs];rfl
theorem f5k {n m:Nd} (h1:n.k<7) (h2:m.k<7):f4w (shN n) (shN m):=by
 refine Or.inr ⟨h1,h2,?_⟩;show lvI n.k n.o=lvI m.k m.o;unfold lvI;rw[if_neg (by omega),if_neg (by omega),if_neg (by omega),if_neg (by omega)]
theorem f6y (r:Rf) (p:Bool):(e9t r p).k<7:=by cases p<;>exact of_decide_eq_true rfl
theorem f6z (r s:Rf) (p:Bool):(e8h r s p).k<7:=by unfold e8h;split<;>(try split)<;>exact of_decide_eq_true rfl
theorem f7a {fo:Nd->Rf × Bool} {fb:Nd->Rf × Rf × Bool} {n:Nd} (h:a1x n=true) (h1:n.k=5->(fo n).2=true->d7t (fo n).1=true) (h2:n.k=6->(fb n).2.2=true->d7t (fb n).1=true/\d7t (fb n).2.1=true/\(fb n).2.1.sh=⟨#[]⟩) :
  a1x (e2a fo fb n)=true/\f4w (shN n) (shN (e2a fo fb n)):=by
 by_cases h5:n.k=5
 ·
  rw[f3h (by simpa using h5)];refine⟨?_,f5k (by omega) (f6y _ _)⟩
  cases hp:(fo n).2 with
  | false=>exact f5g
  | true=>exact f6o (h1 h5 hp)
 ·
  by_cases h6:n.k=6
  ·
   rw[f3i (by simpa using h5) (by simpa using h6)];refine⟨?_,f5k (by omega) (f6z _ _ _)⟩
   cases hp:(fb n).2.2 with
   | false=>exact f5g
   | true =>
    obtain⟨g1,g2,g3⟩:=h2 h6 hp;exact f6p g1 g2 g3
  ·
   rw[f0e (by simpa using h5) (by simpa using h6)];exact⟨h,f5i _⟩
theorem f5b {q:Rf} {way a n:Int} (h:e2b q way a n=true):d7t (e8m q way a n)=true:=by
 have h0:=h;unfold e2b at h;rw[Bool.and_eq_true,Bool.and_eq_true] at h;obtain⟨⟨h1,h2⟩,h3⟩:=h;obtain⟨k0,k1,k2,k3,k4,k5,k6⟩:=d9t h2;obtain⟨p1,p2⟩:=e4z h1 k0;rw[e1i h0];exact f5u h1 k0 (by unfold shP;split<;>omega) (of_decide_eq_true h3)
theorem f5d {a b:Rf} {way x n:Int} (h:e0i a b way x n=true):d7t a=true/\d7t b=true/\d8b way x n=true/\plZ a way<=plZ b way/\e2b a way x n=true/\e5a a b way x n=e8m a way x n/\e5c a b way x n=if e2b b way x n then e8m b way x n else ptR b way (d7d way):=by
 obtain⟨e1,e2⟩:=e8p h;unfold e0i at h;rw[Bool.and_eq_true] at h;obtain⟨g1,g2,g3,g4⟩:=e6x h.1;exact⟨g1,g2,g3,by omega,h.2,e1,e2⟩
theorem f6q {a b:Rf} {way x n:Int} (h:e0i a b way x n=true):d7t (e5a a b way x n)=true/\d7t (e5c a b way x n)=true/\(e5c a b way x n).sh=b.sh:=by
 obtain⟨g1,g2,g3,g4,g5,e1,e2⟩:=f5d h;rw[e1,e2];refine⟨f5b g5,?_⟩
 cases hb:e2b b way x n with
 | true=>exact⟨f5b hb,f5v hb⟩
 | false =>
  obtain⟨k0,k1,k2,k3,k4,k5,k6⟩:=d9t g3;exact⟨f5u g2 k0 (by omega) (by omega),f5t _ _ _⟩
theorem f6e {n:Nd} (h:a1x n=true) (hk:n.k=6):d7t n.r=true/\d7t n.t=true:=by
 obtain⟨hb,hu⟩:=e4v h;unfold a4i at hu;rw[hk] at hu;have hu:arB n.r n.t=true:=hu;unfold arB at hu;simp only[Bool.and_eq_true] at hu;exact⟨hu.1.1.2,hu.1.2⟩
theorem f7c {own sheet:ByteArray} {p:Rf->Rf × Bool} {p2:Rf->Rf->Rf × Rf × Bool} (h1:∀ r,(p r).2=true->d7t (p r).1=true) (h2:∀ r s,(p2 r s).2.2=true->d7t (p2 r s).1=true/\d7t (p2 r s).2.1=true/\(p2 r s).2.1.sh=s.sh) {N:List Nd} {A:List Int} (h:a0w N A=true):a0w (N.map (e2a (chF own sheet p) (chG own sheet p2))) A=true:=by
 refine f6c _ h fun n _ hc=>f7a hc (fun h5 hy=>?_) (fun h6 hy=>?_)
 ·
  unfold chF at hy |-
  split at hy
  case isTrue ht=>rw[if_pos ht];exact h1 _ hy
  case isFalse ht=>rw[if_neg ht];exact(f4a hc h5).2
 ·
  unfold chG at hy |-
  split at hy
  case isTrue ht =>
   rw[if_pos ht];obtain⟨g1,g2,g3⟩:=h2 _ _ hy;exact⟨g1,g2,g3.trans (f4b hc h6).2.2.2.2⟩
  case isFalse ht =>
   rw[if_neg ht];exact⟨(f6e hc h6).1,(f6e hc h6).2,(f4b hc h6).2.2.2.2⟩
theorem f6f (own sheet:ByteArray) (way a n:Int) {N:List Nd} {A:List Int} (h:a0w N A=true):a0w (N.map (e2a (chF own sheet (f1o way a n)) (chG own sheet (e6n way a n)))) A=true :=
 f7c (fun _ hy=>f5b hy) (fun _ _ hy=>f6q hy) h
def f6g (way c:Int) (n g:Nd):Bool:=!(n.k==g.k) || ((n.k==6)&&(((way==0)&&decide (52-c<n.t.c)) || ((way==1)&&decide (99-c<n.t.r))))
theorem f6h {way c:Int} {n g:Nd} (h:f6g way c n g=false):n.k=g.k/\(n.k=6->(way=0->n.t.c<=52-c)/\(way=1->n.t.r<=99-c)):=by
 unfold f6g at h;simp only[Bool.or_eq_false_iff,Bool.and_eq_false_iff,Bool.not_eq_false',beq_iff_eq,beq_eq_false_iff_ne,decide_eq_false_iff_not] at h;obtain⟨h1,h2⟩:=h;refine⟨h1,fun h6=>⟨fun hw=>?_,fun hw=>?_⟩⟩<;>(rcases h2 with h2 | ⟨h2,h3⟩<;>omega)
theorem f6i {own sheet:ByteArray} {r s:Rf} (h:r.sh=s.sh):e6j own sheet r=e6j own sheet s:=by unfold e6j;rw[h]
theorem f5c {n:Nd} (h:a1x n=true) (hk:n.k=5):e9t n.r true=n:=(f4a h hk).1.symm
theorem f5l {n:Nd} (h:a1x n=true) (hk:n.k=6):e8h n.r n.t true=n:=by
 obtain⟨e,e1,e2,e3,e4⟩:=f4b h hk;unfold e8h;rw[if_pos rfl,e9w e2 e3];dsimp only;rw[if_pos e1];exact e.symm
theorem f5q {own sheet:ByteArray} {way a c:Int} {n:Nd} (hc:a1x n=true) (h6:n.k=6) (hT:e6j own sheet n.r=true) (hb:f6g way c n (e2a (chF own sheet (f1o way a c)) (chG own sheet (e6n way a c)) n)=false) :
  ∃ p q,e2a (chF own sheet (f1o way a c)) (chG own sheet (e6n way a c)) n=⟨6,0,0,0,false,⟨#[]⟩,⟨#[]⟩,⟨#[]⟩,false,p,q⟩/\e6j own sheet p=true/\e1z p q way a c=true/\d9n p way a c=true/\e8n p way a c=n.r/\d9n q way a c=true/\e8n q way a c=n.t:=by
 obtain⟨hk,ht⟩:=f6h hb;have h5 : ¬ n.k=5:=by omega
 rw[f3i (fb:=chG own sheet (e6n way a c)) (by simpa using h5) (by simpa using h6)] at hk |-
 have h1:chG own sheet (e6n way a c) n=e6n way a c n.r n.t:=if_pos hT;rw[h1] at hk |-
 unfold e6n at hk |-
 dsimp only at hk |-
 cases hI:e0i n.r n.t way a c with
 | false =>
  rw[hI] at hk;rw[h6] at hk;exact absurd (show (6:Int)=4 from hk) (by decide)
 | true =>
  rw[hI] at hk;obtain⟨g1,g2,g3,g4,g5,q1,q2⟩:=f5d hI;obtain⟨k0,k1,k2,k3,k4,k5,k6⟩:=d9t g3;obtain⟨e,e1,e2,e3,e4⟩:=f4b hc h6
  have hIb:e2b n.t way a c=true:=by
   unfold e2b;rw[g2,g3,decide_eq_true]
   ·
    rfl
   ·
    obtain⟨t1,t2⟩:=ht h6
    rcases k0 with rfl | rfl
    ·
     have:=t1 rfl;have e0:plZ n.t 0=n.t.c:=rfl;have e1:d7d 0=52:=rfl;unfold shP
     split<;>omega
    ·
     have:=t2 rfl;have e0:plZ n.t 1=n.t.r:=rfl;have e1:d7d 1=99:=rfl;unfold shP
     split<;>omega
  rw[hIb,if_pos rfl] at q2;rw[q1,q2] at hk |-
  obtain⟨b1,b2⟩:=f5f g5;obtain⟨b3,b4⟩:=f5f hIb;have r1:=f5b g5;have r2:=f5b hIb
  have hpl:plZ (e8m n.r way a c) way<=plZ (e8m n.t way a c) way:=by
   rw[e1i g5,e1i hIb,f6v,f6v];unfold shP
   split<;>split<;>omega
  have hord:(e8m n.r way a c).c<=(e8m n.t way a c).c/\(e8m n.r way a c).r<=(e8m n.t way a c).r:=by
   rcases k0 with rfl | rfl
   ·
    refine⟨hpl,?_⟩;rw[e1i g5,e1i hIb];exact e3
   ·
    refine⟨?_,hpl⟩;rw[e1i g5,e1i hIb];exact e2
  have hs1:=(f6i (own:=own) (sheet:=sheet) (f5v g5)).trans hT;refine⟨e8m n.r way a c,e8m n.t way a c,?_,hs1,?_,b1,b2,b3,b4⟩
  ·
   generalize e8m n.r way a c=a' at *;generalize e8m n.t way a c=b' at *;unfold e8h at hk |-
   rw[if_pos rfl,e9w hord.1 hord.2] at hk |-
   dsimp only at hk |-
   by_cases hn:a8z a'.c a'.r b'.c b'.r=0
   ·
    rw[if_pos hn]
   ·
    rw[if_neg hn,h6] at hk;exact absurd (show (6:Int)=4 from hk) (by decide)
  ·
   unfold e1z;rw[r1,r2,g3,decide_eq_true hpl];rfl
theorem f5h {own sheet:ByteArray} {n:Nd} {p2:Rf->Rf->Rf × Rf × Bool} {fo:Nd->Rf × Bool} (hc:a1x n=true) (h6:n.k=6) (hT:e6j own sheet n.r=false):e2a fo (chG own sheet p2) n=n:=by
 rw[f3i (by rw[h6];rfl) (by simpa using h6),show chG own sheet p2 n=(n.r,n.t,true) from if_neg (by rw[hT];simp)];exact f5l hc h6
theorem f6j {own sheet:ByteArray} {way a c:Int} {n:Nd} (hc:a1x n=true) (hb:f6g way c n (e2a (chF own sheet (f1o way a c)) (chG own sheet (e6n way a c)) n)=false) :
  e2a (chF own sheet (f1p way a c)) (chG own sheet (e6o way a c)) (e2a (chF own sheet (f1o way a c)) (chG own sheet (e6n way a c)) n)=n:=by
 by_cases h5:n.k=5
 ·
  obtain⟨hk,ht⟩:=f6h hb;rw[f3h (fo:=chF own sheet (f1o way a c)) (by simpa using h5)] at hk |-
  cases hT:e6j own sheet n.r with
  | false =>
   have h1:∀ p,chF own sheet p n=(n.r,true):=fun p=>if_neg (by rw[hT];simp)
   rw[h1];dsimp only;rw[f5c hc h5,f3h (by simpa using h5),h1];exact f5c hc h5
  | true =>
   have h1:chF own sheet (f1o way a c) n=f1o way a c n.r:=if_pos hT;rw[h1] at hk |-
   unfold f1o at hk |-
   dsimp only at hk |-
   cases hI:e2b n.r way a c with
   | false =>
    rw[hI] at hk;rw[h5] at hk;exact absurd (show (5:Int)=4 from hk) (by decide)
   | true =>
    obtain⟨b1,b2⟩:=f5f hI;rw[f3h (show ((e9t (e8m n.r way a c) true).k==5)=true from rfl)];have h2:chF own sheet (f1p way a c) (e9t (e8m n.r way a c) true)=f1p way a c (e8m n.r way a c):=if_pos ((f6i (f5v hI)).trans hT);rw[h2];unfold f1p;dsimp only;rw[b1,b2];exact f5c hc h5
 ·
  by_cases h6:n.k=6
  ·
   cases hT:e6j own sheet n.r with
   | false=>rw[f5h (n:=n) hc h6 hT,f5h hc h6 hT]
   | true =>
    obtain⟨p,q,hg,hs,hpre,b1,b2,b3,b4⟩:=f5q hc h6 hT hb;rw[hg,f3i (by rfl) (by rfl),show chG own sheet (e6o way a c) ⟨6,0,0,0,false,⟨#[]⟩,⟨#[]⟩,⟨#[]⟩,false,p,q⟩=e6o way a c p q from if_pos hs];unfold e6o;dsimp only;have hd:d9g p q way a c=true:=by unfold d9g;rw[hpre,b1];rfl
    obtain⟨d1,d2⟩:=e4g hd;rw[hd,d1,d2,b1,b3,if_pos rfl,if_pos rfl,b2,b4];exact f5l hc h6
  ·
   rw[f0e (n:=n) (fo:=chF own sheet (f1o way a c)) (by simpa using h5) (by simpa using h6),f0e (by simpa using h5) (by simpa using h6)]
theorem f6r {own sheet:ByteArray} {way a c:Int} {n:Nd} (hc:a1x n=true) (hb:f6g way c n (e2a (chF own sheet (f1o way a c)) (chG own sheet (e6n way a c)) n)=false) (h6:(e2a (chF own sheet (f1o way a c)) (chG own sheet (e6n way a c)) n).k=6) (ht:e6j own sheet (e2a (chF own sheet (f1o way a c)) (chG own sheet (e6n way a c)) n).r=true) :
  d9n (e2a (chF own sheet (f1o way a c)) (chG own sheet (e6n way a c)) n).r way a c=true/\d9n (e2a (chF own sheet (f1o way a c)) (chG own sheet (e6n way a c)) n).t way a c=true:=by
 have hk:=(f6h hb).1.trans h6
 cases hT:e6j own sheet n.r with
 | false =>
  rw[f5h hc hk hT,hT] at ht
  cases ht
 | true =>
  obtain⟨p,q,hg,hs,hpre,b1,b2,b3,b4⟩:=f5q hc hk hT hb;rw[hg];exact⟨b1,b3⟩
theorem f6s {own sheet:ByteArray} {way a c:Int} {N:List Nd} (hc:∀ n ∈ N,a1x n=true) (hb:∀ n ∈ N,f6g way c n (e2a (chF own sheet (f1o way a c)) (chG own sheet (e6n way a c)) n)=false) :
  (N.map (e2a (chF own sheet (f1o way a c)) (chG own sheet (e6n way a c)))).map (e2a (chF own sheet (f1p way a c)) (chG own sheet (e6o way a c)))=N:=by
 rw[List.map_map]
 conv=>rhs;rw[<-List.map_id N]
 exact List.map_congr_left fun n hn=>f6j (hc n hn) (hb n hn)
theorem f6t {fo:Nd->Rf × Bool} {fb:Nd->Rf × Rf × Bool} {n:Nd} (h:Fits n) (h1:(fo n).1.sh.size<=100) (h2:(fb n).1.sh.size<=100/\(fb n).2.1.sh.size<=100):Fits (e2a fo fb n):=by
 have h0:Fits d7c:=by unfold Fits;decide
 have hz:(⟨#[]⟩:ByteArray).size<=100:=by decide
 have hz5:(⟨#[]⟩:ByteArray).size<=500:=by decide
 unfold e2a
 split
 ·
  unfold e9t
  split
  ·
   exact⟨hz,hz,hz5,h1,hz⟩
  ·
   exact h0
 ·
  split
  ·
   unfold e8h
   split
   ·
    split
    ·
     refine⟨hz,hz,hz5,?_,?_⟩
     ·
      show ((d7o (fb n).1 (fb n).2.1).1.sh).size<=100;unfold d7o e0m e0n;dsimp only
      split<;>split<;>exact h2.1
     ·
      show ((d7o (fb n).1 (fb n).2.1).2.sh).size<=100;unfold d7o e0m e0n;dsimp only
      split<;>split<;>exact h2.2
    ·
     exact h0
   ·
    exact h0
  ·
   exact h
theorem f6u {own sheet:ByteArray} {way a c:Int} {n:Nd} (h:Fits n):Fits (e2a (chF own sheet (f1o way a c)) (chG own sheet (e6n way a c)) n):=by
 have hz:rf0.sh.size<=100:=by decide
 have hi:∀ q:Rf,q.sh.size<=100->(e8m q way a c).sh.size<=100:=fun q hq=>by
  unfold e8m
  split
  ·
   rw[f5t];exact hq
  ·
   exact hz
 refine f6t h ?_ ?_
 ·
  unfold chF
  split
  ·
   exact hi _ h.2.2.2.1
  ·
   exact h.2.2.2.1
 ·
  unfold chG
  split
  ·
   refine⟨?_,?_⟩
   ·
    show (e5a n.r n.t way a c).sh.size<=100;unfold e5a
    split
    ·
     exact hi _ h.2.2.2.1
    ·
     exact hz
   ·
    show (e5c n.r n.t way a c).sh.size<=100;unfold e5c
    split
    ·
     split
     ·
      exact hi _ h.2.2.2.2
     ·
      rw[f5t];exact h.2.2.2.2
    ·
     exact hz
  ·
   exact⟨h.2.2.2.1,h.2.2.2.2⟩
end Go.Proofs.YtibiacmbljgmhaaGreatDoor
