import Derived.Test.YtibiacmbljgmhaaGreatDoorRewa
import Derived.Test.YtibiacmbljgmhaaGreatDoorCel8
namespace Go.Proofs.YtibiacmbljgmhaaGreatDoor
open Go.RowKit Go.Shelf
set_option linter.all false
theorem e4v {n:Nd} (h:X9 n=true):n=X6 n/\a4i n=true:=by
 unfold X9 at h;rw[Bool.and_eq_true] at h;exact⟨(a2o _ _).1 h.2,h.1⟩
theorem f4a {n:Nd} (h:X9 n=true) (hk:n.k=5):n=⟨5,0,0,0,false,⟨#[]⟩,⟨#[]⟩,⟨#[]⟩,false,n.r,Jj⟩/\a8g n.r.sh n.r.c n.r.r=true:=by
 obtain⟨hb,hu⟩:=e4v h;unfold X6 at hb;unfold a4i at hu;rw[hk] at hb hu;exact⟨hb,hu⟩
theorem f4b {n:Nd} (h:X9 n=true) (hk:n.k=6):n=⟨6,0,0,0,false,⟨#[]⟩,⟨#[]⟩,⟨#[]⟩,false,n.r,n.t⟩/\a8z n.r.c n.r.r n.t.c n.t.r=0/\n.r.c<=n.t.c/\n.r.r<=n.t.r/\n.t.sh=⟨#[]⟩:=by
 obtain⟨hb,hu⟩:=e4v h;unfold X6 at hb;unfold a4i at hu;rw[hk] at hb hu;have hu:arB n.r n.t=true:=hu;unfold arB at hu;simp only[Bool.and_eq_true,decide_eq_true_eq] at hu;obtain⟨⟨⟨h1,_⟩,_⟩,h4⟩:=hu;obtain⟨e1,e2,e3⟩:=(a7h _ _ _ _).1 h1;exact⟨hb,e1,e2,e3,by have:=ByteArray.size_eq_zero_iff.1 h4;exact this⟩
theorem f6e {n:Nd} (h:X9 n=true) (hk:n.k=6):a8g n.r.sh n.r.c n.r.r=true/\a8g n.t.sh n.t.c n.t.r=true:=by
 obtain⟨hb,hu⟩:=e4v h;unfold a4i at hu;rw[hk] at hu;have hu:arB n.r n.t=true:=hu;unfold arB at hu;simp only[Bool.and_eq_true] at hu;exact⟨hu.1.1.2,hu.1.2⟩
theorem f4y {N:List Nd} {A:List Int} (h:Yw N A=true) {m:Nd} (hm:m ∈ N):X9 m=true:=by
 obtain⟨k,hk⟩:=List.getElem?_of_mem hm;exact b9k h hk
theorem e9w {a b:Rf} (h1:a.c<=b.c) (h2:a.r<=b.r):X5 a b=(a,b):=by
 have e:e0m a b=(a,b):=if_neg (by omega);unfold X5;rw[e];exact if_neg (by dsimp only;omega)
def GotOwn (N:List Nd) (A:List Int) (c:Int) (w:World) (e:Ending) (w':World):Prop:=(∃ us vs,e=.returned (.tuple #[.agg #[us,vs],I6 c])/\w'.ownsRow w.heap.size 69 19 us N.length (nodeL N)/\w'.ownsRow w.heap.size 3 1 vs A.length (JV A))/\Bl w w'
theorem d9r {c:Int} {w w':World} (hb:Bl w w'):GotOwn [] [] c w (.returned (.tuple #[.agg #[.slice none 0 0,.slice none 0 0],I6 c])) w':=⟨⟨_,_,rfl,World.ownsRow_nil _ _ _ _,World.ownsRow_nil _ _ _ _⟩,hb⟩
theorem GotOwn.got {N:List Nd} {A:List Int} {c:Int} {w:World} {e:Ending} {w':World} (h:GotOwn N A c w e w'):d8s N A c w e w':=by
 obtain⟨⟨us,vs,he,h1,h2⟩,hb⟩:=h;exact⟨⟨us,vs,he,(NodesAt.of_owns h1).2,(IntsAt.of_owns h2).2⟩,hb⟩
set_option maxHeartbeats 16000000
set_option maxRecDepth 100000
abbrev f1j (own sheet:jW) (way a n:Int) (K1 K2:Nat):Value:=.agg #[Sg own,Sg sheet,I6 way,I6 a,I6 n,.func (.func K1) #[] #[],.func (.func K2) #[] #[]]
theorem e8j (own sheet:jW) (way a n:Int) (K1 K2:Nat) (w:World):Ca 75 #[f1j own sheet way a n K1 K2] w (Bv (YY way a n)):=by
 have JY:=Qw;obtain⟨R,hR⟩:=nM (YY way a n);rw[<-hR];unfold YY at hR
 have hL:((way==0)=true/\Yx way=52)\/((way==0)=false/\(way==1)=true/\Yx way=99)\/((way==0)=false/\(way==1)=false/\Yx way=0):=by
  by_cases h:way=0
  ·
   exact Or.inl ⟨by simpa using h,if_pos h⟩
  ·
   by_cases h1:way=1
   ·
    exact Or.inr (Or.inl ⟨by simpa using h,by simpa using h1,(if_neg h).trans (if_pos h1)⟩)
   ·
    exact Or.inr (Or.inr ⟨by simpa using h,by simpa using h1,(if_neg h).trans (if_neg h1)⟩)
 rcases hL with ⟨w0,e⟩ | ⟨w0,w1,e⟩ | ⟨w0,w1,e⟩
 case inl =>
  rw[e] at hR;clear e
  cases h1:decide (1<=a)<;>cases h2:decide (a<=52)<;>cases h3:decide (1<=n)<;>cases h4:decide (n<=52)
  all_goals
   rw[h1,h2,h3,h4] at hR;have HR:=zh hR;clear hR;go_enter Tryz.func75,Tryz.ntmps75
   go_upto_region 1 with fail
   obtain⟨s1,C,j6,qq,j8,zC⟩:=qy w (.cells #[Sg own,Sg sheet,I6 way,I6 a,I6 n,.func (.func K1) #[] #[],.func (.func K2) #[] #[]] 82);have yC:=qZ (b:=C) j6 qq;have j7:=qQ bR j6;rw[<-j6];try rw[<-qq]
   clear j6 j8 qq;go_wp2
   go_ret
   exact⟨J4 HR.out.symm,j7⟩
 case inr.inl =>
  rw[e] at hR;clear e
  cases h1:decide (1<=a)<;>cases h2:decide (a<=99)<;>cases h3:decide (1<=n)<;>cases h4:decide (n<=99)
  all_goals
   rw[h1,h2,h3,h4] at hR;have HR:=zh hR;clear hR;go_enter Tryz.func75,Tryz.ntmps75
   go_upto_region 1 with fail
   obtain⟨s2,C,j6,qq,j8,zC⟩:=qy w (.cells #[Sg own,Sg sheet,I6 way,I6 a,I6 n,.func (.func K1) #[] #[],.func (.func K2) #[] #[]] 82);have yC:=qZ (b:=C) j6 qq;have j7:=qQ bR j6;rw[<-j6];try rw[<-qq]
   clear j6 j8 qq;go_wp2
   go_ret
   exact⟨J4 HR.out.symm,j7⟩
 case inr.inr =>
  rw[e] at hR;clear e
  cases h1:decide (1<=a)<;>cases h2:decide (a<=0)<;>cases h3:decide (1<=n)<;>cases h4:decide (n<=0)
  all_goals
   rw[h1,h2,h3,h4] at hR;have HR:=zh hR;clear hR;go_enter Tryz.func75,Tryz.ntmps75
   go_upto_region 1 with fail
   obtain⟨s3,C,j6,qq,j8,zC⟩:=qy w (.cells #[Sg own,Sg sheet,I6 way,I6 a,I6 n,.func (.func K1) #[] #[],.func (.func K2) #[] #[]] 82);have yC:=qZ (b:=C) j6 qq;have j7:=qQ bR j6;rw[<-j6];try rw[<-qq]
   clear j6 j8 qq;go_wp2
   go_ret
   exact⟨J4 HR.out.symm,j7⟩
theorem e6l (own sheet:jW) (way a n:Int) (K1 K2:Nat) (HCF:∀ (x y z t:Value) (w:World),(callFunc K1 #[x,y,z,t]).run Tryz.prog w=.ok (.enter K1 #[x,y,z,t]) w) (r:Rf) (q:Rf × Bool) (w:World)
  (h0:e6j own sheet r=false->q=(r,true)) (h1:e6j own sheet r=true->∀ w,Ca K1 #[.agg #[Sg r.sh,I6 r.c,I6 r.r,Bv r.fc,Bv r.fr],I6 way,I6 a,I6 n] w (.tuple #[.agg #[Sg q.1.sh,I6 q.1.c,I6 q.1.r,Bv q.1.fc,Bv q.1.fr],Bv q.2])) :
  Ca 76 #[f1j own sheet way a n K1 K2,.agg #[Sg r.sh,I6 r.c,I6 r.r,Bv r.fc,Bv r.fr]] w (.tuple #[.agg #[Sg q.1.sh,I6 q.1.c,I6 q.1.r,Bv q.1.fc,Bv q.1.fr],Bv q.2]):=by
 have JY:=Qw;have hp:=fun w=>d8h own sheet r w
 obtain⟨⟨csh,cc,cr,cf,cg⟩,p⟩:=q;obtain⟨rs,rc,rr,rf,rg⟩:=r;dsimp only at h0 h1 hp |-
 cases hT:e6j own sheet ⟨rs,rc,rr,rf,rg⟩ with
 | false =>
  rw[hT] at hp;have HP:=zh hp;have h:=h0 hT;simp only[Prod.mk.injEq,Rf.mk.injEq] at h;obtain⟨⟨rfl,rfl,rfl,rfl,rfl⟩,rfl⟩:=h;clear h0 h1 hp hT;go_enter Tryz.func76,Tryz.ntmps76
  go_upto_region 1 with fail
  obtain⟨s4,C,A,R,j6,qq,jz,Xq,j8,zC,zA,zR⟩:=nm3 w (.cells #[Sg own,Sg sheet,I6 way,I6 a,I6 n,.func (.func K1) #[] #[],.func (.func K2) #[] #[]] 82) (.cells #[Sg csh,I6 cc,I6 cr,Bv cf,Bv cg] 67) (.cells #[S0,I6 0,I6 0,Bv false,Bv false] 67);have dRC:R≠C:=by omega
  have dRA:R≠A:=by omega
  have yC:=by2 (b:=C) j6 qq;have yA:=Y4 (b:=A) j6 (by simp[jz]);have yR:=qZ (b:=R) j6 (by simp[Xq]);have fR:=Qq (b:=R) j6 (by simp[Xq]);have lR:w.heap.size<=R:=by omega
  have j7:=bs3 bR j6;rw[<-j6];try rw[<-Xq]
  try rw[<-jz]
  try rw[<-qq]
  clear j6 j8 qq jz Xq;go_wp2_with fail;refine jy (HP.out _) fun w5 hb=>?_
  replace yA:=jv hb yA zA;replace yR:=jv hb yR zR;replace fR:=qv hb fR zR
  replace j7:=X4 j7 hb;clear hb
  all_goals go_wp2
  all_goals refine jU (v:=.tuple #[.agg #[Sg csh,I6 cc,I6 cr,Bv cf,Bv cg],Bv true]) (by simp[results,Tryz.results76,go_sem,yR]) rfl ⟨rfl,?_⟩
  all_goals exact(Q8 j7 lR)
 | true =>
  rw[hT] at hp;have HP:=zh hp;have HC:=zh (h1 hT);clear h0 h1 hp hT;go_enter Tryz.func76,Tryz.ntmps76
  go_upto_region 1 with fail
  obtain⟨s5,C,A,R,j6,qq,jz,Xq,j8,zC,zA,zR⟩:=nm3 w (.cells #[Sg own,Sg sheet,I6 way,I6 a,I6 n,.func (.func K1) #[] #[],.func (.func K2) #[] #[]] 82) (.cells #[Sg rs,I6 rc,I6 rr,Bv rf,Bv rg] 67) (.cells #[S0,I6 0,I6 0,Bv false,Bv false] 67);have dRC:R≠C:=by omega
  have dRA:R≠A:=by omega
  have yC:=by2 (b:=C) j6 qq;have yA:=Y4 (b:=A) j6 (by simp[jz]);have yR:=qZ (b:=R) j6 (by simp[Xq]);have fR:=Qq (b:=R) j6 (by simp[Xq]);have lR:w.heap.size<=R:=by omega
  have j7:=bs3 bR j6;rw[<-j6];try rw[<-Xq]
  try rw[<-jz]
  try rw[<-qq]
  clear j6 j8 qq jz Xq;go_wp2_with fail;refine jy (HP.out _) fun w5 hb=>?_
  replace yC:=jv hb yC zC;replace yA:=jv hb yA zA;replace yR:=jv hb yR zR;replace fR:=qv hb fR zR;replace zR:=jw hb zR
  replace j7:=X4 j7 hb;clear hb;go_wp2_with fail;refine jy (HC.out _) fun w6 hb=>?_
  replace yR:=jv hb yR zR;replace fR:=qv hb fR zR
  replace j7:=X4 j7 hb;clear hb
  all_goals go_wp2
  all_goals refine jU (v:=.tuple #[.agg #[Sg csh,I6 cc,I6 cr,Bv cf,Bv cg],Bv p]) (by simp[results,Tryz.results76,go_sem,yR,zR]) rfl ⟨rfl,?_⟩
  all_goals exact(Q8 j7 lR)
def f1o (way a n:Int) (r:Rf):Rf × Bool:=(e8m r way a n,e2b r way a n)
def f1p (way a n:Int) (r:Rf):Rf × Bool:=(e8n r way a n,Xw r way a n)
def XZ (own sheet:jW) (p:Rf->Rf × Bool) (n:Nd):Rf × Bool:=if e6j own sheet n.r=true then p n.r else (n.r,true)
def Y8 (way a n:Int) (fo:Nd->Rf × Bool) (fb:Nd->Rf × Rf × Bool) (N:List Nd) (A:List Int):List Nd × List Int × Int:=if Yw N A=false then ([],[],3) else if YY way a n=false then ([],[],2) else (N.map (e2a fo fb),A,0)
theorem f3l (x y:Value) (w:World):(callFunc 76 #[x,y]).run Tryz.prog w=.ok (.enter 76 #[x,y]) w:=by kernel_rfl
theorem f3m (x y z:Value) (w:World):(callFunc 77 #[x,y,z]).run Tryz.prog w=.ok (.enter 77 #[x,y,z]) w:=by kernel_rfl
theorem e2z (own sheet:jW) (way a n:Int) (K1 K2:Nat) (fo:Nd->Rf × Bool) (fb:Nd->Rf × Rf × Bool) (u v:Value) (N:List Nd) (A:List Int) (w:World) (hN:NodesAt w u N) (hA:IntsAt w v A) (hf:∀ n ∈ N,J8 n) (XK:NamesAt w) (hl:A.length<=1000) (hl2:N.length<=1000)
  (h1:Yw N A=true->YY way a n=true->∀ m ∈ N,m.k=5->∀ w,Ca 76 #[f1j own sheet way a n K1 K2,.agg #[Sg m.r.sh,I6 m.r.c,I6 m.r.r,Bv m.r.fc,Bv m.r.fr]] w (.tuple #[.agg #[Sg ((fo m).1).sh,I6 ((fo m).1).c,I6 ((fo m).1).r,Bv ((fo m).1).fc,Bv ((fo m).1).fr],Bv (fo m).2]))
  (h2:Yw N A=true->YY way a n=true->∀ m ∈ N,m.k=6->∀ w,Ca 77 #[f1j own sheet way a n K1 K2,.agg #[Sg m.r.sh,I6 m.r.c,I6 m.r.r,Bv m.r.fc,Bv m.r.fr],.agg #[Sg m.t.sh,I6 m.t.c,I6 m.t.r,Bv m.t.fc,Bv m.t.fr]] w (.tuple #[.agg #[Sg ((fb m).1).sh,I6 ((fb m).1).c,I6 ((fb m).1).r,Bv ((fb m).1).fc,Bv ((fb m).1).fr],.agg #[Sg ((fb m).2.1).sh,I6 ((fb m).2.1).c,I6 ((fb m).2.1).r,Bv ((fb m).2.1).fc,Bv ((fb m).2.1).fr],Bv (fb m).2.2])) :
  Cz 37 #[.agg #[u,v],f1j own sheet way a n K1 K2] w (GotOwn (Y8 way a n fo fb N A).1 (Y8 way a n fo fb N A).2.1 (Y8 way a n fo fb N A).2.2 w):=by
 have JY:=Qw;have hr:=fun W h1 h2 h3=>a3y u v N A W h1 h2 hf h3 hl hl2
 have hmb:=fun w=>e8j own sheet way a n K1 K2 w
 have hfw:=fun W (hn:0<N.length) hR hM h3 h4=>e1g u v 76 77 (f1j own sheet way a n K1 K2) (f1j own sheet way a n K1 K2) f3l f3m fo fb N A W h3 h4 hl hl2 hn (h1 hR hM) (h2 hR hM)
 have HN:=zh hN;have HA:=zh hA;have HM:=zh XK;obtain⟨Po,hPo⟩:=nM (GotOwn (Y8 way a n fo fb N A).1 (Y8 way a n fo fb N A).2.1 (Y8 way a n fo fb N A).2.2 w);rw[<-hPo];obtain⟨F1,hF1⟩:=nM (Value.func (.func K1) #[] #[]);obtain⟨F2,hF2⟩:=nM (Value.func (.func K2) #[] #[]);unfold f1j at hmb hfw |-
 rw[<-hF1,<-hF2] at hmb hfw |-
 clear hF1 hF2 h1 h2
 cases hR:Yw N A with
 | false =>
  rw[hR] at hr;have HR:=zh hr;have J5:Hid (Po=GotOwn [] [] 3 w):=zh (hPo.trans (by unfold Y8;rw[if_pos hR]));clear hr hR hN hA hf hPo XK hmb hfw;go_enter Tryz.func37,Tryz.ntmps37
  go_upto_region 1 with fail
  obtain⟨s6,F,C,R,j6,qY,qq,Xq,j8,zF,zC,zR⟩:=nm3 w (.cells #[u,v] 25) (.cells #[Sg own,Sg sheet,I6 way,I6 a,I6 n,F1,F2] 82) (.cells #[.slice none 0 0,.slice none 0 0] 25);have hN:=bx2 (b:=F) j6 qY;have qV:=hN 0 _ rfl;have J1:=hN 1 _ rfl;clear hN;have hN:=Qz (b:=R) j6 (by simp[Xq]);have hM:=Qq (b:=R) j6 (by simp[Xq]);have J3:=hN 0 _ rfl;have J2:=hN 1 _ rfl;have XJ:=hM 0;have Q7:=hM 1;clear hN hM;have lR:w.heap.size<=R:=by omega
  have j7:=bs3 bR j6;rw[<-j6];try rw[<-Xq]
  try rw[<-qq]
  try rw[<-qY]
  clear j6 j8 qY qq Xq;go_wp2_with fail;refine jy (HR.out _ (HN.out.below j7) (HA.out.below j7) (HM.out.below j7)) fun w5 hb=>?_
  replace J3:=q9 hb J3 zR;replace J2:=q9 hb J2 zR;replace XJ:=QW hb XJ zR;replace Q7:=QW hb Q7 zR;replace j7:=X4 j7 hb;clear hb;go_wp2_with fail;refine jU (v:=.tuple #[.agg #[.slice none 0 0,.slice none 0 0],I6 3]) (by simp[results,Tryz.results37,go_sem,J3,J2,XJ,Q7]) rfl ?_;rw[J5.out];exact d9r (sc2 j7 lR)
 | true =>
  have hS:=b3v hR;rw[hR] at hr;have HR:=zh hr
  cases hM:YY way a n with
  | false =>
   rw[hM] at hmb;have HMB:=zh hmb;have J5:Hid (Po=GotOwn [] [] 2 w):=zh (hPo.trans (by unfold Y8;rw[if_neg (by rw[hR];simp),if_pos hM]));clear hr hR hM hN hA hf hPo XK hmb hfw hS;go_enter Tryz.func37,Tryz.ntmps37
   go_upto_region 1 with fail
   obtain⟨s7,F,C,R,j6,qY,qq,Xq,j8,zF,zC,zR⟩:=nm3 w (.cells #[u,v] 25) (.cells #[Sg own,Sg sheet,I6 way,I6 a,I6 n,F1,F2] 82) (.cells #[.slice none 0 0,.slice none 0 0] 25);have hN:=bx2 (b:=F) j6 qY;have qV:=hN 0 _ rfl;have J1:=hN 1 _ rfl;clear hN;have yC:=Y4 (b:=C) j6 (by simp[qq]);have hN:=Qz (b:=R) j6 (by simp[Xq]);have hM:=Qq (b:=R) j6 (by simp[Xq]);have J3:=hN 0 _ rfl;have J2:=hN 1 _ rfl;have XJ:=hM 0;have Q7:=hM 1;clear hN hM;have lR:w.heap.size<=R:=by omega
   have j7:=bs3 bR j6;rw[<-j6];try rw[<-Xq]
   try rw[<-qq]
   try rw[<-qY]
   clear j6 j8 qY qq Xq;go_wp2_with fail;refine jy (HR.out _ (HN.out.below j7) (HA.out.below j7) (HM.out.below j7)) fun w5 hb=>?_
   replace yC:=jv hb yC zC;replace J3:=q9 hb J3 zR;replace J2:=q9 hb J2 zR;replace XJ:=QW hb XJ zR;replace Q7:=QW hb Q7 zR;replace zR:=jw hb zR;replace j7:=X4 j7 hb;clear hb;go_wp2_with fail;refine jy (HMB.out _) fun w6 hb=>?_
   replace J3:=q9 hb J3 zR;replace J2:=q9 hb J2 zR;replace XJ:=QW hb XJ zR;replace Q7:=QW hb Q7 zR;replace j7:=X4 j7 hb;clear hb;go_wp2_with fail;refine jU (v:=.tuple #[.agg #[.slice none 0 0,.slice none 0 0],I6 2]) (by simp[results,Tryz.results37,go_sem,J3,J2,XJ,Q7,zR]) rfl ?_;rw[J5.out];exact d9r (sc2 j7 lR)
  | true =>
   rw[hM] at hmb;have HMB:=zh hmb;have HFW:=zh (fun W=>hfw W (by omega) hR hM);have J5:Hid (Po=GotOwn (N.map (e2a fo fb)) A 0 w):=zh (hPo.trans (by unfold Y8;rw[if_neg (by rw[hR];simp),if_neg (by rw[hM];simp)]));clear hr hR hM hN hA hf hPo XK hmb hfw hS;generalize N.map (e2a fo fb)=M at HFW J5;go_enter Tryz.func37,Tryz.ntmps37
   go_upto_region 1 with fail
   obtain⟨s8,F,C,R,j6,qY,qq,Xq,j8,zF,zC,zR⟩:=nm3 w (.cells #[u,v] 25) (.cells #[Sg own,Sg sheet,I6 way,I6 a,I6 n,F1,F2] 82) (.cells #[.slice none 0 0,.slice none 0 0] 25);have hN:=bx2 (b:=F) j6 qY;have qV:=hN 0 _ rfl;have J1:=hN 1 _ rfl;clear hN;have yC:=Y4 (b:=C) j6 (by simp[qq]);have hN:=Qz (b:=R) j6 (by simp[Xq]);have hM:=Qq (b:=R) j6 (by simp[Xq]);have J3:=hN 0 _ rfl;have J2:=hN 1 _ rfl;have XJ:=hM 0;have Q7:=hM 1;clear hN hM;have lR:w.heap.size<=R:=by omega
   have j7:=bs3 bR j6;rw[<-j6];try rw[<-Xq]
   try rw[<-qq]
   try rw[<-qY]
   clear j6 j8 qY qq Xq;go_wp2_with fail;refine jy (HR.out _ (HN.out.below j7) (HA.out.below j7) (HM.out.below j7)) fun w5 hb=>?_
   replace qV:=q9 hb qV zF;replace J1:=q9 hb J1 zF;replace zF:=jw hb zF;replace yC:=jv hb yC zC;replace zC:=jw hb zC;replace J3:=q9 hb J3 zR;replace J2:=q9 hb J2 zR;replace XJ:=QW hb XJ zR;replace Q7:=QW hb Q7 zR;replace zR:=jw hb zR;replace j7:=X4 j7 hb;clear hb;go_wp2_with fail;refine jy (HMB.out _) fun w6 hb=>?_
   replace qV:=q9 hb qV zF;replace J1:=q9 hb J1 zF;replace yC:=jv hb yC zC;replace J3:=q9 hb J3 zR;replace J2:=q9 hb J2 zR;replace XJ:=QW hb XJ zR;replace Q7:=QW hb Q7 zR;replace zR:=jw hb zR;replace j7:=X4 j7 hb;clear hb;go_wp2_with fail;refine(HFW.out _ (HN.out.below j7) (HA.out.below j7)).mono ?_;rintro e w7 ⟨⟨us,vs,rfl,h1,h2,-⟩,hb⟩;obtain⟨b1,c1,rfl⟩:=a0l h1;obtain⟨b2,c2,rfl⟩:=a0l h2;have HZR:=zh zR;have HWB:=zh j7.size;have HN7:=zh h1;have HA7:=zh h2;clear h1 h2;obtain⟨ml,hml⟩:=nM M.length;obtain⟨al,hal⟩:=nM A.length;rw[<-hml] at HN7 |-
   rw[<-hal] at HA7 |-
   have HML:=zh hml;have HAL:=zh hal;clear hml hal;replace J3:=q9 hb J3 zR;replace J2:=q9 hb J2 zR;replace XJ:=QW hb XJ zR;replace Q7:=QW hb Q7 zR;replace j7:=X4 j7 hb;clear hb;go_wp2_with fail;refine jU (v:=.tuple #[.agg #[.slice b1 ml c1,.slice b2 al c2],I6 0]) (by simp[results,Tryz.results37,go_sem,J3,J2,XJ,Q7,zR]) rfl ?_;rw[J5.out];exact⟨⟨_,_,rfl,by rw[<-HML.out];exact d6w (ownsRow_setCell_below (ownsRow_setCell_below HN7.out HZR.out _) HZR.out _) HWB.out,by rw[<-HAL.out];exact d6w (ownsRow_setCell_below (ownsRow_setCell_below HA7.out HZR.out _) HZR.out _) HWB.out⟩,(j7.setCell lR _).setCell lR _⟩
theorem f1n {a:Nat} (h:a<=100):a<=maxLen:=jG h (by decide)
theorem e9x (x y z t:Value) (w:World):(callFunc 38 #[x,y,z,t]).run Tryz.prog w=.ok (.enter 38 #[x,y,z,t]) w:=by kernel_rfl
theorem f4j (own sheet:jW) (way a n:Int) (u v:Value) (N:List Nd) (A:List Int) (w:World) (q:List Nd × List Int × Int) (hN:NodesAt w u N) (hA:IntsAt w v A) (XK:NamesAt w)
  (hsh:∀ w,NodesAt w u N->IntsAt w v A->NamesAt w->Cz 37 #[.agg #[u,v],f1j own sheet way a n 38 39] w (GotOwn q.1 q.2.1 q.2.2 w)) :
  Cz 13 #[.agg #[u,v],Sg own,Sg sheet,I6 way,I6 a,I6 n] w (GotOwn q.1 q.2.1 q.2.2 w):=by
 have JY:=Qw;obtain⟨M,B,c⟩:=q;dsimp only at hsh |-
 have HSH:=zh hsh;have HN:=zh hN;have HA:=zh hA;have HM:=zh XK;obtain⟨Po,hPo⟩:=nM (GotOwn M B c w);rw[<-hPo];have J5:=zh hPo;clear hsh hN hA XK hPo;go_enter Tryz.func13,Tryz.ntmps13
 go_upto_region 1 with fail
 obtain⟨s1,F,R,j6,qY,Xq,j8,zF,zR⟩:=YJ w (.cells #[u,v] 25) (.cells #[.slice none 0 0,.slice none 0 0] 25);have hN:=bx1 (b:=F) j6 qY;have qV:=hN 0 _ rfl;have J1:=hN 1 _ rfl;clear hN;have hN:=Qz (b:=R) j6 (by simp[Xq]);have hM:=Qq (b:=R) j6 (by simp[Xq]);have J3:=hN 0 _ rfl;have J2:=hN 1 _ rfl;have XJ:=hM 0;have Q7:=hM 1;clear hN hM;have lR:w.heap.size<=R:=by omega
 have j7:=Yz bR j6;rw[<-j6];try rw[<-Xq]
 try rw[<-qY]
 clear j6 j8 qY Xq;go_wp2_with fail;refine(HSH.out _ (HN.out.below j7) (HA.out.below j7) (HM.out.below j7)).mono ?_;rintro e w7 ⟨⟨us,vs,rfl,h1,h2⟩,hb⟩;obtain⟨b1,c1,rfl⟩:=a0l h1;obtain⟨b2,c2,rfl⟩:=a0l h2;have HZR:=zh zR;have HWB:=zh j7.size;have HN7:=zh h1;have HA7:=zh h2;clear h1 h2;obtain⟨ml,hml⟩:=nM M.length;obtain⟨al,hal⟩:=nM B.length;rw[<-hml] at HN7 |-
 rw[<-hal] at HA7 |-
 have HML:=zh hml;have HAL:=zh hal;clear hml hal;replace J3:=q9 hb J3 zR;replace J2:=q9 hb J2 zR;replace XJ:=QW hb XJ zR;replace Q7:=QW hb Q7 zR;replace j7:=X4 j7 hb;clear hb;go_wp2_with fail;refine jU (v:=.tuple #[.agg #[.slice b1 ml c1,.slice b2 al c2],I6 c]) (by simp[results,Tryz.results13,go_sem,J3,J2,XJ,Q7]) rfl ?_;rw[J5.out];exact⟨⟨_,_,rfl,by rw[<-HML.out];exact d6w (ownsRow_setCell_below (ownsRow_setCell_below HN7.out HZR.out _) HZR.out _) HWB.out,by rw[<-HAL.out];exact d6w (ownsRow_setCell_below (ownsRow_setCell_below HA7.out HZR.out _) HZR.out _) HWB.out⟩,(j7.setCell lR _).setCell lR _⟩
theorem e9y (x y z t:Value) (w:World):(callFunc 45 #[x,y,z,t]).run Tryz.prog w=.ok (.enter 45 #[x,y,z,t]) w:=by kernel_rfl
theorem f4k (own sheet:jW) (way a n:Int) (u v:Value) (N:List Nd) (A:List Int) (w:World) (q:List Nd × List Int × Int) (hN:NodesAt w u N) (hA:IntsAt w v A) (XK:NamesAt w)
  (hsh:∀ w,NodesAt w u N->IntsAt w v A->NamesAt w->Cz 37 #[.agg #[u,v],f1j own sheet way a n 45 46] w (GotOwn q.1 q.2.1 q.2.2 w)) :
  Cz 15 #[.agg #[u,v],Sg own,Sg sheet,I6 way,I6 a,I6 n] w (GotOwn q.1 q.2.1 q.2.2 w):=by
 have JY:=Qw;obtain⟨M,B,c⟩:=q;dsimp only at hsh |-
 have HSH:=zh hsh;have HN:=zh hN;have HA:=zh hA;have HM:=zh XK;obtain⟨Po,hPo⟩:=nM (GotOwn M B c w);rw[<-hPo];have J5:=zh hPo;clear hsh hN hA XK hPo;go_enter Tryz.func15,Tryz.ntmps15
 go_upto_region 1 with fail
 obtain⟨s2,F,R,j6,qY,Xq,j8,zF,zR⟩:=YJ w (.cells #[u,v] 25) (.cells #[.slice none 0 0,.slice none 0 0] 25);have hN:=bx1 (b:=F) j6 qY;have qV:=hN 0 _ rfl;have J1:=hN 1 _ rfl;clear hN;have hN:=Qz (b:=R) j6 (by simp[Xq]);have hM:=Qq (b:=R) j6 (by simp[Xq]);have J3:=hN 0 _ rfl;have J2:=hN 1 _ rfl;have XJ:=hM 0;have Q7:=hM 1;clear hN hM;have lR:w.heap.size<=R:=by omega
 have j7:=Yz bR j6;rw[<-j6];try rw[<-Xq]
 try rw[<-qY]
 clear j6 j8 qY Xq;go_wp2_with fail;refine(HSH.out _ (HN.out.below j7) (HA.out.below j7) (HM.out.below j7)).mono ?_;rintro e w7 ⟨⟨us,vs,rfl,h1,h2⟩,hb⟩;obtain⟨b1,c1,rfl⟩:=a0l h1;obtain⟨b2,c2,rfl⟩:=a0l h2;have HZR:=zh zR;have HWB:=zh j7.size;have HN7:=zh h1;have HA7:=zh h2;clear h1 h2;obtain⟨ml,hml⟩:=nM M.length;obtain⟨al,hal⟩:=nM B.length;rw[<-hml] at HN7 |-
 rw[<-hal] at HA7 |-
 have HML:=zh hml;have HAL:=zh hal;clear hml hal;replace J3:=q9 hb J3 zR;replace J2:=q9 hb J2 zR;replace XJ:=QW hb XJ zR;replace Q7:=QW hb Q7 zR;replace j7:=X4 j7 hb;clear hb;go_wp2_with fail;refine jU (v:=.tuple #[.agg #[.slice b1 ml c1,.slice b2 al c2],I6 c]) (by simp[results,Tryz.results15,go_sem,J3,J2,XJ,Q7]) rfl ?_;rw[J5.out];exact⟨⟨_,_,rfl,by rw[<-HML.out];exact d6w (ownsRow_setCell_below (ownsRow_setCell_below HN7.out HZR.out _) HZR.out _) HWB.out,by rw[<-HAL.out];exact d6w (ownsRow_setCell_below (ownsRow_setCell_below HA7.out HZR.out _) HZR.out _) HWB.out⟩,(j7.setCell lR _).setCell lR _⟩
set_option maxHeartbeats 8000000
theorem e6m (own sheet:jW) (way a n:Int) (K1 K2:Nat) (HCF:∀ (x y z t v:Value) (w:World),(callFunc K2 #[x,y,z,t,v]).run Tryz.prog w=.ok (.enter K2 #[x,y,z,t,v]) w) (r s:Rf) (q:Rf × Rf × Bool) (w:World)
  (h0:e6j own sheet r=false->q=(r,s,true)) (h1:e6j own sheet r=true->∀ w,Ca K2 #[.agg #[Sg r.sh,I6 r.c,I6 r.r,Bv r.fc,Bv r.fr],.agg #[Sg s.sh,I6 s.c,I6 s.r,Bv s.fc,Bv s.fr],I6 way,I6 a,I6 n] w (.tuple #[.agg #[Sg q.1.sh,I6 q.1.c,I6 q.1.r,Bv q.1.fc,Bv q.1.fr],.agg #[Sg q.2.1.sh,I6 q.2.1.c,I6 q.2.1.r,Bv q.2.1.fc,Bv q.2.1.fr],Bv q.2.2])) :
  Ca 77 #[f1j own sheet way a n K1 K2,.agg #[Sg r.sh,I6 r.c,I6 r.r,Bv r.fc,Bv r.fr],.agg #[Sg s.sh,I6 s.c,I6 s.r,Bv s.fc,Bv s.fr]] w (.tuple #[.agg #[Sg q.1.sh,I6 q.1.c,I6 q.1.r,Bv q.1.fc,Bv q.1.fr],.agg #[Sg q.2.1.sh,I6 q.2.1.c,I6 q.2.1.r,Bv q.2.1.fc,Bv q.2.1.fr],Bv q.2.2]):=by
 have JY:=Qw;have hp:=fun w=>d8h own sheet r w
 obtain⟨⟨csh,cc,cr,cf,cg⟩,⟨dsh,dc,dr,df,dg⟩,p⟩:=q;obtain⟨rs,rc,rr,rf,rg⟩:=r;obtain⟨ss,sc,sr,sf,sg⟩:=s;dsimp only at h0 h1 hp |-
 cases hT:e6j own sheet ⟨rs,rc,rr,rf,rg⟩ with
 | false =>
  rw[hT] at hp;have HP:=zh hp;have h:=h0 hT;simp only[Prod.mk.injEq,Rf.mk.injEq] at h;obtain⟨⟨rfl,rfl,rfl,rfl,rfl⟩,⟨rfl,rfl,rfl,rfl,rfl⟩,rfl⟩:=h;clear h0 h1 hp hT;go_enter Tryz.func77,Tryz.ntmps77
  go_upto_region 1 with fail
  obtain⟨s1,C,A,B,R,S,j6,qq,jz,J7,Xq,hdS,j8,zC,zA,zB,zR,zS⟩:=nm5 w (.cells #[Sg own,Sg sheet,I6 way,I6 a,I6 n,.func (.func K1) #[] #[],.func (.func K2) #[] #[]] 82) (.cells #[Sg csh,I6 cc,I6 cr,Bv cf,Bv cg] 67) (.cells #[Sg dsh,I6 dc,I6 dr,Bv df,Bv dg] 67) (.cells #[S0,I6 0,I6 0,Bv false,Bv false] 67) (.cells #[S0,I6 0,I6 0,Bv false,Bv false] 67);have dRC:R≠C:=by omega
  have dRA:R≠A:=by omega
  have dRB:R≠B:=by omega
  have dRS:R≠S:=by omega
  have dSC:S≠C:=by omega
  have dSA:S≠A:=by omega
  have dSB:S≠B:=by omega
  have dSR:S≠R:=by omega
  have yC:=by4 (b:=C) j6 qq;have yA:=by3 (b:=A) j6 (by simp[jz]);have yB:=by2 (b:=B) j6 (by simp[J7]);have yR:=Y4 (b:=R) j6 (by simp[Xq]);have fR:=bf1 (b:=R) j6 (by simp[Xq]);have lR:w.heap.size<=R:=by omega
  have yS:=qZ (b:=S) j6 (by simp[hdS]);have fS:=Qq (b:=S) j6 (by simp[hdS]);have lS:w.heap.size<=S:=by omega
  have j7:=bs5 bR j6;rw[<-j6];try rw[<-hdS]
  try rw[<-Xq]
  try rw[<-J7]
  try rw[<-jz]
  try rw[<-qq]
  clear j6 j8 qq jz J7 Xq hdS;go_wp2_with fail;refine jy (HP.out _) fun w5 hb=>?_
  replace yA:=jv hb yA zA;replace yB:=jv hb yB zB;replace yR:=jv hb yR zR;replace fR:=qv hb fR zR
  replace yS:=jv hb yS zS;replace fS:=qv hb fS zS
  replace j7:=X4 j7 hb;clear hb
  go_upto_region 2 with fail
  go_region
  all_goals go_wp2
  all_goals refine jU (v:=.tuple #[.agg #[Sg csh,I6 cc,I6 cr,Bv cf,Bv cg],.agg #[Sg dsh,I6 dc,I6 dr,Bv df,Bv dg],Bv true]) (by simp[results,Tryz.results77,go_sem,yR,yS]) rfl ⟨rfl,?_⟩
  all_goals exact(Below.drew (Q8 (Q8 j7 lR) lS))
 | true =>
  rw[hT] at hp;have HP:=zh hp;have HC:=zh (h1 hT);clear h0 h1 hp hT;go_enter Tryz.func77,Tryz.ntmps77
  go_upto_region 1 with fail
  obtain⟨s2,C,A,B,R,S,j6,qq,jz,J7,Xq,hdS,j8,zC,zA,zB,zR,zS⟩:=nm5 w (.cells #[Sg own,Sg sheet,I6 way,I6 a,I6 n,.func (.func K1) #[] #[],.func (.func K2) #[] #[]] 82) (.cells #[Sg rs,I6 rc,I6 rr,Bv rf,Bv rg] 67) (.cells #[Sg ss,I6 sc,I6 sr,Bv sf,Bv sg] 67) (.cells #[S0,I6 0,I6 0,Bv false,Bv false] 67) (.cells #[S0,I6 0,I6 0,Bv false,Bv false] 67);have dRC:R≠C:=by omega
  have dRA:R≠A:=by omega
  have dRB:R≠B:=by omega
  have dRS:R≠S:=by omega
  have dSC:S≠C:=by omega
  have dSA:S≠A:=by omega
  have dSB:S≠B:=by omega
  have dSR:S≠R:=by omega
  have yC:=by4 (b:=C) j6 qq;have yA:=by3 (b:=A) j6 (by simp[jz]);have yB:=by2 (b:=B) j6 (by simp[J7]);have yR:=Y4 (b:=R) j6 (by simp[Xq]);have fR:=bf1 (b:=R) j6 (by simp[Xq]);have lR:w.heap.size<=R:=by omega
  have yS:=qZ (b:=S) j6 (by simp[hdS]);have fS:=Qq (b:=S) j6 (by simp[hdS]);have lS:w.heap.size<=S:=by omega
  have j7:=bs5 bR j6;rw[<-j6];try rw[<-hdS]
  try rw[<-Xq]
  try rw[<-J7]
  try rw[<-jz]
  try rw[<-qq]
  clear j6 j8 qq jz J7 Xq hdS;go_wp2_with fail;refine jy (HP.out _) fun w5 hb=>?_
  replace yC:=jv hb yC zC;replace yA:=jv hb yA zA;replace yB:=jv hb yB zB;replace yR:=jv hb yR zR;replace fR:=qv hb fR zR;replace zR:=jw hb zR
  replace yS:=jv hb yS zS;replace fS:=qv hb fS zS;replace zS:=jw hb zS
  replace j7:=X4 j7 hb;clear hb;go_wp2_with fail;refine jy (HC.out _) fun w6 hb=>?_
  replace yR:=jv hb yR zR;replace fR:=qv hb fR zR
  replace yS:=jv hb yS zS;replace fS:=qv hb fS zS
  replace j7:=X4 j7 hb;clear hb
  all_goals go_wp2
  all_goals refine jU (v:=.tuple #[.agg #[Sg csh,I6 cc,I6 cr,Bv cf,Bv cg],.agg #[Sg dsh,I6 dc,I6 dr,Bv df,Bv dg],Bv p]) (by simp[results,Tryz.results77,go_sem,yR,yS,zR,zS]) rfl ⟨rfl,?_⟩
  all_goals exact(Q8 (Q8 j7 lR) lS)
def Yy (own sheet:jW) (p:Rf->Rf->Rf × Rf × Bool) (n:Nd):Rf × Rf × Bool:=if e6j own sheet n.r=true then p n.r n.t else (n.r,n.t,true)
theorem e8k (x y z t v:Value) (w:World):(callFunc 39 #[x,y,z,t,v]).run Tryz.prog w=.ok (.enter 39 #[x,y,z,t,v]) w:=by kernel_rfl
theorem e8l (x y z t v:Value) (w:World):(callFunc 46 #[x,y,z,t,v]).run Tryz.prog w=.ok (.enter 46 #[x,y,z,t,v]) w:=by kernel_rfl
def f4w (n m:Sh):Prop:=n=m\/(n.k<7/\m.k<7/\n.lv=m.lv)
theorem f5i (n:Sh):f4w n n:=Or.inl rfl
theorem f5y {n m:Sh} (h:f4w n m) (A:List Int):Xj A n=Xj A m:=by
 rcases h with rfl | ⟨h1,h2,_⟩
 ·
  rfl
 ·
  unfold Xj;rw[if_neg (by omega),if_neg (by omega),if_neg (by omega),if_neg (by omega),if_neg (by omega),if_neg (by omega)]
theorem f5z {n m:Sh} (h:f4w n m) (A:List Int) (s:Ms):a1f A s n=a1f A s m:=by
 rcases h with rfl | ⟨h1,h2,_⟩
 ·
  rfl
 ·
  unfold a1f;rw[jE (show ¬ n.k=9 by omega),jE (show ¬ m.k=9 by omega)];rfl
theorem f6a {n m:Sh} (h:f4w n m):a0n n=a0n m:=by
 rcases h with rfl | ⟨h1,h2,_⟩
 ·
  rfl
 ·
  unfold a0n;rw[if_neg (by omega),if_neg (by omega)]
theorem f6m {n m:Sh} (h:f4w n m):a1v n=a1v m:=by
 rcases h with rfl | ⟨h1,h2,h3⟩
 ·
  rfl
 ·
  unfold a1v;rw[h3];by_cases h6:m.lv=6
  ·
   rw[if_pos (Or.inr h6),if_pos (Or.inr h6)]
  ·
   rw[if_neg (by omega),if_neg (by omega)]
theorem f6w {n m:Sh} (h:f4w n m):n.lv=m.lv:=by
 rcases h with rfl | ⟨_,_,h3⟩
 ·
  rfl
 ·
  exact h3
theorem f6n {n m x y:Sh} (h:f4w n m) (hx:f4w x y) (i:Nat):brk n x i=brk m y i:=by
 unfold brk;rw[f6w hx]
 rcases h with rfl | ⟨h1,h2,h3⟩
 ·
  rfl
 ·
  rw[if_neg (by omega),if_neg (by omega),if_neg (by omega),if_neg (by omega),h3]
theorem f5j {N M:List Sh} (hl:∀ c,f4w (N.getD c default) (M.getD c default)) (D:List Int) {n m:Sh} (h:f4w n m):∀ (l:List Int) (i:Nat) (d:Int),a2z N D n i l d=a2z M D m i l d
 | [],_,_=>rfl
 | c :: l,i,d=>by
  rw[a2z,a2z,f6n h (hl c.toNat) i];exact f5j hl D h l _ _
theorem f6b {N M:List Sh} (hl:∀ c,f4w (N.getD c default) (M.getD c default)) (A:List Int) (s:Ms) {n m:Sh} (h:f4w n m):a7i N A s n=a7i M A s m:=by
 unfold a7i b3j;rw[f5z h,f5y h,f6a h,f6m h,f5j hl s.deps h]
theorem f5p {N M:List Sh} (hl:∀ c,f4w (N.getD c default) (M.getD c default)) (A:List Int):∀ k,run N A k=run M A k
 | 0=>rfl
 | k+1=>by
  rw[run,run,f5p hl A k]
  cases run M A k with
  | none=>rfl
  | some s=>exact f6b hl A s (hl k)
theorem f6c {N:List Nd} {A:List Int} (f:Nd->Nd) (h:Yw N A=true) (hs:∀ n ∈ N,X9 n=true->X9 (f n)=true/\f4w (qX n) (qX (f n))):Yw (N.map f) A=true:=by
 obtain⟨s,hr,h1,h2,h3,h4,h5,hC,h6⟩:=a3h (C:=cN N) (a9t (N:=N)) h;rw[List.length_map] at hr h1 h3 h4 hC
 have hcan:∀ n ∈ N,X9 n=true:=fun n hn=>by
  obtain⟨i,hi⟩:=List.getElem?_of_mem hn;rw[<-a3j hi];exact hC i (List.getElem?_eq_some_iff.1 hi).1
 have hl:∀ c,f4w ((N.map qX).getD c default) (((N.map f).map qX).getD c default):=fun c=>by
  rw[jJ,jJ,List.getElem?_map,List.getElem?_map,List.getElem?_map]
  cases hn:N[c]? with
  | none=>exact f5i _
  | some n=>exact(hs n (List.mem_of_getElem? hn) (hcan n (List.mem_of_getElem? hn))).2
 have hcM:∀ i,i<(N.map f).length->cN (N.map f) i=true:=fun i hi=>by
  obtain⟨n,hn⟩:∃ n,N[i]?=some n:=⟨_,jH (by simpa using hi)⟩;rw[a3j (n:=f n) (by rw[List.getElem?_map,hn];rfl)];exact(hs n (List.mem_of_getElem? hn) (hcan n (List.mem_of_getElem? hn))).1
 have hrun:run ((N.map f).map qX) A N.length=some s:=by rw[<-f5p hl A];exact hr
 have hlen:((N.map f).map qX).length=N.length:=by simp
 have hd:s.deps.getD (s.tops.headD 0).toNat 0=a4b (N.map qX) A:=by
  rw[h1,b5g hr];unfold a4b;rw[List.length_map]
  congr 1
  simp only[List.headD_cons];omega
 unfold Yw;rw[(b1l (C:=cN (N.map f)) (a9t (N:=N.map f))).1];refine jD ?_;unfold a1q;rw[hlen,if_neg (by omega),runC_iff.2 ⟨fun i hi=>hcM i (by simpa using hi),hrun⟩];unfold c4r;dsimp only;rw[if_neg (by rw[h1,h2];simp),if_neg (by rw[hd];omega)]
theorem f4x {n:Nd} (h:X6 n=n) (hu:a4i n=true):X9 n=true:=by
 unfold X9;rw[hu,(a2o _ _).2 h.symm];rfl
theorem f5g:X9 Y7=true:=f4x rfl rfl
theorem f6o {r:Rf} (h:X8 r=true):X9 (e9t r true)=true:=f4x rfl h
theorem f6d {a b:Rf} (ha:X8 a=true) (hb:X8 b=true):X8 (e0m a b).1=true/\X8 (e0m a b).2=true/\(e0m a b).2.sh=b.sh/\(e0m a b).1.c<=(e0m a b).2.c:=by
 unfold X8 a8g e0m at *;rw[Bool.and_eq_true,a9p] at ha hb;obtain⟨a1,a2⟩:=ha;obtain⟨b1,b2⟩:=hb;by_cases h:a.c > b.c
 ·
  rw[if_pos h];dsimp only;rw[Bool.and_eq_true,Bool.and_eq_true,a9p,a9p];exact⟨⟨a1,by omega⟩,⟨b1,by omega⟩,rfl,by omega⟩
 ·
  rw[if_neg h];dsimp only;rw[Bool.and_eq_true,Bool.and_eq_true,a9p,a9p];exact⟨⟨a1,by omega⟩,⟨b1,by omega⟩,rfl,by omega⟩
theorem f6x {a b:Rf} (ha:X8 a=true) (hb:X8 b=true):X8 (X5 a b).1=true/\X8 (X5 a b).2=true/\(X5 a b).2.sh=b.sh/\(X5 a b).1.c<=(X5 a b).2.c/\(X5 a b).1.r<=(X5 a b).2.r:=by
 obtain⟨h1,h2,h3,h4⟩:=f6d ha hb;unfold X5;dsimp only;generalize (e0m a b).1=p at *;generalize (e0m a b).2=q at *;rw[<-h3];clear ha hb h3;unfold X8 a8g e0n at *;rw[Bool.and_eq_true,a9p] at h1 h2;obtain⟨a1,a2⟩:=h1;obtain⟨b1,b2⟩:=h2;by_cases h:p.r > q.r
 ·
  rw[if_pos h];dsimp only;rw[Bool.and_eq_true,Bool.and_eq_true,a9p,a9p];exact⟨⟨a1,by omega⟩,⟨b1,by omega⟩,rfl,by omega,by omega⟩
 ·
  rw[if_neg h];dsimp only;rw[Bool.and_eq_true,Bool.and_eq_true,a9p,a9p];exact⟨⟨a1,by omega⟩,⟨b1,by omega⟩,rfl,by omega,by omega⟩
theorem f6p {a b:Rf} (ha:X8 a=true) (hb:X8 b=true) (hs:b.sh=⟨#[]⟩):X9 (e8h a b true)=true:=by
 unfold e8h;rw[if_pos rfl]
 split
 case isFalse=>exact f5g
 case isTrue hn =>
  obtain⟨h1,h2,h3,h4,h5⟩:=f6x ha hb;refine f4x rfl ?_;show arB (X5 a b).1 (X5 a b).2=true;unfold arB;rw[(a7h _ _ _ _).2 ⟨hn,h4,h5⟩,show a8g (X5 a b).1.sh (X5 a b).1.c (X5 a b).1.r=true from h1,show a8g (X5 a b).2.sh (X5 a b).2.c (X5 a b).2.r=true from h2,h3,hs];rfl
theorem f5k {n m:Nd} (h1:n.k<7) (h2:m.k<7):f4w (qX n) (qX m):=by
 refine Or.inr ⟨h1,h2,?_⟩;show Y5 n.k n.o=Y5 m.k m.o;unfold Y5;rw[if_neg (by omega),if_neg (by omega),if_neg (by omega),if_neg (by omega)]
theorem f6y (r:Rf) (p:Bool):(e9t r p).k<7:=by cases p<;>exact jB rfl
theorem f6z (r s:Rf) (p:Bool):(e8h r s p).k<7:=by unfold e8h;split<;>(try split)<;>exact jB rfl
theorem f7a {fo:Nd->Rf × Bool} {fb:Nd->Rf × Rf × Bool} {n:Nd} (h:X9 n=true) (h1:n.k=5->(fo n).2=true->X8 (fo n).1=true) (h2:n.k=6->(fb n).2.2=true->X8 (fb n).1=true/\X8 (fb n).2.1=true/\(fb n).2.1.sh=⟨#[]⟩) :
  X9 (e2a fo fb n)=true/\f4w (qX n) (qX (e2a fo fb n)):=by
 by_cases h5:n.k=5
 ·
  rw[f3h (by simpa using h5)];refine⟨?_,f5k (by omega) (f6y _ _)⟩
  cases hp:(fo n).2 with
  | false=>exact f5g
  | true=>exact f6o (h1 h5 hp)
 ·
  by_cases h6:n.k=6
  ·
   rw[f3i (by simpa using h5) (by simpa using h6)];refine⟨?_,f5k (by omega) (f6z _ _ _)⟩
   cases hp:(fb n).2.2 with
   | false=>exact f5g
   | true =>
    obtain⟨g1,g2,g3⟩:=h2 h6 hp;exact f6p g1 g2 g3
  ·
   rw[f0e (by simpa using h5) (by simpa using h6)];exact⟨h,f5i _⟩
theorem f5c {n:Nd} (h:X9 n=true) (hk:n.k=5):e9t n.r true=n:=(f4a h hk).1.symm
theorem f5l {n:Nd} (h:X9 n=true) (hk:n.k=6):e8h n.r n.t true=n:=by
 obtain⟨e,e1,e2,e3,e4⟩:=f4b h hk;unfold e8h;rw[if_pos rfl,e9w e2 e3];dsimp only;rw[if_pos e1];exact e.symm
theorem f6t {fo:Nd->Rf × Bool} {fb:Nd->Rf × Rf × Bool} {n:Nd} (h:J8 n) (h1:(fo n).1.sh.size<=100) (h2:(fb n).1.sh.size<=100/\(fb n).2.1.sh.size<=100):J8 (e2a fo fb n):=by
 have h0:J8 Y7:=by unfold J8;decide
 have hz:(⟨#[]⟩:jW).size<=100:=by decide
 have hz5:(⟨#[]⟩:jW).size<=500:=by decide
 unfold e2a
 split
 ·
  unfold e9t
  split
  ·
   exact⟨hz,hz,hz5,h1,hz⟩
  ·
   exact h0
 ·
  split
  ·
   unfold e8h
   split
   ·
    split
    ·
     refine⟨hz,hz,hz5,?_,?_⟩
     ·
      show ((X5 (fb n).1 (fb n).2.1).1.sh).size<=100;unfold X5 e0m e0n;dsimp only
      split<;>split<;>exact h2.1
     ·
      show ((X5 (fb n).1 (fb n).2.1).2.sh).size<=100;unfold X5 e0m e0n;dsimp only
      split<;>split<;>exact h2.2
    ·
     exact h0
   ·
    exact h0
  ·
   exact h
theorem f5b {q:Rf} {way a n:Int} (h:e2b q way a n=true):X8 (e8m q way a n)=true:=by
 have h0:=h;unfold e2b at h;rw[Bool.and_eq_true,Bool.and_eq_true] at h;obtain⟨⟨h1,h2⟩,h3⟩:=h;obtain⟨k0,k1,k2,k3,k4,k5,k6⟩:=d9t h2;obtain⟨p1,p2⟩:=e4z h1 k0;rw[e1i h0];exact f5u h1 k0 (by unfold shP;split<;>omega) (jB h3)
theorem f5d {a b:Rf} {way x n:Int} (h:e0i a b way x n=true):X8 a=true/\X8 b=true/\YY way x n=true/\Q9 a way<=Q9 b way/\e2b a way x n=true/\e5a a b way x n=e8m a way x n/\e5c a b way x n=if e2b b way x n then e8m b way x n else Y1 b way (Yx way):=by
 obtain⟨e1,e2⟩:=e8p h;unfold e0i at h;rw[Bool.and_eq_true] at h;obtain⟨g1,g2,g3,g4⟩:=e6x h.1;exact⟨g1,g2,g3,by omega,h.2,e1,e2⟩
theorem f6q {a b:Rf} {way x n:Int} (h:e0i a b way x n=true):X8 (e5a a b way x n)=true/\X8 (e5c a b way x n)=true/\(e5c a b way x n).sh=b.sh:=by
 obtain⟨g1,g2,g3,g4,g5,e1,e2⟩:=f5d h;rw[e1,e2];refine⟨f5b g5,?_⟩
 cases hb:e2b b way x n with
 | true=>exact⟨f5b hb,f5v hb⟩
 | false =>
  obtain⟨k0,k1,k2,k3,k4,k5,k6⟩:=d9t g3;exact⟨f5u g2 k0 (by omega) (by omega),f5t _ _ _⟩
theorem f7c {own sheet:jW} {p:Rf->Rf × Bool} {p2:Rf->Rf->Rf × Rf × Bool} (h1:∀ r,(p r).2=true->X8 (p r).1=true) (h2:∀ r s,(p2 r s).2.2=true->X8 (p2 r s).1=true/\X8 (p2 r s).2.1=true/\(p2 r s).2.1.sh=s.sh) {N:List Nd} {A:List Int} (h:Yw N A=true):Yw (N.map (e2a (XZ own sheet p) (Yy own sheet p2))) A=true:=by
 refine f6c _ h fun n _ hc=>f7a hc (fun h5 hy=>?_) (fun h6 hy=>?_)
 ·
  unfold XZ at hy |-
  split at hy
  case isTrue ht=>rw[if_pos ht];exact h1 _ hy
  case isFalse ht=>rw[if_neg ht];exact(f4a hc h5).2
 ·
  unfold Yy at hy |-
  split at hy
  case isTrue ht =>
   rw[if_pos ht];obtain⟨g1,g2,g3⟩:=h2 _ _ hy;exact⟨g1,g2,g3.trans (f4b hc h6).2.2.2.2⟩
  case isFalse ht =>
   rw[if_neg ht];exact⟨(f6e hc h6).1,(f6e hc h6).2,(f4b hc h6).2.2.2.2⟩
theorem f6f (own sheet:jW) (way a n:Int) {N:List Nd} {A:List Int} (h:Yw N A=true):Yw (N.map (e2a (XZ own sheet (f1o way a n)) (Yy own sheet (Yv way a n)))) A=true :=
 f7c (fun _ hy=>f5b hy) (fun _ _ hy=>f6q hy) h
