/-
  
  
  
-/
import Derived.Test.YtddgjgcogkdplaaGreatDoorRewa
import Derived.Test.YtddgjgcogkdplaaGreatDoorCel8
set_option maxHeartbeats 16000000
set_option maxRecDepth 100000
namespace Go.Proofs.YtddgjgcogkdplaaGreatDoor
open Go.RowKit Go.Shelf
set_option linter.unusedSimpArgs false
set_option linter.unusedVariables false
theorem e4v {n:Nd} (h:a1x n=true):n=a0s n/\a4i n=true:=by
 unfold a1x at h;rw[Bool.and_eq_true] at h;exact⟨(a2o _ _).1 h.2,h.1⟩
theorem f4a {n:Nd} (h:a1x n=true) (hk:n.k=5):n=⟨5,0,0,0,false,⟨#[]⟩,⟨#[]⟩,⟨#[]⟩,false,n.r,rf0⟩/\a8g n.r.sh n.r.c n.r.r=true:=by
 obtain⟨hb,hu⟩:=e4v h;unfold a0s at hb;unfold a4i at hu;rw[hk] at hb hu;exact⟨hb,hu⟩
theorem f4b {n:Nd} (h:a1x n=true) (hk:n.k=6):n=⟨6,0,0,0,false,⟨#[]⟩,⟨#[]⟩,⟨#[]⟩,false,n.r,n.t⟩/\a8z n.r.c n.r.r n.t.c n.t.r=0/\n.r.c<=n.t.c/\n.r.r<=n.t.r/\n.t.sh=⟨#[]⟩:=by
 obtain⟨hb,hu⟩:=e4v h;unfold a0s at hb;unfold a4i at hu;rw[hk] at hb hu;have hu:arB n.r n.t=true:=hu;unfold arB at hu;simp only[Bool.and_eq_true,decide_eq_true_eq] at hu;obtain⟨⟨⟨h1,_⟩,_⟩,h4⟩:=hu;obtain⟨e1,e2,e3⟩:=(a7h _ _ _ _).1 h1;exact⟨hb,e1,e2,e3,by have:=ByteArray.size_eq_zero_iff.1 h4;exact this⟩
theorem e9w {a b:Rf} (h1:a.c<=b.c) (h2:a.r<=b.r):d7o a b=(a,b):=by
 have e:e0m a b=(a,b):=if_neg (by omega);unfold d7o;rw[e];exact if_neg (by dsimp only;omega)
theorem f1g (old fresh:ByteArray) (r:Rf):(e1e old fresh r).c=r.c/\(e1e old fresh r).r=r.r:=by
 unfold e1e
 split<;>exact⟨rfl,rfl⟩
def f3j (old fresh:ByteArray) (n:Nd):Rf × Bool:=(e1e old fresh n.r,true)
def f1m (old fresh:ByteArray) (n:Nd):Rf × Rf × Bool:=(e1e old fresh n.r,e1e old fresh n.t,true&&true)
theorem f0f {n:Nd} {old fresh:ByteArray} (hk:n.k=5\/n.k=6):e1c old fresh n={ n with r:=e1e old fresh n.r }:=by
 unfold e1c e1e;by_cases hs:n.r.sh=old/\old≠⟨#[]⟩
 ·
  rw[if_pos hs,if_pos ⟨hk,hs⟩]
 ·
  rw[if_neg hs,if_neg (fun x=>hs x.2)]
theorem f1h {n:Nd} (old fresh:ByteArray) (h:a1x n=true):e2a (f3j old fresh) (f1m old fresh) n=e1c old fresh n:=by
 by_cases h5:n.k=5
 ·
  rw[f3h (by simpa using h5),f0f (Or.inl h5)];obtain⟨e,_⟩:=f4a h h5;obtain⟨k,o,a,b,qn,qa,qd,x,tr,r,t⟩:=n;simp only[Nd.mk.injEq] at e;obtain⟨rfl,rfl,rfl,rfl,rfl,rfl,rfl,rfl,rfl,-,rfl⟩:=e;rfl
 ·
  by_cases h6:n.k=6
  ·
   rw[f3i (by simpa using h5) (by simpa using h6),f0f (Or.inr h6)];obtain⟨e,e1,e2,e3,e4⟩:=f4b h h6;have ht:e1e old fresh n.t=n.t:=if_neg (fun x=>x.2 (x.1.symm.trans e4));obtain⟨c1,c2⟩:=f1g old fresh n.r;unfold f1m e8h;dsimp only;rw[ht,e9w (by rw[c1];exact e2) (by rw[c2];exact e3)];dsimp only;rw[c1,c2,if_pos (by rfl),if_pos e1];generalize e1e old fresh n.r=q;obtain⟨k,o,a,b,qn,qa,qd,x,tr,r,t⟩:=n;simp only[Nd.mk.injEq] at e;obtain⟨rfl,rfl,rfl,rfl,rfl,rfl,rfl,rfl,rfl,-,-⟩:=e;rfl
  ·
   rw[f0e (by simpa using h5) (by simpa using h6)];unfold e1c;rw[if_neg (fun x=>by rcases x.1 with e | e<;>contradiction)]
theorem f1i {N:List Nd} {A:List Int} (old fresh:ByteArray) (h:a0w N A=true):N.map (e2a (f3j old fresh) (f1m old fresh))=N.map (e1c old fresh):=by
 refine List.map_congr_left fun n hn=>?_
 obtain⟨k,hk⟩:=List.getElem?_of_mem hn;exact f1h old fresh (b9k h hk)
def GotOwn (N:List Nd) (A:List Int) (c:Int) (w:World) (e:Ending) (w':World):Prop:=(∃ us vs,e=.returned (.tuple #[.agg #[us,vs],I6 c])/\w'.ownsRow w.heap.size 69 19 us N.length (nodeL N)/\w'.ownsRow w.heap.size 3 1 vs A.length (intL A))/\Bl w w'
theorem d9r {c:Int} {w w':World} (hb:Bl w w'):GotOwn [] [] c w (.returned (.tuple #[.agg #[.slice none 0 0,.slice none 0 0],I6 c])) w':=⟨⟨_,_,rfl,World.ownsRow_nil _ _ _ _,World.ownsRow_nil _ _ _ _⟩,hb⟩
theorem GotOwn.got {N:List Nd} {A:List Int} {c:Int} {w:World} {e:Ending} {w':World} (h:GotOwn N A c w e w'):d8s N A c w e w':=by
 obtain⟨⟨us,vs,he,h1,h2⟩,hb⟩:=h;exact⟨⟨us,vs,he,(NodesAt.of_owns h1).2,(IntsAt.of_owns h2).2⟩,hb⟩
theorem f3k (x y z:Value) (w:World):(callFunc 28 #[x,y,z]).run Tryz.prog w=.ok (.enter 28 #[x,y,z]) w:=by kernel_rfl
theorem e1h (u v:Value) (N:List Nd) (A:List Int) (old fresh:ByteArray) (w:World) (hN:NodesAt w u N) (hA:IntsAt w v A) (hf:∀ n ∈ N,Fits n) (hnm:NamesAt w) (hl:A.length<=1000) (hl2:N.length<=1000) (hs2:fresh.size<=maxLen) :
  Calls Tryz.prog 18 #[.agg #[u,v],.string old,.string fresh] w (GotOwn (d8t N A old fresh).1 (d8t N A old fresh).2.1 (d8t N A old fresh).2.2 w):=by
 have hud:=hUd;have hr:=fun W h1 h2 h3=>a3y u v N A W h1 h2 hf h3 hl hl2
 have hnd:=fun w=>c1m fresh w hs2
 have hfw:=fun W (hn:0<N.length) h1 h2=>e1g u v 50 28 (.agg #[.string old,.string fresh]) (.func (.func 50) #[.agg #[.string old,.string fresh]] #[]) f3a f3k (f3j old fresh) (f1m old fresh) N A W h1 h2 hl hl2 hn (fun n _ _ w=>d8v old fresh n.r w) (fun n _ _ w=>e9u 50 (.agg #[.string old,.string fresh]) f3a n.r n.t (e1e old fresh n.r) (e1e old fresh n.t) true true w (fun w=>d8v old fresh n.r w) (fun w=>d8v old fresh n.t w))
 have HN:=zh hN;have HA:=zh hA;have HM:=zh hnm;obtain⟨Po,hPo⟩:=nM (GotOwn (d8t N A old fresh).1 (d8t N A old fresh).2.1 (d8t N A old fresh).2.2 w);rw[<-hPo]
 cases hR:a0w N A with
 | false =>
  rw[hR] at hr;have HR:=zh hr;have HPO:Hid (Po=GotOwn [] [] 3 w):=zh (hPo.trans (by unfold d8t;rw[if_pos hR]));clear hr hR hN hA hf hPo hnm hnd hfw;go_enter Tryz.func18,Tryz.ntmps18
  go_upto_region 1 with fail
  obtain⟨s1,F,R,hws,hdF,hdR,hsz,zF,zR⟩:=nm2 w (.cells #[u,v] 25) (.cells #[.slice none 0 0,.slice none 0 0] 25);have hN:=bx1 (b:=F) hws hdF;have kF0:=hN 0 _ rfl;have kF1:=hN 1 _ rfl;clear hN;have hN:=bx0 (b:=R) hws (by simp[hdR]);have hM:=bf0 (b:=R) hws (by simp[hdR]);have kR0:=hN 0 _ rfl;have kR1:=hN 1 _ rfl;have fR0:=hM 0;have fR1:=hM 1;clear hN hM;have lR:w.heap.size<=R:=by omega
  have hBo:=bs2 bR hws;rw[<-hws];try rw[<-hdR]
  try rw[<-hdF]
  clear hws hsz hdF hdR;go_wp2_with fail;refine cAn (HR.out _ (HN.out.below hBo) (HA.out.below hBo) (HM.out.below hBo)) fun w5 hb=>?_
  replace kF0:=a0f hb kF0 zF;replace kF1:=a0f hb kF1 zF;replace zF:=zHl hb zF;replace kR0:=a0f hb kR0 zR;replace kR1:=a0f hb kR1 zR;replace fR0:=a0g hb fR0 zR;replace fR1:=a0g hb fR1 zR;replace zR:=zHl hb zR;replace hBo:=f4s hBo hb;clear hb;go_wp2_with fail;refine bodyPost_ret (v:=.tuple #[.agg #[.slice none 0 0,.slice none 0 0],I6 3]) (by simp[results,Tryz.results18,go_sem,kR0,kR1,fR0,fR1,zR]) rfl ?_;rw[HPO.out];exact d9r (sc2 hBo lR)
 | true =>
  have hS:=b3v hR;rw[hR] at hr;have HR:=zh hr
  cases hM:b4n fresh with
  | false =>
   rw[hM] at hnd;have HND:=zh hnd;have HPO:Hid (Po=GotOwn [] [] 11 w):=zh (hPo.trans (by unfold d8t;rw[if_neg (by rw[hR];simp),if_pos hM]));clear hr hR hM hN hA hf hPo hnm hnd hfw hS;go_enter Tryz.func18,Tryz.ntmps18
   go_upto_region 1 with fail
   obtain⟨s2,F,R,hws,hdF,hdR,hsz,zF,zR⟩:=nm2 w (.cells #[u,v] 25) (.cells #[.slice none 0 0,.slice none 0 0] 25);have hN:=bx1 (b:=F) hws hdF;have kF0:=hN 0 _ rfl;have kF1:=hN 1 _ rfl;clear hN;have hN:=bx0 (b:=R) hws (by simp[hdR]);have hM:=bf0 (b:=R) hws (by simp[hdR]);have kR0:=hN 0 _ rfl;have kR1:=hN 1 _ rfl;have fR0:=hM 0;have fR1:=hM 1;clear hN hM;have lR:w.heap.size<=R:=by omega
   have hBo:=bs2 bR hws;rw[<-hws];try rw[<-hdR]
   try rw[<-hdF]
   clear hws hsz hdF hdR;go_wp2_with fail;refine cAn (HR.out _ (HN.out.below hBo) (HA.out.below hBo) (HM.out.below hBo)) fun w5 hb=>?_
   replace kF0:=a0f hb kF0 zF;replace kF1:=a0f hb kF1 zF;replace zF:=zHl hb zF;replace kR0:=a0f hb kR0 zR;replace kR1:=a0f hb kR1 zR;replace fR0:=a0g hb fR0 zR;replace fR1:=a0g hb fR1 zR;replace zR:=zHl hb zR;replace hBo:=f4s hBo hb;clear hb;go_wp2_with fail;refine cAn (HND.out _) fun w6 hb=>?_
   replace kF0:=a0f hb kF0 zF;replace kF1:=a0f hb kF1 zF;replace zF:=zHl hb zF;replace kR0:=a0f hb kR0 zR;replace kR1:=a0f hb kR1 zR;replace fR0:=a0g hb fR0 zR;replace fR1:=a0g hb fR1 zR;replace zR:=zHl hb zR;replace hBo:=f4s hBo hb;clear hb;go_wp2_with fail;refine bodyPost_ret (v:=.tuple #[.agg #[.slice none 0 0,.slice none 0 0],I6 11]) (by simp[results,Tryz.results18,go_sem,kR0,kR1,fR0,fR1,zR]) rfl ?_;rw[HPO.out];exact d9r (sc2 hBo lR)
  | true =>
   rw[hM] at hnd;have HND:=zh hnd;have HFW:=zh (fun W=>hfw W (by omega));have HPO:Hid (Po=GotOwn (N.map (e2a (f3j old fresh) (f1m old fresh))) A 0 w):=zh (hPo.trans (by unfold d8t;rw[if_neg (by rw[hR];simp),if_neg (by rw[hM];simp),f1i old fresh hR]));clear hr hR hM hN hA hf hPo hnm hnd hfw hS;generalize N.map (e2a (f3j old fresh) (f1m old fresh))=M at HFW HPO;go_enter Tryz.func18,Tryz.ntmps18
   go_upto_region 1 with fail
   obtain⟨s3,F,R,hws,hdF,hdR,hsz,zF,zR⟩:=nm2 w (.cells #[u,v] 25) (.cells #[.slice none 0 0,.slice none 0 0] 25);have hN:=bx1 (b:=F) hws hdF;have kF0:=hN 0 _ rfl;have kF1:=hN 1 _ rfl;clear hN;have hN:=bx0 (b:=R) hws (by simp[hdR]);have hM:=bf0 (b:=R) hws (by simp[hdR]);have kR0:=hN 0 _ rfl;have kR1:=hN 1 _ rfl;have fR0:=hM 0;have fR1:=hM 1;clear hN hM;have lR:w.heap.size<=R:=by omega
   have hBo:=bs2 bR hws;rw[<-hws];try rw[<-hdR]
   try rw[<-hdF]
   clear hws hsz hdF hdR;go_wp2_with fail;refine cAn (HR.out _ (HN.out.below hBo) (HA.out.below hBo) (HM.out.below hBo)) fun w5 hb=>?_
   replace kF0:=a0f hb kF0 zF;replace kF1:=a0f hb kF1 zF;replace zF:=zHl hb zF;replace kR0:=a0f hb kR0 zR;replace kR1:=a0f hb kR1 zR;replace fR0:=a0g hb fR0 zR;replace fR1:=a0g hb fR1 zR;replace zR:=zHl hb zR;replace hBo:=f4s hBo hb;clear hb;go_wp2_with fail;refine cAn (HND.out _) fun w6 hb=>?_
   replace kF0:=a0f hb kF0 zF;replace kF1:=a0f hb kF1 zF;replace zF:=zHl hb zF;replace kR0:=a0f hb kR0 zR;replace kR1:=a0f hb kR1 zR;replace fR0:=a0g hb fR0 zR;replace fR1:=a0g hb fR1 zR;replace zR:=zHl hb zR;replace hBo:=f4s hBo hb;clear hb;go_wp2_with fail;refine(HFW.out _ (HN.out.below hBo) (HA.out.below hBo)).mono ?_;rintro e w7 ⟨⟨us,vs,rfl,h1,h2,-⟩,hb⟩;obtain⟨b1,c1,rfl⟩:=a0l h1;obtain⟨b2,c2,rfl⟩:=a0l h2;have HZR:=zh zR;have HWB:=zh hBo.size;have HN7:=zh h1;have HA7:=zh h2;clear h1 h2;obtain⟨ml,hml⟩:=nM M.length;obtain⟨al,hal⟩:=nM A.length;rw[<-hml] at HN7 |-
   rw[<-hal] at HA7 |-
   have HML:=zh hml;have HAL:=zh hal;clear hml hal;replace kF0:=a0f hb kF0 zF;replace kF1:=a0f hb kF1 zF;replace zF:=zHl hb zF;replace kR0:=a0f hb kR0 zR;replace kR1:=a0f hb kR1 zR;replace fR0:=a0g hb fR0 zR;replace fR1:=a0g hb fR1 zR;replace zR:=zHl hb zR;replace hBo:=f4s hBo hb;clear hb;go_wp2_with fail;refine bodyPost_ret (v:=.tuple #[.agg #[.slice b1 ml c1,.slice b2 al c2],I6 0]) (by simp[results,Tryz.results18,go_sem,kR0,kR1,fR0,fR1,zR]) rfl ?_;rw[HPO.out];exact⟨⟨_,_,rfl,by rw[<-HML.out];exact d6w (ownsRow_setCell_below (ownsRow_setCell_below HN7.out HZR.out _) HZR.out _) HWB.out,by rw[<-HAL.out];exact d6w (ownsRow_setCell_below (ownsRow_setCell_below HA7.out HZR.out _) HZR.out _) HWB.out⟩,(hBo.setCell lR _).setCell lR _⟩
abbrev f1j (own sheet:ByteArray) (way a n:Int) (K1 K2:Nat):Value:=.agg #[.string own,.string sheet,I6 way,I6 a,I6 n,.func (.func K1) #[] #[],.func (.func K2) #[] #[]]
theorem e8j (own sheet:ByteArray) (way a n:Int) (K1 K2:Nat) (w:World):Calls Tryz.prog 75 #[f1j own sheet way a n K1 K2] w fun e w'=>e=.returned (.bool (d8b way a n))/\Bl w w':=by
 have hud:=hUd;obtain⟨R,hR⟩:=nM (d8b way a n);rw[<-hR];unfold d8b at hR
 have hL:((way==0)=true/\d7d way=52)\/((way==0)=false/\(way==1)=true/\d7d way=99)\/((way==0)=false/\(way==1)=false/\d7d way=0):=by
  by_cases h:way=0
  ·
   exact Or.inl ⟨by simpa using h,if_pos h⟩
  ·
   by_cases h1:way=1
   ·
    exact Or.inr (Or.inl ⟨by simpa using h,by simpa using h1,(if_neg h).trans (if_pos h1)⟩)
   ·
    exact Or.inr (Or.inr ⟨by simpa using h,by simpa using h1,(if_neg h).trans (if_neg h1)⟩)
 rcases hL with ⟨w0,e⟩ | ⟨w0,w1,e⟩ | ⟨w0,w1,e⟩
 case inl =>
  rw[e] at hR;clear e
  cases h1:decide (1<=a)<;>cases h2:decide (a<=52)<;>cases h3:decide (1<=n)<;>cases h4:decide (n<=52)
  all_goals
   rw[h1,h2,h3,h4] at hR;have HR:=zh hR;clear hR;go_enter Tryz.func75,Tryz.ntmps75
   go_upto_region 1 with fail
   obtain⟨s1,C,hws,hdC,hsz,zC⟩:=nm1 w (.cells #[.string own,.string sheet,I6 way,I6 a,I6 n,.func (.func K1) #[] #[],.func (.func K2) #[] #[]] 82);have yC:=by0 (b:=C) hws hdC;have hBo:=bs1 bR hws;rw[<-hws];try rw[<-hdC]
   clear hws hsz hdC;go_wp2_with fail
   go_ret
   exact⟨a0d HR.out.symm,hBo⟩
 case inr.inl =>
  rw[e] at hR;clear e
  cases h1:decide (1<=a)<;>cases h2:decide (a<=99)<;>cases h3:decide (1<=n)<;>cases h4:decide (n<=99)
  all_goals
   rw[h1,h2,h3,h4] at hR;have HR:=zh hR;clear hR;go_enter Tryz.func75,Tryz.ntmps75
   go_upto_region 1 with fail
   obtain⟨s2,C,hws,hdC,hsz,zC⟩:=nm1 w (.cells #[.string own,.string sheet,I6 way,I6 a,I6 n,.func (.func K1) #[] #[],.func (.func K2) #[] #[]] 82);have yC:=by0 (b:=C) hws hdC;have hBo:=bs1 bR hws;rw[<-hws];try rw[<-hdC]
   clear hws hsz hdC;go_wp2_with fail
   go_ret
   exact⟨a0d HR.out.symm,hBo⟩
 case inr.inr =>
  rw[e] at hR;clear e
  cases h1:decide (1<=a)<;>cases h2:decide (a<=0)<;>cases h3:decide (1<=n)<;>cases h4:decide (n<=0)
  all_goals
   rw[h1,h2,h3,h4] at hR;have HR:=zh hR;clear hR;go_enter Tryz.func75,Tryz.ntmps75
   go_upto_region 1 with fail
   obtain⟨s3,C,hws,hdC,hsz,zC⟩:=nm1 w (.cells #[.string own,.string sheet,I6 way,I6 a,I6 n,.func (.func K1) #[] #[],.func (.func K2) #[] #[]] 82);have yC:=by0 (b:=C) hws hdC;have hBo:=bs1 bR hws;rw[<-hws];try rw[<-hdC]
   clear hws hsz hdC;go_wp2_with fail
   go_ret
   exact⟨a0d HR.out.symm,hBo⟩
theorem e6l (own sheet:ByteArray) (way a n:Int) (K1 K2:Nat) (HCF:∀ (x y z t:Value) (w:World),(callFunc K1 #[x,y,z,t]).run Tryz.prog w=.ok (.enter K1 #[x,y,z,t]) w) (r:Rf) (q:Rf × Bool) (w:World)
  (h0:e6j own sheet r=false->q=(r,true)) (h1:e6j own sheet r=true->∀ w,Calls Tryz.prog K1 #[.agg #[.string r.sh,I6 r.c,I6 r.r,.bool r.fc,.bool r.fr],I6 way,I6 a,I6 n] w fun e w'=>e=.returned (.tuple #[.agg #[.string q.1.sh,I6 q.1.c,I6 q.1.r,.bool q.1.fc,.bool q.1.fr],.bool q.2])/\Bl w w') :
  Calls Tryz.prog 76 #[f1j own sheet way a n K1 K2,.agg #[.string r.sh,I6 r.c,I6 r.r,.bool r.fc,.bool r.fr]] w fun e w'=>e=.returned (.tuple #[.agg #[.string q.1.sh,I6 q.1.c,I6 q.1.r,.bool q.1.fc,.bool q.1.fr],.bool q.2])/\Bl w w':=by
 have hud:=hUd;have hp:=fun w=>d8h own sheet r w
 obtain⟨⟨csh,cc,cr,cf,cg⟩,p⟩:=q;obtain⟨rs,rc,rr,rf,rg⟩:=r;dsimp only at h0 h1 hp |-
 cases hT:e6j own sheet ⟨rs,rc,rr,rf,rg⟩ with
 | false =>
  rw[hT] at hp;have HP:=zh hp;have h:=h0 hT;simp only[Prod.mk.injEq,Rf.mk.injEq] at h;obtain⟨⟨rfl,rfl,rfl,rfl,rfl⟩,rfl⟩:=h;clear h0 h1 hp hT;go_enter Tryz.func76,Tryz.ntmps76
  go_upto_region 1 with fail
  obtain⟨s4,C,A,R,hws,hdC,hdA,hdR,hsz,zC,zA,zR⟩:=nm3 w (.cells #[.string own,.string sheet,I6 way,I6 a,I6 n,.func (.func K1) #[] #[],.func (.func K2) #[] #[]] 82) (.cells #[.string csh,I6 cc,I6 cr,.bool cf,.bool cg] 67) (.cells #[S0,I6 0,I6 0,.bool false,.bool false] 67);have dRC:R≠C:=by omega
  have dRA:R≠A:=by omega
  have yC:=by2 (b:=C) hws hdC;have yA:=by1 (b:=A) hws (by simp[hdA]);have yR:=by0 (b:=R) hws (by simp[hdR]);have fR:=bf0 (b:=R) hws (by simp[hdR]);have lR:w.heap.size<=R:=by omega
  have hBo:=bs3 bR hws;rw[<-hws];try rw[<-hdR]
  try rw[<-hdA]
  try rw[<-hdC]
  clear hws hsz hdC hdA hdR;go_wp2_with fail;refine cAn (HP.out _) fun w5 hb=>?_
  replace yA:=eqB hb yA zA;replace yR:=eqB hb yR zR;replace fR:=fun j=>a0g hb (fR j) zR
  replace hBo:=f4s hBo hb;clear hb
  all_goals go_wp2_with fail
  all_goals refine bodyPost_ret (v:=.tuple #[.agg #[.string csh,I6 cc,I6 cr,.bool cf,.bool cg],.bool true]) (by simp[results,Tryz.results76,go_sem,yR]) rfl ⟨rfl,?_⟩
  all_goals exact(sc5 hBo lR)
 | true =>
  rw[hT] at hp;have HP:=zh hp;have HC:=zh (h1 hT);clear h0 h1 hp hT;go_enter Tryz.func76,Tryz.ntmps76
  go_upto_region 1 with fail
  obtain⟨s5,C,A,R,hws,hdC,hdA,hdR,hsz,zC,zA,zR⟩:=nm3 w (.cells #[.string own,.string sheet,I6 way,I6 a,I6 n,.func (.func K1) #[] #[],.func (.func K2) #[] #[]] 82) (.cells #[.string rs,I6 rc,I6 rr,.bool rf,.bool rg] 67) (.cells #[S0,I6 0,I6 0,.bool false,.bool false] 67);have dRC:R≠C:=by omega
  have dRA:R≠A:=by omega
  have yC:=by2 (b:=C) hws hdC;have yA:=by1 (b:=A) hws (by simp[hdA]);have yR:=by0 (b:=R) hws (by simp[hdR]);have fR:=bf0 (b:=R) hws (by simp[hdR]);have lR:w.heap.size<=R:=by omega
  have hBo:=bs3 bR hws;rw[<-hws];try rw[<-hdR]
  try rw[<-hdA]
  try rw[<-hdC]
  clear hws hsz hdC hdA hdR;go_wp2_with fail;refine cAn (HP.out _) fun w5 hb=>?_
  replace yC:=eqB hb yC zC;replace yA:=eqB hb yA zA;replace yR:=eqB hb yR zR;replace fR:=fun j=>a0g hb (fR j) zR;replace zR:=zHl hb zR
  replace hBo:=f4s hBo hb;clear hb;go_wp2_with fail;refine cAn (HC.out _) fun w6 hb=>?_
  replace yR:=eqB hb yR zR;replace fR:=fun j=>a0g hb (fR j) zR
  replace hBo:=f4s hBo hb;clear hb
  all_goals go_wp2_with fail
  all_goals refine bodyPost_ret (v:=.tuple #[.agg #[.string csh,I6 cc,I6 cr,.bool cf,.bool cg],.bool p]) (by simp[results,Tryz.results76,go_sem,yR,zR]) rfl ⟨rfl,?_⟩
  all_goals exact(sc5 hBo lR)
def f1o (way a n:Int) (r:Rf):Rf × Bool:=(e8m r way a n,e2b r way a n)
def f1p (way a n:Int) (r:Rf):Rf × Bool:=(e8n r way a n,d9n r way a n)
def chF (own sheet:ByteArray) (p:Rf->Rf × Bool) (n:Nd):Rf × Bool:=if e6j own sheet n.r=true then p n.r else (n.r,true)
def chQ (way a n:Int) (fo:Nd->Rf × Bool) (fb:Nd->Rf × Rf × Bool) (N:List Nd) (A:List Int):List Nd × List Int × Int:=if a0w N A=false then ([],[],3) else if d8b way a n=false then ([],[],2) else (N.map (e2a fo fb),A,0)
theorem f3l (x y:Value) (w:World):(callFunc 76 #[x,y]).run Tryz.prog w=.ok (.enter 76 #[x,y]) w:=by kernel_rfl
theorem f3m (x y z:Value) (w:World):(callFunc 77 #[x,y,z]).run Tryz.prog w=.ok (.enter 77 #[x,y,z]) w:=by kernel_rfl
theorem e2z (own sheet:ByteArray) (way a n:Int) (K1 K2:Nat) (fo:Nd->Rf × Bool) (fb:Nd->Rf × Rf × Bool) (u v:Value) (N:List Nd) (A:List Int) (w:World) (hN:NodesAt w u N) (hA:IntsAt w v A) (hf:∀ n ∈ N,Fits n) (hnm:NamesAt w) (hl:A.length<=1000) (hl2:N.length<=1000)
  (h1:∀ m ∈ N,m.k=5->∀ w,Calls Tryz.prog 76 #[f1j own sheet way a n K1 K2,.agg #[.string m.r.sh,I6 m.r.c,I6 m.r.r,.bool m.r.fc,.bool m.r.fr]] w fun e w'=>e=.returned (.tuple #[.agg #[.string ((fo m).1).sh,I6 ((fo m).1).c,I6 ((fo m).1).r,.bool ((fo m).1).fc,.bool ((fo m).1).fr],.bool (fo m).2])/\Bl w w')
  (h2:∀ m ∈ N,m.k=6->∀ w,Calls Tryz.prog 77 #[f1j own sheet way a n K1 K2,.agg #[.string m.r.sh,I6 m.r.c,I6 m.r.r,.bool m.r.fc,.bool m.r.fr],.agg #[.string m.t.sh,I6 m.t.c,I6 m.t.r,.bool m.t.fc,.bool m.t.fr]] w fun e w'=>e=.returned (.tuple #[.agg #[.string ((fb m).1).sh,I6 ((fb m).1).c,I6 ((fb m).1).r,.bool ((fb m).1).fc,.bool ((fb m).1).fr],.agg #[.string ((fb m).2.1).sh,I6 ((fb m).2.1).c,I6 ((fb m).2.1).r,.bool ((fb m).2.1).fc,.bool ((fb m).2.1).fr],.bool (fb m).2.2])/\Bl w w') :
  Calls Tryz.prog 37 #[.agg #[u,v],f1j own sheet way a n K1 K2] w (GotOwn (chQ way a n fo fb N A).1 (chQ way a n fo fb N A).2.1 (chQ way a n fo fb N A).2.2 w):=by
 have hud:=hUd;have hr:=fun W h1 h2 h3=>a3y u v N A W h1 h2 hf h3 hl hl2
 have hmb:=fun w=>e8j own sheet way a n K1 K2 w
 have hfw:=fun W (hn:0<N.length) h3 h4=>e1g u v 76 77 (f1j own sheet way a n K1 K2) (f1j own sheet way a n K1 K2) f3l f3m fo fb N A W h3 h4 hl hl2 hn h1 h2
 have HN:=zh hN;have HA:=zh hA;have HM:=zh hnm;obtain⟨Po,hPo⟩:=nM (GotOwn (chQ way a n fo fb N A).1 (chQ way a n fo fb N A).2.1 (chQ way a n fo fb N A).2.2 w);rw[<-hPo];obtain⟨F1,hF1⟩:=nM (Value.func (.func K1) #[] #[]);obtain⟨F2,hF2⟩:=nM (Value.func (.func K2) #[] #[]);unfold f1j at hmb hfw |-
 rw[<-hF1,<-hF2] at hmb hfw |-
 clear hF1 hF2 h1 h2
 cases hR:a0w N A with
 | false =>
  rw[hR] at hr;have HR:=zh hr;have HPO:Hid (Po=GotOwn [] [] 3 w):=zh (hPo.trans (by unfold chQ;rw[if_pos hR]));clear hr hR hN hA hf hPo hnm hmb hfw;go_enter Tryz.func37,Tryz.ntmps37
  go_upto_region 1 with fail
  obtain⟨s6,F,C,R,hws,hdF,hdC,hdR,hsz,zF,zC,zR⟩:=nm3 w (.cells #[u,v] 25) (.cells #[.string own,.string sheet,I6 way,I6 a,I6 n,F1,F2] 82) (.cells #[.slice none 0 0,.slice none 0 0] 25);have hN:=bx2 (b:=F) hws hdF;have kF0:=hN 0 _ rfl;have kF1:=hN 1 _ rfl;clear hN;have hN:=bx0 (b:=R) hws (by simp[hdR]);have hM:=bf0 (b:=R) hws (by simp[hdR]);have kR0:=hN 0 _ rfl;have kR1:=hN 1 _ rfl;have fR0:=hM 0;have fR1:=hM 1;clear hN hM;have lR:w.heap.size<=R:=by omega
  have hBo:=bs3 bR hws;rw[<-hws];try rw[<-hdR]
  try rw[<-hdC]
  try rw[<-hdF]
  clear hws hsz hdF hdC hdR;go_wp2_with fail;refine cAn (HR.out _ (HN.out.below hBo) (HA.out.below hBo) (HM.out.below hBo)) fun w5 hb=>?_
  replace kR0:=a0f hb kR0 zR;replace kR1:=a0f hb kR1 zR;replace fR0:=a0g hb fR0 zR;replace fR1:=a0g hb fR1 zR;replace hBo:=f4s hBo hb;clear hb;go_wp2_with fail;refine bodyPost_ret (v:=.tuple #[.agg #[.slice none 0 0,.slice none 0 0],I6 3]) (by simp[results,Tryz.results37,go_sem,kR0,kR1,fR0,fR1]) rfl ?_;rw[HPO.out];exact d9r (sc2 hBo lR)
 | true =>
  have hS:=b3v hR;rw[hR] at hr;have HR:=zh hr
  cases hM:d8b way a n with
  | false =>
   rw[hM] at hmb;have HMB:=zh hmb;have HPO:Hid (Po=GotOwn [] [] 2 w):=zh (hPo.trans (by unfold chQ;rw[if_neg (by rw[hR];simp),if_pos hM]));clear hr hR hM hN hA hf hPo hnm hmb hfw hS;go_enter Tryz.func37,Tryz.ntmps37
   go_upto_region 1 with fail
   obtain⟨s7,F,C,R,hws,hdF,hdC,hdR,hsz,zF,zC,zR⟩:=nm3 w (.cells #[u,v] 25) (.cells #[.string own,.string sheet,I6 way,I6 a,I6 n,F1,F2] 82) (.cells #[.slice none 0 0,.slice none 0 0] 25);have hN:=bx2 (b:=F) hws hdF;have kF0:=hN 0 _ rfl;have kF1:=hN 1 _ rfl;clear hN;have yC:=by1 (b:=C) hws (by simp[hdC]);have hN:=bx0 (b:=R) hws (by simp[hdR]);have hM:=bf0 (b:=R) hws (by simp[hdR]);have kR0:=hN 0 _ rfl;have kR1:=hN 1 _ rfl;have fR0:=hM 0;have fR1:=hM 1;clear hN hM;have lR:w.heap.size<=R:=by omega
   have hBo:=bs3 bR hws;rw[<-hws];try rw[<-hdR]
   try rw[<-hdC]
   try rw[<-hdF]
   clear hws hsz hdF hdC hdR;go_wp2_with fail;refine cAn (HR.out _ (HN.out.below hBo) (HA.out.below hBo) (HM.out.below hBo)) fun w5 hb=>?_
   replace yC:=eqB hb yC zC;replace kR0:=a0f hb kR0 zR;replace kR1:=a0f hb kR1 zR;replace fR0:=a0g hb fR0 zR;replace fR1:=a0g hb fR1 zR;replace zR:=zHl hb zR;replace hBo:=f4s hBo hb;clear hb;go_wp2_with fail;refine cAn (HMB.out _) fun w6 hb=>?_
   replace kR0:=a0f hb kR0 zR;replace kR1:=a0f hb kR1 zR;replace fR0:=a0g hb fR0 zR;replace fR1:=a0g hb fR1 zR;replace hBo:=f4s hBo hb;clear hb;go_wp2_with fail;refine bodyPost_ret (v:=.tuple #[.agg #[.slice none 0 0,.slice none 0 0],I6 2]) (by simp[results,Tryz.results37,go_sem,kR0,kR1,fR0,fR1,zR]) rfl ?_;rw[HPO.out];exact d9r (sc2 hBo lR)
  | true =>
   rw[hM] at hmb;have HMB:=zh hmb;have HFW:=zh (fun W=>hfw W (by omega));have HPO:Hid (Po=GotOwn (N.map (e2a fo fb)) A 0 w):=zh (hPo.trans (by unfold chQ;rw[if_neg (by rw[hR];simp),if_neg (by rw[hM];simp)]));clear hr hR hM hN hA hf hPo hnm hmb hfw hS;generalize N.map (e2a fo fb)=M at HFW HPO;go_enter Tryz.func37,Tryz.ntmps37
   go_upto_region 1 with fail
   obtain⟨s8,F,C,R,hws,hdF,hdC,hdR,hsz,zF,zC,zR⟩:=nm3 w (.cells #[u,v] 25) (.cells #[.string own,.string sheet,I6 way,I6 a,I6 n,F1,F2] 82) (.cells #[.slice none 0 0,.slice none 0 0] 25);have hN:=bx2 (b:=F) hws hdF;have kF0:=hN 0 _ rfl;have kF1:=hN 1 _ rfl;clear hN;have yC:=by1 (b:=C) hws (by simp[hdC]);have hN:=bx0 (b:=R) hws (by simp[hdR]);have hM:=bf0 (b:=R) hws (by simp[hdR]);have kR0:=hN 0 _ rfl;have kR1:=hN 1 _ rfl;have fR0:=hM 0;have fR1:=hM 1;clear hN hM;have lR:w.heap.size<=R:=by omega
   have hBo:=bs3 bR hws;rw[<-hws];try rw[<-hdR]
   try rw[<-hdC]
   try rw[<-hdF]
   clear hws hsz hdF hdC hdR;go_wp2_with fail;refine cAn (HR.out _ (HN.out.below hBo) (HA.out.below hBo) (HM.out.below hBo)) fun w5 hb=>?_
   replace kF0:=a0f hb kF0 zF;replace kF1:=a0f hb kF1 zF;replace zF:=zHl hb zF;replace yC:=eqB hb yC zC;replace zC:=zHl hb zC;replace kR0:=a0f hb kR0 zR;replace kR1:=a0f hb kR1 zR;replace fR0:=a0g hb fR0 zR;replace fR1:=a0g hb fR1 zR;replace zR:=zHl hb zR;replace hBo:=f4s hBo hb;clear hb;go_wp2_with fail;refine cAn (HMB.out _) fun w6 hb=>?_
   replace kF0:=a0f hb kF0 zF;replace kF1:=a0f hb kF1 zF;replace yC:=eqB hb yC zC;replace kR0:=a0f hb kR0 zR;replace kR1:=a0f hb kR1 zR;replace fR0:=a0g hb fR0 zR;replace fR1:=a0g hb fR1 zR;replace zR:=zHl hb zR;replace hBo:=f4s hBo hb;clear hb;go_wp2_with fail;refine(HFW.out _ (HN.out.below hBo) (HA.out.below hBo)).mono ?_;rintro e w7 ⟨⟨us,vs,rfl,h1,h2,-⟩,hb⟩;obtain⟨b1,c1,rfl⟩:=a0l h1;obtain⟨b2,c2,rfl⟩:=a0l h2;have HZR:=zh zR;have HWB:=zh hBo.size;have HN7:=zh h1;have HA7:=zh h2;clear h1 h2;obtain⟨ml,hml⟩:=nM M.length;obtain⟨al,hal⟩:=nM A.length;rw[<-hml] at HN7 |-
   rw[<-hal] at HA7 |-
   have HML:=zh hml;have HAL:=zh hal;clear hml hal;replace kR0:=a0f hb kR0 zR;replace kR1:=a0f hb kR1 zR;replace fR0:=a0g hb fR0 zR;replace fR1:=a0g hb fR1 zR;replace hBo:=f4s hBo hb;clear hb;go_wp2_with fail;refine bodyPost_ret (v:=.tuple #[.agg #[.slice b1 ml c1,.slice b2 al c2],I6 0]) (by simp[results,Tryz.results37,go_sem,kR0,kR1,fR0,fR1,zR]) rfl ?_;rw[HPO.out];exact⟨⟨_,_,rfl,by rw[<-HML.out];exact d6w (ownsRow_setCell_below (ownsRow_setCell_below HN7.out HZR.out _) HZR.out _) HWB.out,by rw[<-HAL.out];exact d6w (ownsRow_setCell_below (ownsRow_setCell_below HA7.out HZR.out _) HZR.out _) HWB.out⟩,(hBo.setCell lR _).setCell lR _⟩
theorem e9x (x y z t:Value) (w:World):(callFunc 38 #[x,y,z,t]).run Tryz.prog w=.ok (.enter 38 #[x,y,z,t]) w:=by kernel_rfl
theorem f4j (own sheet:ByteArray) (way a n:Int) (u v:Value) (N:List Nd) (A:List Int) (w:World) (q:List Nd × List Int × Int) (hN:NodesAt w u N) (hA:IntsAt w v A) (hnm:NamesAt w)
  (hsh:∀ w,NodesAt w u N->IntsAt w v A->NamesAt w->Calls Tryz.prog 37 #[.agg #[u,v],f1j own sheet way a n 38 39] w (GotOwn q.1 q.2.1 q.2.2 w)) :
  Calls Tryz.prog 13 #[.agg #[u,v],.string own,.string sheet,I6 way,I6 a,I6 n] w (GotOwn q.1 q.2.1 q.2.2 w):=by
 have hud:=hUd;obtain⟨M,B,c⟩:=q;dsimp only at hsh |-
 have HSH:=zh hsh;have HN:=zh hN;have HA:=zh hA;have HM:=zh hnm;obtain⟨Po,hPo⟩:=nM (GotOwn M B c w);rw[<-hPo];have HPO:=zh hPo;clear hsh hN hA hnm hPo;go_enter Tryz.func13,Tryz.ntmps13
 go_upto_region 1 with fail
 obtain⟨s1,F,R,hws,hdF,hdR,hsz,zF,zR⟩:=nm2 w (.cells #[u,v] 25) (.cells #[.slice none 0 0,.slice none 0 0] 25);have hN:=bx1 (b:=F) hws hdF;have kF0:=hN 0 _ rfl;have kF1:=hN 1 _ rfl;clear hN;have hN:=bx0 (b:=R) hws (by simp[hdR]);have hM:=bf0 (b:=R) hws (by simp[hdR]);have kR0:=hN 0 _ rfl;have kR1:=hN 1 _ rfl;have fR0:=hM 0;have fR1:=hM 1;clear hN hM;have lR:w.heap.size<=R:=by omega
 have hBo:=bs2 bR hws;rw[<-hws];try rw[<-hdR]
 try rw[<-hdF]
 clear hws hsz hdF hdR;go_wp2_with fail;refine(HSH.out _ (HN.out.below hBo) (HA.out.below hBo) (HM.out.below hBo)).mono ?_;rintro e w7 ⟨⟨us,vs,rfl,h1,h2⟩,hb⟩;obtain⟨b1,c1,rfl⟩:=a0l h1;obtain⟨b2,c2,rfl⟩:=a0l h2;have HZR:=zh zR;have HWB:=zh hBo.size;have HN7:=zh h1;have HA7:=zh h2;clear h1 h2;obtain⟨ml,hml⟩:=nM M.length;obtain⟨al,hal⟩:=nM B.length;rw[<-hml] at HN7 |-
 rw[<-hal] at HA7 |-
 have HML:=zh hml;have HAL:=zh hal;clear hml hal;replace kF0:=a0f hb kF0 zF;replace kF1:=a0f hb kF1 zF;replace zF:=zHl hb zF;replace kR0:=a0f hb kR0 zR;replace kR1:=a0f hb kR1 zR;replace fR0:=a0g hb fR0 zR;replace fR1:=a0g hb fR1 zR;replace zR:=zHl hb zR;replace hBo:=f4s hBo hb;clear hb;go_wp2_with fail;refine bodyPost_ret (v:=.tuple #[.agg #[.slice b1 ml c1,.slice b2 al c2],I6 c]) (by simp[results,Tryz.results13,go_sem,kR0,kR1,fR0,fR1,zR]) rfl ?_;rw[HPO.out];exact⟨⟨_,_,rfl,by rw[<-HML.out];exact d6w (ownsRow_setCell_below (ownsRow_setCell_below HN7.out HZR.out _) HZR.out _) HWB.out,by rw[<-HAL.out];exact d6w (ownsRow_setCell_below (ownsRow_setCell_below HA7.out HZR.out _) HZR.out _) HWB.out⟩,(hBo.setCell lR _).setCell lR _⟩
theorem e9y (x y z t:Value) (w:World):(callFunc 45 #[x,y,z,t]).run Tryz.prog w=.ok (.enter 45 #[x,y,z,t]) w:=by kernel_rfl
theorem f4k (own sheet:ByteArray) (way a n:Int) (u v:Value) (N:List Nd) (A:List Int) (w:World) (q:List Nd × List Int × Int) (hN:NodesAt w u N) (hA:IntsAt w v A) (hnm:NamesAt w)
  (hsh:∀ w,NodesAt w u N->IntsAt w v A->NamesAt w->Calls Tryz.prog 37 #[.agg #[u,v],f1j own sheet way a n 45 46] w (GotOwn q.1 q.2.1 q.2.2 w)) :
  Calls Tryz.prog 15 #[.agg #[u,v],.string own,.string sheet,I6 way,I6 a,I6 n] w (GotOwn q.1 q.2.1 q.2.2 w):=by
 have hud:=hUd;obtain⟨M,B,c⟩:=q;dsimp only at hsh |-
 have HSH:=zh hsh;have HN:=zh hN;have HA:=zh hA;have HM:=zh hnm;obtain⟨Po,hPo⟩:=nM (GotOwn M B c w);rw[<-hPo];have HPO:=zh hPo;clear hsh hN hA hnm hPo;go_enter Tryz.func15,Tryz.ntmps15
 go_upto_region 1 with fail
 obtain⟨s2,F,R,hws,hdF,hdR,hsz,zF,zR⟩:=nm2 w (.cells #[u,v] 25) (.cells #[.slice none 0 0,.slice none 0 0] 25);have hN:=bx1 (b:=F) hws hdF;have kF0:=hN 0 _ rfl;have kF1:=hN 1 _ rfl;clear hN;have hN:=bx0 (b:=R) hws (by simp[hdR]);have hM:=bf0 (b:=R) hws (by simp[hdR]);have kR0:=hN 0 _ rfl;have kR1:=hN 1 _ rfl;have fR0:=hM 0;have fR1:=hM 1;clear hN hM;have lR:w.heap.size<=R:=by omega
 have hBo:=bs2 bR hws;rw[<-hws];try rw[<-hdR]
 try rw[<-hdF]
 clear hws hsz hdF hdR;go_wp2_with fail;refine(HSH.out _ (HN.out.below hBo) (HA.out.below hBo) (HM.out.below hBo)).mono ?_;rintro e w7 ⟨⟨us,vs,rfl,h1,h2⟩,hb⟩;obtain⟨b1,c1,rfl⟩:=a0l h1;obtain⟨b2,c2,rfl⟩:=a0l h2;have HZR:=zh zR;have HWB:=zh hBo.size;have HN7:=zh h1;have HA7:=zh h2;clear h1 h2;obtain⟨ml,hml⟩:=nM M.length;obtain⟨al,hal⟩:=nM B.length;rw[<-hml] at HN7 |-
 rw[<-hal] at HA7 |-
 have HML:=zh hml;have HAL:=zh hal;clear hml hal;replace kF0:=a0f hb kF0 zF;replace kF1:=a0f hb kF1 zF;replace zF:=zHl hb zF;replace kR0:=a0f hb kR0 zR;replace kR1:=a0f hb kR1 zR;replace fR0:=a0g hb fR0 zR;replace fR1:=a0g hb fR1 zR;replace zR:=zHl hb zR;replace hBo:=f4s hBo hb;clear hb;go_wp2_with fail;refine bodyPost_ret (v:=.tuple #[.agg #[.slice b1 ml c1,.slice b2 al c2],I6 c]) (by simp[results,Tryz.results15,go_sem,kR0,kR1,fR0,fR1,zR]) rfl ?_;rw[HPO.out];exact⟨⟨_,_,rfl,by rw[<-HML.out];exact d6w (ownsRow_setCell_below (ownsRow_setCell_below HN7.out HZR.out _) HZR.out _) HWB.out,by rw[<-HAL.out];exact d6w (ownsRow_setCell_below (ownsRow_setCell_below HA7.out HZR.out _) HZR.out _) HWB.out⟩,(hBo.setCell lR _).setCell lR _⟩
end Go.Proofs.YtddgjgcogkdplaaGreatDoor
