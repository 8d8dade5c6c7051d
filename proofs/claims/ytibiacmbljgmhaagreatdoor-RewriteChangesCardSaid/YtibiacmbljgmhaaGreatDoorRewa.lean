import Derived.Test.YtibiacmbljgmhaaGreatDoorRdrg
import Derived.Test.YtibiacmbljgmhaaGreatDoorRew4
import Derived.Test.YtibiacmbljgmhaaGreatDoorRew6
set_option maxHeartbeats 64000000
set_option maxRecDepth 100000
namespace Go.Proofs.YtibiacmbljgmhaaGreatDoor
open Go.RowKit Go.Shelf
set_option linter.all false
theorem d7v {ops:Array Oper} {o:Oper} {a:Act} {w:World} {KK:Act->World->Prop} {Q:Exit->Act->World->Prop} {E:Prop} (hgd:o.guard=none) (x y:Operand) (ho:o.op=.store 69 x y) (hd:o.dst=none)
  {base k K:Nat} {g on n cap:Nat} {N:List Nd} (m:Nd) (hK:Hid (K=19)) (hon:Hid (on=0)) (hown:w.ownsRow base 69 19 (.slice (some ⟨g,on,none⟩) n cap) n (nodeL N)) (hk:k<N.length) (hx:a.eval x=.pointer (some ⟨g,on+k*K,none⟩)) (hy:a.eval y=Y2 m)
  (h:∀ w',w'.ownsRow base 69 19 (.slice (some ⟨g,on,none⟩) n cap) n (nodeL (N.set k m))->w.grownBy w' (some g)->w'.heap.size=w.heap.size->KK a w'):if Region.wanted o (yielded ops a.tmps)=true then Oper.wp Tryz.prog o a w KK Q else E:=by
 have hw:Region.wanted o (yielded ops a.tmps)=true:=by simp[Region.wanted,hgd]
 rw[if_pos hw];obtain rfl:=hon.out;obtain rfl:=hK.out;rw[Nat.zero_add] at hx;have hl:=hown.1;rw[b1z] at hl;have hn:n=N.length:=by omega
 rcases hown.2 with ⟨hv,_⟩ | ⟨g',cap',cur,hv,hb,hgg,hc,hm,hs,ht⟩
 ·
  cases hv
 ·
  obtain⟨rfl,rfl⟩:g=g'/\cap=cap':=by simpa using hv
  have hkn:k+1<=n:=by omega
  have h19:k*19+19<=n*19:=by omega
  have hcs:n*19<=cur.size:=by rw[hs];exact Nat.mul_le_mul_right _ hc
  refine e0g (P:=Tryz.prog) 69 x y ho g (k*19) (Qk m).toArray hx hy 69 cur hgg (by kernel_rfl) (by show k*19+19<=cur.size;omega) (by rfl) ?_;rw[hd];refine h _ ⟨by rw[b1z,List.length_set];omega,Or.inr ⟨g,cap,_,rfl,hb,setRow_heap w g cur _ _ _ hgg,hc,hm,?_,?_⟩⟩ ⟨by unfold World.setRow;rfl,by unfold World.setRow;rfl,by unfold World.setRow;rfl,by rw[d7x];exact jC _,fun j _ hj=>e1b (fun e=>hj (by rw[e]))⟩ d7x
  ·
   show (cur.toList.take (k*19)++Qk m++cur.toList.drop (k*19+19)).length=cap*19;rw[jM,jM,List.length_take,List.length_drop,a6h,Array.length_toList,<-hs];omega
  ·
   show (cur.toList.take (k*19)++Qk m++cur.toList.drop (k*19+19)).take (n*19)=nodeL (N.set k m);rw[e0h N k m hk,<-ht,List.take_take,Nat.min_eq_left (by omega),List.drop_take];rw[List.append_assoc,List.append_assoc,List.take_append,List.take_append,List.length_take,Array.length_toList,Nat.min_eq_left (by omega),a6h,List.take_take,Nat.min_eq_right (by omega)]
   congr 1
   rw[jS (by rw[a6h];omega)];rw[Nat.sub_sub]
def f3p (s:World) (N:List Nd) (A:List Int) (q:Value) (wx:World):Prop:=∃ O us vs,q=.pointer (some ⟨O,0,none⟩)/\GAt wx O s.heap.size N A us vs/\Bl s wx
theorem bTr {s W x:World} (hb:Bl W x) (h:Bl s W):Bl s x:=bT h hb
theorem bSt (s W:World) (h:Bl s W:=by repeat (with_reducible first | assumption | exact Below.refl _ _ | apply X7 | apply Below.drew)):Bl s W:=h
theorem e8i {W:World} {O b:Nat} {N:List Nd} {A:List Int} {us vs x y:Value} (k0:W.cell? ⟨O,0,none⟩=some x) (k1:W.cell? ⟨O,1,none⟩=some y) (f0:W.frozen? ⟨O,0,none⟩=false) (f1:W.frozen? ⟨O,1,none⟩=false)
  (ou:W.ownsRow b 69 19 us N.length (nodeL N)) (ov:W.ownsRow b 3 1 vs A.length (JV A)) (uv:∀ g,us.ownBlock=some g->vs.ownBlock=some g->False) (up:∀ g,us.ownBlock=some g->O≠g) (vp:∀ g,vs.ownBlock=some g->O≠g) (pb:b<=O):GAt ((W.setCell ⟨O,0,none⟩ us).setCell ⟨O,1,none⟩ vs) O b N A us vs:=by
 have hk:∀ {base size n:Nat} {t:TypeId} {v z:Value} {xs:List Value} {V:World} {o:Nat},(∀ g,v.ownBlock=some g->O≠g)->V.ownsRow base t size v n xs->(V.setCell ⟨O,o,none⟩ z).ownsRow base t size v n xs:=fun {base size n t v z xs V o} hne h=>by
  refine h.kept (b0b V O o z) ?_
  cases hv:v.ownBlock with
  | none=>exact Or.inl rfl
  | some g=>exact Or.inr (fun e=>hne g hv (jA e).symm)
 exact⟨a0h (a0z k0 f0) (by omega),a0z (a0h k1 (by omega)) (frz_set.trans f1),frz_set.trans (frz_set.trans f0),frz_set.trans (frz_set.trans f1),hk up (hk up ou),hk vp (hk vp ov),uv,up,vp,pb,by simpa using Xk k0⟩
theorem f3d {W:World} {b:Nat} {t:TypeId} {N:List Nd} {A:List Int} {us vs:Value} (ou:W.ownsRow b 69 19 us N.length (nodeL N)) (ov:W.ownsRow b 3 1 vs A.length (JV A)) (uv:∀ g,us.ownBlock=some g->vs.ownBlock=some g->False) (pb:b<=W.heap.size):GAt (W.alloc (.cells #[us,vs] t)) W.heap.size b N A us vs:=by
 have hr:(W.alloc (.cells #[us,vs] t)).heap[W.heap.size]?=some (.cells #[us,vs] t (0,0)):=by rw[<-World.alloc_eq];show (W.heap.push _)[W.heap.size]?=_;simp
 exact⟨by unfold World.cell?;rw[hr];rfl,by unfold World.cell?;rw[hr];rfl,by unfold World.frozen?;rw[hr];rfl,by unfold World.frozen?;rw[hr];rfl,ou.alloc _,ov.alloc _,uv,fun g hg e=>by have:=(ou.lt g hg).2;omega,fun g hg e=>by have:=(ov.lt g hg).2;omega,pb,by simp⟩
theorem e4b {s W1 x1 W2 x2:World} {us vs:Value} {nl al:Nat} {N:List Nd} {A:List Int} (OX:x1.ownsRow W1.heap.size 69 19 us nl (nodeL N)) (BX:Bl W1 x1) (OY:x2.ownsRow W2.heap.size 3 1 vs al (JV A)) (BY:Bl W2 x2) (hn:nl=N.length) (ha:al=A.length) (h1:Bl s W1) (h2:Bl x1 W2) :
  x2.ownsRow s.heap.size 69 19 us N.length (nodeL N)/\x2.ownsRow s.heap.size 3 1 vs A.length (JV A)/\(∀ g,us.ownBlock=some g->vs.ownBlock=some g->False)/\Bl s x2:=by
 subst hn;subst ha;have hx:=bTr BX h1;exact⟨d6w (a1g OX (bTr BY h2)) h1.size,d6w OY (by have:=h2.size;have:=hx.size;omega),fun g a b=>by have:=(OX.lt g a).2;have:=(OY.lt g b).1;have:=h2.size;omega,bTr BY (bT hx h2)⟩
theorem f3e {s W1 x1 W2 x2:World} {us vs:Value} {nl al:Nat} {t:TypeId} {N:List Nd} {A:List Int} (OX:x1.ownsRow W1.heap.size 69 19 us nl (nodeL N)) (BX:Bl W1 x1) (OY:x2.ownsRow W2.heap.size 3 1 vs al (JV A)) (BY:Bl W2 x2) (hn:nl=N.length) (ha:al=A.length) (h1:Bl s W1) (h2:Bl x1 W2) :
  f3p s N A (.pointer (some ⟨x2.heap.size,0,none⟩)) (x2.alloc (.cells #[us,vs] t)):=by
 obtain⟨ou,ov,uv,hT⟩:=e4b OX BX OY BY hn ha h1 h2;exact⟨_,_,_,rfl,f3d ou ov uv hT.size,hT.alloc hT.size _⟩
theorem f3f {s W1 x1 W2 x2:World} {us vs c0 c1:Value} {nl al O:Nat} {N:List Nd} {A:List Int} (OX:x1.ownsRow W1.heap.size 69 19 us nl (nodeL N)) (BX:Bl W1 x1) (OY:x2.ownsRow W2.heap.size 3 1 vs al (JV A)) (BY:Bl W2 x2) (hn:nl=N.length) (ha:al=A.length) (h1:Bl s W1) (h2:Bl x1 W2)
  (hO:O=x1.heap.size) (hz:O<W2.heap.size) (k0:W2.cell? ⟨O,0,none⟩=some c0) (k1:W2.cell? ⟨O,1,none⟩=some c1) (f0:W2.frozen? ⟨O,0,none⟩=false) (f1:W2.frozen? ⟨O,1,none⟩=false) :
  f3p s N A (.pointer (some ⟨O,0,none⟩)) ((x2.setCell ⟨O,0,none⟩ us).setCell ⟨O,1,none⟩ vs):=by
 obtain⟨ou,ov,uv,hT⟩:=e4b OX BX OY BY hn ha h1 h2;have hx:=(bTr BX h1).size;exact⟨_,_,_,rfl,e8i (q9 BY k0 hz) (q9 BY k1 hz) (QW BY f0 hz) (QW BY f1 hz) ou ov uv (fun g hg e=>by have:=(OX.lt g hg).2;omega) (fun g hg e=>by have:=(OY.lt g hg).1;omega) (by omega),(hT.setCell (by dsimp only;omega) _).setCell (by dsimp only;omega) _⟩
theorem f3g {s W1 x1 W2 x2:World} {us vs c0 c1:Value} {nl al O:Nat} {N:List Nd} {A:List Int} (OX:x1.ownsRow W1.heap.size 69 19 us nl (nodeL N)) (BX:Bl W1 x1) (OY:x2.ownsRow W2.heap.size 3 1 vs al (JV A)) (BY:Bl W2 x2) (hn:nl=N.length) (ha:al=A.length) (h1:Bl s W1) (h2:Bl x1 W2)
  (hO:O=s.heap.size) (hz:O<W1.heap.size) (k0:W1.cell? ⟨O,0,none⟩=some c0) (k1:W1.cell? ⟨O,1,none⟩=some c1) (f0:W1.frozen? ⟨O,0,none⟩=false) (f1:W1.frozen? ⟨O,1,none⟩=false) :
  f3p s N A (.pointer (some ⟨O,0,none⟩)) ((x2.setCell ⟨O,0,none⟩ us).setCell ⟨O,1,none⟩ vs):=by
 obtain⟨ou,ov,uv,hT⟩:=e4b OX BX OY BY hn ha h1 h2;have hB:Bl x1 x2:=bTr BY h2;have z1:=BX.size;have z2:=h2.size;have hz1:O<x1.heap.size:=by omega
 exact⟨_,_,_,rfl,e8i (q9 hB (q9 BX k0 hz) hz1) (q9 hB (q9 BX k1 hz) hz1) (QW hB (QW BX f0 hz) hz1) (QW hB (QW BX f1 hz) hz1) ou ov uv (fun g hg e=>by have:=(OX.lt g hg).1;omega) (fun g hg e=>by have:=(OY.lt g hg).1;omega) (by omega),(hT.setCell (by dsimp only;omega) _).setCell (by dsimp only;omega) _⟩
def e2a (fo:Nd->Rf × Bool) (fb:Nd->Rf × Rf × Bool) (n:Nd):Nd:=if n.k=5 then e9t (fo n).1 (fo n).2 else if n.k=6 then e8h (fb n).1 (fb n).2.1 (fb n).2.2 else n
theorem f3h {fo:Nd->Rf × Bool} {fb:Nd->Rf × Rf × Bool} {n:Nd} (h:(n.k==5)=true):e2a fo fb n=e9t (fo n).1 (fo n).2:=if_pos (by simpa using h)
theorem f3i {fo:Nd->Rf × Bool} {fb:Nd->Rf × Rf × Bool} {n:Nd} (h5:(n.k==5)=false) (h:(n.k==6)=true):e2a fo fb n=e8h (fb n).1 (fb n).2.1 (fb n).2.2:=(if_neg (by simpa using h5)).trans (if_pos (by simpa using h))
theorem f0e {fo:Nd->Rf × Bool} {fb:Nd->Rf × Rf × Bool} {n:Nd} (h5:(n.k==5)=false) (h:(n.k==6)=false):e2a fo fb n=n:=(if_neg (by simpa using h5)).trans (if_neg (by simpa using h))
theorem e1g (u v:Value) (K1 K2:Nat) (V1 V2:Value) (HCF:∀ (x y:Value) (w:World),(callFunc K1 #[x,y]).run Tryz.prog w=.ok (.enter K1 #[x,y]) w) (HCG:∀ (x y z:Value) (w:World),(callFunc K2 #[x,y,z]).run Tryz.prog w=.ok (.enter K2 #[x,y,z]) w)
  (fo:Nd->Rf × Bool) (fb:Nd->Rf × Rf × Bool) (N:List Nd) (A:List Int) (w:World) (hN:NodesAt w u N) (hA:IntsAt w v A) (hl:A.length<=1000) (hl2:N.length<=1000) (hl3:0<N.length)
  (h1:∀ n ∈ N,n.k=5->∀ w,Ca K1 #[V1,.agg #[Sg n.r.sh,I6 n.r.c,I6 n.r.r,Bv n.r.fc,Bv n.r.fr]] w (.tuple #[.agg #[Sg ((fo n).1).sh,I6 ((fo n).1).c,I6 ((fo n).1).r,Bv ((fo n).1).fc,Bv ((fo n).1).fr],Bv (fo n).2]))
  (h2:∀ n ∈ N,n.k=6->∀ w,Ca K2 #[V2,.agg #[Sg n.r.sh,I6 n.r.c,I6 n.r.r,Bv n.r.fc,Bv n.r.fr],.agg #[Sg n.t.sh,I6 n.t.c,I6 n.t.r,Bv n.t.fc,Bv n.t.fr]] w (.tuple #[.agg #[Sg ((fb n).1).sh,I6 ((fb n).1).c,I6 ((fb n).1).r,Bv ((fb n).1).fc,Bv ((fb n).1).fr],.agg #[Sg ((fb n).2.1).sh,I6 ((fb n).2.1).c,I6 ((fb n).2.1).r,Bv ((fb n).2.1).fc,Bv ((fb n).2.1).fr],Bv (fb n).2.2])) :
  Cz 27 #[.agg #[u,v],.func (.func K1) #[V1] #[],.func (.func K2) #[V2] #[]] w (b9w (N.map (e2a fo fb)) A w):=by
 have JY:=Qw;obtain⟨K19,hz19,HK19⟩:=Y9;have HCN:=zh (fun W h=>e6h u N W h (by omega));have HCI:=zh (fun W h=>e6i v A W h hl);have HN:=zh hN;have HA:=zh hA;obtain⟨bq,cq,rfl,_⟩:=hN.slice;obtain⟨Po,hPo⟩:=nM (b9w (N.map (e2a fo fb)) A w);rw[<-hPo];have J5:=zh hPo;have HH1:=zh h1;have HH2:=zh h2;have HGE:Hid (∀ k,k<N.length->∃ n,N[k]?=some n):=fun k h=>⟨_,jH h⟩
 obtain⟨LN,hLN⟩:=nM N.length;rw[<-hLN] at HCN HGE hl2 hl3 |-
 have J6:=zh hLN;clear hPo hN hA h1 h2 hLN;go_enter Tryz.func27,Tryz.ntmps27
 go_upto_region 1 with fail
 obtain⟨s1,F,R,j6,qY,Xq,j8,zF,zR⟩:=YJ w (.cells #[.slice bq LN cq,v] 25) (.cells #[.slice none 0 0,.slice none 0 0] 25);have hN:=bx1 (b:=F) j6 qY;have qV:=hN 0 _ rfl;have J1:=hN 1 _ rfl;clear hN;have lF:w.heap.size<=F:=by omega
 have hN:=Qz (b:=R) j6 (by simp[Xq]);have hM:=Qq (b:=R) j6 (by simp[Xq]);have J3:=hN 0 _ rfl;have J2:=hN 1 _ rfl;have XJ:=hM 0;have Q7:=hM 1;clear hN hM;have lR:w.heap.size<=R:=by omega
 have j7:=Yz bR j6;rw[<-j6];try rw[<-Xq]
 try rw[<-qY]
 clear j6 j8 qY Xq;have HNS:Hid (NodesAt s1 (.slice bq LN cq) N):=zh (by rw[J6.out];exact HN.out.below j7);have HAS:Hid (IntsAt s1 v A):=zh (HA.out.below j7)
 go_cut [7] (f3p s1 N A)
 case first =>
  have HF:=QX j7;clear j7
  first | (go_region_held3 (fun w'=>w'.cell? ⟨F,0,none⟩=some (.slice bq LN cq)/\w'.cell? ⟨F,1,none⟩=some (v)/\w'.cell? ⟨R,0,none⟩=some (.slice none 0 0)/\w'.cell? ⟨R,1,none⟩=some (.slice none 0 0))
   (first | go_keep | ((repeat' apply And.intro)<;>((repeat (with_reducible first | apply a0b | apply a0x | refine a0e ?_ (by (try dsimp only);omega)))<;>first | assumption | (rw[jk _ _ (by assumption)];assumption)))) (first
   | (go_at_call 58;refine(HCN.out _ (HNS.out.below (bSt _ _))).mono ?_;rintro e x2 ⟨⟨us,rfl,hn⟩,qk⟩;obtain⟨nl,hnl⟩:=nM N.length;rw[<-hnl] at hn;obtain⟨bu,cu,rfl⟩:=a0l hn;have OL:=zh hnl;clear hnl;have OX:=zh hn;have OBX:=zh qk;clear hn;have qx:Bl s1 x2:=bHb qk;obtain⟨jk,qK⟩:=a0k qx;have hzx:=qk.size;(try simp at hzx);(try have hQZ:=Nat.lt_of_succ_le hzx);have hzq:=qx.size;(try have hzo:s1.heap.size<x2.heap.size:=(by omega));have hzt:∀ b,b<_->b<_:=fun b h=>jF h qk.size;obtain⟨hcy,hfy⟩:=a0k qk;clear qk)
   | (go_at_call 59;refine(HCI.out _ (HAS.out.below (bSt _ _))).mono ?_;rintro e x2 ⟨⟨vs,rfl,hn⟩,qk⟩;obtain⟨al,hal⟩:=nM A.length;rw[<-hal] at hn;obtain⟨bv,cv,rfl⟩:=a0l hn;have OM:=zh hal;clear hal;have OY:=zh hn;have OBY:=zh qk;clear hn;have qx:Bl s1 x2:=bHb qk;obtain⟨jk,qK⟩:=a0k qx;have hzx:=qk.size;(try simp at hzx);(try have hQZ:=Nat.lt_of_succ_le hzx);have hzq:=qx.size;(try have hzo:s1.heap.size<x2.heap.size:=(by omega));have hzt:∀ b,b<_->b<_:=fun b h=>jF h qk.size;obtain⟨hcy,hfy⟩:=a0k qk;clear qk))) | fail
  all_goals go_wp2_with fail
  all_goals go_meet
  all_goals first | exact f3e OX.out OBX.out OY.out OBY.out OL.out OM.out (bSt _ _) (bSt _ _) | exact f3f OX.out OBX.out OY.out OBY.out OL.out OM.out (bSt _ _) (bSt _ _) rfl (by simp) (by simp[go_sem];rfl) (by simp[go_sem];rfl) (by simp[go_sem]) (by simp[go_sem]) | exact f3g OX.out OBX.out OY.out OBY.out OL.out OM.out (bSt _ _) (bSt _ _) rfl (by simp) (by simp[go_sem];rfl) (by simp[go_sem];rfl) (by simp[go_sem]) (by simp[go_sem])
 case rest =>
  obtain⟨O,us,vs,rfl,hga,hT⟩:=hcut;obtain⟨g,on,cap,rfl,HON⟩:=e1d hga.ou (by rw[<-J6.out];exact hl3);obtain⟨ba,ca,rfl⟩:=a0l hga.ov;rw[<-J6.out] at hga;obtain⟨LA,hLA⟩:=nM A.length;rw[<-hLA] at hga;clear hLA;obtain⟨b6,hb6⟩:=nM s1.heap.size;have HB6:=zh hb6;have HGA:Hid (GAt wc O b6 N A (.slice (some ⟨g,on,none⟩) LN cap) (.slice ba LA ca)):=zh (by rw[hb6];exact hga);have HT6:Hid (Below b6 s1 wc):=zh (by rw[hb6];exact hT);have HFR:Hid (F<b6/\R<b6):=zh (by rw[hb6];exact⟨zF,zR⟩);have HLR:=zh lR;obtain⟨t0,ht0⟩:=nM s1;rw[<-ht0] at HT6 HNS HAS j7 J3 J2 XJ Q7 qV hb6;have HZ:Hid (∀ W,Below b6 t0 W->Bl w W):=fun W h=>j7.trans (h.mono (by rw[hb6];exact j7.size))
  have HR1:Hid (∀ W,Below b6 t0 W->W.cell? ⟨R,0,none⟩=some (.slice none 0 0)/\W.cell? ⟨R,1,none⟩=some (.slice none 0 0)/\W.frozen? ⟨R,0,none⟩=false/\W.frozen? ⟨R,1,none⟩=false):=fun W h=>⟨(h.cell (p:=⟨R,0,none⟩) HFR.out.2).trans J3,(h.cell (p:=⟨R,1,none⟩) HFR.out.2).trans J2,(h.frozen (p:=⟨R,0,none⟩) HFR.out.2).trans XJ,(h.frozen (p:=⟨R,1,none⟩) HFR.out.2).trans Q7⟩
  have HNT:Hid (∀ W,Below b6 t0 W->NodesAt W (.slice bq LN cq) N):=fun W h=>HNS.out.below (by show Below (t0.heap.size) t0 W;rw[<-hb6];exact h)
  have kF:=(HT6.out.cell (p:=⟨F,0,none⟩) HFR.out.1).trans qV;have zFc:=Xk kF;have q0:=HGA.out.c0;have zO:=HGA.out.pz;clear ht0 hb6 JY hga hT j7 qV J1 zF lF J3 J2 XJ Q7 zR lR HCN HCI HNS HAS HN HA HB6;go_wp2_with fail
  go_loopw [20] (f2y t0 O b6 (e2a fo fb) N A (.slice (some ⟨g,on,none⟩) LN cap) (.slice ba LA ca)) (fun r _=>LN-(intOf r).toNat)
  case atStart=>exact⟨0,Nat.zero_le _,rfl,by rw[e2x];exact HGA.out,HT6.out⟩
  case round =>
   obtain⟨k,hk,rfl,hga,hW⟩:=hrel;rw[<-J6.out] at hk;have HW:=zh hW;have HWK:=zh hga;have q0:=hga.c0;have zO:=hga.pz;have j7:=HZ.out _ hW;clear hW hga HGA HT6;by_cases hlt:k<LN
   ·
    obtain⟨n,hn⟩:=HGE.out k hlt;obtain⟨bz,cz,hq,hcs⟩:=(HNT.out _ HW.out).slice;obtain⟨gn,om,rfl,hcn⟩:=hcs k n hn;obtain⟨rfl,-,-⟩:(bq=some ⟨gn,om,none⟩)/\LN=N.length/\cq=cz:=by simpa using hq
    have LN0:=a0p wr gn (om+k*K19) HK19 n (fun j u hu=>by rw[HK19.out];exact hcn j u hu);have HN0:=zh hn;clear hcn hcs hq hn
    go_upto_region 5 with (refine a0c rfl _ _ rfl rfl _ _ _ rfl rfl rfl (by rfl) (by rfl) (by rfl) ?_)
    obtain⟨s3,X,j6,qw,j8,zX⟩:=qy wr (.cells (Qk n).toArray 69);have j9:=JW j6;have hAX:wr.heap.size<=X:=by omega
    have yX:=qZ (b:=X) j6 qw;have fX:=Qq (b:=X) j6 qw;have kX9:s3.cell? ⟨X,9,none⟩=some (Sg n.r.sh):=yX 9;have kX10:s3.cell? ⟨X,10,none⟩=some (I6 n.r.c):=yX 10;have kX11:s3.cell? ⟨X,11,none⟩=some (I6 n.r.r):=yX 11;have kX12:s3.cell? ⟨X,12,none⟩=some (Bv n.r.fc):=yX 12;have kX13:s3.cell? ⟨X,13,none⟩=some (Bv n.r.fr):=yX 13;have kX14:s3.cell? ⟨X,14,none⟩=some (Sg n.t.sh):=yX 14;have kX15:s3.cell? ⟨X,15,none⟩=some (I6 n.t.c):=yX 15;have kX16:s3.cell? ⟨X,16,none⟩=some (I6 n.t.r):=yX 16;have kX17:s3.cell? ⟨X,17,none⟩=some (Bv n.t.fc):=yX 17;have kX18:s3.cell? ⟨X,18,none⟩=some (Bv n.t.fr):=yX 18;have lX:w.heap.size<=X:=by have:=j7.size;omega
    have LX:=Qv HK19 yX;replace j7:=qQ j7 j6;rw[<-j6];try rw[<-qw]
    clear j6 j8 qw;clear LN0;obtain⟨we,hwe⟩:=nM s3;subst hwe;have HWX:=zh (HWK.out.below j9);have HBX:Hid (Below b6 t0 we):=HW.out.trans (j9.mono (jG HWK.out.pb (Nat.le_of_lt HWK.out.pz)));have HXO:Hid (X≠O/\∀ q,some g=some q->X≠q):=zh ⟨by have:=HWK.out.pz;omega,fun q hq e=>by have:=(HWK.out.ou.lt q hq).2;omega⟩;have HGO:Hid (∀ q,some g=some q->O≠q):=zh HWK.out.up;have hrest:(n.k==5)=true\/((n.k==5)=false/\(n.k==6)=true)\/((n.k==5)=false/\(n.k==6)=false):=by cases (n.k==5)<;>cases (n.k==6)<;>simp
    have hm:n ∈ N:=List.mem_of_getElem? HN0.out;have q0:=HWX.out.c0;have zO:=HWX.out.pz;clear j9 hAX LX
    rcases hrest with h5 | ⟨h5,h6⟩ | ⟨h5,h6⟩
    case inr.inr =>
     have HFN:=zh (f0e (fo:=fo) (fb:=fb) h5 h6);go_wp2
     go_roundw
     case rel=>exact⟨k+1,by rw[<-J6.out];omega,by go_num,by rw[e2y _ HN0.out HFN.out];exact HWX.out,HBX.out⟩
     case measure=>simp[intOf];omega
    case inl =>
     have hh:=HH1.out n hm (by simpa using h5);have hfn:=f3h (fo:=fo) (fb:=fb) h5
     rcases hq:fo n with ⟨⟨csh,cc,cr,cf,cg⟩,p⟩
     rw[hq] at hh hfn;obtain⟨m,hm2⟩:∃ m,m=e9t ⟨csh,cc,cr,cf,cg⟩ p:=⟨_,rfl⟩;have htc:=fun w=>e6f ⟨csh,cc,cr,cf,cg⟩ p w
     dsimp only at hh hfn htc;rw[<-hm2] at hfn htc;have HH:=zh hh;have HTC:=zh htc;have HFN:=zh hfn;clear hh htc hfn hq hm2
     go_upto_region 7 with fail
     have HF:=QX j7;clear j7;refine wp_region_held_drew (S:=fun w'=>w'.cell? ⟨O,0,none⟩=some (.slice (some ⟨g,on,none⟩) LN cap)/\w'.cell? ⟨X,9,none⟩=some (Sg n.r.sh)/\w'.cell? ⟨X,10,none⟩=some (I6 n.r.c)/\w'.cell? ⟨X,11,none⟩=some (I6 n.r.r)/\w'.cell? ⟨X,12,none⟩=some (Bv n.r.fc)/\w'.cell? ⟨X,13,none⟩=some (Bv n.r.fr)) (by kernel_rfl) JB (fun jx=>?_)
     refine tk 0 ?_;refine tk 1 ?_;refine tk 2 ?_;refine tk 3 ?_;refine tk 4 ?_;refine tk 5 ?_;refine Jq 6 (by kernel_rfl) rfl fun K hK=>?_
     go_simp
     (refine jy (HH.out _) fun x4 qk=>?_;have qx:Bl we x4:=bHb qk;obtain⟨jk,qK⟩:=a0k qx)
     try (go_wp2_with fail)
     refine hK.out _ _ JB (fun jx=>?_)
     clear hK K;try simp only[pz]
     refine tk 7 ?_;refine tk 8 ?_;refine Jq 9 (by kernel_rfl) rfl fun K hK=>?_
     go_simp
     (go_at_call 60;refine jy (HTC.out _) fun x4 qk=>?_;obtain⟨qx,jk,qK⟩:=Q4 we qk)
     try (go_wp2_with fail)
     refine hK.out _ _ JB (fun jx=>?_)
     clear hK K;try simp only[pz]
     refine tk 10 ?_;refine Jq 11 (by kernel_rfl) rfl fun K hK=>?_
     (refine d7v rfl _ _ rfl rfl (base:=b6) (N:=e0p (e2a fo fb) N k) m HK19 HON (by have:=(HWX.out.below qx).ou;rwa [d7p,<-J6.out] at this) (by rw[d7p,<-J6.out];exact hlt) (by rfl) (by rfl) ?_;intro wf J0 jj hsz2;have e0:=Jw jj ((jk O 0 zO).trans q0) HGO.out;have e9:=Jw jj ((jk X 9 zX).trans kX9) HXO.out.2;have e10:=Jw jj ((jk X 10 zX).trans kX10) HXO.out.2;have e11:=Jw jj ((jk X 11 zX).trans kX11) HXO.out.2;have e12:=Jw jj ((jk X 12 zX).trans kX12) HXO.out.2;have e13:=Jw jj ((jk X 13 zX).trans kX13) HXO.out.2)
     refine hK.out _ _ JB (fun jx=>?_)
     clear hK K;try simp only[pz]
     refine wpAnyH_done (by kernel_rfl) ?_ _;go_wp2
     go_roundw
     case rel =>
      have hGX:=HWX.out.below qx;refine⟨k+1,by rw[<-J6.out];omega,by go_num,?_,a3m (HBX.out.trans (qx.mono (jG HWX.out.pb (Nat.le_of_lt HWX.out.pz)))) hGX.ou (jC _) (jG hGX.pb (Nat.le_of_lt hGX.pz)) jj⟩;rw[d9e _ HN0.out,HFN.out];exact hGX.set jj (by rw[List.length_set,d7p,<-J6.out];exact J0)
     case measure=>simp[intOf];omega
    case inr.inl =>
     have hh:=HH2.out n hm (by simpa using h6);have hfn:=f3i (fo:=fo) (fb:=fb) h5 h6
     rcases hq:fb n with ⟨⟨csh,cc,cr,cf,cg⟩,⟨dsh,dc,dr,df,dg⟩,p⟩
     rw[hq] at hh hfn;obtain⟨m,hm2⟩:∃ m,m=e8h ⟨csh,cc,cr,cf,cg⟩ ⟨dsh,dc,dr,df,dg⟩ p:=⟨_,rfl⟩;have htc:=fun w=>e6g ⟨csh,cc,cr,cf,cg⟩ ⟨dsh,dc,dr,df,dg⟩ p w
     dsimp only at hh hfn htc;rw[<-hm2] at hfn htc;have HH:=zh hh;have HTC:=zh htc;have HFN:=zh hfn;clear hh htc hfn hq hm2
     go_upto_region 9 with fail
     have HF:=QX j7;clear j7;refine wp_region_held_drew (S:=fun w'=>w'.cell? ⟨O,0,none⟩=some (.slice (some ⟨g,on,none⟩) LN cap)/\w'.cell? ⟨X,9,none⟩=some (Sg n.r.sh)/\w'.cell? ⟨X,10,none⟩=some (I6 n.r.c)/\w'.cell? ⟨X,11,none⟩=some (I6 n.r.r)/\w'.cell? ⟨X,12,none⟩=some (Bv n.r.fc)/\w'.cell? ⟨X,13,none⟩=some (Bv n.r.fr)/\w'.cell? ⟨X,14,none⟩=some (Sg n.t.sh)/\w'.cell? ⟨X,15,none⟩=some (I6 n.t.c)/\w'.cell? ⟨X,16,none⟩=some (I6 n.t.r)/\w'.cell? ⟨X,17,none⟩=some (Bv n.t.fc)/\w'.cell? ⟨X,18,none⟩=some (Bv n.t.fr)) (by kernel_rfl) JB (fun jx=>?_)
     refine tk 0 ?_;refine tk 1 ?_;refine tk 2 ?_;refine tk 3 ?_;refine tk 4 ?_;refine tk 5 ?_;refine tk 6 ?_;refine tk 7 ?_;refine Jq 8 (by kernel_rfl) rfl fun K hK=>?_
     go_simp
     (refine jy (HH.out _) fun x5 qk=>?_;have qx:Bl we x5:=bHb qk;obtain⟨jk,qK⟩:=a0k qx)
     try (go_wp2_with fail)
     refine hK.out _ _ JB (fun jx=>?_)
     clear hK K;try simp only[pz]
     refine tk 9 ?_;refine tk 10 ?_;refine tk 11 ?_;refine Jq 12 (by kernel_rfl) rfl fun K hK=>?_
     go_simp
     (go_at_call 61;refine jy (HTC.out _) fun x5 qk=>?_;obtain⟨qx,jk,qK⟩:=Q4 we qk)
     try (go_wp2_with fail)
     refine hK.out _ _ JB (fun jx=>?_)
     clear hK K;try simp only[pz]
     refine tk 13 ?_;refine Jq 14 (by kernel_rfl) rfl fun K hK=>?_
     (refine d7v rfl _ _ rfl rfl (base:=b6) (N:=e0p (e2a fo fb) N k) m HK19 HON (by have:=(HWX.out.below qx).ou;rwa [d7p,<-J6.out] at this) (by rw[d7p,<-J6.out];exact hlt) (by rfl) (by rfl) ?_;intro wf J0 jj hsz2;have e0:=Jw jj ((jk O 0 zO).trans q0) HGO.out;have e9:=Jw jj ((jk X 9 zX).trans kX9) HXO.out.2;have e10:=Jw jj ((jk X 10 zX).trans kX10) HXO.out.2;have e11:=Jw jj ((jk X 11 zX).trans kX11) HXO.out.2;have e12:=Jw jj ((jk X 12 zX).trans kX12) HXO.out.2;have e13:=Jw jj ((jk X 13 zX).trans kX13) HXO.out.2;have e14:=Jw jj ((jk X 14 zX).trans kX14) HXO.out.2;have e15:=Jw jj ((jk X 15 zX).trans kX15) HXO.out.2;have e16:=Jw jj ((jk X 16 zX).trans kX16) HXO.out.2;have e17:=Jw jj ((jk X 17 zX).trans kX17) HXO.out.2;have e18:=Jw jj ((jk X 18 zX).trans kX18) HXO.out.2)
     refine hK.out _ _ JB (fun jx=>?_)
     clear hK K;try simp only[pz]
     refine wpAnyH_done (by kernel_rfl) ?_ _;go_wp2
     go_roundw
     case rel =>
      have hGX:=HWX.out.below qx;refine⟨k+1,by rw[<-J6.out];omega,by go_num,?_,a3m (HBX.out.trans (qx.mono (jG HWX.out.pb (Nat.le_of_lt HWX.out.pz)))) hGX.ou (jC _) (jG hGX.pb (Nat.le_of_lt hGX.pz)) jj⟩;rw[d9e _ HN0.out,HFN.out];exact hGX.set jj (by rw[List.length_set,d7p,<-J6.out];exact J0)
     case measure=>simp[intOf];omega
   ·
    obtain rfl:k=LN:=by omega
    have hga:GAt wr O b6 (N.map (e2a fo fb)) A (.slice (some ⟨g,on,none⟩) k cap) (.slice ba LA ca):=by
     have h:=HWK.out
     rwa [show e0p (e2a fo fb) N k=N.map (e2a fo fb) by rw[J6.out,e4r]] at h
    have HGF:=zh hga;obtain⟨J3,J2,XJ,Q7⟩:=HR1.out _ HW.out;have zR:=Xk J3;have q1:=hga.c1;clear hga;go_wp2_with fail;refine jU (v:=.agg #[.slice (some ⟨g,on,none⟩) k cap,.slice ba LA ca]) (by simp[results,Tryz.results27,go_sem,J3,J2,XJ,Q7,zR,q0,q1]) rfl ?_;rw[J5.out];have hw6:w.heap.size<=b6:=by have:=HLR.out;have:=HFR.out.2;omega
    exact⟨⟨_,_,rfl,d6w (ownsRow_setCell_below (ownsRow_setCell_below HGF.out.ou HFR.out.2 _) HFR.out.2 _) hw6,d6w (ownsRow_setCell_below (ownsRow_setCell_below HGF.out.ov HFR.out.2 _) HFR.out.2 _) hw6,HGF.out.uv⟩,(j7.setCell HLR.out _).setCell HLR.out _⟩
