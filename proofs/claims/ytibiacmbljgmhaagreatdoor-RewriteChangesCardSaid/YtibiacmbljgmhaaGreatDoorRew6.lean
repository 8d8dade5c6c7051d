import Derived.Test.YtibiacmbljgmhaaGreatDoorAst34
import Derived.Test.YtibiacmbljgmhaaGreatDoorNdat
import Derived.Laws.Tables
namespace Go.Proofs.YtibiacmbljgmhaaGreatDoor
open Go.RowKit Go.Shelf
set_option linter.all false
set_option maxHeartbeats 8000000
set_option maxRecDepth 100000
def e4u (N:List Nd) (w:World) (e:Ending) (w':World):Prop:=(∃ us,e=.returned us/\w'.ownsRow w.heap.size 69 19 us N.length (nodeL N))/\Bl w w'
theorem e1f (w:World) (e:TypeId) (size:Nat) (cs:Array Value) (hc:cs.size=0):(w.alloc (.cells cs e)).ownsRow w.heap.size e size (.slice (some ⟨w.heap.size,0,none⟩) 0 0) 0 [] :=
 ⟨by simp,Or.inr ⟨w.heap.size,0,cs,rfl,jC _,by rw[<-World.alloc_eq];show (w.heap.push _)[w.heap.size]?=_;simp,jC _,by decide,by rw[hc];omega,by simp⟩⟩
theorem e6h (u:Value) (N:List Nd) (w:World) (hN:NodesAt w u N) (hl:N.length<=90000):Cz 58 #[u] w (e4u N w):=by
 have JY:=Qw;obtain⟨Po,hPo⟩:=nM (e4u N w);rw[<-hPo];have J5:=zh hPo;have HN:=zh hN;have HNB:=zh (show N.length<=100000 by omega);obtain⟨bn,cn,rfl,_⟩:=hN.slice;obtain⟨LN,hLN⟩:=nM N.length;rw[<-hLN] at HN hl |-
 have J6:=zh hLN;clear hN hPo hLN
 cases bn with
 | none =>
  have hq:Sem.run Tryz.prog (binOp .eql 22 (.slice none LN cn) (.slice none 0 0)) w=.ok (Bv true) w:=by first | rfl | kernel_rfl | simp[go_sem]
  have hz:N=[]:=by
   rcases HN.out with ⟨_,rfl⟩ | ⟨g,o,cap,hv,_⟩
   ·
    rfl
   ·
    cases hv
  subst hz;go_enter Tryz.func58,Tryz.ntmps58;go_wp2_with fail;show Po (.returned (.slice none 0 0)) w;rw[J5.out];exact⟨⟨_,rfl,World.ownsRow_nil _ _ _ _⟩,Below.refl _ _⟩
 | some a =>
  have hq:Sem.run Tryz.prog (binOp .eql 22 (.slice (some a) LN cn) (.slice none 0 0)) w=.ok (Bv false) w:=by first | rfl | kernel_rfl | simp[go_sem]
  go_enter Tryz.func58,Tryz.ntmps58;go_wp2_with (at_builtin;refine a1k rfl _ _ rfl (base:=w.heap.size) (N:=[]) (M:=N) (by rfl) (e1f w _ _ _ (by rfl)) (by rfl) (HN.out.below ((Below.refl _ _).alloc (jC _) _)) (by simp) HNB.out (by simp) ?_;intro v2 wb J0 jj hnear2);show Po (.returned v2) wb;rw[J5.out];rw[List.nil_append] at J0;exact⟨⟨_,rfl,J0⟩,a3m ((Below.refl _ w).alloc (jC _) _) (e1f w 69 19 #[] rfl) (jC _) (by simp) jj⟩
def f1f (A:List Int) (w:World) (e:Ending) (w':World):Prop:=(∃ vs,e=.returned vs/\w'.ownsRow w.heap.size 3 1 vs A.length (JV A))/\Bl w w'
theorem e6i (v:Value) (A:List Int) (w:World) (h:IntsAt w v A) (hl:A.length<=1000):Cz 59 #[v] w (f1f A w):=by
 rcases h with ⟨rfl,rfl⟩ | ⟨g,o,cap,rfl,h1,h2,hc⟩
 ·
  refine(Tryz.slices_Clone_int_nil 0 0 w).mono ?_;rintro e w' ⟨rfl,rfl⟩;exact⟨⟨_,rfl,World.ownsRow_nil _ _ _ _⟩,Below.refl _ _⟩
 ·
  refine(Tryz.slices_Clone_int g o A.length cap A w (jC _) (by omega) hc).mono ?_;rintro e w' ⟨v',rfl,ho,_,hb⟩;rw[List.take_length] at ho;exact⟨⟨_,rfl,ho⟩,hb⟩
set_option maxHeartbeats 4000000
def e6j (own sheet:jW) (r:Rf):Bool:=(r.sh.toList==sheet.toList) || (r.sh.toList.isEmpty&&(own.toList==sheet.toList))
def f1l (own sheet:jW) (n:Nd):Bool:=((n.k==5) || (n.k==6))&&e6j own sheet n.r
theorem d8h (own sheet:jW) (r:Rf) (w:World):Ca 89 #[.agg #[Sg own,Sg sheet],.agg #[Sg r.sh,I6 r.c,I6 r.r,Bv r.fc,Bv r.fr]] w (Bv (e6j own sheet r)):=by
 have JY:=Qw;obtain⟨sh,c,rr,fc,fr⟩:=r;obtain⟨R,hR⟩:∃ R,R=e6j own sheet ⟨sh,c,rr,fc,fr⟩:=⟨_,rfl⟩;rw[<-hR];unfold e6j at hR;dsimp only at hR |-
 cases h1:(sh.toList==sheet.toList)<;>cases h2:sh.toList.isEmpty<;>cases h3:(own.toList==sheet.toList)
 all_goals
  rw[h1,h2,h3] at hR;have HR:=zh hR;clear hR;go_enter Tryz.func89,Tryz.ntmps89
  go_upto_region 1 with fail
  obtain⟨s1,P,A,j6,hdP,jz,j8,zP,zA⟩:=YJ w (.cells #[Sg own,Sg sheet] 78) (.cells #[Sg sh,I6 c,I6 rr,Bv fc,Bv fr] 67);have hN:=bx1 (b:=P) j6 hdP;have kP0:=hN 0 _ rfl;have kP1:=hN 1 _ rfl;clear hN;have yA:=qZ (b:=A) j6 (by simp[jz]);have j7:=Yz bR j6;rw[<-j6];try rw[<-jz]
  try rw[<-hdP]
  clear j6 j8 hdP jz;go_wp2
  go_ret
  exact⟨J4 HR.out.symm,j7⟩
theorem e1x (own sheet:jW) (n:Nd) (w:World):Ca 48 #[.agg #[Sg own,Sg sheet],Y2 n] w (Bv (f1l own sheet n)):=by
 have JY:=Qw;obtain⟨K19,hz19,HK19⟩:=Y9;have HH:=zh (fun w=>d8h own sheet n.r w);obtain⟨R,hR⟩:=nM (f1l own sheet n);rw[<-hR];unfold f1l at hR;generalize e6j own sheet n.r=q at *;obtain⟨k,o,a,b,qn,qa,qd,x,tr,r,t⟩:=n;dsimp only at hR HH |-
 cases h1:(k==5)<;>cases h2:(k==6)
 all_goals
  rw[h1,h2] at hR;have HR:=zh hR;clear hR;go_enter Tryz.func48,Tryz.ntmps48
  go_upto_region 1 with fail
  obtain⟨s2,P,A,j6,hdP,jz,j8,zP,zA⟩:=YJ w (.cells #[Sg own,Sg sheet] 78) (.cells #[I6 k,I6 o,I6 a,I6 b,Bv qn,Sg qa,Sg qd,Sg x,Bv tr,Sg r.sh,I6 r.c,I6 r.r,Bv r.fc,Bv r.fr,Sg t.sh,I6 t.c,I6 t.r,Bv t.fc,Bv t.fr] 69);have hN:=bx1 (b:=P) j6 hdP;have kP0:=hN 0 _ rfl;have kP1:=hN 1 _ rfl;clear hN;have yA:=qZ (b:=A) j6 (by simp[jz]);have j7:=Yz bR j6;rw[<-j6];try rw[<-jz]
  try rw[<-hdP]
  clear j6 j8 hdP jz;go_wp2_with fail
  try
   refine jy (HH.out _) fun w5 hb=>?_
   replace j7:=bT j7 hb;go_wp2
  go_ret
  exact⟨J4 HR.out.symm,j7⟩
set_option maxHeartbeats 8000000
theorem f3b (x y:Value) (w:World):(callFunc 48 #[x,y]).run Tryz.prog w=.ok (.enter 48 #[x,y]) w:=by kernel_rfl
def e0q (own sheet:jW) (N:List Nd):Bool:=N.any (f1l own sheet)
def f3c (t0:World) (own sheet:jW) (N:List Nd) (r:Value) (wr:World):Prop:=∃ k:Nat,k<=N.length/\r=I6 k/\(∀ n ∈ N.take k,f1l own sheet n=false)/\Bl t0 wr
def e4a (own sheet:jW) (N:List Nd) (w:World) (e:Ending) (w':World):Prop:=∃ r:Int,e=.returned (I6 r)/\-1<=r/\r<=1000000/\decide (0<=r)=e0q own sheet N/\Bl w w'
theorem e6k (own sheet:jW) (v:Value) (N:List Nd) (w:World) (hv:NodesAt w v N) (hl:N.length<=100000) :
  Cz 88 #[v,.func (.func 48) #[.agg #[Sg own,Sg sheet]] #[]] w (e4a own sheet N w):=by
 obtain⟨K19,hz19,HK19⟩:=Y9;obtain⟨Po,hPo⟩:=nM (e4a own sheet N w);rw[<-hPo];have J5:=zh hPo;have HA:=zh (fun n W=>e1x own sheet n W);obtain⟨bt,ct,rfl,hcs⟩:=hv.slice;have HCS:=zh hcs;have HGE:Hid (∀ k,k<N.length->∃ g,N[k]?=some g):=fun k h=>⟨_,jH h⟩
 obtain⟨L,hL⟩:=nM N.length;rw[<-hL] at HGE hl |-
 have XW:=zh hL;obtain⟨FA,hFA⟩:=nM (48);have HCF:∀ x y w,(callFunc FA #[x,y]).run Tryz.prog w=.ok (.enter FA #[x,y]) w:=by rw[hFA];exact f3b
 rw[<-hFA] at HA |-
 clear hPo hv hcs hL hFA;go_enter Tryz.func88,Tryz.ntmps88;go_wp2_with fail;obtain⟨t0,ht0⟩:=nM w;subst ht0
 go_loopw [8] (f3c t0 own sheet N) (fun r _=>L-(intOf r).toNat)
 case atStart=>exact⟨0,Nat.zero_le _,rfl,fun g h=>by simp at h,Below.refl _ _⟩
 case round =>
  obtain⟨k,hk,rfl,hR,j7⟩:=hrel;rw[<-XW.out] at hk;have HRT:=zh hR;clear hR;by_cases hlt:k<L
  ·
   obtain⟨n,hn⟩:=HGE.out k hlt;obtain⟨gg,oo,rfl,hcn⟩:=HCS.out k n hn;have LN0:=a0p wr gg (oo+k*K19) HK19 n (fun j u hu=>by rw[HK19.out];exact q9 j7 (hcn j u hu) (Xk (hcn j u hu)));have HG:=zh hn;have hkm:(k:Int)<=100000:=by omega
   have HBO:=zh j7;have HCL:=zh (HA.out n wr);clear hn hcn j7;go_wp2_with fail;refine HCL.out.mono ?_;rintro e w5 ⟨rfl,hb⟩;have HB5:=zh (HBO.out.trans (hb.mono HBO.out.size));clear hb LN0
   cases hx:f1l own sheet n with
   | false =>
    have HX:=zh hx;clear hx;go_wp2
    go_roundw
    case rel =>
     refine⟨k+1,by rw[<-XW.out];omega,by go_num,?_,HB5.out⟩;intro g2 hg2;rw[List.take_add_one,HG.out,Option.toList_some] at hg2
     rcases List.mem_append.1 hg2 with h | h
     ·
      exact HRT.out g2 h
     ·
      rw[List.mem_singleton.1 h];exact HX.out
    case measure=>simp[intOf];omega
   | true =>
    have HX:=zh hx;clear hx;go_wp2_with fail;show Po _ _;rw[J5.out];refine⟨k,rfl,by omega,by omega,?_,HB5.out⟩;have:e0q own sheet N=true:=List.any_eq_true.2 ⟨n,List.mem_of_getElem? HG.out,HX.out⟩;rw[this];simp
  ·
   obtain rfl:k=L:=by omega
   have HBO:=zh j7;clear j7;go_wp2_with fail;show Po _ _;rw[J5.out];refine⟨-1,rfl,by omega,by omega,?_,HBO.out⟩
   have:e0q own sheet N=false:=by
    rw[e0q,List.any_eq_false];intro x hx;rw[HRT.out x (by rw[XW.out,List.take_length];exact hx)];simp
   rw[this];simp
theorem e1y (own sheet:jW) (v:Value) (N:List Nd) (w:World) (hv:NodesAt w v N) (hl:N.length<=100000) :
  Ca 47 #[v,.func (.func 48) #[.agg #[Sg own,Sg sheet]] #[]] w (Bv (e0q own sheet N)):=by
 have hi:=e6k own sheet v N w hv hl;unfold e4a at hi;have HI:=zh hi;clear hi;obtain⟨cv,hcv⟩:=nM (Value.func (.func 48) #[.agg #[Sg own,Sg sheet]] #[]);rw[<-hcv] at HI |-
 clear hv hl hcv;generalize e0q own sheet N=b at *;go_enter Tryz.func47,Tryz.ntmps47;go_wp2_with fail;refine HI.out.mono ?_;rintro e w5 ⟨r,rfl,r1,r2,hr,hb⟩
 cases b with
 | false =>
  have hr':r=-1:=by have:=of_decide_eq_false hr;omega
  subst hr';clear hr r1 r2;go_wp2
  go_ret
  exact⟨rfl,hb⟩
 | true =>
  have hr':0<=r:=jB hr;clear hr r1 r2;go_wp2
  go_ret
  exact⟨J4 (by simp),hb⟩
theorem e9v (u v:Value) (N:List Nd) (A:List Int) (own sheet:jW) (w:World) (hN:NodesAt w u N) (hA:IntsAt w v A) (hf:∀ n ∈ N,J8 n) (XK:NamesAt w) (hl:A.length<=1000) (hl2:N.length<=1000) :
  Ca 16 #[.agg #[u,v],Sg own,Sg sheet] w (Bv (Yw N A&&e0q own sheet N)):=by
 have JY:=Qw;have hr:=fun W h1 h2 h3=>a3y u v N A W h1 h2 hf h3 hl hl2
 have HC:=zh (fun W h1=>e1y own sheet u N W h1 (by omega));have HN:=zh hN;have HA:=zh hA;have HM:=zh XK;obtain⟨R,hR⟩:=nM ((Yw N A&&e0q own sheet N));rw[<-hR];generalize e0q own sheet N=q at *
 cases h:Yw N A
 all_goals
  rw[h] at hr hR;have HRT:=zh hr;have HR:=zh hR
 all_goals
  clear hr hR hN hA XK hf h;go_enter Tryz.func16,Tryz.ntmps16
  go_upto_region 1 with fail
  obtain⟨s1,F,j6,qY,j8,zF⟩:=qy w (.cells #[u,v] 25);have hN:=Qz (b:=F) j6 qY;have qV:=hN 0 _ rfl;have J1:=hN 1 _ rfl;clear hN;have j7:=qQ bR j6;rw[<-j6];try rw[<-qY]
  clear j6 j8 qY;go_wp2_with fail;refine jy (HRT.out _ (HN.out.below j7) (HA.out.below j7) (HM.out.below j7)) fun w5 hb=>?_
  replace qV:=q9 hb qV zF;replace j7:=X4 j7 hb;clear hb;go_wp2_with fail
  try
   refine jy (HC.out _ (HN.out.below j7)) fun w6 hb=>?_
   replace j7:=bT j7 hb;go_wp2
  go_ret
  exact⟨J4 HR.out.symm,j7⟩
