import Derived.Test.YtibiacmbljgmhaaGreatDoorRdr5
import Derived.Test.YtibiacmbljgmhaaGreatDoorRdr6
import Derived.Test.YtibiacmbljgmhaaGreatDoorRdr8
set_option maxHeartbeats 16000000
set_option maxRecDepth 100000
namespace Go.Proofs.YtibiacmbljgmhaaGreatDoor
open Go.RowKit Go.Shelf
set_option linter.all false
def f4v (w:World) (R g cap:Nat) (T:List Tok) (N:List Nd) (A:List Int) (d:Int) (p:Nat) (er:Int) (W:Nat) (q:Rd × Int) (v:Value) (wc:World):Prop:=∃ (k:Nat) (SH x:jW) (xp:Nat) (y z:jW),v=Sg SH/\qj wc R g cap T ⟨k,N,A,d,p,er⟩/\Kp R w wc/\qW wc R W /\
 (∀ j,wc.cell? ⟨W,j,none⟩=([I6 3,Sg x,I6 (xp:Int),Bv false,Sg y,Sg z]:List Value)[j]?)/\(∀ j,wc.frozen? ⟨W,j,none⟩=false)/\W<wc.heap.size/\k+1<T.length/\x.size<=1000/\0<x.size/\(∀ i (h:i<x.size),¬ ((x[i].toNat:Nat):Int)=33)/\some (e0o T ⟨k,N,A,d,p,er⟩ ⟨3,x,xp,y,z⟩ SH)=some q
theorem e7t (R g cap:Nat) (T:List Tok) (f:Nat) (s:Rd) (q:Rd × Int) (w:World) (jq:qj w R g cap T s) (hT:TokOk T) (hW:f1k T) (hTl:T.length<=1000) (hl:s.i<T.length) (hN:s.N.length<=900) (hd : -100<=s.d/\s.d<=100)
  (hk:(tokAt T s.i).k=3) (hq:fjR T f (d9b T s (tokAt T s.i))=some q)
  (hC:(tokAt T (s.i+1)).k=5->∀ w,qj w R g cap T s->Cz 205 #[rpR R,e7q (tokAt T s.i)] w (d7m R g cap T q w)) :
  Cz 177 #[rpR R,e7q (tokAt T s.i)] w (d7m R g cap T q w):=by
 have l1:=d6r hT hl (by rw[hk];omega);have hcl:=fun W (h:qj W R g cap T s)=>h.cells l1
 obtain⟨Po,hPo⟩:=nM (d7m R g cap T q w);rw[<-hPo];have J5:=zh hPo;clear hPo;obtain⟨i,N,A,d,p,er⟩:=s;dsimp only at *;obtain⟨t,ht⟩:=nM (tokAt T i);obtain⟨u,hu⟩:=nM (tokAt T (i+1));rw[<-ht] at hk hq hC |-
 rw[<-hu] at hcl hC;have HT:=zh ht;have HU:=zh hu;clear ht hu;obtain⟨tk,x,tp,ty,tz⟩:=t;obtain⟨uk,ux,up,uy,uz⟩:=u;dsimp only at hk hC hcl |-
 subst hk;have HQ:=zh hq;have HC:=zh hC;have HCL:=zh hcl;clear hq hC hcl;have hiL:(i:Int)+1<(T.length:Int):=by omega
 obtain⟨L,hL⟩:=nM T.length;go_enter Tryz.func177,Tryz.ntmps177
 go_upto_region 1 with fail
 have hgw:g<w.heap.size:=jq.toks.z;have j7:Kp R w w:=Kp.refl R w;obtain⟨s1,X,j6,qw,j8,zX⟩:=qy w (.cells #[I6 3,Sg x,I6 (tp:Int),Bv false,Sg ty,Sg tz] 54);have j9:=JW j6;have qJ:=j7.below jq.z j9;have yX:=qZ (b:=X) j6 qw;have lX:w.heap.size<=X:=by have:=j7.size;omega
 have oX:=d6v jq j9 (b:=X) (by omega) zX;replace jq:=jq.below j9;clear j9;obtain⟨J3,J2,Q3,Q0,JZ⟩:=QJ jq;replace j7:=qJ;clear qJ;rw[<-j6];try rw[<-qw]
 clear j6 j8 qw;have kT0:=HCL.out _ jq 0 _ rfl;have kT1:=HCL.out _ jq 1 _ rfl;have kT2:=HCL.out _ jq 2 _ rfl;have kT3:=HCL.out _ jq 3 _ rfl;have kT4:=HCL.out _ jq 4 _ rfl;have kT5:=HCL.out _ jq 5 _ rfl;dsimp only at kT0 kT1 kT2 kT3 kT4 kT5;rw[Nat.add_zero] at kT0;rw[<-hL] at J3 hiL;clear hL;have zR:=jq.z;have zg:=jq.toks.z;have q1:IntKind.i64.wrap ((i:Int)+1)=(i:Int)+1:=IntWalk.i64_in _ (by omega);have q3:((i:Int)+1).toNat=i+1:=by omega
 go_region
 obtain⟨s2,U,j6,hdU,j8,zU⟩:=qy s1 (.cells #[I6 uk,Sg ux,I6 (up:Int),Bv false,Sg uy,Sg uz] 54);have j9:=JW j6;have qJ:=j7.below jq.z j9;replace oX:=oX.below jq.z j9;replace yX:=jv j9 yX zX;replace zX:=jw j9 zX;have yU:=qZ (b:=U) j6 hdU;have oU:=d6v jq j9 (b:=U) (by omega) zU;replace jq:=jq.below j9;clear j9;obtain⟨J3,J2,Q3,Q0,JZ⟩:=QJ jq;replace j7:=qJ;clear qJ;rw[<-j6];try rw[<-hdU]
 clear j6 j8 hdU;obtain⟨s3,j6⟩:=nM (World.drew s2);have hb:Bl s2 s3:=by rw[j6];exact Below.drew (Below.refl _ _)
 replace yX:=jv hb yX zX;replace zX:=jw hb zX;replace yU:=jv hb yU zU;replace zU:=jw hb zU;replace j7:=j7.below jq.z hb;replace oX:=oX.below jq.z hb;replace oU:=oU.below jq.z hb;replace jq:=jq.below hb;obtain⟨J3,J2,Q3,Q0,JZ⟩:=QJ jq;rw[<-j6];clear hb j6;clear kT0 kT1 kT2 kT3 kT4 kT5 q1 q3 zR zg hiL HCL;by_cases e5:uk=5
 case pos =>
  have hc:=fun W h=>HC.out e5 W h
  subst e5;have HCC:=zh hc;clear hc HC HQ;go_wp2_with fail;refine(HCC.out _ jq).mono ?_;rintro e s99 ⟨rfl,hRB,hKb⟩;go_wp2_with fail;show Po _ _;rw[J5.out];exact⟨rfl,hRB,j7.trans hKb⟩
 have hq:=HQ.out;unfold d9b at hq;dsimp only at hq;rw[<-HU.out] at hq;dsimp only at hq;rw[if_neg e5] at hq;have e5b:(uk==5)=false:=by simpa using e5
 clear HQ HC e5;have hxw:=hW _ (e1t hl);rw[<-HT.out] at hxw;obtain⟨hwz0,hw33⟩:=hxw rfl;clear hxw;have hwz1:=(d8n hT hl).2.2;rw[<-HT.out] at hwz1;dsimp only at hwz1;have hwz1:x.size<=1000:=by omega
 have hbt:(x.toList == [84,82,85,69])=decide (x.data.toList=a7f):=by rw[jI,Bool.eq_iff_iff,beq_iff_eq,decide_eq_true_iff];rfl
 have hbf:(x.toList == [70,65,76,83,69])=decide (x.data.toList=a4h):=by rw[jI,Bool.eq_iff_iff,beq_iff_eq,decide_eq_true_iff];rfl
 by_cases hc:uk≠9/\(x.data.toList=a7f\/x.data.toList=a4h)
 case pos =>
  have e9:=hc.1;rw[if_pos hc] at hq;have e9b:(uk==9)=false:=by simpa using e9
  have e9c:(uk != 9)=true:=by simpa using e9
  cases ht:decide (x.data.toList=a7f) with
  | true =>
   rw[ht] at hbt hq;have HQ:=zh hq;clear hq ht hbf e9 hw33 hc;have Q7:=jq.fz 1;have q5:IntKind.i64.wrap ((i:Int)+1)=(i:Int)+1:=IntWalk.i64_in _ (by omega)
   go_upto_region 6 with fail
   obtain⟨s4,j6⟩:∃ s,s=s3.setCell ⟨R,1,none⟩ (I6 (((i:Int)+1))):=⟨_,rfl⟩;have j8:s4.heap.size=s3.heap.size:=by rw[j6];simp
   replace yX:∀ j,s4.cell? ⟨X,j,none⟩=([I6 3,Sg x,I6 (tp:Int),Bv false,Sg ty,Sg tz]:List Value)[j]?:=Jv j6 (qz yX (Ne.symm oX.ne));replace j7:Kp R w s4:=by rw[j6];exact j7.setR (by decide)
   replace jq:qj s4 R g cap T ⟨(i+1),N,A,d,p,er⟩:=by rw[j6];exact jq.setI _ _ (by first | rfl | omega)
   rw[<-j6];clear j6 j8;obtain⟨J3,J2,Q3,Q0,JZ⟩:=QJ jq;clear q5 Q7;go_wp2_with fail;refine(d6z R g cap T ⟨i+1,N,A,d,p,er⟩ { nd5 3 with tr:=true } _ jq (by dsimp only;omega)).mono ?_;rintro e s99 ⟨rfl,hRB,hKb⟩;go_wp2_with fail;show Po _ _;rw[J5.out];obtain rfl:=jA HQ.out;exact⟨rfl,hRB,j7.trans hKb⟩
  | false =>
   rw[ht] at hbt hq;rw[jD (hc.2.resolve_left (of_decide_eq_false ht))] at hbf;have HQ:=zh hq;clear hq ht e9 hw33 hc;have Q7:=jq.fz 1;have q5:IntKind.i64.wrap ((i:Int)+1)=(i:Int)+1:=IntWalk.i64_in _ (by omega)
   go_upto_region 6 with fail
   obtain⟨s5,j6⟩:∃ s,s=s3.setCell ⟨R,1,none⟩ (I6 (((i:Int)+1))):=⟨_,rfl⟩;have j8:s5.heap.size=s3.heap.size:=by rw[j6];simp
   replace yX:∀ j,s5.cell? ⟨X,j,none⟩=([I6 3,Sg x,I6 (tp:Int),Bv false,Sg ty,Sg tz]:List Value)[j]?:=Jv j6 (qz yX (Ne.symm oX.ne));replace j7:Kp R w s5:=by rw[j6];exact j7.setR (by decide)
   replace jq:qj s5 R g cap T ⟨(i+1),N,A,d,p,er⟩:=by rw[j6];exact jq.setI _ _ (by first | rfl | omega)
   rw[<-j6];clear j6 j8;obtain⟨J3,J2,Q3,Q0,JZ⟩:=QJ jq;clear q5 Q7;go_wp2_with fail;refine(d6z R g cap T ⟨i+1,N,A,d,p,er⟩ { nd5 3 with tr:=false } _ jq (by dsimp only;omega)).mono ?_;rintro e s99 ⟨rfl,hRB,hKb⟩;go_wp2_with fail;show Po _ _;rw[J5.out];obtain rfl:=jA HQ.out;exact⟨rfl,hRB,j7.trans hKb⟩
 rw[if_neg hc] at hq
 go_upto_region 4 with fail
 go_cut [40] (fun v wx=>v=Bv false/\wx=s3)
 case first =>
  by_cases e9:uk=9
  ·
   have e9c:(uk != 9)=false:=by simpa using e9
   clear hbt hbf hq;go_wp2
   go_meet
   exact⟨rfl,rfl⟩
  ·
   have e9c:(uk != 9)=true:=by simpa using e9
   rw[jE (fun h=>hc ⟨e9,Or.inl h⟩)] at hbt;rw[jE (fun h=>hc ⟨e9,Or.inr h⟩)] at hbf;clear hq;go_wp2
   go_meet
   exact⟨rfl,rfl⟩
 case rest =>
  obtain⟨rfl,hwc⟩:=hcut;rw[hwc];clear hwc wc;clear hbt hbf hc
  go_upto_if 57 with fail
  obtain⟨s6,W,j6,hdW,j8,zW⟩:=qy s3 (.cells #[I6 3,Sg x,I6 (tp:Int),Bv false,Sg ty,Sg tz] 54);have j9:=JW j6;have qJ:=j7.below jq.z j9;replace oX:=oX.below jq.z j9;replace oU:=oU.below jq.z j9;have dWX:W≠X:=by omega
  have dWU:W≠U:=by omega
  replace yX:=jv j9 yX zX;replace zX:=jw j9 zX;have yW:=qZ (b:=W) j6 hdW;have fW:=Qq (b:=W) j6 hdW;have lW:w.heap.size<=W:=by have:=j7.size;omega
  have oW:=d6v jq j9 (b:=W) (by omega) zW;replace jq:=jq.below j9;clear j9;obtain⟨J3,J2,Q3,Q0,JZ⟩:=QJ jq;replace j7:=qJ;clear qJ;rw[<-j6];try rw[<-hdW]
  clear j6 j8 hdW
  go_cut [6] (f4v w R g cap T N A d p er W q)
  case first =>
   by_cases e9:uk=9
   case neg =>
    have e9b:(uk==9)=false:=by simpa using e9
    rw[if_neg e9] at hq;go_wp2
    go_meet
    exact⟨i,⟨#[]⟩,x,tp,ty,tz,rfl,jq,j7,oW,yW,fW,zW,l1,hwz1,hwz0,hw33,hq⟩
   rw[if_pos e9] at hq;have e9b:(uk==9)=true:=by simpa using e9
   have e9c:(uk != 9)=false:=by simpa using e9
   have HE9:=zh e9;clear e9;have XK:=fun W=>b2o x W (by unfold maxLen;omega)
   cases hn:b4n x with
   | false =>
    rw[hn] at XK hq;rw[if_pos (show (!false)=true from rfl)] at hq;have HQ:=zh hq;have Xv:=zh XK;clear hq XK hn hw33;go_wp2_with fail;refine jy (Xv.out _) fun s7 hb=>?_
    replace yX:=jv hb yX zX;replace j7:=j7.below jq.z hb;replace jq:=jq.below hb;obtain⟨J3,J2,Q3,Q0,JZ⟩:=QJ jq;clear hb;go_wp2_with fail;refine(d6s R g cap T ⟨i,N,A,d,p,er⟩ ⟨3,x,tp,ty,tz⟩ 10 _ jq).mono ?_;rintro e s99 ⟨rfl,hRB,hKb⟩;go_wp2_with fail;show Po _ _;rw[J5.out];obtain rfl:=jA HQ.out;exact⟨rfl,hRB,j7.trans hKb⟩
   | true =>
    rw[hn] at XK hq;rw[if_neg (show ¬ (!true)=true from Bool.false_ne_true)] at hq;have Xv:=zh XK;clear XK hn hw33 hwz0 hwz1;have l2:=d6r hT l1 (by rw[<-HU.out];show uk≠0;have:=HE9.out;omega);obtain⟨v0,hv0⟩:=nM (tokAt T (i+2));rw[<-hv0] at hq;have hvw:=hW _ (e1t l2);have hvs:=(d8n hT l2).2.2;have lv:v0.k≠0->i+3<T.length:=fun h=>d6r hT l2 (by rw[<-hv0];exact h)
    have hNW:=fun W h=>d7b R g cap T ⟨i+2,N,A,d,p,er⟩ W h l2 hTl
    dsimp only at hNW;rw[<-hv0] at hvw hvs hNW;clear hv0;obtain⟨wk,wx,wp,wy,wz⟩:=v0;dsimp only at hvw hvs lv hNW hq;have HNW:=zh hNW;clear hNW;go_wp2_with fail;refine jy (Xv.out _) fun s8 hb=>?_
    replace yW:=jv hb yW zW;replace fW:=qv hb fW zW;replace zW:=jw hb zW
    replace j7:=j7.below jq.z hb;replace oX:=oX.below jq.z hb;replace oU:=oU.below jq.z hb;replace oW:=oW.below jq.z hb;replace jq:=jq.below hb;obtain⟨J3,J2,Q3,Q0,JZ⟩:=QJ jq;clear hb;clear Xv;have Q7:=jq.fz 1;have q5:IntKind.i64.wrap ((i:Int)+2)=(i:Int)+2:=IntWalk.i64_in _ (by omega)
    go_upto_region 14 with fail
    obtain⟨s9,j6⟩:∃ s,s=s8.setCell ⟨R,1,none⟩ (I6 (((i:Int)+2))):=⟨_,rfl⟩;have j8:s9.heap.size=s8.heap.size:=by rw[j6];simp
    replace oX:qW s9 R X:=(by rw[j6];exact oX.setR (by decide));replace oU:qW s9 R U:=(by rw[j6];exact oU.setR (by decide));replace yW:∀ j,s9.cell? ⟨W,j,none⟩=([I6 3,Sg x,I6 (tp:Int),Bv false,Sg ty,Sg tz]:List Value)[j]?:=Jv j6 (qz yW (Ne.symm oW.ne));replace fW:∀ j,s9.frozen? ⟨W,j,none⟩=false:=fun j=>(by rw[j6];exact frz_set.trans (fW j));replace zW:W<s9.heap.size:=(by omega);replace oW:qW s9 R W:=(by rw[j6];exact oW.setR (by decide))
    replace j7:Kp R w s9:=by rw[j6];exact j7.setR (by decide)
    replace jq:qj s9 R g cap T ⟨(i+2),N,A,d,p,er⟩:=by rw[j6];exact jq.setI _ _ (by first | rfl | omega)
    rw[<-j6];clear j6 j8;obtain⟨J3,J2,Q3,Q0,JZ⟩:=QJ jq;clear q5 Q7;have hNW:=HNW.out _ jq;go_wp2_with fail;refine jy (hNW) fun s10 hb=>?_
    replace yW:=jv hb yW zW;replace fW:=qv hb fW zW;replace zW:=jw hb zW
    replace j7:=j7.below jq.z hb;replace oX:=oX.below jq.z hb;replace oU:=oU.below jq.z hb;replace oW:=oW.below jq.z hb;replace jq:=jq.below hb;obtain⟨J3,J2,Q3,Q0,JZ⟩:=QJ jq;clear hb;clear hNW HNW;by_cases e3:wk=3
    case neg =>
     rw[if_pos e3] at hq;have HQ:=zh hq;have e4:(wk != 3)=true:=by simpa using e3
     clear hq hvw lv e3
     go_upto_region 15 with fail
     obtain⟨s11,j6⟩:∃ s,s=((((((s10.setCell ⟨W,0,none⟩ (I6 wk)).setCell ⟨W,1,none⟩ (Sg wx)).setCell ⟨W,2,none⟩ (I6 (wp:Int))).setCell ⟨W,3,none⟩ (Bv false)).setCell ⟨W,4,none⟩ (Sg wy)).setCell ⟨W,5,none⟩ (Sg wz)):=⟨_,rfl⟩;have qk0:=Kp.set (j:=0) (v:=(I6 wk)) j7 oW lW;have qr0:=qj.set (j:=0) (v:=(I6 wk)) jq oW (by omega);have qX0:=qW.set (j:=0) (v:=(I6 wk)) oX oW;have qU0:=qW.set (j:=0) (v:=(I6 wk)) oU oW;have qW0:=qW.set (j:=0) (v:=(I6 wk)) oW oW;have qk1:=Kp.set (j:=1) (v:=(Sg wx)) qk0 qW0 lW;have qr1:=qj.set (j:=1) (v:=(Sg wx)) qr0 qW0 (by omega);have qX1:=qW.set (j:=1) (v:=(Sg wx)) qX0 qW0;have qU1:=qW.set (j:=1) (v:=(Sg wx)) qU0 qW0;have qW1:=qW.set (j:=1) (v:=(Sg wx)) qW0 qW0;have qk2:=Kp.set (j:=2) (v:=(I6 (wp:Int))) qk1 qW1 lW;have qr2:=qj.set (j:=2) (v:=(I6 (wp:Int))) qr1 qW1 (by omega);have qX2:=qW.set (j:=2) (v:=(I6 (wp:Int))) qX1 qW1;have qU2:=qW.set (j:=2) (v:=(I6 (wp:Int))) qU1 qW1;have qW2:=qW.set (j:=2) (v:=(I6 (wp:Int))) qW1 qW1;have qk3:=Kp.set (j:=3) (v:=(Bv false)) qk2 qW2 lW;have qr3:=qj.set (j:=3) (v:=(Bv false)) qr2 qW2 (by omega);have qX3:=qW.set (j:=3) (v:=(Bv false)) qX2 qW2;have qU3:=qW.set (j:=3) (v:=(Bv false)) qU2 qW2;have qW3:=qW.set (j:=3) (v:=(Bv false)) qW2 qW2;have qk4:=Kp.set (j:=4) (v:=(Sg wy)) qk3 qW3 lW;have qr4:=qj.set (j:=4) (v:=(Sg wy)) qr3 qW3 (by omega);have qX4:=qW.set (j:=4) (v:=(Sg wy)) qX3 qW3;have qU4:=qW.set (j:=4) (v:=(Sg wy)) qU3 qW3;have qW4:=qW.set (j:=4) (v:=(Sg wy)) qW3 qW3;have qk5:=Kp.set (j:=5) (v:=(Sg wz)) qk4 qW4 lW;have qr5:=qj.set (j:=5) (v:=(Sg wz)) qr4 qW4 (by omega);have qX5:=qW.set (j:=5) (v:=(Sg wz)) qX4 qW4;have qU5:=qW.set (j:=5) (v:=(Sg wz)) qU4 qW4;have qW5:=qW.set (j:=5) (v:=(Sg wz)) qW4 qW4;have qJ:Kp R w s11:=by rw[j6];exact qk5
     have hRB:qj s11 R g cap T ⟨(i+2),N,A,d,p,er⟩:=by rw[j6];exact qr5
     clear qW5 qU5 qX5 qr5 qk5 qW4 qU4 qX4 qr4 qk4 qW3 qU3 qX3 qr3 qk3 qW2 qU2 qX2 qr2 qk2 qW1 qU1 qX1 qr1 qk1 qW0 qU0 qX0 qr0 qk0;replace jq:=hRB;clear hRB;have j8:=ss6 j6;have hq:∀ {p v},((((((s10.setCell ⟨W,0,none⟩ (I6 wk)).setCell ⟨W,1,none⟩ (Sg wx)).setCell ⟨W,2,none⟩ (I6 (wp:Int))).setCell ⟨W,3,none⟩ (Bv false)).setCell ⟨W,4,none⟩ (Sg wy)).setCell ⟨W,5,none⟩ (Sg wz)).cell? p=some v->s11.cell? p=some v:=fun h=>by rw[j6];exact h
     replace yW:∀ j,s11.cell? ⟨W,j,none⟩=([I6 wk,Sg wx,I6 (wp:Int),Bv false,Sg wy,Sg wz]:List Value)[j]?:=Jv j6 (JX (JX (JX (JX (JX (JX yW (jB rfl)) (jB rfl)) (jB rfl)) (jB rfl)) (jB rfl)) (jB rfl));clear hq;have J9:=@fz6 _ _ _ _ _ _ _ _ _ _ _ _ _ _  j6;clear J9;rw[<-j6];clear j7 j6 j8;have j7:=qJ;clear qJ;go_wp2_with fail;refine(d6s R g cap T ⟨i+2,N,A,d,p,er⟩ ⟨wk,wx,wp,wy,wz⟩ 10 _ jq).mono ?_;rintro e s99 ⟨rfl,hRB,hKb⟩;go_wp2_with fail;show Po _ _;rw[J5.out];obtain rfl:=jA HQ.out;exact⟨rfl,hRB,j7.trans hKb⟩
    rw[if_neg (fun h=>h e3)] at hq;have l3:=lv (by rw[e3];decide);obtain⟨hwz0,hw33⟩:=hvw e3;subst e3;clear hvw lv;have hwz1:wx.size<=1000:=by omega
    clear hvs;go_wp2_with fail;obtain⟨s12,j6⟩:∃ s,s=((((((s10.setCell ⟨W,0,none⟩ (I6 3)).setCell ⟨W,1,none⟩ (Sg wx)).setCell ⟨W,2,none⟩ (I6 (wp:Int))).setCell ⟨W,3,none⟩ (Bv false)).setCell ⟨W,4,none⟩ (Sg wy)).setCell ⟨W,5,none⟩ (Sg wz)):=⟨_,rfl⟩;have qk0:=Kp.set (j:=0) (v:=(I6 3)) j7 oW lW;have qr0:=qj.set (j:=0) (v:=(I6 3)) jq oW (by omega);have qX0:=qW.set (j:=0) (v:=(I6 3)) oX oW;have qU0:=qW.set (j:=0) (v:=(I6 3)) oU oW;have qW0:=qW.set (j:=0) (v:=(I6 3)) oW oW;have qk1:=Kp.set (j:=1) (v:=(Sg wx)) qk0 qW0 lW;have qr1:=qj.set (j:=1) (v:=(Sg wx)) qr0 qW0 (by omega);have qX1:=qW.set (j:=1) (v:=(Sg wx)) qX0 qW0;have qU1:=qW.set (j:=1) (v:=(Sg wx)) qU0 qW0;have qW1:=qW.set (j:=1) (v:=(Sg wx)) qW0 qW0;have qk2:=Kp.set (j:=2) (v:=(I6 (wp:Int))) qk1 qW1 lW;have qr2:=qj.set (j:=2) (v:=(I6 (wp:Int))) qr1 qW1 (by omega);have qX2:=qW.set (j:=2) (v:=(I6 (wp:Int))) qX1 qW1;have qU2:=qW.set (j:=2) (v:=(I6 (wp:Int))) qU1 qW1;have qW2:=qW.set (j:=2) (v:=(I6 (wp:Int))) qW1 qW1;have qk3:=Kp.set (j:=3) (v:=(Bv false)) qk2 qW2 lW;have qr3:=qj.set (j:=3) (v:=(Bv false)) qr2 qW2 (by omega);have qX3:=qW.set (j:=3) (v:=(Bv false)) qX2 qW2;have qU3:=qW.set (j:=3) (v:=(Bv false)) qU2 qW2;have qW3:=qW.set (j:=3) (v:=(Bv false)) qW2 qW2;have qk4:=Kp.set (j:=4) (v:=(Sg wy)) qk3 qW3 lW;have qr4:=qj.set (j:=4) (v:=(Sg wy)) qr3 qW3 (by omega);have qX4:=qW.set (j:=4) (v:=(Sg wy)) qX3 qW3;have qU4:=qW.set (j:=4) (v:=(Sg wy)) qU3 qW3;have qW4:=qW.set (j:=4) (v:=(Sg wy)) qW3 qW3;have qk5:=Kp.set (j:=5) (v:=(Sg wz)) qk4 qW4 lW;have qr5:=qj.set (j:=5) (v:=(Sg wz)) qr4 qW4 (by omega);have qX5:=qW.set (j:=5) (v:=(Sg wz)) qX4 qW4;have qU5:=qW.set (j:=5) (v:=(Sg wz)) qU4 qW4;have qW5:=qW.set (j:=5) (v:=(Sg wz)) qW4 qW4;have qJ:Kp R w s12:=by rw[j6];exact qk5
    have hRB:qj s12 R g cap T ⟨(i+2),N,A,d,p,er⟩:=by rw[j6];exact qr5
    replace oW:qW s12 R W:=by rw[j6];exact qW5
    clear qW5 qU5 qX5 qr5 qk5 qW4 qU4 qX4 qr4 qk4 qW3 qU3 qX3 qr3 qk3 qW2 qU2 qX2 qr2 qk2 qW1 qU1 qX1 qr1 qk1 qW0 qU0 qX0 qr0 qk0;replace jq:=hRB;clear hRB;have j8:=ss6 j6;have hq:∀ {p v},((((((s10.setCell ⟨W,0,none⟩ (I6 3)).setCell ⟨W,1,none⟩ (Sg wx)).setCell ⟨W,2,none⟩ (I6 (wp:Int))).setCell ⟨W,3,none⟩ (Bv false)).setCell ⟨W,4,none⟩ (Sg wy)).setCell ⟨W,5,none⟩ (Sg wz)).cell? p=some v->s12.cell? p=some v:=fun h=>by rw[j6];exact h
    replace yW:∀ j,s12.cell? ⟨W,j,none⟩=([I6 3,Sg wx,I6 (wp:Int),Bv false,Sg wy,Sg wz]:List Value)[j]?:=Jv j6 (JX (JX (JX (JX (JX (JX yW (jB rfl)) (jB rfl)) (jB rfl)) (jB rfl)) (jB rfl)) (jB rfl));clear hq;have J9:=@fz6 _ _ _ _ _ _ _ _ _ _ _ _ _ _  j6;replace fW:=fun j=>J9 (fW j)
    clear J9;replace zW:=Xy j8 zW;rw[<-j6];clear j7 j6 j8;have j7:=qJ;clear qJ
    go_meet
    exact⟨i+2,x,wx,wp,wy,wz,rfl,jq,j7,oW,yW,fW,zW,l3,hwz1,hwz0,hw33,hq⟩
  case rest =>
   obtain⟨k,SH,wx,wp,wy,wz,rfl,hRB,hBo2,oW2,yW2,fW2,zW2,l3,hwz1,hwz0,hw33,hq⟩:=hcut;clear jq j7 oX oU oW yX yU yW fW zX zU zW;have jq:=hRB;have j7:=hBo2;have oW:=oW2;have yW:=yW2;have fW:=fW2;have zW:=zW2;clear hRB hBo2 oW2 yW2 zW2;go_wp2_with fail;obtain⟨a1,ha1⟩:∃ z,z=d8f wx.data.toList ⟨#[]⟩:=⟨_,rfl⟩;have hsh:=e4n wx.data.toList SH;have hin:=@e1s wx.data.toList ⟨#[]⟩;have hP:=fun W=>d7k wx W hwz1 hwz0 hw33
   have hash:=e4o wx.data.toList;unfold e0o at hq;dsimp only at hq;rw[hsh.1] at hq;rw[<-ha1] at hin hP hq hash hsh;obtain⟨⟨as',ac,ar,af,ag⟩,ae⟩:=a1;dsimp only at hin hP hq hash hsh;subst hash;have HP:=zh hP;clear hP ha1;refine jy (HP.out _) fun s13 hb=>?_
   replace yW:=jv hb yW zW;replace fW:=qv hb fW zW;replace zW:=jw hb zW
   replace j7:=j7.below jq.z hb;replace oW:=oW.below jq.z hb;replace jq:=jq.below hb;obtain⟨J3,J2,Q3,Q0,JZ⟩:=QJ jq;clear hb;clear HP;by_cases e1:ae=0
   case neg =>
    rw[if_pos e1] at hq;have HQ:=zh hq;clear hq;have e2:(ae != 0)=true:=by simpa using e1
    clear hsh hin e1
    go_upto_region 18 with fail
    obtain⟨s14,Y,j6,Qy,j8,zY⟩:=qy s13 (.cells #[S0,I6 ac,I6 ar,Bv af,Bv ag] 67);have j9:=JW j6;have qJ:=j7.below jq.z j9;have dWY:W≠Y:=by omega
    replace yW:=jv j9 yW zW;replace jq:=jq.below j9;clear j9;obtain⟨J3,J2,Q3,Q0,JZ⟩:=QJ jq;replace j7:=qJ;clear qJ;rw[<-j6];try rw[<-Qy]
    clear j6 j8 Qy;go_wp2_with fail;refine(d6s R g cap T ⟨k,N,A,d,p,er⟩ ⟨3,wx,wp,wy,wz⟩ ae _ jq).mono ?_;rintro e s99 ⟨rfl,hRB,hKb⟩;go_wp2_with fail;show Po _ _;rw[J5.out];obtain rfl:=jA HQ.out;exact⟨rfl,hRB,j7.trans hKb⟩
   rw[if_neg (fun h=>h e1)] at hq;have hag:=hin e1;rw[hsh.2 e1] at hq;try dsimp only at hq
   subst e1;clear hsh hin
   go_upto_region 20 with fail
   obtain⟨s15,Y,j6,Qy,j8,zY⟩:=qy s13 (.cells #[S0,I6 ac,I6 ar,Bv af,Bv ag] 67);have j9:=JW j6;have qJ:=j7.below jq.z j9;replace oW:=oW.below jq.z j9;have dWY:W≠Y:=by omega
   have dYW:Y≠W:=by omega
   replace yW:=jv j9 yW zW;replace fW:=qv j9 fW zW;replace zW:=jw j9 zW
   have yY:=qZ (b:=Y) j6 Qy;have fY:=Qq (b:=Y) j6 Qy;have lY:w.heap.size<=Y:=by have:=j7.size;omega
   have oY:=d6v jq j9 (b:=Y) (by omega) zY;replace jq:=jq.below j9;clear j9;obtain⟨J3,J2,Q3,Q0,JZ⟩:=QJ jq;replace j7:=qJ;clear qJ;rw[<-j6];try rw[<-Qy]
   clear j6 j8 Qy
   go_upto_region 21 with fail
   obtain⟨s16,j6⟩:∃ s,s=(s15.setCell ⟨Y,0,none⟩ (Sg SH)):=⟨_,rfl⟩;have qk0:=Kp.set (j:=0) (v:=(Sg SH)) j7 oY lY;have qr0:=qj.set (j:=0) (v:=(Sg SH)) jq oY (by omega);have qW0:=qW.set (j:=0) (v:=(Sg SH)) oW oY;have qY0:=qW.set (j:=0) (v:=(Sg SH)) oY oY;have qJ:Kp R w s16:=by rw[j6];exact qk0
   have hRB:qj s16 R g cap T ⟨k,N,A,d,p,er⟩:=by rw[j6];exact qr0
   replace oW:qW s16 R W:=by rw[j6];exact qW0
   replace oY:qW s16 R Y:=by rw[j6];exact qY0
   clear qY0 qW0 qr0 qk0;replace jq:=hRB;clear hRB;replace J2:s16.cell? ⟨R,1,none⟩=some (I6 k):=jq.k1;have j8:=ss1 j6;replace yW:=Jv j6 (qz yW dYW);have hq:∀ {p v},(s15.setCell ⟨Y,0,none⟩ (Sg SH)).cell? p=some v->s16.cell? p=some v:=fun h=>by rw[j6];exact h
   replace yY:∀ j,s16.cell? ⟨Y,j,none⟩=([Sg SH,I6 ac,I6 ar,Bv af,Bv ag]:List Value)[j]?:=Jv j6 (JX yY (jB rfl));clear hq;have J9:=@fz1 _ _ _ _  j6;replace fW:=fun j=>J9 (fW j)
   replace fY:=fun j=>J9 (fY j)
   clear J9;replace zW:=Xy j8 zW;replace zY:=Xy j8 zY;rw[<-j6];clear j7 j6 j8;have j7:=qJ;clear qJ;have Q7:=jq.fz 1;have q5:IntKind.i64.wrap ((k:Int)+1)=(k:Int)+1:=IntWalk.i64_in _ (by omega)
   go_upto_region 22 with fail
   obtain⟨s17,j6⟩:∃ s,s=s16.setCell ⟨R,1,none⟩ (I6 (((k:Int)+1))):=⟨_,rfl⟩;have j8:s17.heap.size=s16.heap.size:=by rw[j6];simp
   replace yW:∀ j,s17.cell? ⟨W,j,none⟩=([I6 3,Sg wx,I6 (wp:Int),Bv false,Sg wy,Sg wz]:List Value)[j]?:=Jv j6 (qz yW (Ne.symm oW.ne));replace fW:∀ j,s17.frozen? ⟨W,j,none⟩=false:=fun j=>(by rw[j6];exact frz_set.trans (fW j));replace zW:W<s17.heap.size:=(by omega);replace oW:qW s17 R W:=(by rw[j6];exact oW.setR (by decide))
   replace yY:∀ j,s17.cell? ⟨Y,j,none⟩=([Sg SH,I6 ac,I6 ar,Bv af,Bv ag]:List Value)[j]?:=Jv j6 (qz yY (Ne.symm oY.ne));replace fY:∀ j,s17.frozen? ⟨Y,j,none⟩=false:=fun j=>(by rw[j6];exact frz_set.trans (fY j));replace zY:Y<s17.heap.size:=(by omega);replace oY:qW s17 R Y:=(by rw[j6];exact oY.setR (by decide))
   replace j7:Kp R w s17:=by rw[j6];exact j7.setR (by decide)
   replace jq:qj s17 R g cap T ⟨(k+1),N,A,d,p,er⟩:=by rw[j6];exact jq.setI _ _ (by first | rfl | omega)
   rw[<-j6];clear j6 j8;clear J2;obtain⟨J3,J2,Q3,Q0,JZ⟩:=QJ jq;clear q5;have l5:k+1<T.length:=l3;obtain⟨m,hm⟩:=nM (tokAt T (k+1));have hNW:=d7b R g cap T ⟨k+1,N,A,d,p,er⟩ _ jq l5 hTl;try dsimp only at hNW
   rw[<-hm] at hNW hq;have lm:m.k≠0->k+2<T.length:=fun h=>d6r hT l5 (by rw[<-hm];exact h)
   obtain⟨mk,mx,mp,my,mz⟩:=m;dsimp only at hNW hq lm;have F0:=e3v mk mx mp my mz;go_wp2_with fail;refine jy (hNW) fun s18 hb=>?_
   replace yW:=jv hb yW zW;replace fW:=qv hb fW zW;replace zW:=jw hb zW
   replace yY:=jv hb yY zY;replace fY:=qv hb fY zY;replace zY:=jw hb zY
   replace j7:=j7.below jq.z hb;replace oW:=oW.below jq.z hb;replace oY:=oY.below jq.z hb;replace jq:=jq.below hb;obtain⟨J3,J2,Q3,Q0,JZ⟩:=QJ jq;replace J2:s18.cell? ⟨R,1,none⟩=some (I6 ((k+1))):=J2;clear hb;clear hNW hm;by_cases e3:mk=8
   case neg =>
    rw[if_pos e3] at hq;have HQ:=zh hq;clear hq;have e4:(mk != 8)=true:=by simpa using e3
    clear e3;go_wp2_with fail;refine(d6z R g cap T ⟨k+1,N,A,d,p,er⟩ { nd5 5 with r:=⟨SH,ac,ar,af,ag⟩ } _ jq (by dsimp only;omega)).mono ?_;rintro e s99 ⟨rfl,hRB,hKb⟩;go_wp2_with fail;show Po _ _;rw[J5.out];obtain rfl:=jA HQ.out;exact⟨rfl,hRB,j7.trans hKb⟩
   rw[if_neg (fun h=>h e3)] at hq;have l6:=lm (by rw[e3];decide);subst e3;clear lm;have Q7:=jq.fz 1;have q5:IntKind.i64.wrap (((k:Int)+1)+1)=((k:Int)+1)+1:=IntWalk.i64_in _ (by omega)
   go_upto_region 25 with fail
   obtain⟨s19,j6⟩:∃ s,s=s18.setCell ⟨R,1,none⟩ (I6 ((((k:Int)+1)+1))):=⟨_,rfl⟩;have j8:s19.heap.size=s18.heap.size:=by rw[j6];simp
   replace yW:∀ j,s19.cell? ⟨W,j,none⟩=([I6 3,Sg wx,I6 (wp:Int),Bv false,Sg wy,Sg wz]:List Value)[j]?:=Jv j6 (qz yW (Ne.symm oW.ne));replace fW:∀ j,s19.frozen? ⟨W,j,none⟩=false:=fun j=>(by rw[j6];exact frz_set.trans (fW j));replace zW:W<s19.heap.size:=(by omega);replace oW:qW s19 R W:=(by rw[j6];exact oW.setR (by decide))
   replace yY:∀ j,s19.cell? ⟨Y,j,none⟩=([Sg SH,I6 ac,I6 ar,Bv af,Bv ag]:List Value)[j]?:=Jv j6 (qz yY (Ne.symm oY.ne));replace fY:∀ j,s19.frozen? ⟨Y,j,none⟩=false:=fun j=>(by rw[j6];exact frz_set.trans (fY j));replace zY:Y<s19.heap.size:=(by omega);replace oY:qW s19 R Y:=(by rw[j6];exact oY.setR (by decide))
   replace j7:Kp R w s19:=by rw[j6];exact j7.setR (by decide)
   replace jq:qj s19 R g cap T ⟨(k+2),N,A,d,p,er⟩:=by rw[j6];exact jq.setI _ _ (by first | rfl | omega)
   rw[<-j6];clear j6 j8;clear J2;obtain⟨J3,J2,Q3,Q0,JZ⟩:=QJ jq;clear q5 Q7 F0;obtain⟨v,hv⟩:=nM (tokAt T (k+2));have hNW:=d7b R g cap T ⟨k+2,N,A,d,p,er⟩ _ jq l6 hTl;have e7:k+1+1=k+2:=rfl;try dsimp only at hNW
   rw[<-hv] at hNW;rw[e7,<-hv] at hq;have hvw:v.k=3->_:=hW v (by rw[hv];exact e1t l6);have hvs:=(d8n hT l6).2.2;rw[<-hv] at hvs;have lv:v.k≠0->k+3<T.length:=fun h=>d6r hT l6 (by rw[<-hv];exact h)
   obtain⟨vk,vx,vp,vy,vz⟩:=v;dsimp only at hNW hq lv hvw hvs;go_wp2_with fail;refine jy (hNW) fun s20 hb=>?_
   replace yW:=jv hb yW zW;replace fW:=qv hb fW zW;replace zW:=jw hb zW
   replace yY:=jv hb yY zY;replace fY:=qv hb fY zY;replace zY:=jw hb zY
   replace j7:=j7.below jq.z hb;replace oW:=oW.below jq.z hb;replace oY:=oY.below jq.z hb;replace jq:=jq.below hb;obtain⟨J3,J2,Q3,Q0,JZ⟩:=QJ jq;clear hb;clear hNW hv;by_cases e3:vk=3
   case neg =>
    rw[if_pos e3] at hq;have HQ:=zh hq;clear hq hvw lv;have e4:(vk != 3)=true:=by simpa using e3
    clear e3
    go_upto_region 26 with fail
    obtain⟨s21,j6⟩:∃ s,s=((((((s20.setCell ⟨W,0,none⟩ (I6 vk)).setCell ⟨W,1,none⟩ (Sg vx)).setCell ⟨W,2,none⟩ (I6 (vp:Int))).setCell ⟨W,3,none⟩ (Bv false)).setCell ⟨W,4,none⟩ (Sg vy)).setCell ⟨W,5,none⟩ (Sg vz)):=⟨_,rfl⟩;have qk0:=Kp.set (j:=0) (v:=(I6 vk)) j7 oW lW;have qr0:=qj.set (j:=0) (v:=(I6 vk)) jq oW (by omega);have qW0:=qW.set (j:=0) (v:=(I6 vk)) oW oW;have qY0:=qW.set (j:=0) (v:=(I6 vk)) oY oW;have qk1:=Kp.set (j:=1) (v:=(Sg vx)) qk0 qW0 lW;have qr1:=qj.set (j:=1) (v:=(Sg vx)) qr0 qW0 (by omega);have qW1:=qW.set (j:=1) (v:=(Sg vx)) qW0 qW0;have qY1:=qW.set (j:=1) (v:=(Sg vx)) qY0 qW0;have qk2:=Kp.set (j:=2) (v:=(I6 (vp:Int))) qk1 qW1 lW;have qr2:=qj.set (j:=2) (v:=(I6 (vp:Int))) qr1 qW1 (by omega);have qW2:=qW.set (j:=2) (v:=(I6 (vp:Int))) qW1 qW1;have qY2:=qW.set (j:=2) (v:=(I6 (vp:Int))) qY1 qW1;have qk3:=Kp.set (j:=3) (v:=(Bv false)) qk2 qW2 lW;have qr3:=qj.set (j:=3) (v:=(Bv false)) qr2 qW2 (by omega);have qW3:=qW.set (j:=3) (v:=(Bv false)) qW2 qW2;have qY3:=qW.set (j:=3) (v:=(Bv false)) qY2 qW2;have qk4:=Kp.set (j:=4) (v:=(Sg vy)) qk3 qW3 lW;have qr4:=qj.set (j:=4) (v:=(Sg vy)) qr3 qW3 (by omega);have qW4:=qW.set (j:=4) (v:=(Sg vy)) qW3 qW3;have qY4:=qW.set (j:=4) (v:=(Sg vy)) qY3 qW3;have qk5:=Kp.set (j:=5) (v:=(Sg vz)) qk4 qW4 lW;have qr5:=qj.set (j:=5) (v:=(Sg vz)) qr4 qW4 (by omega);have qW5:=qW.set (j:=5) (v:=(Sg vz)) qW4 qW4;have qY5:=qW.set (j:=5) (v:=(Sg vz)) qY4 qW4;have qJ:Kp R w s21:=by rw[j6];exact qk5
    have hRB:qj s21 R g cap T ⟨(k+2),N,A,d,p,er⟩:=by rw[j6];exact qr5
    clear qY5 qW5 qr5 qk5 qY4 qW4 qr4 qk4 qY3 qW3 qr3 qk3 qY2 qW2 qr2 qk2 qY1 qW1 qr1 qk1 qY0 qW0 qr0 qk0;replace jq:=hRB;clear hRB;have j8:=ss6 j6;have hq:∀ {p v},((((((s20.setCell ⟨W,0,none⟩ (I6 vk)).setCell ⟨W,1,none⟩ (Sg vx)).setCell ⟨W,2,none⟩ (I6 (vp:Int))).setCell ⟨W,3,none⟩ (Bv false)).setCell ⟨W,4,none⟩ (Sg vy)).setCell ⟨W,5,none⟩ (Sg vz)).cell? p=some v->s21.cell? p=some v:=fun h=>by rw[j6];exact h
    replace yW:∀ j,s21.cell? ⟨W,j,none⟩=([I6 vk,Sg vx,I6 (vp:Int),Bv false,Sg vy,Sg vz]:List Value)[j]?:=Jv j6 (JX (JX (JX (JX (JX (JX yW (jB rfl)) (jB rfl)) (jB rfl)) (jB rfl)) (jB rfl)) (jB rfl));clear hq;have J9:=@fz6 _ _ _ _ _ _ _ _ _ _ _ _ _ _  j6;clear J9;rw[<-j6];clear j7 j6 j8;have j7:=qJ;clear qJ;go_wp2_with fail;refine(d6s R g cap T ⟨k+2,N,A,d,p,er⟩ ⟨vk,vx,vp,vy,vz⟩ 10 _ jq).mono ?_;rintro e s99 ⟨rfl,hRB,hKb⟩;go_wp2_with fail;show Po _ _;rw[J5.out];obtain rfl:=jA HQ.out;exact⟨rfl,hRB,j7.trans hKb⟩
   rw[if_neg (fun h=>h e3)] at hq;obtain⟨hv0,hv33⟩:=hvw e3;have l7:=lv (by rw[e3];decide);subst e3;clear hvw lv
   go_upto_region 26 with fail
   obtain⟨s22,j6⟩:∃ s,s=((((((s20.setCell ⟨W,0,none⟩ (I6 3)).setCell ⟨W,1,none⟩ (Sg vx)).setCell ⟨W,2,none⟩ (I6 (vp:Int))).setCell ⟨W,3,none⟩ (Bv false)).setCell ⟨W,4,none⟩ (Sg vy)).setCell ⟨W,5,none⟩ (Sg vz)):=⟨_,rfl⟩;have qk0:=Kp.set (j:=0) (v:=(I6 3)) j7 oW lW;have qr0:=qj.set (j:=0) (v:=(I6 3)) jq oW (by omega);have qW0:=qW.set (j:=0) (v:=(I6 3)) oW oW;have qY0:=qW.set (j:=0) (v:=(I6 3)) oY oW;have qk1:=Kp.set (j:=1) (v:=(Sg vx)) qk0 qW0 lW;have qr1:=qj.set (j:=1) (v:=(Sg vx)) qr0 qW0 (by omega);have qW1:=qW.set (j:=1) (v:=(Sg vx)) qW0 qW0;have qY1:=qW.set (j:=1) (v:=(Sg vx)) qY0 qW0;have qk2:=Kp.set (j:=2) (v:=(I6 (vp:Int))) qk1 qW1 lW;have qr2:=qj.set (j:=2) (v:=(I6 (vp:Int))) qr1 qW1 (by omega);have qW2:=qW.set (j:=2) (v:=(I6 (vp:Int))) qW1 qW1;have qY2:=qW.set (j:=2) (v:=(I6 (vp:Int))) qY1 qW1;have qk3:=Kp.set (j:=3) (v:=(Bv false)) qk2 qW2 lW;have qr3:=qj.set (j:=3) (v:=(Bv false)) qr2 qW2 (by omega);have qW3:=qW.set (j:=3) (v:=(Bv false)) qW2 qW2;have qY3:=qW.set (j:=3) (v:=(Bv false)) qY2 qW2;have qk4:=Kp.set (j:=4) (v:=(Sg vy)) qk3 qW3 lW;have qr4:=qj.set (j:=4) (v:=(Sg vy)) qr3 qW3 (by omega);have qW4:=qW.set (j:=4) (v:=(Sg vy)) qW3 qW3;have qY4:=qW.set (j:=4) (v:=(Sg vy)) qY3 qW3;have qk5:=Kp.set (j:=5) (v:=(Sg vz)) qk4 qW4 lW;have qr5:=qj.set (j:=5) (v:=(Sg vz)) qr4 qW4 (by omega);have qW5:=qW.set (j:=5) (v:=(Sg vz)) qW4 qW4;have qY5:=qW.set (j:=5) (v:=(Sg vz)) qY4 qW4;have qJ:Kp R w s22:=by rw[j6];exact qk5
   have hRB:qj s22 R g cap T ⟨(k+2),N,A,d,p,er⟩:=by rw[j6];exact qr5
   replace oW:qW s22 R W:=by rw[j6];exact qW5
   replace oY:qW s22 R Y:=by rw[j6];exact qY5
   clear qY5 qW5 qr5 qk5 qY4 qW4 qr4 qk4 qY3 qW3 qr3 qk3 qY2 qW2 qr2 qk2 qY1 qW1 qr1 qk1 qY0 qW0 qr0 qk0;replace jq:=hRB;clear hRB;have j8:=ss6 j6;replace yY:=Jv j6 (qz (qz (qz (qz (qz (qz yY dWY) dWY) dWY) dWY) dWY) dWY);have hq:∀ {p v},((((((s20.setCell ⟨W,0,none⟩ (I6 3)).setCell ⟨W,1,none⟩ (Sg vx)).setCell ⟨W,2,none⟩ (I6 (vp:Int))).setCell ⟨W,3,none⟩ (Bv false)).setCell ⟨W,4,none⟩ (Sg vy)).setCell ⟨W,5,none⟩ (Sg vz)).cell? p=some v->s22.cell? p=some v:=fun h=>by rw[j6];exact h
   replace yW:∀ j,s22.cell? ⟨W,j,none⟩=([I6 3,Sg vx,I6 (vp:Int),Bv false,Sg vy,Sg vz]:List Value)[j]?:=Jv j6 (JX (JX (JX (JX (JX (JX yW (jB rfl)) (jB rfl)) (jB rfl)) (jB rfl)) (jB rfl)) (jB rfl));clear hq;have J9:=@fz6 _ _ _ _ _ _ _ _ _ _ _ _ _ _  j6;replace fY:=fun j=>J9 (fY j)
   clear J9;replace zW:=Xy j8 zW;replace zY:=Xy j8 zY;rw[<-j6];clear j7 j6 j8;have j7:=qJ;clear qJ;obtain⟨b1,hb1⟩:∃ z,z=d8f vx.data.toList ⟨#[]⟩:=⟨_,rfl⟩;have hin:=@e1s vx.data.toList ⟨#[]⟩;have hP:=fun W=>d7k vx W (by omega) hv0 hv33
   rw[<-hb1] at hin hP hq;clear hb1 hv33 hv0 hvs;obtain⟨⟨bs,bc,br,bf,bg⟩,be⟩:=b1;dsimp only at hin hP hq;have HP:=zh hP;clear hP;go_wp2_with fail;refine jy (HP.out _) fun s23 hb=>?_
   replace yW:=jv hb yW zW;replace zW:=jw hb zW;replace yY:=jv hb yY zY;replace fY:=qv hb fY zY;replace zY:=jw hb zY
   replace j7:=j7.below jq.z hb;replace oW:=oW.below jq.z hb;replace oY:=oY.below jq.z hb;replace jq:=jq.below hb;obtain⟨J3,J2,Q3,Q0,JZ⟩:=QJ jq;clear hb;clear HP;by_cases e1:be=0
   case neg =>
    rw[if_pos e1] at hq;have HQ:=zh hq;clear hq hin;have e2:(be != 0)=true:=by simpa using e1
    clear e1
    go_upto_region 29 with fail
    obtain⟨s24,B,j6,J7,j8,zB⟩:=qy s23 (.cells #[Sg bs,I6 bc,I6 br,Bv bf,Bv bg] 67);have j9:=JW j6;have qJ:=j7.below jq.z j9;have dWB:W≠B:=by omega
    have dYB:Y≠B:=by omega
    replace yW:=jv j9 yW zW;replace jq:=jq.below j9;clear j9;obtain⟨J3,J2,Q3,Q0,JZ⟩:=QJ jq;replace j7:=qJ;clear qJ;rw[<-j6];try rw[<-J7]
    clear j6 j8 J7;go_wp2_with fail;refine(d6s R g cap T ⟨k+2,N,A,d,p,er⟩ ⟨3,vx,vp,vy,vz⟩ be _ jq).mono ?_;rintro e s99 ⟨rfl,hRB,hKb⟩;go_wp2_with fail;show Po _ _;rw[J5.out];obtain rfl:=jA HQ.out;exact⟨rfl,hRB,j7.trans hKb⟩
   rw[if_neg (fun h=>h e1)] at hq;have hbg:=hin e1;subst e1;clear hin
   go_upto_region 31 with fail
   obtain⟨s25,B,j6,J7,j8,zB⟩:=qy s23 (.cells #[Sg bs,I6 bc,I6 br,Bv bf,Bv bg] 67);have j9:=JW j6;have qJ:=j7.below jq.z j9;replace oW:=oW.below jq.z j9;replace oY:=oY.below jq.z j9;have dWB:W≠B:=by omega
   have dYB:Y≠B:=by omega
   have dBW:B≠W:=by omega
   have dBY:B≠Y:=by omega
   replace yW:=jv j9 yW zW;replace zW:=jw j9 zW;replace yY:=jv j9 yY zY;replace fY:=qv j9 fY zY;replace zY:=jw j9 zY
   have yB:=qZ (b:=B) j6 J7;have fB:=Qq (b:=B) j6 J7;have lB:w.heap.size<=B:=by have:=j7.size;omega
   have oB:=d6v jq j9 (b:=B) (by omega) zB;replace jq:=jq.below j9;clear j9;obtain⟨J3,J2,Q3,Q0,JZ⟩:=QJ jq;replace j7:=qJ;clear qJ;rw[<-j6];try rw[<-J7]
   clear j6 j8 J7;have hO:=fun W=>e0z ⟨SH,ac,ar,af,ag⟩ ⟨bs,bc,br,bf,bg⟩ W
   have hoi:=@f0d ⟨SH,ac,ar,af,ag⟩ ⟨bs,bc,br,bf,bg⟩ hag hbg;generalize X5 ⟨SH,ac,ar,af,ag⟩ ⟨bs,bc,br,bf,bg⟩=o at *;obtain⟨⟨cs,cc,cr,cf,cg⟩,⟨ds,dc,dr,df,dg⟩⟩:=o;dsimp only at hO hoi hq;have hne:=@e7u ⟨cs,cc,cr,cf,cg⟩ ⟨ds,dc,dr,df,dg⟩ hoi.1 hoi.2.1 hoi.2.2.1 hoi.2.2.2;dsimp only at hne;rw[hne] at hO;clear hne hoi hag hbg;by_cases e1:(dc-cc+1)*(dr-cr+1) > 200
   case pos =>
    rw[if_pos e1] at hq hO;have HQ:=zh hq;have HO:=zh hO;clear hq hO e1;go_wp2_with fail;refine jy (HO.out _) fun s26 hb=>?_
    replace yW:=jv hb yW zW;replace yY:=jv hb yY zY;replace fY:=qv hb fY zY
    replace yB:=jv hb yB zB;replace fB:=qv hb fB zB
    replace j7:=j7.below jq.z hb;replace oW:=oW.below jq.z hb;replace oY:=oY.below jq.z hb;replace oB:=oB.below jq.z hb;replace jq:=jq.below hb;obtain⟨J3,J2,Q3,Q0,JZ⟩:=QJ jq;clear hb
    go_upto_region 32 with fail
    obtain⟨s27,j6⟩:∃ s,s=((((((((((s26.setCell ⟨Y,0,none⟩ (Sg cs)).setCell ⟨Y,1,none⟩ (I6 cc)).setCell ⟨Y,2,none⟩ (I6 cr)).setCell ⟨Y,3,none⟩ (Bv cf)).setCell ⟨Y,4,none⟩ (Bv cg)).setCell ⟨B,0,none⟩ (Sg ds)).setCell ⟨B,1,none⟩ (I6 dc)).setCell ⟨B,2,none⟩ (I6 dr)).setCell ⟨B,3,none⟩ (Bv df)).setCell ⟨B,4,none⟩ (Bv dg)):=⟨_,rfl⟩;have qk0:=Kp.set (j:=0) (v:=(Sg cs)) j7 oY lY;have qr0:=qj.set (j:=0) (v:=(Sg cs)) jq oY (by omega);have qW0:=qW.set (j:=0) (v:=(Sg cs)) oW oY;have qY0:=qW.set (j:=0) (v:=(Sg cs)) oY oY;have qB0:=qW.set (j:=0) (v:=(Sg cs)) oB oY;have qk1:=Kp.set (j:=1) (v:=(I6 cc)) qk0 qY0 lY;have qr1:=qj.set (j:=1) (v:=(I6 cc)) qr0 qY0 (by omega);have qW1:=qW.set (j:=1) (v:=(I6 cc)) qW0 qY0;have qY1:=qW.set (j:=1) (v:=(I6 cc)) qY0 qY0;have qB1:=qW.set (j:=1) (v:=(I6 cc)) qB0 qY0;have qk2:=Kp.set (j:=2) (v:=(I6 cr)) qk1 qY1 lY;have qr2:=qj.set (j:=2) (v:=(I6 cr)) qr1 qY1 (by omega);have qW2:=qW.set (j:=2) (v:=(I6 cr)) qW1 qY1;have qY2:=qW.set (j:=2) (v:=(I6 cr)) qY1 qY1;have qB2:=qW.set (j:=2) (v:=(I6 cr)) qB1 qY1;have qk3:=Kp.set (j:=3) (v:=(Bv cf)) qk2 qY2 lY;have qr3:=qj.set (j:=3) (v:=(Bv cf)) qr2 qY2 (by omega);have qW3:=qW.set (j:=3) (v:=(Bv cf)) qW2 qY2;have qY3:=qW.set (j:=3) (v:=(Bv cf)) qY2 qY2;have qB3:=qW.set (j:=3) (v:=(Bv cf)) qB2 qY2;have qk4:=Kp.set (j:=4) (v:=(Bv cg)) qk3 qY3 lY;have qr4:=qj.set (j:=4) (v:=(Bv cg)) qr3 qY3 (by omega);have qW4:=qW.set (j:=4) (v:=(Bv cg)) qW3 qY3;have qY4:=qW.set (j:=4) (v:=(Bv cg)) qY3 qY3;have qB4:=qW.set (j:=4) (v:=(Bv cg)) qB3 qY3;have qk5:=Kp.set (j:=0) (v:=(Sg ds)) qk4 qB4 lB;have qr5:=qj.set (j:=0) (v:=(Sg ds)) qr4 qB4 (by omega);have qW5:=qW.set (j:=0) (v:=(Sg ds)) qW4 qB4;have qY5:=qW.set (j:=0) (v:=(Sg ds)) qY4 qB4;have qB5:=qW.set (j:=0) (v:=(Sg ds)) qB4 qB4;have qk6:=Kp.set (j:=1) (v:=(I6 dc)) qk5 qB5 lB;have qr6:=qj.set (j:=1) (v:=(I6 dc)) qr5 qB5 (by omega);have qW6:=qW.set (j:=1) (v:=(I6 dc)) qW5 qB5;have qY6:=qW.set (j:=1) (v:=(I6 dc)) qY5 qB5;have qB6:=qW.set (j:=1) (v:=(I6 dc)) qB5 qB5;have qk7:=Kp.set (j:=2) (v:=(I6 dr)) qk6 qB6 lB;have qr7:=qj.set (j:=2) (v:=(I6 dr)) qr6 qB6 (by omega);have qW7:=qW.set (j:=2) (v:=(I6 dr)) qW6 qB6;have qY7:=qW.set (j:=2) (v:=(I6 dr)) qY6 qB6;have qB7:=qW.set (j:=2) (v:=(I6 dr)) qB6 qB6;have qk8:=Kp.set (j:=3) (v:=(Bv df)) qk7 qB7 lB;have qr8:=qj.set (j:=3) (v:=(Bv df)) qr7 qB7 (by omega);have qW8:=qW.set (j:=3) (v:=(Bv df)) qW7 qB7;have qY8:=qW.set (j:=3) (v:=(Bv df)) qY7 qB7;have qB8:=qW.set (j:=3) (v:=(Bv df)) qB7 qB7;have qk9:=Kp.set (j:=4) (v:=(Bv dg)) qk8 qB8 lB;have qr9:=qj.set (j:=4) (v:=(Bv dg)) qr8 qB8 (by omega);have qW9:=qW.set (j:=4) (v:=(Bv dg)) qW8 qB8;have qY9:=qW.set (j:=4) (v:=(Bv dg)) qY8 qB8;have qB9:=qW.set (j:=4) (v:=(Bv dg)) qB8 qB8;have qJ:Kp R w s27:=by rw[j6];exact qk9
    have hRB:qj s27 R g cap T ⟨(k+2),N,A,d,p,er⟩:=by rw[j6];exact qr9
    clear qB9 qY9 qW9 qr9 qk9 qB8 qY8 qW8 qr8 qk8 qB7 qY7 qW7 qr7 qk7 qB6 qY6 qW6 qr6 qk6 qB5 qY5 qW5 qr5 qk5 qB4 qY4 qW4 qr4 qk4 qB3 qY3 qW3 qr3 qk3 qB2 qY2 qW2 qr2 qk2 qB1 qY1 qW1 qr1 qk1 qB0 qY0 qW0 qr0 qk0;replace jq:=hRB;clear hRB;have j8:=f4t j6;replace yW:=Jv j6 (qz (qz (qz (qz (qz (qz (qz (qz (qz (qz yW dYW) dYW) dYW) dYW) dYW) dBW) dBW) dBW) dBW) dBW);have hq:∀ {p v},((((((((((s26.setCell ⟨Y,0,none⟩ (Sg cs)).setCell ⟨Y,1,none⟩ (I6 cc)).setCell ⟨Y,2,none⟩ (I6 cr)).setCell ⟨Y,3,none⟩ (Bv cf)).setCell ⟨Y,4,none⟩ (Bv cg)).setCell ⟨B,0,none⟩ (Sg ds)).setCell ⟨B,1,none⟩ (I6 dc)).setCell ⟨B,2,none⟩ (I6 dr)).setCell ⟨B,3,none⟩ (Bv df)).setCell ⟨B,4,none⟩ (Bv dg)).cell? p=some v->s27.cell? p=some v:=fun h=>by rw[j6];exact h
    clear hq;have J9:=@f4u _ _ _ _ _ _ _ _ _ _ _ _ _ _ _ _ _ _ _ _ _ _  j6;clear J9;rw[<-j6];clear j7 j6 j8;have j7:=qJ;clear qJ;go_wp2_with fail;refine(d6s R g cap T ⟨k+2,N,A,d,p,er⟩ ⟨3,vx,vp,vy,vz⟩ 7 _ jq).mono ?_;rintro e s99 ⟨rfl,hRB,hKb⟩;go_wp2_with fail;show Po _ _;rw[J5.out];obtain rfl:=jA HQ.out;exact⟨rfl,hRB,j7.trans hKb⟩
   rw[if_neg e1] at hq hO;have HQ:=zh hq;have HO:=zh hO;clear hq hO e1;go_wp2_with fail;refine jy (HO.out _) fun s28 hb=>?_
   replace yY:=jv hb yY zY;replace fY:=qv hb fY zY
   replace yB:=jv hb yB zB;replace fB:=qv hb fB zB
   replace j7:=j7.below jq.z hb;replace oW:=oW.below jq.z hb;replace oY:=oY.below jq.z hb;replace oB:=oB.below jq.z hb;replace jq:=jq.below hb;obtain⟨J3,J2,Q3,Q0,JZ⟩:=QJ jq;clear hb
   go_upto_region 32 with fail
   obtain⟨s29,j6⟩:∃ s,s=((((((((((s28.setCell ⟨Y,0,none⟩ (Sg cs)).setCell ⟨Y,1,none⟩ (I6 cc)).setCell ⟨Y,2,none⟩ (I6 cr)).setCell ⟨Y,3,none⟩ (Bv cf)).setCell ⟨Y,4,none⟩ (Bv cg)).setCell ⟨B,0,none⟩ (Sg ds)).setCell ⟨B,1,none⟩ (I6 dc)).setCell ⟨B,2,none⟩ (I6 dr)).setCell ⟨B,3,none⟩ (Bv df)).setCell ⟨B,4,none⟩ (Bv dg)):=⟨_,rfl⟩;have qk0:=Kp.set (j:=0) (v:=(Sg cs)) j7 oY lY;have qr0:=qj.set (j:=0) (v:=(Sg cs)) jq oY (by omega);have qW0:=qW.set (j:=0) (v:=(Sg cs)) oW oY;have qY0:=qW.set (j:=0) (v:=(Sg cs)) oY oY;have qB0:=qW.set (j:=0) (v:=(Sg cs)) oB oY;have qk1:=Kp.set (j:=1) (v:=(I6 cc)) qk0 qY0 lY;have qr1:=qj.set (j:=1) (v:=(I6 cc)) qr0 qY0 (by omega);have qW1:=qW.set (j:=1) (v:=(I6 cc)) qW0 qY0;have qY1:=qW.set (j:=1) (v:=(I6 cc)) qY0 qY0;have qB1:=qW.set (j:=1) (v:=(I6 cc)) qB0 qY0;have qk2:=Kp.set (j:=2) (v:=(I6 cr)) qk1 qY1 lY;have qr2:=qj.set (j:=2) (v:=(I6 cr)) qr1 qY1 (by omega);have qW2:=qW.set (j:=2) (v:=(I6 cr)) qW1 qY1;have qY2:=qW.set (j:=2) (v:=(I6 cr)) qY1 qY1;have qB2:=qW.set (j:=2) (v:=(I6 cr)) qB1 qY1;have qk3:=Kp.set (j:=3) (v:=(Bv cf)) qk2 qY2 lY;have qr3:=qj.set (j:=3) (v:=(Bv cf)) qr2 qY2 (by omega);have qW3:=qW.set (j:=3) (v:=(Bv cf)) qW2 qY2;have qY3:=qW.set (j:=3) (v:=(Bv cf)) qY2 qY2;have qB3:=qW.set (j:=3) (v:=(Bv cf)) qB2 qY2;have qk4:=Kp.set (j:=4) (v:=(Bv cg)) qk3 qY3 lY;have qr4:=qj.set (j:=4) (v:=(Bv cg)) qr3 qY3 (by omega);have qW4:=qW.set (j:=4) (v:=(Bv cg)) qW3 qY3;have qY4:=qW.set (j:=4) (v:=(Bv cg)) qY3 qY3;have qB4:=qW.set (j:=4) (v:=(Bv cg)) qB3 qY3;have qk5:=Kp.set (j:=0) (v:=(Sg ds)) qk4 qB4 lB;have qr5:=qj.set (j:=0) (v:=(Sg ds)) qr4 qB4 (by omega);have qW5:=qW.set (j:=0) (v:=(Sg ds)) qW4 qB4;have qY5:=qW.set (j:=0) (v:=(Sg ds)) qY4 qB4;have qB5:=qW.set (j:=0) (v:=(Sg ds)) qB4 qB4;have qk6:=Kp.set (j:=1) (v:=(I6 dc)) qk5 qB5 lB;have qr6:=qj.set (j:=1) (v:=(I6 dc)) qr5 qB5 (by omega);have qW6:=qW.set (j:=1) (v:=(I6 dc)) qW5 qB5;have qY6:=qW.set (j:=1) (v:=(I6 dc)) qY5 qB5;have qB6:=qW.set (j:=1) (v:=(I6 dc)) qB5 qB5;have qk7:=Kp.set (j:=2) (v:=(I6 dr)) qk6 qB6 lB;have qr7:=qj.set (j:=2) (v:=(I6 dr)) qr6 qB6 (by omega);have qW7:=qW.set (j:=2) (v:=(I6 dr)) qW6 qB6;have qY7:=qW.set (j:=2) (v:=(I6 dr)) qY6 qB6;have qB7:=qW.set (j:=2) (v:=(I6 dr)) qB6 qB6;have qk8:=Kp.set (j:=3) (v:=(Bv df)) qk7 qB7 lB;have qr8:=qj.set (j:=3) (v:=(Bv df)) qr7 qB7 (by omega);have qW8:=qW.set (j:=3) (v:=(Bv df)) qW7 qB7;have qY8:=qW.set (j:=3) (v:=(Bv df)) qY7 qB7;have qB8:=qW.set (j:=3) (v:=(Bv df)) qB7 qB7;have qk9:=Kp.set (j:=4) (v:=(Bv dg)) qk8 qB8 lB;have qr9:=qj.set (j:=4) (v:=(Bv dg)) qr8 qB8 (by omega);have qW9:=qW.set (j:=4) (v:=(Bv dg)) qW8 qB8;have qY9:=qW.set (j:=4) (v:=(Bv dg)) qY8 qB8;have qB9:=qW.set (j:=4) (v:=(Bv dg)) qB8 qB8;have qJ:Kp R w s29:=by rw[j6];exact qk9
   have hRB:qj s29 R g cap T ⟨(k+2),N,A,d,p,er⟩:=by rw[j6];exact qr9
   replace oY:qW s29 R Y:=by rw[j6];exact qY9
   replace oB:qW s29 R B:=by rw[j6];exact qB9
   clear qB9 qY9 qW9 qr9 qk9 qB8 qY8 qW8 qr8 qk8 qB7 qY7 qW7 qr7 qk7 qB6 qY6 qW6 qr6 qk6 qB5 qY5 qW5 qr5 qk5 qB4 qY4 qW4 qr4 qk4 qB3 qY3 qW3 qr3 qk3 qB2 qY2 qW2 qr2 qk2 qB1 qY1 qW1 qr1 qk1 qB0 qY0 qW0 qr0 qk0;replace jq:=hRB;clear hRB;replace J2:s29.cell? ⟨R,1,none⟩=some (I6 ((k+2))):=jq.k1;have j8:=f4t j6;have hq:∀ {p v},((((((((((s28.setCell ⟨Y,0,none⟩ (Sg cs)).setCell ⟨Y,1,none⟩ (I6 cc)).setCell ⟨Y,2,none⟩ (I6 cr)).setCell ⟨Y,3,none⟩ (Bv cf)).setCell ⟨Y,4,none⟩ (Bv cg)).setCell ⟨B,0,none⟩ (Sg ds)).setCell ⟨B,1,none⟩ (I6 dc)).setCell ⟨B,2,none⟩ (I6 dr)).setCell ⟨B,3,none⟩ (Bv df)).setCell ⟨B,4,none⟩ (Bv dg)).cell? p=some v->s29.cell? p=some v:=fun h=>by rw[j6];exact h
   replace yY:∀ j,s29.cell? ⟨Y,j,none⟩=([Sg cs,I6 cc,I6 cr,Bv cf,Bv cg]:List Value)[j]?:=Jv j6 (qz (qz (qz (qz (qz (JX (JX (JX (JX (JX yY (jB rfl)) (jB rfl)) (jB rfl)) (jB rfl)) (jB rfl)) dBY) dBY) dBY) dBY) dBY);replace yB:∀ j,s29.cell? ⟨B,j,none⟩=([Sg ds,I6 dc,I6 dr,Bv df,Bv dg]:List Value)[j]?:=Jv j6 (JX (JX (JX (JX (JX (qz (qz (qz (qz (qz yB dYB) dYB) dYB) dYB) dYB) (jB rfl)) (jB rfl)) (jB rfl)) (jB rfl)) (jB rfl));clear hq;have J9:=@f4u _ _ _ _ _ _ _ _ _ _ _ _ _ _ _ _ _ _ _ _ _ _  j6;clear J9;rw[<-j6];clear j7 j6 j8;have j7:=qJ;clear qJ;have Q7:=jq.fz 1;have q5:IntKind.i64.wrap (((k:Int)+2)+1)=((k:Int)+2)+1:=IntWalk.i64_in _ (by omega)
   go_upto_region 35 with fail
   obtain⟨s30,j6⟩:∃ s,s=s29.setCell ⟨R,1,none⟩ (I6 ((((k:Int)+2)+1))):=⟨_,rfl⟩;have j8:s30.heap.size=s29.heap.size:=by rw[j6];simp
   replace yY:∀ j,s30.cell? ⟨Y,j,none⟩=([Sg cs,I6 cc,I6 cr,Bv cf,Bv cg]:List Value)[j]?:=Jv j6 (qz yY (Ne.symm oY.ne));replace yB:∀ j,s30.cell? ⟨B,j,none⟩=([Sg ds,I6 dc,I6 dr,Bv df,Bv dg]:List Value)[j]?:=Jv j6 (qz yB (Ne.symm oB.ne));replace j7:Kp R w s30:=by rw[j6];exact j7.setR (by decide)
   replace jq:qj s30 R g cap T ⟨(k+3),N,A,d,p,er⟩:=by rw[j6];exact jq.setI _ _ (by first | rfl | omega)
   rw[<-j6];clear j6 j8;clear J2;obtain⟨J3,J2,Q3,Q0,JZ⟩:=QJ jq;clear q5 Q7;go_wp2_with fail;refine(d6z R g cap T ⟨k+3,N,A,d,p,er⟩ { nd5 6 with r:=⟨cs,cc,cr,cf,cg⟩,t:=⟨ds,dc,dr,df,dg⟩ } _ jq (by dsimp only;omega)).mono ?_;rintro e s99 ⟨rfl,hRB,hKb⟩;go_wp2_with fail;show Po _ _;rw[J5.out];obtain rfl:=jA HQ.out;exact⟨rfl,hRB,j7.trans hKb⟩
