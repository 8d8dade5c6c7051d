import Derived.Test.YtibiacmbljgmhaaGreatDoorRdr8
set_option maxHeartbeats 32000000
set_option maxRecDepth 100000
namespace Go.Proofs.YtibiacmbljgmhaaGreatDoor
open Go.RowKit Go.Shelf
set_option linter.all false
def f1d (R g cap:Nat) (T:List Tok) (f:Nat) (X:Nat) (t:Tok) (r:Rd × Int) (w:World) (v:Value) (wr:World):Prop:=∃ (s:Rd) (l:List Int),qj wr R g cap T s/\Kp R w wr/\LAt w wr R v l/\qW wr R X/\(∀ j u,(tokL t)[j]?=some u->wr.cell? ⟨X,j,none⟩=some u)/\(∀ b,v.ownBlock=some b->X≠b)/\Jy T f (.argsL l) s=some r/\YQ T s/\l.length<=20
theorem e8a {T:List Tok} (hT:TokOk T) {f:Nat} {l:List Int} {s:Rd} {s':Rd} {c:Int} (h:Jy T f (.argsL l) s=some (s',c)) (hI:YQ T s):s'.N.length+s.i<=s'.i+s.N.length/\s'.i<T.length:=⟨(d7a hT _ _ _ _ _ h hI.l hI.f).n,(d7a hT _ _ _ _ _ h hI.l hI.f).l⟩
theorem e9q (R g cap:Nat) (T:List Tok) (f:Nat) (hT:TokOk T) (hTl:T.length<=310)
  (hB:∀ (lv:Nat) (s:Rd) (q:Rd × Int) (w:World),lv<=6->YQ T s->Jy T f (.bin lv) s=some q->qj w R g cap T s->Cz 22 #[rpR R,I6 (lv:Int)] w (d7m R g cap T q w))
  (s:Rd) (q:Rd × Int) (w:World) (hI:YQ T s) (hk:(tokAt T s.i).k=3) (h5:(tokAt T (s.i+1)).k=5) (hq:fjR T f (d9b T s (tokAt T s.i))=some q) (jq:qj w R g cap T s) :
  Cz 205 #[rpR R,e7q (tokAt T s.i)] w (d7m R g cap T q w):=by
 obtain⟨Po,hPo⟩:=nM (d7m R g cap T q w);rw[<-hPo];have J5:=zh hPo;clear hPo;obtain⟨K19,hz19,HK19⟩:=Y9;unfold d9b at hq;dsimp only at hq;rw[if_pos h5] at hq;have hl:=hI.l;have hn:=hI.n;have hd0:=hI.d0;have hd1:=hI.d1;have he:=hI.e;have l1:=d6r hT hl (by rw[hk];decide);have l2:=d6r hT l1 (by rw[h5];decide);have j8:=(d8n hT hl).2.2;obtain⟨i,N,A,d,p,er⟩:=s;dsimp only at hl hn hd0 hd1 he hq l1 l2 j8 hk;subst he;obtain⟨t,ht⟩:=nM (tokAt T i);have hDP:=fun W h=>d8p R g cap T ⟨i,N,A,d,p,0⟩ t W h (by dsimp only;omega)
 have hWR:=fun W=>d6s R g cap T ⟨i,N,A,d,p,0⟩ t 10 W
 rw[<-ht] at hq hk j8 |-
 have hdk:=@d7u ⟨i,N,A,d,p,0⟩ t;obtain⟨tk,tx,tp,ty,tz⟩:=t;dsimp only at hq hk j8;subst hk;have hNM:=fun W=>b4b tx W (by unfold maxLen;omega)
 clear ht h5;go_enter Tryz.func205,Tryz.ntmps205
 go_upto_region 1 with fail
 have hgw:g<w.heap.size:=jq.toks.z;have j7:Kp R w w:=Kp.refl R w;obtain⟨s1,X,j6,qw,j8,zX⟩:=qy w (.cells #[I6 3,Sg tx,I6 (tp:Int),Bv false,Sg ty,Sg tz] 54);have j9:=JW j6;have qJ:=j7.below jq.z j9;have hN:=Qz (b:=X) j6 qw;have Qx:=hN 0 _ rfl;have Qj:=hN 1 _ rfl;have X0:=hN 2 _ rfl;have QQ:=hN 3 _ rfl;have QY:=hN 4 _ rfl;have QV:=hN 5 _ rfl;clear hN;have lX:w.heap.size<=X:=by have:=j7.size;omega
 have oX:=d6v jq j9 (b:=X) (by omega) zX;replace jq:=jq.below j9;clear j9;obtain⟨J3,J2,Q3,Q0,JZ⟩:=QJ jq;replace j7:=qJ;clear qJ;rw[<-j6];try rw[<-qw]
 clear j6 j8 qw
 cases hfn:b9e tx.data.toList with
 | false =>
  rw[hfn] at hNM hq;rw[if_pos (show (!false)=true from rfl)] at hq;have HX:Hid (q=((⟨i,N,A,d,p,0⟩:Rd).wrong ⟨3,tx,tp,ty,tz⟩ 10,0)):=(jA hq).symm;have HWR:=zh hWR;have Xv:=zh hNM;clear hq hNM hWR hDP hdk hB hI hfn;go_wp2_with fail;refine(Xv.out _).mono ?_;rintro e wq ⟨rfl,hwq⟩;rw[hwq];clear hwq wq;go_wp2_with fail;refine(HWR.out _ jq).mono ?_;rintro e s99 ⟨rfl,hRB,hKb⟩;go_wp2_with fail;show Po _ _;rw[J5.out,HX.out];exact⟨rfl,hRB,j7.trans hKb⟩
 | true =>
  rw[hfn] at hNM hq;rw[if_neg (show ¬ (!true)=true from Bool.false_ne_true)] at hq;have Xv:=zh hNM;clear hNM hWR hfn;by_cases hd:(!(Rd.deeper ⟨i,N,A,d,p,0⟩ ⟨3,tx,tp,ty,tz⟩).2)=true
  ·
   rw[if_pos hd] at hq;have HX:Hid (q=((Rd.deeper ⟨i,N,A,d,p,0⟩ ⟨3,tx,tp,ty,tz⟩).1,0)):=(jA hq).symm;have hdb:(Rd.deeper ⟨i,N,A,d,p,0⟩ ⟨3,tx,tp,ty,tz⟩).2=false:=by simpa using hd
   rw[hdb] at hDP;have HDP:=zh hDP;clear hq hd hdb hDP hdk hB hI;generalize (Rd.deeper ⟨i,N,A,d,p,0⟩ ⟨3,tx,tp,ty,tz⟩).1=sd at *;go_wp2_with fail;refine(Xv.out _).mono ?_;rintro e wq ⟨rfl,hwq⟩;rw[hwq];clear hwq wq;go_wp2_with fail;refine(HDP.out _ jq).mono ?_;rintro e s99 ⟨rfl,hRB,hKb⟩;go_wp2_with fail;show Po _ _;rw[J5.out,HX.out];exact⟨rfl,hRB,j7.trans hKb⟩
  rw[if_neg hd] at hq;obtain⟨e1,hd2⟩:=hdk hd;have hdb:(Rd.deeper ⟨i,N,A,d,p,0⟩ ⟨3,tx,tp,ty,tz⟩).2=true:=by simpa using hd
  rw[hdb,e1] at hDP;rw[e1] at hq;dsimp only at hDP hq hd2;have HDP:=zh hDP;have hI2:YQ T ⟨i+2,N,A,d+1,p,0⟩:=⟨l2,jG hI.n (Nat.le_add_right _ _),jG hI.a (Nat.le_add_right _ _),hI.f,by show 0<=d+1;omega,hd2,rfl⟩;replace hq:(Jy T f (.argsL []) ⟨i+2,N,A,d+1,p,0⟩).map (fun q=>d8g q.1 q.2 tx)=some q:=hq
  cases hp:Jy T f (.argsL []) ⟨i+2,N,A,d+1,p,0⟩ with
  | none=>rw[hp] at hq;cases hq
  | some r =>
  rw[hp] at hq;have HQ:Hid (q=d8g r.1 r.2 tx):=(jA hq).symm;have hgn:=(e8a hT (show Jy T f (.argsL []) ⟨i+2,N,A,d+1,p,0⟩=some (r.1,r.2) from hp) hI2);have hgd:=e2w f (.argsL []) ⟨i+2,N,A,d+1,p,0⟩ r.1 r.2 hp;have hga:=(d7a hT f (.argsL []) ⟨i+2,N,A,d+1,p,0⟩ r.1 r.2 hp l2 hI.f).a;have hia:=hI.a;dsimp only[Job.x,List.length_nil] at hgn hga hia;have HG:Hid (r.1.N.length<=310/\r.1.A.length<=320/\r.1.i<T.length/\(r.1.e=0->r.1.d=d+1)):=⟨by omega,by omega,hgn.2,fun h=>(hgd h).1⟩;have HP:=zh hp;have HI2:=zh hI2;have HBB:=zh hB;have HTT:=zh hT;clear hq hp hI2 hB hdb e1 hd hdk hDP hI hgn hgd hga hia hT;go_wp2_with fail;refine(Xv.out _).mono ?_;rintro e wq ⟨rfl,hwq⟩;rw[hwq];clear hwq wq;go_wp2_with fail;refine(HDP.out _ jq).mono ?_;rintro e s2 ⟨rfl,hRB,hKb⟩;replace Qx:=hKb.cell oX Qx;replace Qj:=hKb.cell oX Qj;replace X0:=hKb.cell oX X0;replace QQ:=hKb.cell oX QQ;replace QY:=hKb.cell oX QY;replace QV:=hKb.cell oX QV;replace oX:=hKb.oth oX;replace j7:=j7.trans hKb;clear hKb;replace jq:qj s2 R g cap T ⟨i,N,A,(d+1),p,0⟩:=hRB;clear hRB;obtain⟨J3,J2,Q3,Q0,JZ⟩:=QJ jq;have Q7:=jq.fz 1;have q6:IntKind.i64.wrap ((i:Int)+2)=(i:Int)+2:=IntWalk.i64_in _ (by omega)
  go_upto_region 6 with fail
  obtain⟨s3,j6⟩:∃ s,s=s2.setCell ⟨R,1,none⟩ (I6 (((i:Int)+2))):=⟨_,rfl⟩;have j8:s3.heap.size=s2.heap.size:=by rw[j6];simp
  replace Qx:s3.cell? ⟨X,0,none⟩=some (I6 3):=(by rw[j6];exact stK Qx (Ne.symm oX.ne));replace Qj:s3.cell? ⟨X,1,none⟩=some (Sg tx):=(by rw[j6];exact stK Qj (Ne.symm oX.ne));replace X0:s3.cell? ⟨X,2,none⟩=some (I6 (tp:Int)):=(by rw[j6];exact stK X0 (Ne.symm oX.ne));replace QQ:s3.cell? ⟨X,3,none⟩=some (Bv false):=(by rw[j6];exact stK QQ (Ne.symm oX.ne));replace QY:s3.cell? ⟨X,4,none⟩=some (Sg ty):=(by rw[j6];exact stK QY (Ne.symm oX.ne));replace QV:s3.cell? ⟨X,5,none⟩=some (Sg tz):=(by rw[j6];exact stK QV (Ne.symm oX.ne));replace oX:qW s3 R X:=(by rw[j6];exact oX.setR (by decide));replace j7:Kp R w s3:=by rw[j6];exact j7.setR (by decide)
  replace jq:qj s3 R g cap T ⟨(i+2),N,A,(d+1),p,0⟩:=by rw[j6];exact jq.setI _ _ (by first | rfl | omega)
  rw[<-j6];clear j6 j8;obtain⟨J3,J2,Q3,Q0,JZ⟩:=QJ jq;clear q6 Q7 HDP Xv;go_wp2_with fail
  have hOX:∀ j u,(tokL ⟨3,tx,tp,ty,tz⟩)[j]?=some u->World.cell? s3 ⟨X,j,none⟩=some u:=fun j u h=>by
   match j,h with
   | 0,h=>obtain rfl:=jA h;exact Qx
   | 1,h=>obtain rfl:=jA h;exact Qj
   | 2,h=>obtain rfl:=jA h;exact X0
   | 3,h=>obtain rfl:=jA h;exact QQ
   | 4,h=>obtain rfl:=jA h;exact QY
   | 5,h=>obtain rfl:=jA h;exact QV
   | j+6,h=>simp at h
  have HOX:=zh hOX;clear hOX
  go_loopw [5] (f1d R g cap T f X ⟨3,tx,tp,ty,tz⟩ r w) (fun _ wr=>e7w T R wr)
  case atStart=>exact⟨_,[],jq,j7,⟨World.ownsRow_nil _ _ _ _,fun b h=>by cases h⟩,oX,HOX.out,(fun b h=>by cases h),HP.out,HI2.out,by simp⟩
  case round =>
   clear jq j7 oX HOX HP HI2 Qx Qj X0 QQ QY QV hl hn hd0 hd1 l1 l2 hd2;obtain⟨⟨i1,N1,A1,d1,p1,er⟩,l,jq,j7,hLA,oX,hOX,nLX,hq,hJ,hl20⟩:=hrel;have her:=hJ.e;dsimp only at her;subst her;have HOX:=zh hOX;clear hOX;obtain⟨f',rfl⟩:∃ f',f=f'+1:=by cases f with | zero=>cases hq | succ f=>exact⟨f,rfl⟩
   rw[Jy] at hq;dsimp only at hq;have hl:=hJ.l;have hn:=hJ.n;have hj0:=hJ.d0;have hj1:=hJ.d1;dsimp only at hl hn hj0 hj1;obtain⟨m,hm⟩:=nM (tokAt T i1);have hNW:=fun W h=>d7b R g cap T ⟨i1,N1,A1,d1,p1,0⟩ W h hl (by omega)
   have lt0:=fun h=>d6r HTT.out hl h
   dsimp only at hNW;rw[<-hm] at hNW hq lt0;clear hm;obtain⟨mk,mx,mp,my,mz⟩:=m;dsimp only at hNW hq lt0;have HNW:=zh hNW;have F0:=e3v mk mx mp my mz;clear hNW;have HLW:=zh (d8q jq);obtain⟨bl,cl,rfl⟩:=a0l hLA.o;have QZ:=zh hLA;clear hLA;have hwz:w.heap.size<=wr.heap.size:=j7.size;have Qx:=HOX.out 0 _ rfl;have Qj:=HOX.out 1 _ rfl;have X0:=HOX.out 2 _ rfl;have QQ:=HOX.out 3 _ rfl;have QY:=HOX.out 4 _ rfl;have QV:=HOX.out 5 _ rfl;have zX:=oX.z;clear HOX;go_wp2_with fail;refine jy (HNW.out _ jq) fun s4 hb=>?_
   have q:=fun {j u} h=>q9 (p:=⟨X,j,none⟩) (v:=u) hb h zX;replace Qx:=q Qx;replace Qj:=q Qj;replace X0:=q X0;replace QQ:=q QQ;replace QY:=q QY;replace QV:=q QV;clear q;replace zX:=jw hb zX
   replace QZ:=zh (QZ.out.below jq.z hb);replace j7:=j7.below jq.z hb;replace oX:=oX.below jq.z hb;replace jq:=jq.below hb;obtain⟨J3,J2,Q3,Q0,JZ⟩:=QJ jq;clear hb;by_cases h6:mk=6/\l=[]
   case pos =>
    rw[if_pos h6] at hq;obtain⟨h6,rfl⟩:=h6;have HX:Hid (r=(⟨i1+1,N1,A1++([]:List Int),d1,p1,0⟩,0)):=by rw[List.append_nil];exact(jA hq).symm
    have h6b:(mk != 6)=false:=by simpa using h6
    clear hq h6 lt0;have hg:=HG.out;rw[HX.out] at hg;dsimp only at hg;have hNz:(N1).length<=310:=hg.1;have hAz:(A1++([]:List Int)).length<=320:=hg.2.1;clear hg
    have HQ2:Hid (q=((⟨i1+1,N1,A1++([]:List Int),d1-1,p1,0⟩:Rd).add { nd5 9 with s:=tx,b:=0,a:=0 })):=by
     show q=_;rw[HQ.out,HX.out];unfold d8g;dsimp only;rw[if_neg (by simp)];rw[if_neg (by omega)]
    have hAz2:A1.length<=320:=by rw[jM] at hAz;omega
    obtain⟨LL,hLL⟩:∃ z,(A1++([]:List Int)).length=z:=⟨_,rfl⟩;have XW:=zh hLL;clear hLL hAz;have Q7:=jq.fz 1;have q6:IntKind.i64.wrap ((i1:Int)+1)=(i1:Int)+1:=IntWalk.i64_in _ (by omega)
    go_upto_region 19 with fail
    obtain⟨s5,j6⟩:∃ s,s=s4.setCell ⟨R,1,none⟩ (I6 (((i1:Int)+1))):=⟨_,rfl⟩;have j8:s5.heap.size=s4.heap.size:=by rw[j6];simp
    replace Qj:s5.cell? ⟨X,1,none⟩=some (Sg tx):=(by rw[j6];exact stK Qj (Ne.symm oX.ne));replace zX:X<s5.heap.size:=(by omega);replace oX:qW s5 R X:=(by rw[j6];exact oX.setR (by decide));replace QZ:=zh (show LAt w s5 R _ _ by rw[j6];exact QZ.out.kp ((Kp.refl R _).setR (by decide)));replace j7:Kp R w s5:=by rw[j6];exact j7.setR (by decide)
    replace jq:qj s5 R g cap T ⟨(i1+1),N1,A1,d1,p1,0⟩:=by rw[j6];exact jq.setI _ _ (by first | rfl | omega)
    rw[<-j6];clear j6 j8;obtain⟨J3,J2,Q3,Q0,JZ⟩:=QJ jq;clear q6 Q7;have fR4:=jq.fz 4;have q6:IntKind.i64.wrap (d1-1)=d1-1:=IntWalk.i64_in _ (by omega)
    go_upto_region 20 with fail
    obtain⟨s6,j6⟩:∃ s,s=s5.setCell ⟨R,4,none⟩ (I6 ((d1-1))):=⟨_,rfl⟩;have j8:s6.heap.size=s5.heap.size:=by rw[j6];simp
    replace Qj:s6.cell? ⟨X,1,none⟩=some (Sg tx):=(by rw[j6];exact stK Qj (Ne.symm oX.ne));replace zX:X<s6.heap.size:=(by omega);replace QZ:=zh (show LAt w s6 R _ _ by rw[j6];exact QZ.out.kp ((Kp.refl R _).setR (by decide)));replace j7:Kp R w s6:=by rw[j6];exact j7.setR (by decide)
    replace jq:qj s6 R g cap T ⟨(i1+1),N1,A1,(d1-1),p1,0⟩:=by rw[j6];exact jq.setD _ _ (by first | rfl | omega)
    rw[<-j6];clear j6 j8;obtain⟨J3,J2,Q3,Q0,JZ⟩:=QJ jq;clear q6 fR4;have J6:Hid (∀ c,(World.heap s6).size<=c->∀ b,(Value.slice bl 0 cl).ownBlock=some b->c≠b):=fun c hc b hb e=>by have:=(QZ.out.o.lt b hb).2;omega
    go_upto_region 21 with (refine a0c rfl _ _ rfl rfl _ _ _ rfl rfl rfl (by rfl) (by rfl) (by rfl) ?_)
    obtain⟨s7,Y,j6,Qy,j8,zY⟩:=qy s6 (.cells #[I6 9,I6 0,I6 0,I6 0,Bv false,S0,S0,Sg tx,Bv false,S0,I6 0,I6 0,Bv false,Bv false,S0,I6 0,I6 0,Bv false,Bv false] 69);have j9:=JW j6;replace QZ:=zh (QZ.out.below jq.z j9);have qJ:=j7.below jq.z j9;have dYX:Y≠X:=by omega
    have yY:=qZ (b:=Y) j6 Qy;have oY:=d6v jq j9 (b:=Y) (by omega) zY;have nLY:=J6.out Y (by omega);replace jq:=jq.below j9;clear j9;obtain⟨J3,J2,Q3,Q0,JZ⟩:=QJ jq;replace j7:=qJ;clear qJ;rw[<-j6];try rw[<-Qy]
    clear j6 j8 Qy;obtain⟨nv,av,hr⟩:=jq;obtain⟨ba,ca,hav⟩:=a0l hr.oa;dsimp only at hav;obtain⟨LA,hLA2⟩:=nM A1.length;rw[<-hLA2] at hav;subst hav;have kR3:=hr.c3;have fR3:=hr.fz 3;have zR:=hr.z;have hoa:=hr.oa;dsimp only at hoa;have hLz:LA<=320:=by rw[hLA2];exact hAz2
    have HLA2:=zh hLA2;have HOA:=zh hoa;have HRR:=zh hr;have HRD:Hid (∀ y,(Value.slice ba LA ca).ownBlock=some y->R≠y):=fun y hy e=>by have:=(HOA.out.lt y hy).1;omega
    have HYD:Hid (∀ y,(Value.slice ba LA ca).ownBlock=some y->Y≠y):=fun y hy e=>oY.n3 _ HRR.out.c3 (by rw[hy,e])
    have HIN:=zh (IntsAt.of_owns QZ.out.o).2;clear hr hoa hLA2
    go_upto_region 24 with (at_builtin;refine a1s rfl _ _ rfl (base:=R+1) (v:=.slice ba LA ca) (A:=A1) (B:=([]:List Int)) (by rfl) HOA.out (by rfl) HIN.out (by omega) (by simp) zR ?_;intro v2 wf J0 jj hnear2;rw[XW.out] at J0;obtain⟨b2,c2,rfl⟩:=a0l J0;have pfd:=a0m jj zR fR3 HRD.out;have pcd:=Jw jj kR3 HRD.out)
    have hYr:R≠Y:=Ne.symm oY.ne;obtain⟨sz,j6⟩:∃ z,z=World.setCell wf ⟨R,3,none⟩ (.slice b2 LL c2):=⟨_,rfl⟩;have HRZ:Hid (qj sz R g cap T ⟨i1+1,N1,A1++([]:List Int),d1-1,p1,0⟩):=zh (by rw[j6];exact⟨_,_,RAt.setA HRR.out jj (by rw[XW.out];exact J0) hnear2⟩);have HKZ:Hid (Kp R w sz):=zh (by rw[j6];exact j7.trans (Kp.grownA HRR.out jj hnear2));have LZ:Sem.run Tryz.prog (loadCellsFrom ⟨Y,0,none⟩ 0 K19 #[]) sz=.ok #[I6 9,I6 0,I6 0,I6 0,Bv false,S0,S0,Sg tx,Bv false,S0,I6 0,I6 0,Bv false,Bv false,S0,I6 0,I6 0,Bv false,Bv false] sz:=by rw[j6];exact eqL HK19 rfl (qz (eqG jj yY zY HYD.out) hYr)
    rw[<-j6];clear j6 J0 jj hnear2 pfd pcd;go_wp2_with fail;refine(d6z R g cap T _ { nd5 9 with s:=tx,b:=0,a:=0 } _ HRZ.out (by dsimp only;omega)).mono ?_;rintro e s99 ⟨rfl,hRB,hKb⟩;go_wp2_with fail;show Po _ _;rw[J5.out,HQ2.out];exact⟨rfl,hRB,HKZ.out.trans hKb⟩
   rw[if_neg h6] at hq;by_cases hm6:mk=6
   ·
    have hl0:0<l.length:=by rcases Nat.eq_zero_or_pos l.length with h | h;exact absurd ⟨hm6,jT h⟩ h6;exact h
    have h6b:(mk != 6)=false:=by simpa using hm6
    clear h6 hm6;by_cases h20:l.length=20
    ·
     rw[if_pos h20] at hq;have hwe:((⟨i1,N1,A1,d1,p1,0⟩:Rd).wrong ⟨mk,mx,mp,my,mz⟩ 2).e≠0:=e0e (by decide);have HX:Hid (q=((⟨i1,N1,A1,d1,p1,0⟩:Rd).wrong ⟨mk,mx,mp,my,mz⟩ 2,0)):=by rw[HQ.out,<-(jA hq)];unfold d8g;dsimp only;rw[if_pos hwe];exact zh rfl
     have h20b:((l.length:Int)==20)=true:=by rw[h20];rfl
     clear hq hwe h20;go_wp2_with fail;refine jy (HNW.out _ jq) fun s8 hb=>?_
     have q:=fun {j u} h=>q9 (p:=⟨X,j,none⟩) (v:=u) hb h zX;clear q
     replace QZ:=zh (QZ.out.below jq.z hb);replace j7:=j7.below jq.z hb;replace jq:=jq.below hb;obtain⟨J3,J2,Q3,Q0,JZ⟩:=QJ jq;clear hb;go_wp2_with fail;refine(d6s R g cap T ⟨i1,N1,A1,d1,p1,0⟩ ⟨mk,mx,mp,my,mz⟩ 2 _ jq).mono ?_;rintro e s99 ⟨rfl,hRB,hKb⟩;go_wp2_with fail;show Po _ _;rw[J5.out,HX.out];exact⟨rfl,hRB,j7.trans hKb⟩
    rw[if_neg h20] at hq;have h20b:((l.length:Int)==20)=false:=by simpa using (show ¬ (l.length:Int)=20 by omega)
    cases hp:Jy T f' (.bin 1) ⟨i1,N1,A1,d1,p1,0⟩ with
    | none=>rw[hp] at hq;cases hq
    | some q2 =>
    obtain⟨⟨i2,N2,A2,d2,p2,e2⟩,b⟩:=q2;rw[hp] at hq;dsimp only at hq;have HB2:=zh (fun W=>HBB.out 1 ⟨i1,N1,A1,d1,p1,0⟩ _ W (by omega) hJ (d7w _ _ _ _ hp));have HI3:=zh (fun he=>YQ.next HTT.out hJ rfl hp he);have HGI:=zh (d7a HTT.out _ _ _ _ _ hp hJ.l hJ.f).i;clear hp HNW hJ lt0 hj0 hj1 hn;go_wp2_with fail;refine(HB2.out _ jq).mono ?_;rintro e s9 ⟨rfl,hRB,hKb⟩;replace Qx:=hKb.cell oX Qx;replace Qj:=hKb.cell oX Qj;replace X0:=hKb.cell oX X0;replace QQ:=hKb.cell oX QQ;replace QY:=hKb.cell oX QY;replace QV:=hKb.cell oX QV;replace zX:=jF zX hKb.size;replace oX:=hKb.oth oX;replace QZ:=zh (QZ.out.kp hKb);replace j7:=j7.trans hKb;clear hKb;replace jq:qj s9 R g cap T ⟨i2,N2,A2,d2,p2,e2⟩:=hRB;clear hRB;obtain⟨J3,J2,Q3,Q0,JZ⟩:=QJ jq;clear HB2;by_cases he2:e2=0
    case neg =>
     rw[if_pos he2] at hq;have HX:Hid (q=(⟨i2,N2,A2,d2,p2,e2⟩,0)):=by rw[HQ.out,<-(jA hq)];unfold d8g;dsimp only;rw[if_pos he2];exact zh rfl
     have hx:(e2 != 0)=true:=by simpa using he2
     clear hq he2;go_wp2_with fail;show Po _ _;rw[J5.out,HX.out];exact⟨rfl,jq,j7⟩
    subst he2;rw[if_neg (by simp)] at hq;have hI4:=HI3.out rfl;have hl2:=hI4.l;have hn2:=hI4.n;have hj0:=hI4.d0;have hj1:=hI4.d1;dsimp only at hl2 hn2 hj0 hj1;clear HI3;obtain⟨LN,hln⟩:∃ z,(l ++ [b]).length=z:=⟨_,rfl⟩;have hLN0:0<LN/\LN<=21:=by rw[<-hln,jM,List.length_singleton];omega
    have HLNN:=zh hln;rw[hln] at hq;clear hln;have hwb:w.heap.size<=(World.heap s9).size:=j7.size
    go_upto_region 14 with (at_builtin;refine a1s rfl _ _ rfl (base:=w.heap.size) (v:=.slice bl l.length cl) (A:=l) (B:=[b]) (by rfl) (QZ.out.o.alloc _) (by rfl) (a5o s9 _ _ _ rfl) (by omega) (by simp) (by simp;omega) ?_;intro v2 wf J0 jj hnear2;rw[HLNN.out] at J0;obtain⟨b3,c3,rfl⟩:=a0l J0)
    have hal:=X7 (o:=.cells #[I6 b] 3) (Below.refl (World.heap s9).size s9);have hRA1:=jq.below hal;have hLA1:=QZ.out.below jq.z hal;have hB1:=j7.below jq.z hal;have oX1:=oX.below jq.z hal;have hnr:c2n _ _ _:=hnear2;have kx0:=Jw jj (a0b Qx) nLX;have kx1:=Jw jj (a0b Qj) nLX;have kx2:=Jw jj (a0b X0) nLX;have kx3:=Jw jj (a0b QQ) nLX;have kx4:=Jw jj (a0b QY) nLX;have kx5:=Jw jj (a0b QV) nLX;have nLX2:∀ y,(Value.slice b3 LN c3).ownBlock=some y->X≠y:=fun y hy=>(hnear2 y hy).elim (fun h=>nLX y h) (fun h=>by have:=zX;simp at h;omega)
    have hRA2:=e4p hRA1 hgw hLA1 rfl jj;have hBo2:=e4q hRA1 hB1 hLA1 rfl jj;have oX2:=d9d hRA1 hLA1 rfl jj oX1;have HLA2:=zh (LAt.grown (l':=l ++ [b]) hRA1 hB1.size hLA1 rfl jj (by rw[HLNN.out];exact J0) hnear2);clear jq j7 oX QZ Qx Qj X0 QQ QY QV zX nLX hal hRA1 hLA1 hB1 oX1 hnr jj hnear2 J0 hwb;have jq:=hRA2;have j7:=hBo2;have oX:=oX2;have QZ:=HLA2;have nLX:=nLX2;have Qx:=kx0;have Qj:=kx1;have X0:=kx2;have QQ:=kx3;have QY:=kx4;have QV:=kx5;have zX:=oX.z;clear hRA2 hBo2 oX2 HLA2 nLX2 kx0 kx1 kx2 kx3 kx4 kx5;obtain⟨m2,hm⟩:=nM (tokAt T i2);have hNW:=fun W h=>d7b R g cap T ⟨i2,N2,A2,d2,p2,0⟩ W h hl2 (by omega)
    have lt0:=fun h=>d6r HTT.out hl2 h
    dsimp only at hNW;rw[<-hm] at hNW hq lt0;clear hm;obtain⟨nk,nx,np,ny,nz⟩:=m2;dsimp only at hNW hq lt0;have HNW:=zh hNW;have F1:=e3v nk nx np ny nz;clear hNW F0;go_wp2_with fail;refine jy (HNW.out _ jq) fun s10 hb=>?_
    have q:=fun {j u} h=>q9 (p:=⟨X,j,none⟩) (v:=u) hb h zX;replace Qx:=q Qx;replace Qj:=q Qj;replace X0:=q X0;replace QQ:=q QQ;replace QY:=q QY;replace QV:=q QV;clear q;replace zX:=jw hb zX
    replace QZ:=zh (QZ.out.below jq.z hb);replace j7:=j7.below jq.z hb;replace oX:=oX.below jq.z hb;replace jq:=jq.below hb;obtain⟨J3,J2,Q3,Q0,JZ⟩:=QJ jq;clear hb;by_cases n6:nk=6
    case pos =>
     rw[if_pos n6] at hq;have HX:Hid (r=(⟨i2+1,N2,A2++(l ++ [b]),d2,p2,0⟩,(LN:Int))):=(jA hq).symm;have n6b:(nk==6)=true:=by simpa using n6
     have hln:=HLNN.out;clear hq n6 lt0 hI4;have hg:=HG.out;rw[HX.out] at hg;dsimp only at hg;have hNz:(N2).length<=310:=hg.1;have hAz:(A2++(l ++ [b])).length<=320:=hg.2.1;clear hg
     have HQ2:Hid (q=((⟨i2+1,N2,A2++(l ++ [b]),d2-1,p2,0⟩:Rd).add { nd5 9 with s:=tx,b:=(LN:Int),a:=(A2.length:Int) })):=by
      show q=_;rw[HQ.out,HX.out];unfold d8g;dsimp only;rw[if_neg (by simp)];have e:((((A2++(l ++ [b])).length:Nat):Int)-(LN:Int))=(A2.length:Int):=by rw[jM,hln];omega
      rw[if_pos (by omega),e]
     have hAz2:A2.length<=320:=by rw[jM] at hAz;omega
     obtain⟨LL,hLL⟩:∃ z,(A2++(l ++ [b])).length=z:=⟨_,rfl⟩;have XW:=zh hLL;clear hLL hAz;have Q7:=jq.fz 1;have q6:IntKind.i64.wrap ((i2:Int)+1)=(i2:Int)+1:=IntWalk.i64_in _ (by omega)
     go_upto_region 19 with fail
     obtain⟨s11,j6⟩:∃ s,s=s10.setCell ⟨R,1,none⟩ (I6 (((i2:Int)+1))):=⟨_,rfl⟩;have j8:s11.heap.size=s10.heap.size:=by rw[j6];simp
     replace Qj:s11.cell? ⟨X,1,none⟩=some (Sg tx):=(by rw[j6];exact stK Qj (Ne.symm oX.ne));replace zX:X<s11.heap.size:=(by omega);replace oX:qW s11 R X:=(by rw[j6];exact oX.setR (by decide));replace QZ:=zh (show LAt w s11 R _ _ by rw[j6];exact QZ.out.kp ((Kp.refl R _).setR (by decide)));replace j7:Kp R w s11:=by rw[j6];exact j7.setR (by decide)
     replace jq:qj s11 R g cap T ⟨(i2+1),N2,A2,d2,p2,0⟩:=by rw[j6];exact jq.setI _ _ (by first | rfl | omega)
     rw[<-j6];clear j6 j8;obtain⟨J3,J2,Q3,Q0,JZ⟩:=QJ jq;clear q6 Q7;have fR4:=jq.fz 4;have q6:IntKind.i64.wrap (d2-1)=d2-1:=IntWalk.i64_in _ (by omega)
     go_upto_region 20 with fail
     obtain⟨s12,j6⟩:∃ s,s=s11.setCell ⟨R,4,none⟩ (I6 ((d2-1))):=⟨_,rfl⟩;have j8:s12.heap.size=s11.heap.size:=by rw[j6];simp
     replace Qj:s12.cell? ⟨X,1,none⟩=some (Sg tx):=(by rw[j6];exact stK Qj (Ne.symm oX.ne));replace zX:X<s12.heap.size:=(by omega);replace oX:qW s12 R X:=(by rw[j6];exact oX.setR (by decide));replace QZ:=zh (show LAt w s12 R _ _ by rw[j6];exact QZ.out.kp ((Kp.refl R _).setR (by decide)));replace j7:Kp R w s12:=by rw[j6];exact j7.setR (by decide)
     replace jq:qj s12 R g cap T ⟨(i2+1),N2,A2,(d2-1),p2,0⟩:=by rw[j6];exact jq.setD _ _ (by first | rfl | omega)
     rw[<-j6];clear j6 j8;obtain⟨J3,J2,Q3,Q0,JZ⟩:=QJ jq;clear q6 fR4;have J6:Hid (∀ c,(World.heap s12).size<=c->∀ b,(Value.slice b3 LN c3).ownBlock=some b->c≠b):=fun c hc b hb e=>by have:=(QZ.out.o.lt b hb).2;omega
     go_upto_region 21 with (refine a0c rfl _ _ rfl rfl _ _ _ rfl rfl rfl (by rfl) (by rfl) (by rfl) ?_)
     obtain⟨s13,Y,j6,Qy,j8,zY⟩:=qy s12 (.cells #[I6 9,I6 0,I6 0,I6 (LN:Int),Bv false,S0,S0,Sg tx,Bv false,S0,I6 0,I6 0,Bv false,Bv false,S0,I6 0,I6 0,Bv false,Bv false] 69);have j9:=JW j6;replace QZ:=zh (QZ.out.below jq.z j9);have qJ:=j7.below jq.z j9;replace oX:=oX.below jq.z j9;have dYX:Y≠X:=by omega
     have yY:=qZ (b:=Y) j6 Qy;have fY:=Qq (b:=Y) j6 Qy;have lY:w.heap.size<=Y:=by have:=j7.size;omega
     have oY:=d6v jq j9 (b:=Y) (by omega) zY;have nLY:=J6.out Y (by omega);replace jq:=jq.below j9;clear j9;obtain⟨J3,J2,Q3,Q0,JZ⟩:=QJ jq;replace j7:=qJ;clear qJ;rw[<-j6];try rw[<-Qy]
     clear j6 j8 Qy;obtain⟨nv,av,hr⟩:=jq;obtain⟨ba,ca,rfl⟩:=a0l hr.oa;have kR3:=hr.c3;dsimp only at kR3;have jq:qj s13 R g cap T ⟨i2+1,N2,A2,d2-1,p2,0⟩:=⟨_,_,hr⟩;clear hr
     go_upto_region 23 with fail
     clear kR3;obtain⟨s14,j6⟩:∃ s,s=(s13.setCell ⟨Y,2,none⟩ (I6 (A2.length:Int))):=⟨_,rfl⟩;have qk0:=Kp.set (j:=2) (v:=(I6 (A2.length:Int))) j7 oY lY;have qr0:=qj.set (j:=2) (v:=(I6 (A2.length:Int))) jq oY (by omega);have qX0:=qW.set (j:=2) (v:=(I6 (A2.length:Int))) oX oY;have qY0:=qW.set (j:=2) (v:=(I6 (A2.length:Int))) oY oY;replace QZ:=zh (show LAt w s14 R _ _ by rw[j6];exact(LAt.set QZ.out oY nLY));have qJ:Kp R w s14:=by rw[j6];exact qk0
     have hRB:qj s14 R g cap T ⟨(i2+1),N2,A2,(d2-1),p2,0⟩:=by rw[j6];exact qr0
     replace oY:qW s14 R Y:=by rw[j6];exact qY0
     clear qY0 qX0 qr0 qk0;replace jq:=hRB;clear hRB;have j8:=ss1 j6;have hQC:∀ b j v,s13.cell? ⟨b,j,none⟩=some v->Y≠b->s14.cell? ⟨b,j,none⟩=some v:=fun b j v h dY=>by rw[j6];exact(stK h dY)
     clear hQC;have hq:∀ {p v},(s13.setCell ⟨Y,2,none⟩ (I6 (A2.length:Int))).cell? p=some v->s14.cell? p=some v:=fun h=>by rw[j6];exact h
     replace yY:∀ j,s14.cell? ⟨Y,j,none⟩=([I6 9,I6 0,I6 (A2.length:Int),I6 (LN:Int),Bv false,S0,S0,Sg tx,Bv false,S0,I6 0,I6 0,Bv false,Bv false,S0,I6 0,I6 0,Bv false,Bv false]:List Value)[j]?:=Jv j6 (JX yY (jB rfl));clear hq;have J9:=@fz1 _ _ _ _  j6;clear J9;replace zY:=Xy j8 zY;rw[<-j6];clear j7 j6 j8;have j7:=qJ;clear qJ;obtain⟨nv,av,hr⟩:=jq;obtain⟨ba,ca,hav⟩:=a0l hr.oa;dsimp only at hav;obtain⟨LA,hLA2⟩:=nM A2.length;rw[<-hLA2] at hav;subst hav;have kR3:=hr.c3;have fR3:=hr.fz 3;have zR:=hr.z;have hoa:=hr.oa;dsimp only at hoa;have hLz:LA<=320:=by rw[hLA2];exact hAz2
     have HLA2:=zh hLA2;have HOA:=zh hoa;have HRR:=zh hr;have HRD:Hid (∀ y,(Value.slice ba LA ca).ownBlock=some y->R≠y):=fun y hy e=>by have:=(HOA.out.lt y hy).1;omega
     have HYD:Hid (∀ y,(Value.slice ba LA ca).ownBlock=some y->Y≠y):=fun y hy e=>oY.n3 _ HRR.out.c3 (by rw[hy,e])
     have HIN:=zh (IntsAt.of_owns QZ.out.o).2;clear hr hoa hLA2
     go_upto_region 24 with (at_builtin;refine a1s rfl _ _ rfl (base:=R+1) (v:=.slice ba LA ca) (A:=A2) (B:=(l ++ [b])) (by rfl) HOA.out (by rfl) HIN.out (by omega) (by omega) zR ?_;intro v2 wf J0 jj hnear2;rw[XW.out] at J0;obtain⟨b2,c2,rfl⟩:=a0l J0;have pfd:=a0m jj zR fR3 HRD.out;have pcd:=Jw jj kR3 HRD.out)
     have hYr:R≠Y:=Ne.symm oY.ne;obtain⟨sz,j6⟩:∃ z,z=World.setCell wf ⟨R,3,none⟩ (.slice b2 LL c2):=⟨_,rfl⟩;have HRZ:Hid (qj sz R g cap T ⟨i2+1,N2,A2++(l ++ [b]),d2-1,p2,0⟩):=zh (by rw[j6];exact⟨_,_,RAt.setA HRR.out jj (by rw[XW.out];exact J0) hnear2⟩);have HKZ:Hid (Kp R w sz):=zh (by rw[j6];exact j7.trans (Kp.grownA HRR.out jj hnear2));have LZ:Sem.run Tryz.prog (loadCellsFrom ⟨Y,0,none⟩ 0 K19 #[]) sz=.ok #[I6 9,I6 0,I6 (A2.length:Int),I6 (LN:Int),Bv false,S0,S0,Sg tx,Bv false,S0,I6 0,I6 0,Bv false,Bv false,S0,I6 0,I6 0,Bv false,Bv false] sz:=by rw[j6];exact eqL HK19 rfl (qz (eqG jj yY zY HYD.out) hYr)
     rw[<-j6];clear j6 J0 jj hnear2 pfd pcd;go_wp2_with fail;refine(d6z R g cap T _ { nd5 9 with s:=tx,b:=(LN:Int),a:=(A2.length:Int) } _ HRZ.out (by dsimp only;omega)).mono ?_;rintro e s99 ⟨rfl,hRB,hKb⟩;go_wp2_with fail;show Po _ _;rw[J5.out,HQ2.out];exact⟨rfl,hRB,HKZ.out.trans hKb⟩
    rw[if_neg n6] at hq;have n6b:(nk==6)=false:=by simpa using n6
    clear n6;go_wp2_with fail;refine jy (HNW.out _ jq) fun s15 hb=>?_
    have q:=fun {j u} h=>q9 (p:=⟨X,j,none⟩) (v:=u) hb h zX;replace Qx:=q Qx;replace Qj:=q Qj;replace X0:=q X0;replace QQ:=q QQ;replace QY:=q QY;replace QV:=q QV;clear q;replace zX:=jw hb zX
    replace QZ:=zh (QZ.out.below jq.z hb);replace j7:=j7.below jq.z hb;replace oX:=oX.below jq.z hb;replace jq:=jq.below hb;obtain⟨J3,J2,Q3,Q0,JZ⟩:=QJ jq;clear hb;by_cases n7:nk=7
    case neg =>
     rw[if_pos n7] at hq;have hwe:((⟨i2,N2,A2,d2,p2,0⟩:Rd).wrong ⟨nk,nx,np,ny,nz⟩ 10).e≠0:=e0e (by decide);have HX:Hid (q=((⟨i2,N2,A2,d2,p2,0⟩:Rd).wrong ⟨nk,nx,np,ny,nz⟩ 10,0)):=by rw[HQ.out,<-(jA hq)];unfold d8g;dsimp only;rw[if_pos hwe];exact zh rfl
     have n7b:(nk != 7)=true:=by simpa using n7
     clear hq hwe n7;go_wp2_with fail;refine jy (HNW.out _ jq) fun s16 hb=>?_
     have q:=fun {j u} h=>q9 (p:=⟨X,j,none⟩) (v:=u) hb h zX;clear q
     replace QZ:=zh (QZ.out.below jq.z hb);replace j7:=j7.below jq.z hb;replace jq:=jq.below hb;obtain⟨J3,J2,Q3,Q0,JZ⟩:=QJ jq;clear hb;go_wp2_with fail;refine(d6s R g cap T ⟨i2,N2,A2,d2,p2,0⟩ ⟨nk,nx,np,ny,nz⟩ 10 _ jq).mono ?_;rintro e s99 ⟨rfl,hRB,hKb⟩;go_wp2_with fail;show Po _ _;rw[J5.out,HX.out];exact⟨rfl,hRB,j7.trans hKb⟩
    rw[if_neg (fun h=>h n7)] at hq;have n7b:(nk != 7)=false:=by simpa using n7
    have l3:=lt0 (by rw[n7];decide);have HQ3:=zh (d7w _ _ _ _ hq);clear hq n7 lt0 HNW;have hI5:Hid (YQ T ⟨i2+1,N2,A2,d2,p2,0⟩):=⟨l3,Nat.le_succ_of_le hI4.n,Nat.le_succ_of_le hI4.a,hI4.f,hI4.d0,hI4.d1,rfl⟩;clear hI4;have hl21:(l ++ [b]).length<=20:=by rw[jM,List.length_singleton];omega
    have HL21:=zh hl21;clear hl21;have Q7:=jq.fz 1;have q6:IntKind.i64.wrap ((i2:Int)+1)=(i2:Int)+1:=IntWalk.i64_in _ (by omega);have HXF:Hid (qW s15 R X):=oX;have HRR:=zh jq;have HBR:=zh j7;have HLR:=zh QZ.out;have HNX:=zh nLX
    have HCX:Hid (∀ j u,(tokL ⟨3,tx,tp,ty,tz⟩)[j]?=some u->World.cell? s15 ⟨X,j,none⟩=some u):=fun j u h=>by
     match j,h with
     | 0,h=>obtain rfl:=jA h;exact Qx
     | 1,h=>obtain rfl:=jA h;exact Qj
     | 2,h=>obtain rfl:=jA h;exact X0
     | 3,h=>obtain rfl:=jA h;exact QQ
     | 4,h=>obtain rfl:=jA h;exact QY
     | 5,h=>obtain rfl:=jA h;exact QV
     | j+6,h=>simp at h
    clear nLX;go_wp2
    go_roundw
    case rel=>exact⟨_,l ++ [b],HRR.out.setI _ (i2+1) (by omega),HBR.out.setR (by decide),HLR.out.kp ((Kp.refl R _).setR (by decide)),HXF.out.setR (by decide),fun j u h=>stK (HCX.out j u h) (Ne.symm HXF.out.ne),HNX.out,HQ3.out,hI5.out,HL21.out⟩
    case measure =>
     rw[d8q (HRR.out.setI _ (i2+1) (by omega)),HLW.out];have h1:=HGI.out;dsimp only at h1 |-
     omega
   ·
    have h6b:(mk != 6)=true:=by simpa using hm6
    clear h6 hm6;by_cases h20:l.length=20
    ·
     rw[if_pos h20] at hq;have hwe:((⟨i1,N1,A1,d1,p1,0⟩:Rd).wrong ⟨mk,mx,mp,my,mz⟩ 2).e≠0:=e0e (by decide);have HX:Hid (q=((⟨i1,N1,A1,d1,p1,0⟩:Rd).wrong ⟨mk,mx,mp,my,mz⟩ 2,0)):=by rw[HQ.out,<-(jA hq)];unfold d8g;dsimp only;rw[if_pos hwe];exact zh rfl
     have h20b:((l.length:Int)==20)=true:=by rw[h20];rfl
     clear hq hwe h20;go_wp2_with fail;refine jy (HNW.out _ jq) fun s17 hb=>?_
     have q:=fun {j u} h=>q9 (p:=⟨X,j,none⟩) (v:=u) hb h zX;clear q
     replace QZ:=zh (QZ.out.below jq.z hb);replace j7:=j7.below jq.z hb;replace jq:=jq.below hb;obtain⟨J3,J2,Q3,Q0,JZ⟩:=QJ jq;clear hb;go_wp2_with fail;refine(d6s R g cap T ⟨i1,N1,A1,d1,p1,0⟩ ⟨mk,mx,mp,my,mz⟩ 2 _ jq).mono ?_;rintro e s99 ⟨rfl,hRB,hKb⟩;go_wp2_with fail;show Po _ _;rw[J5.out,HX.out];exact⟨rfl,hRB,j7.trans hKb⟩
    rw[if_neg h20] at hq;have h20b:((l.length:Int)==20)=false:=by simpa using (show ¬ (l.length:Int)=20 by omega)
    cases hp:Jy T f' (.bin 1) ⟨i1,N1,A1,d1,p1,0⟩ with
    | none=>rw[hp] at hq;cases hq
    | some q2 =>
    obtain⟨⟨i2,N2,A2,d2,p2,e2⟩,b⟩:=q2;rw[hp] at hq;dsimp only at hq;have HB2:=zh (fun W=>HBB.out 1 ⟨i1,N1,A1,d1,p1,0⟩ _ W (by omega) hJ (d7w _ _ _ _ hp));have HI3:=zh (fun he=>YQ.next HTT.out hJ rfl hp he);have HGI:=zh (d7a HTT.out _ _ _ _ _ hp hJ.l hJ.f).i;clear hp HNW hJ lt0 hj0 hj1 hn;go_wp2_with fail;refine(HB2.out _ jq).mono ?_;rintro e s18 ⟨rfl,hRB,hKb⟩;replace Qx:=hKb.cell oX Qx;replace Qj:=hKb.cell oX Qj;replace X0:=hKb.cell oX X0;replace QQ:=hKb.cell oX QQ;replace QY:=hKb.cell oX QY;replace QV:=hKb.cell oX QV;replace zX:=jF zX hKb.size;replace oX:=hKb.oth oX;replace QZ:=zh (QZ.out.kp hKb);replace j7:=j7.trans hKb;clear hKb;replace jq:qj s18 R g cap T ⟨i2,N2,A2,d2,p2,e2⟩:=hRB;clear hRB;obtain⟨J3,J2,Q3,Q0,JZ⟩:=QJ jq;clear HB2;by_cases he2:e2=0
    case neg =>
     rw[if_pos he2] at hq;have HX:Hid (q=(⟨i2,N2,A2,d2,p2,e2⟩,0)):=by rw[HQ.out,<-(jA hq)];unfold d8g;dsimp only;rw[if_pos he2];exact zh rfl
     have hx:(e2 != 0)=true:=by simpa using he2
     clear hq he2;go_wp2_with fail;show Po _ _;rw[J5.out,HX.out];exact⟨rfl,jq,j7⟩
    subst he2;rw[if_neg (by simp)] at hq;have hI4:=HI3.out rfl;have hl2:=hI4.l;have hn2:=hI4.n;have hj0:=hI4.d0;have hj1:=hI4.d1;dsimp only at hl2 hn2 hj0 hj1;clear HI3;obtain⟨LN,hln⟩:∃ z,(l ++ [b]).length=z:=⟨_,rfl⟩;have hLN0:0<LN/\LN<=21:=by rw[<-hln,jM,List.length_singleton];omega
    have HLNN:=zh hln;rw[hln] at hq;clear hln;have hwb:w.heap.size<=(World.heap s18).size:=j7.size
    go_upto_region 14 with (at_builtin;refine a1s rfl _ _ rfl (base:=w.heap.size) (v:=.slice bl l.length cl) (A:=l) (B:=[b]) (by rfl) (QZ.out.o.alloc _) (by rfl) (a5o s18 _ _ _ rfl) (by omega) (by simp) (by simp;omega) ?_;intro v2 wf J0 jj hnear2;rw[HLNN.out] at J0;obtain⟨b3,c3,rfl⟩:=a0l J0)
    have hal:=X7 (o:=.cells #[I6 b] 3) (Below.refl (World.heap s18).size s18);have hRA1:=jq.below hal;have hLA1:=QZ.out.below jq.z hal;have hB1:=j7.below jq.z hal;have oX1:=oX.below jq.z hal;have hnr:c2n _ _ _:=hnear2;have kx0:=Jw jj (a0b Qx) nLX;have kx1:=Jw jj (a0b Qj) nLX;have kx2:=Jw jj (a0b X0) nLX;have kx3:=Jw jj (a0b QQ) nLX;have kx4:=Jw jj (a0b QY) nLX;have kx5:=Jw jj (a0b QV) nLX;have nLX2:∀ y,(Value.slice b3 LN c3).ownBlock=some y->X≠y:=fun y hy=>(hnear2 y hy).elim (fun h=>nLX y h) (fun h=>by have:=zX;simp at h;omega)
    have hRA2:=e4p hRA1 hgw hLA1 rfl jj;have hBo2:=e4q hRA1 hB1 hLA1 rfl jj;have oX2:=d9d hRA1 hLA1 rfl jj oX1;have HLA2:=zh (LAt.grown (l':=l ++ [b]) hRA1 hB1.size hLA1 rfl jj (by rw[HLNN.out];exact J0) hnear2);clear jq j7 oX QZ Qx Qj X0 QQ QY QV zX nLX hal hRA1 hLA1 hB1 oX1 hnr jj hnear2 J0 hwb;have jq:=hRA2;have j7:=hBo2;have oX:=oX2;have QZ:=HLA2;have nLX:=nLX2;have Qx:=kx0;have Qj:=kx1;have X0:=kx2;have QQ:=kx3;have QY:=kx4;have QV:=kx5;have zX:=oX.z;clear hRA2 hBo2 oX2 HLA2 nLX2 kx0 kx1 kx2 kx3 kx4 kx5;obtain⟨m2,hm⟩:=nM (tokAt T i2);have hNW:=fun W h=>d7b R g cap T ⟨i2,N2,A2,d2,p2,0⟩ W h hl2 (by omega)
    have lt0:=fun h=>d6r HTT.out hl2 h
    dsimp only at hNW;rw[<-hm] at hNW hq lt0;clear hm;obtain⟨nk,nx,np,ny,nz⟩:=m2;dsimp only at hNW hq lt0;have HNW:=zh hNW;have F1:=e3v nk nx np ny nz;clear hNW F0;go_wp2_with fail;refine jy (HNW.out _ jq) fun s19 hb=>?_
    have q:=fun {j u} h=>q9 (p:=⟨X,j,none⟩) (v:=u) hb h zX;replace Qx:=q Qx;replace Qj:=q Qj;replace X0:=q X0;replace QQ:=q QQ;replace QY:=q QY;replace QV:=q QV;clear q;replace zX:=jw hb zX
    replace QZ:=zh (QZ.out.below jq.z hb);replace j7:=j7.below jq.z hb;replace oX:=oX.below jq.z hb;replace jq:=jq.below hb;obtain⟨J3,J2,Q3,Q0,JZ⟩:=QJ jq;clear hb;by_cases n6:nk=6
    case pos =>
     rw[if_pos n6] at hq;have HX:Hid (r=(⟨i2+1,N2,A2++(l ++ [b]),d2,p2,0⟩,(LN:Int))):=(jA hq).symm;have n6b:(nk==6)=true:=by simpa using n6
     have hln:=HLNN.out;clear hq n6 lt0 hI4;have hg:=HG.out;rw[HX.out] at hg;dsimp only at hg;have hNz:(N2).length<=310:=hg.1;have hAz:(A2++(l ++ [b])).length<=320:=hg.2.1;clear hg
     have HQ2:Hid (q=((⟨i2+1,N2,A2++(l ++ [b]),d2-1,p2,0⟩:Rd).add { nd5 9 with s:=tx,b:=(LN:Int),a:=(A2.length:Int) })):=by
      show q=_;rw[HQ.out,HX.out];unfold d8g;dsimp only;rw[if_neg (by simp)];have e:((((A2++(l ++ [b])).length:Nat):Int)-(LN:Int))=(A2.length:Int):=by rw[jM,hln];omega
      rw[if_pos (by omega),e]
     have hAz2:A2.length<=320:=by rw[jM] at hAz;omega
     obtain⟨LL,hLL⟩:∃ z,(A2++(l ++ [b])).length=z:=⟨_,rfl⟩;have XW:=zh hLL;clear hLL hAz;have Q7:=jq.fz 1;have q6:IntKind.i64.wrap ((i2:Int)+1)=(i2:Int)+1:=IntWalk.i64_in _ (by omega)
     go_upto_region 19 with fail
     obtain⟨s20,j6⟩:∃ s,s=s19.setCell ⟨R,1,none⟩ (I6 (((i2:Int)+1))):=⟨_,rfl⟩;have j8:s20.heap.size=s19.heap.size:=by rw[j6];simp
     replace Qj:s20.cell? ⟨X,1,none⟩=some (Sg tx):=(by rw[j6];exact stK Qj (Ne.symm oX.ne));replace zX:X<s20.heap.size:=(by omega);replace oX:qW s20 R X:=(by rw[j6];exact oX.setR (by decide));replace QZ:=zh (show LAt w s20 R _ _ by rw[j6];exact QZ.out.kp ((Kp.refl R _).setR (by decide)));replace j7:Kp R w s20:=by rw[j6];exact j7.setR (by decide)
     replace jq:qj s20 R g cap T ⟨(i2+1),N2,A2,d2,p2,0⟩:=by rw[j6];exact jq.setI _ _ (by first | rfl | omega)
     rw[<-j6];clear j6 j8;obtain⟨J3,J2,Q3,Q0,JZ⟩:=QJ jq;clear q6 Q7;have fR4:=jq.fz 4;have q6:IntKind.i64.wrap (d2-1)=d2-1:=IntWalk.i64_in _ (by omega)
     go_upto_region 20 with fail
     obtain⟨s21,j6⟩:∃ s,s=s20.setCell ⟨R,4,none⟩ (I6 ((d2-1))):=⟨_,rfl⟩;have j8:s21.heap.size=s20.heap.size:=by rw[j6];simp
     replace Qj:s21.cell? ⟨X,1,none⟩=some (Sg tx):=(by rw[j6];exact stK Qj (Ne.symm oX.ne));replace zX:X<s21.heap.size:=(by omega);replace oX:qW s21 R X:=(by rw[j6];exact oX.setR (by decide));replace QZ:=zh (show LAt w s21 R _ _ by rw[j6];exact QZ.out.kp ((Kp.refl R _).setR (by decide)));replace j7:Kp R w s21:=by rw[j6];exact j7.setR (by decide)
     replace jq:qj s21 R g cap T ⟨(i2+1),N2,A2,(d2-1),p2,0⟩:=by rw[j6];exact jq.setD _ _ (by first | rfl | omega)
     rw[<-j6];clear j6 j8;obtain⟨J3,J2,Q3,Q0,JZ⟩:=QJ jq;clear q6 fR4;have J6:Hid (∀ c,(World.heap s21).size<=c->∀ b,(Value.slice b3 LN c3).ownBlock=some b->c≠b):=fun c hc b hb e=>by have:=(QZ.out.o.lt b hb).2;omega
     go_upto_region 21 with (refine a0c rfl _ _ rfl rfl _ _ _ rfl rfl rfl (by rfl) (by rfl) (by rfl) ?_)
     obtain⟨s22,Y,j6,Qy,j8,zY⟩:=qy s21 (.cells #[I6 9,I6 0,I6 0,I6 (LN:Int),Bv false,S0,S0,Sg tx,Bv false,S0,I6 0,I6 0,Bv false,Bv false,S0,I6 0,I6 0,Bv false,Bv false] 69);have j9:=JW j6;replace QZ:=zh (QZ.out.below jq.z j9);have qJ:=j7.below jq.z j9;replace oX:=oX.below jq.z j9;have dYX:Y≠X:=by omega
     have yY:=qZ (b:=Y) j6 Qy;have fY:=Qq (b:=Y) j6 Qy;have lY:w.heap.size<=Y:=by have:=j7.size;omega
     have oY:=d6v jq j9 (b:=Y) (by omega) zY;have nLY:=J6.out Y (by omega);replace jq:=jq.below j9;clear j9;obtain⟨J3,J2,Q3,Q0,JZ⟩:=QJ jq;replace j7:=qJ;clear qJ;rw[<-j6];try rw[<-Qy]
     clear j6 j8 Qy;obtain⟨nv,av,hr⟩:=jq;obtain⟨ba,ca,rfl⟩:=a0l hr.oa;have kR3:=hr.c3;dsimp only at kR3;have jq:qj s22 R g cap T ⟨i2+1,N2,A2,d2-1,p2,0⟩:=⟨_,_,hr⟩;clear hr
     go_upto_region 23 with fail
     clear kR3;obtain⟨s23,j6⟩:∃ s,s=(s22.setCell ⟨Y,2,none⟩ (I6 (A2.length:Int))):=⟨_,rfl⟩;have qk0:=Kp.set (j:=2) (v:=(I6 (A2.length:Int))) j7 oY lY;have qr0:=qj.set (j:=2) (v:=(I6 (A2.length:Int))) jq oY (by omega);have qX0:=qW.set (j:=2) (v:=(I6 (A2.length:Int))) oX oY;have qY0:=qW.set (j:=2) (v:=(I6 (A2.length:Int))) oY oY;replace QZ:=zh (show LAt w s23 R _ _ by rw[j6];exact(LAt.set QZ.out oY nLY));have qJ:Kp R w s23:=by rw[j6];exact qk0
     have hRB:qj s23 R g cap T ⟨(i2+1),N2,A2,(d2-1),p2,0⟩:=by rw[j6];exact qr0
     replace oY:qW s23 R Y:=by rw[j6];exact qY0
     clear qY0 qX0 qr0 qk0;replace jq:=hRB;clear hRB;have j8:=ss1 j6;have hQC:∀ b j v,s22.cell? ⟨b,j,none⟩=some v->Y≠b->s23.cell? ⟨b,j,none⟩=some v:=fun b j v h dY=>by rw[j6];exact(stK h dY)
     clear hQC;have hq:∀ {p v},(s22.setCell ⟨Y,2,none⟩ (I6 (A2.length:Int))).cell? p=some v->s23.cell? p=some v:=fun h=>by rw[j6];exact h
     replace yY:∀ j,s23.cell? ⟨Y,j,none⟩=([I6 9,I6 0,I6 (A2.length:Int),I6 (LN:Int),Bv false,S0,S0,Sg tx,Bv false,S0,I6 0,I6 0,Bv false,Bv false,S0,I6 0,I6 0,Bv false,Bv false]:List Value)[j]?:=Jv j6 (JX yY (jB rfl));clear hq;have J9:=@fz1 _ _ _ _  j6;clear J9;replace zY:=Xy j8 zY;rw[<-j6];clear j7 j6 j8;have j7:=qJ;clear qJ;obtain⟨nv,av,hr⟩:=jq;obtain⟨ba,ca,hav⟩:=a0l hr.oa;dsimp only at hav;obtain⟨LA,hLA2⟩:=nM A2.length;rw[<-hLA2] at hav;subst hav;have kR3:=hr.c3;have fR3:=hr.fz 3;have zR:=hr.z;have hoa:=hr.oa;dsimp only at hoa;have hLz:LA<=320:=by rw[hLA2];exact hAz2
     have HLA2:=zh hLA2;have HOA:=zh hoa;have HRR:=zh hr;have HRD:Hid (∀ y,(Value.slice ba LA ca).ownBlock=some y->R≠y):=fun y hy e=>by have:=(HOA.out.lt y hy).1;omega
     have HYD:Hid (∀ y,(Value.slice ba LA ca).ownBlock=some y->Y≠y):=fun y hy e=>oY.n3 _ HRR.out.c3 (by rw[hy,e])
     have HIN:=zh (IntsAt.of_owns QZ.out.o).2;clear hr hoa hLA2
     go_upto_region 24 with (at_builtin;refine a1s rfl _ _ rfl (base:=R+1) (v:=.slice ba LA ca) (A:=A2) (B:=(l ++ [b])) (by rfl) HOA.out (by rfl) HIN.out (by omega) (by omega) zR ?_;intro v2 wf J0 jj hnear2;rw[XW.out] at J0;obtain⟨b2,c2,rfl⟩:=a0l J0;have pfd:=a0m jj zR fR3 HRD.out;have pcd:=Jw jj kR3 HRD.out)
     have hYr:R≠Y:=Ne.symm oY.ne;obtain⟨sz,j6⟩:∃ z,z=World.setCell wf ⟨R,3,none⟩ (.slice b2 LL c2):=⟨_,rfl⟩;have HRZ:Hid (qj sz R g cap T ⟨i2+1,N2,A2++(l ++ [b]),d2-1,p2,0⟩):=zh (by rw[j6];exact⟨_,_,RAt.setA HRR.out jj (by rw[XW.out];exact J0) hnear2⟩);have HKZ:Hid (Kp R w sz):=zh (by rw[j6];exact j7.trans (Kp.grownA HRR.out jj hnear2));have LZ:Sem.run Tryz.prog (loadCellsFrom ⟨Y,0,none⟩ 0 K19 #[]) sz=.ok #[I6 9,I6 0,I6 (A2.length:Int),I6 (LN:Int),Bv false,S0,S0,Sg tx,Bv false,S0,I6 0,I6 0,Bv false,Bv false,S0,I6 0,I6 0,Bv false,Bv false] sz:=by rw[j6];exact eqL HK19 rfl (qz (eqG jj yY zY HYD.out) hYr)
     rw[<-j6];clear j6 J0 jj hnear2 pfd pcd;go_wp2_with fail;refine(d6z R g cap T _ { nd5 9 with s:=tx,b:=(LN:Int),a:=(A2.length:Int) } _ HRZ.out (by dsimp only;omega)).mono ?_;rintro e s99 ⟨rfl,hRB,hKb⟩;go_wp2_with fail;show Po _ _;rw[J5.out,HQ2.out];exact⟨rfl,hRB,HKZ.out.trans hKb⟩
    rw[if_neg n6] at hq;have n6b:(nk==6)=false:=by simpa using n6
    clear n6;go_wp2_with fail;refine jy (HNW.out _ jq) fun s24 hb=>?_
    have q:=fun {j u} h=>q9 (p:=⟨X,j,none⟩) (v:=u) hb h zX;replace Qx:=q Qx;replace Qj:=q Qj;replace X0:=q X0;replace QQ:=q QQ;replace QY:=q QY;replace QV:=q QV;clear q;replace zX:=jw hb zX
    replace QZ:=zh (QZ.out.below jq.z hb);replace j7:=j7.below jq.z hb;replace oX:=oX.below jq.z hb;replace jq:=jq.below hb;obtain⟨J3,J2,Q3,Q0,JZ⟩:=QJ jq;clear hb;by_cases n7:nk=7
    case neg =>
     rw[if_pos n7] at hq;have hwe:((⟨i2,N2,A2,d2,p2,0⟩:Rd).wrong ⟨nk,nx,np,ny,nz⟩ 10).e≠0:=e0e (by decide);have HX:Hid (q=((⟨i2,N2,A2,d2,p2,0⟩:Rd).wrong ⟨nk,nx,np,ny,nz⟩ 10,0)):=by rw[HQ.out,<-(jA hq)];unfold d8g;dsimp only;rw[if_pos hwe];exact zh rfl
     have n7b:(nk != 7)=true:=by simpa using n7
     clear hq hwe n7;go_wp2_with fail;refine jy (HNW.out _ jq) fun s25 hb=>?_
     have q:=fun {j u} h=>q9 (p:=⟨X,j,none⟩) (v:=u) hb h zX;clear q
     replace QZ:=zh (QZ.out.below jq.z hb);replace j7:=j7.below jq.z hb;replace jq:=jq.below hb;obtain⟨J3,J2,Q3,Q0,JZ⟩:=QJ jq;clear hb;go_wp2_with fail;refine(d6s R g cap T ⟨i2,N2,A2,d2,p2,0⟩ ⟨nk,nx,np,ny,nz⟩ 10 _ jq).mono ?_;rintro e s99 ⟨rfl,hRB,hKb⟩;go_wp2_with fail;show Po _ _;rw[J5.out,HX.out];exact⟨rfl,hRB,j7.trans hKb⟩
    rw[if_neg (fun h=>h n7)] at hq;have n7b:(nk != 7)=false:=by simpa using n7
    have l3:=lt0 (by rw[n7];decide);have HQ3:=zh (d7w _ _ _ _ hq);clear hq n7 lt0 HNW;have hI5:Hid (YQ T ⟨i2+1,N2,A2,d2,p2,0⟩):=⟨l3,Nat.le_succ_of_le hI4.n,Nat.le_succ_of_le hI4.a,hI4.f,hI4.d0,hI4.d1,rfl⟩;clear hI4;have hl21:(l ++ [b]).length<=20:=by rw[jM,List.length_singleton];omega
    have HL21:=zh hl21;clear hl21;have Q7:=jq.fz 1;have q6:IntKind.i64.wrap ((i2:Int)+1)=(i2:Int)+1:=IntWalk.i64_in _ (by omega);have HXF:Hid (qW s24 R X):=oX;have HRR:=zh jq;have HBR:=zh j7;have HLR:=zh QZ.out;have HNX:=zh nLX
    have HCX:Hid (∀ j u,(tokL ⟨3,tx,tp,ty,tz⟩)[j]?=some u->World.cell? s24 ⟨X,j,none⟩=some u):=fun j u h=>by
     match j,h with
     | 0,h=>obtain rfl:=jA h;exact Qx
     | 1,h=>obtain rfl:=jA h;exact Qj
     | 2,h=>obtain rfl:=jA h;exact X0
     | 3,h=>obtain rfl:=jA h;exact QQ
     | 4,h=>obtain rfl:=jA h;exact QY
     | 5,h=>obtain rfl:=jA h;exact QV
     | j+6,h=>simp at h
    clear nLX;go_wp2
    go_roundw
    case rel=>exact⟨_,l ++ [b],HRR.out.setI _ (i2+1) (by omega),HBR.out.setR (by decide),HLR.out.kp ((Kp.refl R _).setR (by decide)),HXF.out.setR (by decide),fun j u h=>stK (HCX.out j u h) (Ne.symm HXF.out.ne),HNX.out,HQ3.out,hI5.out,HL21.out⟩
    case measure =>
     rw[d8q (HRR.out.setI _ (i2+1) (by omega)),HLW.out];have h1:=HGI.out;dsimp only at h1 |-
     omega
