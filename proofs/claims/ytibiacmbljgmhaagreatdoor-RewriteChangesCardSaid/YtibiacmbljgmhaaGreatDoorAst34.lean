import Derived.Test.YtibiacmbljgmhaaGreatDoorAst31
namespace Go.Proofs.YtibiacmbljgmhaaGreatDoor
open Go.RowKit Go.Shelf
set_option linter.all false
theorem b6w {N:List Sh} {A:List Int} : ∀ {m:Nat} {s:Ms},(∀ i,i<m->(N.getD i default).k=9->0<=(N.getD i default).b)->run N A m=some s->0<=s.args/\s.args<=A.length/\(∀ t ∈ s.tops,0<=t/\t<m)/\s.tops.length<=m:=by
 intro m
 induction m with
 | zero=>intro s _ h;simp[run] at h;subst h;simp
 | succ m ih =>
  intro s hb h
  cases hr:run N A m with
  | none=>rw[run,hr] at h;cases h
  | some s0 =>
   obtain⟨i1,i2,i4,i5⟩:=ih (fun i hi=>hb i (by omega)) hr;rw[a1y hr] at h;have hl:=a4j hr;obtain⟨h1,h2,h3,rfl⟩:=a2c h;have hbn:=hb m (by omega);generalize N.getD m default=n at *
   have hm1:0<=a0n n/\s0.args+a0n n<=A.length:=by
    unfold a0n
    split
    ·
     rename_i hc
     obtain⟨c1,c2⟩:=hc;unfold a1f at h1;simp[c1,c2] at h1;exact⟨by omega,by omega⟩
    ·
     exact⟨by omega,by omega⟩
   refine⟨by simp only;omega,by simp only;omega,?_,?_⟩
   ·
    intro t ht;simp only[List.mem_append,List.mem_singleton] at ht
    rcases ht with ht | ht
    ·
     have:=i4 t (List.mem_of_mem_take ht);omega
    ·
     rw[ht,hl];omega
   ·
    simp;omega
def b5o (e:Int):Int:=if e=0 then 0 else if e=1 then 3 else if e=2 then 8 else 9
def c5n (w:World) (P:Nat) (u v:Value) (C:Nat->Bool) (NN:List Sh) (A:List Int) (r:Value) (wr:World):Prop:=∃ (k:Nat) (s:Ms) (dv tv:Value),k<=NN.length/\r=I6 k/\b1c C NN A k=some s/\WAt wr P (P+1) u v s dv tv/\Below P w wr
theorem b9h {C:Nat->Bool} {N:List Sh} {A:List Int} {m:Nat} {s:Ms} (h:b1c C N A m=some s):b1c C N A (m+1)=a9w (C m) N A s (N.getD m default):=by rw[b1c,h];rfl
theorem b9i {o:Option Ms} {P base:Nat} {u v:Value} {w:World} {e:Ending} {w':World} (h:a2e o P base u v w e w'):(o=none/\e=.returned (Bv false)/\Below P w w')\/∃ s dv tv,o=some s/\e=.returned (Bv true)/\WAt w' P base u v s dv tv/\Below P w w':=by
 cases o with
 | none=>exact Or.inl ⟨rfl,h.1,h.2⟩
 | some s=>obtain⟨⟨h1,dv,tv,h2⟩,h3⟩:=h;exact Or.inr ⟨s,dv,tv,rfl,h1,h2,h3⟩
set_option maxHeartbeats 16000000
set_option maxRecDepth 100000
def a2t (r:Int × Int) (w:World) (e:Ending) (w':World):Prop:=e=.returned (.tuple #[I6 r.1,I6 (b5o r.2)])/\Bl w w'
theorem a3l {r:Int × Int} {a b c:Int} {w w':World} (h:r=(a,c)) (he:b5o c=b) (hb:Bl w w'):a2t r w (.returned (.tuple #[I6 a,I6 b])) w':=by subst h he;exact⟨rfl,hb⟩
theorem IntsAt.block {W:World} {v:Value} {A:List Int} (h:IntsAt W v A) (h0:A≠[]):∀ g,v.ownBlock=some g->g<W.heap.size:=by
 intro g hg
 rcases h with ⟨_,h⟩ | ⟨g',o,cap,rfl,h1,h2,hc⟩
 ·
  exact absurd h h0
 ·
  have e:g'=g:=by simpa [Value.ownBlock] using hg
  subst e;exact Xk (hc 0 (List.length_pos_iff.2 h0))
theorem a6g (u v:Value) (N:List Nd) (A:List Int) (w:World) (hN:NodesAt w u N) (hA:IntsAt w v A) (hf:∀ n ∈ N,J8 n) (XK:NamesAt w) (hl:A.length<=1000) (hl2:N.length<=1000) :
  Cz 56 #[.agg #[u,v]] w (a2t (a1q (cN N) (N.map qX) A) w):=by
 have JY:=Qw;obtain⟨K19,hz19,HK19⟩:=Y9;have hNC:=zh hN;have HA:=zh hA;have Xv:=zh XK;have HVB:=zh (fun h0=>hA.block h0);obtain⟨bn,cn,rfl,hN2⟩:=hN.slice;have HNN:=zh hN2;obtain⟨ba,ca,rfl,_⟩:=hA.slice;obtain⟨R,hR⟩:=nM (a1q (cN N) (N.map qX) A);rw[<-hR];obtain⟨Po,hPo⟩:=nM (a2t R w);rw[<-hPo];have J5:=zh hPo;have hll:(N.map qX).length=N.length:=List.length_map ..;have HCB:Hid ((∀ i,i<N.length->cN N i=true)->∀ n ∈ N.map qX,n.k=9->0<=n.b):=fun h=>a9t (N:=N) (by rw[hll];exact h)
 have HCI:Hid (∀ k,(∀ i,i<k->cN N i=true)->∀ i,i<k->((N.map qX).getD i default).k=9->0<=((N.map qX).getD i default).b):=fun k h i hi h9=>by
  have hc:=h i hi
  cases hx:N[i]? with
  | none=>unfold cN at hc;rw[hx] at hc;cases hc
  | some m =>
   rw[a3j hx] at hc;rw[a2m N i m hx] at h9 |-
   exact(a3k hc h9).1
 have HGE:Hid (∀ k,k<N.length->∃ n,N[k]?=some n):=fun k h=>⟨_,jH h⟩
 have HFT:=zh (fun (k:Nat) (n:Nd) (h:N[k]?=some n)=>hf n (List.mem_of_getElem? h));have HSH:=zh (fun (k:Nat) (n:Nd) (h:N[k]?=some n)=>a2m N k n h);have HCS:=zh (fun (k:Nat) (n:Nd) (h:N[k]?=some n)=>a3j h);have HM:=zh (fun (P base:Nat) (u v dv tv:Value) (deps tops:List Int) (ar:Int) (n:Nd) (w:World) h1 h2 h3 h4 h5 h6 h7 h8 h9 h10=>b9g P base u v dv tv deps tops ar N A n w h1 h2 h3 h4 h5 hl hl2 h6 h7 h8 h9 h10);by_cases h300:300<N.length
 ·
  have HR:Hid (R=(0,3)):=hR.trans (by unfold a1q;rw[hll,if_pos h300]);generalize N.length=L at *;clear hR hPo hN hA hf XK hN2 hl hl2 hll;go_enter Tryz.func56,Tryz.ntmps56
  go_upto_region 1 with fail
  obtain⟨s1,F,j6,qY,j8,zF⟩:=qy w (.cells #[.slice bn L cn,.slice ba A.length ca] 25);have hN:=Qz (b:=F) j6 qY;have qV:=hN 0 _ rfl;have J1:=hN 1 _ rfl;clear hN;have j7:=qQ bR j6;rw[<-j6];try rw[<-qY]
  clear j6 j8 qY;go_wp2_with fail;show Po _ _;rw[J5.out];exact a3l HR.out rfl j7
 ·
  have HR:Hid (R=c4r A (b1c (cN N) (N.map qX) A N.length)):=hR.trans (by unfold a1q;rw[hll,if_neg h300]);obtain⟨C,hC⟩:=nM (cN N);obtain⟨NN,hNN⟩:=nM (N.map qX);rw[<-hC,<-hNN] at HR;rw[<-hNN] at hll HCB HCI HSH HM;rw[<-hC] at HCB HCI HCS;obtain⟨L,hL⟩:=nM N.length;rw[<-hL] at hNC HM HR HCB HGE hll h300 |-
  obtain⟨K,hK⟩:=nM A.length;have HKK:=zh hK;rw[<-hK] at HA HVB HM hl |-
  have h300':(L:Int)<=300:=by omega
  have hLL:=zh hL;clear hR hPo hN hA hf XK hN2 hC hNN hL hK h300 hl2;go_enter Tryz.func56,Tryz.ntmps56
  go_upto_region 1 with fail
  obtain⟨s2,F,j6,qY,j8,zF⟩:=qy w (.cells #[.slice bn L cn,.slice ba K ca] 25);have hN:=Qz (b:=F) j6 qY;have qV:=hN 0 _ rfl;have J1:=hN 1 _ rfl;clear hN;have lF:w.heap.size<=F:=by omega
  have j7:=qQ bR j6;rw[<-j6];try rw[<-qY]
  clear j6 j8 qY;go_wp2_with fail;have hF1:=zF;obtain⟨s3,P,j6,hdP,j8,zP⟩:=qy s2 (.cells #[.slice bn L cn,.slice ba K ca,.slice none 0 0,.slice none 0 0,I6 0] 136);have j9:=JW j6;have hAP:s2.heap.size<=P:=by omega
  replace qV:=q9 j9 qV zF;replace J1:=q9 j9 J1 zF;replace zF:=jw j9 zF;have hN:=Qz (b:=P) j6 hdP;have hM:=Qq (b:=P) j6 hdP;have kP0:=hN 0 _ rfl;have kP1:=hN 1 _ rfl;have kP2:=hN 2 _ rfl;have kP3:=hN 3 _ rfl;have kP4:=hN 4 _ rfl;have fP0:=hM 0;have fP1:=hM 1;have fP2:=hM 2;have fP3:=hM 3;have fP4:=hM 4;clear hN hM;have lP:w.heap.size<=P:=by have:=j7.size;omega
  replace j7:=qQ j7 j6;rw[<-j6];try rw[<-hdP]
  clear j6 j8 hdP;have hFP:F<P:=by omega
  obtain⟨t0,ht0⟩:=nM s3;subst ht0;have HZ:Hid (∀ W,Below P t0 W->Bl w W):=fun W h=>j7.trans (h.mono lP)
  have HFF:Hid (∀ W,Below P t0 W->W.cell? ⟨F,1,none⟩=some (.slice ba K ca)):=fun W h=>(h.cell (p:=⟨F,1,none⟩) hFP).trans J1
  have HWA:Hid (WAt t0 P (P+1) (.slice bn L cn) (.slice ba K ca) ⟨[],[],0⟩ (.slice none 0 0) (.slice none 0 0)):=⟨kP0,kP1,kP2,kP3,kP4,fP2,fP3,fP4,World.ownsRow_nil _ _ _ _,World.ownsRow_nil _ _ _ _,fun g h=>by simp[Value.ownBlock] at h,Nat.lt_succ_self P,zP⟩
  have HVP:Hid (A≠[]->∀ g,(Value.slice ba K ca).ownBlock=some g->g<P):=fun h0 g hg=>jF (HVB.out h0 g hg) lP
  clear JY j9 hAP hF1 hFP j7 qV J1 zF lF kP0 kP1 kP2 kP3 kP4 fP0 fP1 fP2 fP3 fP4 zP HVB
  go_loopw [17] (c5n t0 P (.slice bn L cn) (.slice ba K ca) C NN A) (fun r _=>L-(intOf r).toNat)
  case atStart=>exact⟨0,⟨[],[],0⟩,_,_,Nat.zero_le _,rfl,rfl,HWA.out,Below.refl _ _⟩
  case round =>
   obtain⟨k,⟨deps,tops,ar⟩,dv,tv,hk,rfl,hrun,hwa,hW⟩:=hrel;rw[hll] at hk;have j7:=HZ.out _ hW;have HW:=zh hW;have HWK:=zh hwa;obtain⟨hcall,hrunp⟩:=runC_iff.1 hrun;have hfacts:=b6w (HCI.out k hcall) hrunp;have hdl:=a4j hrunp;have hdd:=b5g hrunp;dsimp only at hfacts hdl hdd;obtain⟨f1,f2,f3,f4⟩:=hfacts
   have hrng:∀ d ∈ deps,0<=d/\d<=1000:=fun d hd=>by
    rw[hdd] at hd;have:=a7v NN A k d hd;omega
   have HRUN:=zh hrun;have HRNG:=zh hrng;have HF3:=zh f3;have HCALL:=zh hcall;have HRP:=zh hrunp;clear hrun hrunp hcall hdd hrng f3 hW hwa;by_cases hlt:k<L
   ·
    obtain⟨n,hn⟩:=HGE.out k hlt;obtain⟨gn,on,rfl,hcn⟩:=HNN.out k n hn;have LN:=a0p wr gn (on+k*K19) HK19 n (fun j u hu=>by rw[HK19.out];exact q9 j7 (hcn j u hu) (Xk (hcn j u hu)));have HNX:Hid (b1c C NN A (k+1)=a9w (X9 n) NN A ⟨deps,tops,ar⟩ (qX n)):=(b9h HRUN.out).trans (by rw[HCS.out k n hn,HSH.out k n hn]);have HFN:=zh (HFT.out k n hn);clear hcn hn
    go_upto_region 7 with (refine a0c rfl _ _ rfl rfl _ _ _ rfl rfl rfl (by rfl) (by rfl) (by rfl) ?_)
    obtain⟨s4,X,j6,qw,j8,zX⟩:=qy wr (.cells (Qk n).toArray 69);have j9:=JW j6;have hAX:wr.heap.size<=X:=by omega
    have yX:=qZ (b:=X) j6 qw;have LX:=Qv HK19 yX;replace j7:=qQ j7 j6;rw[<-j6];try rw[<-qw]
    clear j6 j8 qw;clear LN;have HWX:=zh (HWK.out.below j9);have HBX:Hid (Below P t0 s4):=HW.out.trans (j9.mono (Nat.le_of_lt HWK.out.pz));have HBO:=zh j7;clear j9 hAX;go_wp2_with fail;refine(HM.out P (P+1) _ _ dv tv deps tops ar n _ HWX.out (fun W hW=>⟨hNC.out.below (HZ.out W (HBX.out.trans hW)),HA.out.below (HZ.out W (HBX.out.trans hW))⟩) HVP.out HFN.out (Xv.out.below HBO.out) (by omega) HRNG.out (fun t ht=>by have:=HF3.out t ht;omega) (by omega) ⟨f1,by rw[HKK.out];exact f2⟩).mono ?_;intro e w5 hpost
    rcases b9i hpost with ⟨ho,rfl,hb⟩ | ⟨s',dv',tv',ho,rfl,hwa2,hb⟩
    ·
     have HR0:Hid (R=(0,1)):=HR.out.trans (by rw[b8r (HNX.out.trans ho) (show k+1<=L by omega)];rfl);have HB5:=zh (HZ.out _ (HBX.out.trans hb));clear hpost ho hb;go_wp2_with fail;show Po _ _;rw[J5.out];exact a3l HR0.out rfl HB5.out
    ·
     have HX2:=zh (HNX.out.trans ho);have HWA2:=zh hwa2;have HB5:=zh (HBX.out.trans hb);clear hpost ho hb hwa2;go_wp2
     go_roundw
     case rel=>exact⟨k+1,s',dv',tv',by rw[hll];omega,by go_num,HX2.out,HWA2.out,HB5.out⟩
     case measure=>simp[intOf];omega
   ·
    obtain rfl:k=L:=by omega
    have HE:Hid (R=c4r A (some ⟨deps,tops,ar⟩)):=HR.out.trans (by rw[HRUN.out]);obtain⟨bt,ct,rfl⟩:=a0l HWK.out.ot;obtain⟨bd,cd,rfl⟩:=a0l HWK.out.od;dsimp only at HWK;have p2:=HWK.out.c2;have p3:=HWK.out.c3;have p4:wr.cell? ⟨P,4,none⟩=some (I6 ar):=HWK.out.c4;have q1:=HFF.out _ HW.out;have zP:=HWK.out.pz;have HBO:=zh j7;by_cases ht1:tops.length=1
    ·
     by_cases har:ar=(K:Int)
     ·
      have hE2:R=if 24<deps.getD (tops.headD 0).toNat 0 then (0,2) else (deps.getD (tops.headD 0).toNat 0,0):=HE.out.trans (if_neg (by rintro (h | h);exact h ht1;exact h (by rw[<-HKK.out];exact har)))
      obtain⟨h0,htop⟩:=b3q (HCB.out HCALL.out) (by rw[hll];exact HRP.out) ht1;rw[hll] at h0 htop;dsimp only at htop
      obtain⟨t,rfl⟩:∃ t,tops=[t]:=by
       match tops,ht1 with
       | [t],_=>exact⟨t,rfl⟩
      obtain⟨M,rfl⟩:∃ M,k=M+1:=⟨k-1,by omega⟩;obtain rfl:t=(M:Int):=by have:t=((M+1:Nat):Int)-1:=htop;omega
      obtain⟨dval,hdv⟩:=nM (deps.getD M 0);rw[show (([(M:Int)]:List Int).headD 0).toNat=M from Int.toNat_natCast M,<-hdv] at hE2;obtain⟨gt,ot,ct',hv,_,_,zt,htc⟩:=(IntsAt.of_owns HWK.out.ot).2.news (by simp);obtain⟨rfl,rfl⟩:bt=some ⟨gt,ot,none⟩/\ct=ct':=by simpa using hv
      obtain⟨gd,od,cd',hv2,_,_,zd,hdc⟩:=(IntsAt.of_owns HWK.out.od).2.news (by show 0<deps.length;omega);obtain⟨rfl,rfl⟩:bd=some ⟨gd,od,none⟩/\cd=cd':=by simpa using hv2
      have r1:wr.cell? ⟨gt,ot,none⟩=some (I6 (M:Int)):=by have:=htc 0 (by simp);simpa using this
      have r2:wr.cell? ⟨gd,od+M,none⟩=some (I6 dval):=by have:=hdc M (by show M<deps.length;omega);rw[hdv];exact this
      have p2':wr.cell? ⟨P,2,none⟩=some (.slice (some ⟨gd,od,none⟩) (M+1) cd):=by rw[<-hdl];exact p2
      have p3':wr.cell? ⟨P,3,none⟩=some (.slice (some ⟨gt,ot,none⟩) 1 ct):=p3;have HE2:=zh hE2;have hM1:(M:Int)<(M:Int)+1:=by omega
      have hM0:(0:Int)<=(M:Int):=by omega
      subst har;clear hE2 htop hdv hv hv2 htc hdc p2 p3 ht1 zt zd
      go_upto_region 12 with fail
      have HF:=QX j7;clear j7;refine wp_region_held_drew (S:=fun w'=>w'.cell? ⟨P,2,none⟩=some (.slice (some ⟨gd,od,none⟩) (M+1) cd)/\w'.cell? ⟨P,3,none⟩=some (.slice (some ⟨gt,ot,none⟩) 1 ct)/\w'.cell? ⟨gt,ot,none⟩=some (I6 (M:Int))/\w'.cell? ⟨gd,od+M,none⟩=some (I6 dval)) (by kernel_rfl) (by ((try dsimp only);((repeat' apply And.intro)<;>first | assumption | exact p2' | exact p3' | exact r1 | exact r2 | go_keep | (rw[jk _ _ (by assumption)];assumption)))) (fun jx=>?_)
      refine tk 0 ?_;refine tk 1 ?_;refine tk 2 ?_;refine tk 3 ?_;refine tk 4 ?_;refine tk 5 ?_;refine tk 6 ?_;refine tk 7 ?_;refine tk 8 ?_;refine wpAnyH_done (by kernel_rfl) ?_ _;by_cases h24:24<dval
      ·
       have HR0:Hid (R=(0,2)):=HE2.out.trans (if_pos h24);go_wp2_with fail;show Po _ _;rw[J5.out];exact a3l HR0.out rfl HBO.out.drew
      ·
       have HR0:Hid (R=(dval,0)):=HE2.out.trans (if_neg h24);have h24':dval<=24:=by omega
       clear h24;go_wp2_with fail;show Po _ _;rw[J5.out];exact a3l HR0.out rfl HBO.out.drew
     ·
      have HR0:Hid (R=(0,1)):=HE.out.trans (if_pos (Or.inr (by rw[<-HKK.out];exact har)));have har2:(ar != (K:Int))=true:=by simpa using har
      rw[ht1] at p3;clear har ht1;go_wp2_with fail;show Po _ _;rw[J5.out];exact a3l HR0.out rfl HBO.out
    ·
     have HR0:Hid (R=(0,1)):=HE.out.trans (if_pos (Or.inl ht1));have ht2:((tops.length:Int) != 1)=true:=by simp;omega
     clear ht1;go_wp2_with fail;show Po _ _;rw[J5.out];exact a3l HR0.out rfl HBO.out
set_option maxHeartbeats 8000000
theorem b9j (e:Int):b5o e=0 ↔ e=0:=by
 unfold b5o;by_cases h0:e=0
 ·
  simp[h0]
 ·
  by_cases h1:e=1
  ·
   simp[h1]
  ·
   by_cases h2:e=2
   ·
    simp[h2]
   ·
    simp[h0,h1,h2]
theorem a3x (N:List Nd) (A:List Int):Yw N A=decide ((a1q (cN N) (N.map qX) A).2=0)/\(a1q (cN N) (N.map qX) A).1=a8t N A :=
 b1l (C:=cN N) (N:=N.map qX) (A:=A) (a9t (N:=N))
theorem b9k {N:List Nd} {A:List Int} (h:Yw N A=true) {m:Nat} {n:Nd} (hn:N[m]?=some n):X9 n=true:=by
 obtain⟨s,_,_,_,_,_,_,hC,_⟩:=a3h (C:=cN N) (N:=N.map qX) (A:=A) (a9t (N:=N)) h;have:=hC m (by rw[List.length_map];exact(List.getElem?_eq_some_iff.1 hn).1);rw[a3j hn] at this;exact this
theorem a3y (u v:Value) (N:List Nd) (A:List Int) (w:World) (hN:NodesAt w u N) (hA:IntsAt w v A) (hf:∀ n ∈ N,J8 n) (XK:NamesAt w) (hl:A.length<=1000) (hl2:N.length<=1000) :
  Ca 25 #[.agg #[u,v]] w (Bv (Yw N A)):=by
 have JY:=Qw;have hn:=fun w hN hA XK=>a6g u v N A w hN hA hf XK hl hl2
 obtain⟨h1,h2⟩:=a3x N A;have Xv:=zh XK;have hNC:=zh hN;have HA:=zh hA;generalize a1q (cN N) (N.map qX) A=R at *;obtain⟨r1,r2⟩:=R;unfold a2t at hn;dsimp only at hn h1 h2;have hz:=b9j r2;generalize b5o r2=x at *;generalize Yw N A=b at *;have HN:=zh hn;clear hn hN hA hf XK h2
 cases b with
 | true =>
  obtain rfl:x=0:=hz.2 (jB h1.symm);clear h1 hz;go_enter Tryz.func25,Tryz.ntmps25
  go_upto_region 1 with fail
  obtain⟨s1,F,j6,qY,j8,zF⟩:=qy w (.cells #[u,v] 25);have hN:=Qz (b:=F) j6 qY;have qV:=hN 0 _ rfl;have J1:=hN 1 _ rfl;clear hN;have j7:=qQ bR j6;rw[<-j6];try rw[<-qY]
  clear j6 j8 qY;go_wp2_with fail;refine jy (HN.out _ (hNC.out.below j7) (HA.out.below j7) (Xv.out.below j7)) fun w5 hb=>?_
  replace qV:=q9 hb qV zF;replace J1:=q9 hb J1 zF;replace zF:=jw hb zF;replace j7:=X4 j7 hb;clear hb;go_wp2
  go_ret
  exact⟨rfl,j7⟩
 | false =>
  have hx:(x==0)=false:=by
   have : ¬ x=0:=fun h=>of_decide_eq_false h1.symm (hz.1 h)
   simpa using this
  clear h1 hz;go_enter Tryz.func25,Tryz.ntmps25
  go_upto_region 1 with fail
  obtain⟨s2,F,j6,qY,j8,zF⟩:=qy w (.cells #[u,v] 25);have hN:=Qz (b:=F) j6 qY;have qV:=hN 0 _ rfl;have J1:=hN 1 _ rfl;clear hN;have j7:=qQ bR j6;rw[<-j6];try rw[<-qY]
  clear j6 j8 qY;go_wp2_with fail;refine jy (HN.out _ (hNC.out.below j7) (HA.out.below j7) (Xv.out.below j7)) fun w5 hb=>?_
  replace qV:=q9 hb qV zF;replace J1:=q9 hb J1 zF;replace zF:=jw hb zF;replace j7:=X4 j7 hb;clear hb;go_wp2
  go_ret
  exact⟨rfl,j7⟩
