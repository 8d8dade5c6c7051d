import Derived.Test.YtibiacmbljgmhaaGreatDoorAst14
import Derived.Outline
set_option maxHeartbeats 16000000
set_option maxRecDepth 100000
namespace Go.Proofs.YtibiacmbljgmhaaGreatDoor
open Go.RowKit Go.Shelf
set_option linter.all false
theorem a0p (W:World) (g o:Nat) {K:Nat} (hK:Hid (K=19)) (n:Nd) (h:∀ j u,(Qk n)[j]?=some u->W.cell? ⟨g,o+j,none⟩=some u) :
  Sem.run Tryz.prog (loadCellsFrom ⟨g,o,none⟩ 0 K #[]) W=.ok #[I6 n.k,I6 n.o,I6 n.a,I6 n.b,Bv n.qn,Sg n.qa,Sg n.qd,Sg n.s,Bv n.tr,Sg n.r.sh,I6 n.r.c,I6 n.r.r,Bv n.r.fc,Bv n.r.fr,Sg n.t.sh,I6 n.t.c,I6 n.t.r,Bv n.t.fc,Bv n.t.fr] W :=
 run_loadCellsFrom_list Tryz.prog W ⟨g,o,none⟩ (Qk n) K hK.out.symm (fun j v hj=>by rw[Addr.add_lit];exact h j v hj)
theorem a2m (N:List Nd) (c:Nat) (nc:Nd) (h:N[c]?=some nc):(N.map qX).getD c default=qX nc:=by
 rw[jJ,List.getElem?_map,h];rfl
theorem IntsAt.slice {W:World} {v:Value} {A:List Int} (h:IntsAt W v A):∃ (ba:Option Addr) (cap:Nat),v=.slice ba A.length cap/\∀ k,k<A.length->∃ g o,ba=some ⟨g,o,none⟩/\W.cell? ⟨g,o+k,none⟩=some (I6 (A.getD k 0)):=by
 rcases h with ⟨rfl,rfl⟩ | ⟨g,o,cap,rfl,h1,h2,hc⟩
 ·
  exact⟨none,0,rfl,fun k hk=>by simp at hk⟩
 ·
  exact⟨_,cap,rfl,fun k hk=>⟨g,o,rfl,hc k hk⟩⟩
theorem NodesAt.slice {W:World} {v:Value} {N:List Nd} (h:NodesAt W v N):∃ (ba:Option Addr) (cap:Nat),v=.slice ba N.length cap/\∀ (k:Nat) (n:Nd),N[k]?=some n->∃ g o,ba=some ⟨g,o,none⟩/\∀ j u,(Qk n)[j]?=some u->W.cell? ⟨g,o+k*19+j,none⟩=some u:=by
 rcases h with ⟨rfl,rfl⟩ | ⟨g,o,cap,rfl,h1,h2,hc⟩
 ·
  exact⟨none,0,rfl,fun k n hk=>by simp at hk⟩
 ·
  exact⟨_,cap,rfl,fun k n hk=>⟨g,o,rfl,hc k n hk⟩⟩
def b8u (t0:World) (NN:List Sh) (deps own:List Int) (n:Sh) (T:Int) (r d:Value) (wr:World):Prop:=∃ (k:Nat) (D:Int),k<=own.length/\r=I6 D/\d=I6 k/\a2z NN deps n k (own.drop k) D=T/\0<=D/\D<=1001/\Bl t0 wr
theorem a7w (P:Nat) (u v dv tv ov:Value) (ar:Int) (N:List Nd) (deps own:List Int) (n:Nd) (w:World)
  (kP0:w.cell? ⟨P,0,none⟩=some u) (kP2:w.cell? ⟨P,2,none⟩=some dv)
  (hN:NodesAt w u N) (hD:IntsAt w dv deps) (hO:IntsAt w ov own) (hown:∀ c ∈ own,0<=c/\c<deps.length) (hlen:deps.length<=N.length) (hlen2:N.length<=1000) (hd:∀ d ∈ deps,0<=d/\d<=1000) (hol:own.length<=1000) :
  Ca 139 #[.pointer (some ⟨P,0,none⟩),Y2 n,ov] w (I6 (a2z (N.map qX) deps (qX n) 0 own 0+a1v (qX n))):=by
 have JY:=Qw;obtain⟨K19,hz19,HK19⟩:=Y9;obtain⟨T,hT⟩:=nM (a2z (N.map qX) deps (qX n) 0 own 0);rw[<-hT];have HT:=zh hT;have HOWN:=zh hown;have HLEN:=zh hlen;have HDD:=zh hd;have zP:=Xk kP0;obtain⟨bo,co,rfl,hO2⟩:=hO.slice;obtain⟨bd,cd,rfl,hD2⟩:=hD.slice;obtain⟨bn,cn,rfl,hN2⟩:=hN.slice;have HO:=zh hO2;have HD:=zh hD2;have HNN:=zh hN2;have HDG:=zh (fun (c:Int) (hc:0<=c/\c<deps.length)=>(show ∃ (j:Nat) (m:Nd),c=j/\j<deps.length/\N[j]?=some m from ⟨c.toNat,N[c.toNat]'(by omega),by omega,by omega,jH (by omega)⟩));clear hT hown hd hO hD hN hO2 hD2 hN2;go_enter Tryz.func139,Tryz.ntmps139
 go_upto_region 1 with fail
 obtain⟨s1,A,j6,jz,j8,zA⟩:=qy w (.cells (Qk n).toArray 69);have hN:=Qz (b:=A) j6 jz;have kA0:=hN 0 _ rfl;have kA1:=hN 1 _ rfl;have kA2:=hN 2 _ rfl;have kA3:=hN 3 _ rfl;have kA4:=hN 4 _ rfl;have kA5:=hN 5 _ rfl;have kA6:=hN 6 _ rfl;have kA7:=hN 7 _ rfl;have kA8:=hN 8 _ rfl;have kA9:=hN 9 _ rfl;have kA10:=hN 10 _ rfl;have kA11:=hN 11 _ rfl;have kA12:=hN 12 _ rfl;have kA13:=hN 13 _ rfl;have kA14:=hN 14 _ rfl;have kA15:=hN 15 _ rfl;have kA16:=hN 16 _ rfl;have kA17:=hN 17 _ rfl;have kA18:=hN 18 _ rfl;clear hN;have LA:=a0o s1 A HK19 kA0 kA1 kA2 kA3 kA4 kA5 kA6 kA7 kA8 kA9 kA10 kA11 kA12 kA13 kA14 kA15 kA16 kA17 kA18;have j7:=qQ bR j6;rw[<-j6];try rw[<-jz]
 clear j6 j8 jz;obtain⟨t0,ht0⟩:=nM s1;rw[<-ht0] at j7 |-
 have HZ:Hid (∀ W,Bl t0 W->Bl w W):=fun W h=>bT j7 h
 have HA:Hid (∀ W,Bl t0 W->∀ j x,(Qk n)[j]?=some x->W.cell? ⟨A,j,none⟩=some x):=fun W h j x hx=>by
  refine q9 h ?_ (by rw[ht0];exact zA);rw[ht0]
  match j,hx with
  | 0,hx=>rw[<-jA hx];exact kA0
  | 1,hx=>rw[<-jA hx];exact kA1
  | 2,hx=>rw[<-jA hx];exact kA2
  | 3,hx=>rw[<-jA hx];exact kA3
  | 4,hx=>rw[<-jA hx];exact kA4
  | 5,hx=>rw[<-jA hx];exact kA5
  | 6,hx=>rw[<-jA hx];exact kA6
  | 7,hx=>rw[<-jA hx];exact kA7
  | 8,hx=>rw[<-jA hx];exact kA8
  | 9,hx=>rw[<-jA hx];exact kA9
  | 10,hx=>rw[<-jA hx];exact kA10
  | 11,hx=>rw[<-jA hx];exact kA11
  | 12,hx=>rw[<-jA hx];exact kA12
  | 13,hx=>rw[<-jA hx];exact kA13
  | 14,hx=>rw[<-jA hx];exact kA14
  | 15,hx=>rw[<-jA hx];exact kA15
  | 16,hx=>rw[<-jA hx];exact kA16
  | 17,hx=>rw[<-jA hx];exact kA17
  | 18,hx=>rw[<-jA hx];exact kA18
 have ZA:Hid (∀ W,Bl t0 W->A<W.heap.size):=fun W h=>jF (by rw[ht0];exact zA) h.size
 have HSTEP:Hid (∀ (k:Nat) (D c:Int),own[k]?=some c->own.drop k=c :: own.drop (k+1)):=fun k D c h=>by
  obtain⟨h1,h2⟩:=List.getElem?_eq_some_iff.1 h;rw[List.drop_eq_getElem_cons h1,h2]
 clear ht0 j7 LA;clear kA0 kA1 kA2 kA3 kA4 kA5 kA6 kA7 kA8 kA9 kA10 kA11 kA12 kA13 kA14 kA15 kA16 kA17 kA18 zA;go_wp2_with fail
 go_loopw [7,13] (b8u t0 (N.map qX) deps own (qX n) T) (fun _ d _=>own.length-(intOf d).toNat)
 case atStart=>exact⟨0,0,Nat.zero_le _,rfl,rfl,by rw[List.drop_zero];exact HT.out.symm,by omega,by omega,Below.refl _ _⟩
 case round =>
  obtain⟨k,D,hk,rfl,rfl,hTk,d1,d2,hW⟩:=hrel;have j7:=HZ.out _ hW;have hcn:=HA.out _ hW;have kA0:=hcn 0 _ rfl;have kA1:=hcn 1 _ rfl;have kA2:=hcn 2 _ rfl;have kA3:=hcn 3 _ rfl;have kA4:=hcn 4 _ rfl;have kA5:=hcn 5 _ rfl;have kA6:=hcn 6 _ rfl;have kA7:=hcn 7 _ rfl;have kA8:=hcn 8 _ rfl;have kA9:=hcn 9 _ rfl;have kA10:=hcn 10 _ rfl;have kA11:=hcn 11 _ rfl;have kA12:=hcn 12 _ rfl;have kA13:=hcn 13 _ rfl;have kA14:=hcn 14 _ rfl;have kA15:=hcn 15 _ rfl;have kA16:=hcn 16 _ rfl;have kA17:=hcn 17 _ rfl;have kA18:=hcn 18 _ rfl;have zA:=ZA.out _ hW;have LA:=a0o wr A HK19 kA0 kA1 kA2 kA3 kA4 kA5 kA6 kA7 kA8 kA9 kA10 kA11 kA12 kA13 kA14 kA15 kA16 kA17 kA18;have HW:=zh hW;have HTK:=zh hTk;clear hcn hW hTk;by_cases hlt:k<own.length
  ·
   obtain⟨c,hc0⟩:=nM (own.getD k 0);have hcm:own[k]?=some c:=by rw[hc0,jJ,jH hlt];rfl
   have hin:=HOWN.out c (List.mem_of_getElem? hcm);obtain⟨j,m,rfl,hj,hNj⟩:=HDG.out c hin;obtain⟨go,oo,rfl,hco⟩:=HO.out k hlt;obtain⟨gd,od,rfl,hcd⟩:=HD.out j hj;obtain⟨gn,on,rfl,hcn⟩:=HNN.out j m hNj;rw[<-hc0] at hco;have q0:=q9 j7 kP0 zP;have q2:=q9 j7 kP2 zP;have q3:=q9 j7 hco (Xk hco);have q4:=q9 j7 hcd (Xk hcd);have HQ5:Hid (∀ i u,(Qk m)[i]?=some u->wr.cell? ⟨gn,on+j*K19+i,none⟩=some u):=fun i u hu=>by rw[HK19.out];exact q9 j7 (hcn i u hu) (Xk (hcn i u hu))
   have zP2:P<wr.heap.size:=Xk q0;have zN:gn<wr.heap.size:=Xk (HQ5.out 0 _ rfl);obtain⟨dj,hdj⟩:=nM (deps.getD j 0);rw[<-hdj] at q4;have hdm:dj ∈ deps:=by rw[hdj,jJ,jH hj];exact List.getElem_mem hj
   obtain⟨x1,x2⟩:=HDD.out dj hdm;have LM:=a0p wr gn (on+j*K19) HK19 m HQ5.out;have hjN:j<N.length:=jF hj HLEN.out;have HI:=zh (fun w=>c2s n m k w)
   have HNEXT:Hid (a2z (N.map qX) deps (qX n) (k+1) (own.drop (k+1)) (max D (dj+if brk (qX n) (qX m) k then 1 else 0))=T):=by
    have e:=HTK.out;rw[HSTEP.out k D _ hcm,a2z,Int.toNat_natCast,a2m N j m hNj,<-hdj] at e;exact e
   have HHJ:=zh hj;clear hc0 hcm hin hNj hco hcd hcn hdj hdm hj kP0 kP2 zP;generalize brk (qX n) (qX m) k=bb at *
   cases bb with
   | true =>
    go_upto_region 6 with fail
    have HF:=QX j7;clear j7;refine wp_region_held_drew (S:=fun w'=>w'.cell? ⟨A,0,none⟩=some (I6 n.k)/\w'.cell? ⟨A,1,none⟩=some (I6 n.o)/\w'.cell? ⟨A,2,none⟩=some (I6 n.a)/\w'.cell? ⟨A,3,none⟩=some (I6 n.b)/\w'.cell? ⟨A,4,none⟩=some (Bv n.qn)/\w'.cell? ⟨A,5,none⟩=some (Sg n.qa)/\w'.cell? ⟨A,6,none⟩=some (Sg n.qd)/\w'.cell? ⟨A,7,none⟩=some (Sg n.s)/\w'.cell? ⟨A,8,none⟩=some (Bv n.tr)/\w'.cell? ⟨A,9,none⟩=some (Sg n.r.sh)/\w'.cell? ⟨A,10,none⟩=some (I6 n.r.c)/\w'.cell? ⟨A,11,none⟩=some (I6 n.r.r)/\w'.cell? ⟨A,12,none⟩=some (Bv n.r.fc)/\w'.cell? ⟨A,13,none⟩=some (Bv n.r.fr)/\w'.cell? ⟨A,14,none⟩=some (Sg n.t.sh)/\w'.cell? ⟨A,15,none⟩=some (I6 n.t.c)/\w'.cell? ⟨A,16,none⟩=some (I6 n.t.r)/\w'.cell? ⟨A,17,none⟩=some (Bv n.t.fc)/\w'.cell? ⟨A,18,none⟩=some (Bv n.t.fr)/\Sem.run Tryz.prog (loadCellsFrom ⟨A,0,none⟩ 0 K19 #[]) w'=.ok #[I6 n.k,I6 n.o,I6 n.a,I6 n.b,Bv n.qn,Sg n.qa,Sg n.qd,Sg n.s,Bv n.tr,Sg n.r.sh,I6 n.r.c,I6 n.r.r,Bv n.r.fc,Bv n.r.fr,Sg n.t.sh,I6 n.t.c,I6 n.t.r,Bv n.t.fc,Bv n.t.fr] w'/\w'.cell? ⟨P,0,none⟩=some (.slice (some ⟨gn,on,none⟩) N.length cn)/\Sem.run Tryz.prog (loadCellsFrom ⟨gn,on+j*K19,none⟩ 0 K19 #[]) w'=.ok #[I6 m.k,I6 m.o,I6 m.a,I6 m.b,Bv m.qn,Sg m.qa,Sg m.qd,Sg m.s,Bv m.tr,Sg m.r.sh,I6 m.r.c,I6 m.r.r,Bv m.r.fc,Bv m.r.fr,Sg m.t.sh,I6 m.t.c,I6 m.t.r,Bv m.t.fc,Bv m.t.fr] w') (by kernel_rfl) JE (fun jx=>?_)
    refine tk 0 ?_;refine tk 1 ?_;refine tk 2 ?_;refine tk 3 ?_;refine tk 4 ?_;refine tk 5 ?_;refine tk 6 ?_;refine tk 7 ?_;refine tk 8 ?_;refine tk 9 ?_;refine Jq 10 (by kernel_rfl) rfl fun K hK=>?_
    go_simp
    (go_at_call 181;refine jy (HI.out _) fun x2 qk=>?_;obtain⟨qx,jk,qK⟩:=Q4 wr qk)
    try (go_wp2_with fail)
    refine hK.out _ _ JE (fun jx=>?_)
    clear hK K;try simp only[pz]
    refine wpAnyH_done (by kernel_rfl) ?_ _;go_wp2
    go_roundw
    case rel=>exact⟨k+1,max D (dj+1),by omega,rfl,by go_num,by simpa using HNEXT.out,by omega,by omega,HW.out.trans (qx.mono HW.out.size)⟩
    case measure=>simp[intOf];omega
   | false =>
    go_upto_region 6 with fail
    have HF:=QX j7;clear j7;refine wp_region_held_drew (S:=fun w'=>w'.cell? ⟨A,0,none⟩=some (I6 n.k)/\w'.cell? ⟨A,1,none⟩=some (I6 n.o)/\w'.cell? ⟨A,2,none⟩=some (I6 n.a)/\w'.cell? ⟨A,3,none⟩=some (I6 n.b)/\w'.cell? ⟨A,4,none⟩=some (Bv n.qn)/\w'.cell? ⟨A,5,none⟩=some (Sg n.qa)/\w'.cell? ⟨A,6,none⟩=some (Sg n.qd)/\w'.cell? ⟨A,7,none⟩=some (Sg n.s)/\w'.cell? ⟨A,8,none⟩=some (Bv n.tr)/\w'.cell? ⟨A,9,none⟩=some (Sg n.r.sh)/\w'.cell? ⟨A,10,none⟩=some (I6 n.r.c)/\w'.cell? ⟨A,11,none⟩=some (I6 n.r.r)/\w'.cell? ⟨A,12,none⟩=some (Bv n.r.fc)/\w'.cell? ⟨A,13,none⟩=some (Bv n.r.fr)/\w'.cell? ⟨A,14,none⟩=some (Sg n.t.sh)/\w'.cell? ⟨A,15,none⟩=some (I6 n.t.c)/\w'.cell? ⟨A,16,none⟩=some (I6 n.t.r)/\w'.cell? ⟨A,17,none⟩=some (Bv n.t.fc)/\w'.cell? ⟨A,18,none⟩=some (Bv n.t.fr)/\Sem.run Tryz.prog (loadCellsFrom ⟨A,0,none⟩ 0 K19 #[]) w'=.ok #[I6 n.k,I6 n.o,I6 n.a,I6 n.b,Bv n.qn,Sg n.qa,Sg n.qd,Sg n.s,Bv n.tr,Sg n.r.sh,I6 n.r.c,I6 n.r.r,Bv n.r.fc,Bv n.r.fr,Sg n.t.sh,I6 n.t.c,I6 n.t.r,Bv n.t.fc,Bv n.t.fr] w'/\w'.cell? ⟨P,0,none⟩=some (.slice (some ⟨gn,on,none⟩) N.length cn)/\Sem.run Tryz.prog (loadCellsFrom ⟨gn,on+j*K19,none⟩ 0 K19 #[]) w'=.ok #[I6 m.k,I6 m.o,I6 m.a,I6 m.b,Bv m.qn,Sg m.qa,Sg m.qd,Sg m.s,Bv m.tr,Sg m.r.sh,I6 m.r.c,I6 m.r.r,Bv m.r.fc,Bv m.r.fr,Sg m.t.sh,I6 m.t.c,I6 m.t.r,Bv m.t.fc,Bv m.t.fr] w') (by kernel_rfl) JE (fun jx=>?_)
    refine tk 0 ?_;refine tk 1 ?_;refine tk 2 ?_;refine tk 3 ?_;refine tk 4 ?_;refine tk 5 ?_;refine tk 6 ?_;refine tk 7 ?_;refine tk 8 ?_;refine tk 9 ?_;refine Jq 10 (by kernel_rfl) rfl fun K hK=>?_
    go_simp
    (go_at_call 181;refine jy (HI.out _) fun x3 qk=>?_;obtain⟨qx,jk,qK⟩:=Q4 wr qk)
    try (go_wp2_with fail)
    refine hK.out _ _ JE (fun jx=>?_)
    clear hK K;try simp only[pz]
    refine wpAnyH_done (by kernel_rfl) ?_ _;go_wp2
    go_roundw
    case rel=>exact⟨k+1,max D dj,by omega,rfl,by go_num,by simpa using HNEXT.out,by omega,by omega,HW.out.trans (qx.mono HW.out.size)⟩
    case measure=>simp[intOf];omega
  ·
   obtain rfl:k=own.length:=by omega
   have hTD:Hid (T=D):=by
    have e:=HTK.out;rw[List.drop_length,a2z] at e;exact e.symm
   have HLV:=zh (fun w=>a1z n w);have hom:a1v (qX n)=if n.k=9\/Y5 n.k n.o=6 then 1 else 0:=rfl
   clear kP0 kP2 zP;by_cases h9:n.k=9
   ·
    have g9:(n.k==9)=true:=by simpa using h9
    have HOM:=zh (hom.trans (if_pos (Or.inl h9)));clear h9 hom;go_wp2
    go_ret
    exact⟨a1c (by rw[hTD.out,HOM.out]),HZ.out _ HW.out⟩
   ·
    have g9:(n.k==9)=false:=by simpa using h9
    generalize Y5 n.k n.o=lv at *;by_cases h6:lv=6
    ·
     have HOM:=zh (hom.trans (if_pos (Or.inr h6)));subst h6;clear h9 hom;go_wp2_with fail;refine(HLV.out _).mono ?_;rintro e wl ⟨rfl,hbl⟩;go_wp2
     go_ret
     exact⟨a1c (by rw[hTD.out,HOM.out]),HZ.out _ (HW.out.trans (hbl.mono HW.out.size))⟩
    ·
     have g6:(lv==6)=false:=by simpa using h6
     have HOM:=zh (hom.trans (if_neg (by rintro (h | h);exact h9 h;exact h6 h)));clear h9 hom h6;go_wp2_with fail;refine(HLV.out _).mono ?_;rintro e wl ⟨rfl,hbl⟩;go_wp2
     go_ret
     exact⟨a1c (by rw[hTD.out,HOM.out];omega),HZ.out _ (HW.out.trans (hbl.mono HW.out.size))⟩
set_option maxHeartbeats 8000000
abbrev JV (l:List Int):List Value:=l.map (Value.int .i64)
theorem IntsAt.of_owns {W:World} {v:Value} {n base:Nat} {t:TypeId} {A:List Int} (h:W.ownsRow base t 1 v n (JV A)):n=A.length/\IntsAt W v A:=by
 have hl:=h.1;rw[List.length_map,Nat.mul_one] at hl;refine⟨hl.symm,?_⟩
 rcases h.2 with ⟨hv,h0⟩ | ⟨g,cap,cur,hv,_,hgg,hn,hm,_⟩
 ·
  exact Or.inl ⟨hv,jT (by omega)⟩
 ·
  refine Or.inr ⟨g,0,cap,by rw[hv,hl],by omega,hm,fun k hk=>?_⟩
  have hc:=h.cells (g:=g) (by rw[hv];rfl) k (I6 (A.getD k 0)) (by rw[List.getElem?_map,jH hk,jJ,jH hk];rfl);rw[Addr.add_lit] at hc;exact hc
theorem a7x {W:World} {g o:Nat} {A:List Int} (hc:∀ k,k<A.length->W.cell? ⟨g,o+k,none⟩=some (I6 (A.getD k 0))):∀ j u,(JV A)[j]?=some u->W.cell? ((⟨g,o,none⟩:Addr).add j)=some u:=by
 intro j u hu;rw[List.getElem?_map] at hu
 cases h:A[j]? with
 | none=>rw[h] at hu;cases hu
 | some x =>
  rw[h] at hu;obtain⟨hj,_⟩:=List.getElem?_eq_some_iff.1 h;rw[Addr.add_lit,hc j hj,jJ,h];exact hu
theorem IntsAt.news {W:World} {v:Value} {A:List Int} (h:IntsAt W v A) (h0:0<A.length):∃ g o cap,v=.slice (some ⟨g,o,none⟩) A.length cap/\A.length<=cap/\cap<=maxLen/\g<W.heap.size/\∀ k,k<A.length->W.cell? ⟨g,o+k,none⟩=some (I6 (A.getD k 0)):=by
 rcases h with ⟨_,rfl⟩ | ⟨g,o,cap,hv,h1,h2,hc⟩
 ·
  simp at h0
 ·
  exact⟨g,o,cap,hv,h1,h2,Xk (hc 0 h0),hc⟩
theorem c2t {W:World} {g o a b:Nat} {A:List Int} (hc:∀ k,k<A.length->W.cell? ⟨g,o+k,none⟩=some (I6 (A.getD k 0))) (h:a+b<=A.length):∀ j u,(JV ((A.drop a).take b))[j]?=some u->W.cell? ((⟨g,o+a,none⟩:Addr).add j)=some u:=by
 refine a7x fun k hk=>?_
 have hl:((A.drop a).take b).length=b:=by simp;omega
 rw[hl] at hk;rw[Nat.add_assoc,hc (a+k) (by omega),jJ,jJ,List.getElem?_take_of_lt hk,List.getElem?_drop]
theorem a4d {A:List Int} {n:Sh} (h:n.k≠9):a1h A n=true:=by unfold a1h;rw[jE h];rfl
theorem b1q {A:List Int} {n:Sh} (h : ¬ 0<n.b):a1h A n=true:=by unfold a1h;rw[jE h,Bool.and_false,Bool.false_and];rfl
theorem b6p {A:List Int} {n:Sh} (h9:n.k=9) (h:0<n.b) (hn : ¬ (0<=n.a/\n.a+n.b<=A.length)):a1h A n=false:=by
 cases hx:a1h A n with
 | false=>rfl
 | true=>exact absurd ((a2g _ _).1 hx h9 h) hn
def b1r (A:List Int) (n:Sh) (w:World) (e:Ending) (w':World):Prop:=(∃ r,e=.returned (.tuple #[r,Bv (a1h A n)])/\IntsAt w' r (if a1h A n then Xj A n else []))/\Bl w w'
theorem a5q (u v:Value) (N:List Nd) (A:List Int) (i:Nat) (n:Nd) (w:World) (hN:NodesAt w u N) (hA:IntsAt w v A) (hi:N[i]?=some n) (hl:A.length<=1000) (hl2:N.length<=1000) :
  Cz 73 #[.agg #[u,v],I6 (i:Int)] w (b1r A (qX n) w):=by
 have JY:=Qw;obtain⟨K19,hz19,HK19⟩:=Y9;have hin:=(List.getElem?_eq_some_iff.1 hi).1;obtain⟨bn,cn,rfl,hN2⟩:=hN.slice;obtain⟨gn,on,rfl,hcn⟩:=hN2 i n hi
 have J6:Hid (∀ W,Bl w W->Sem.run Tryz.prog (loadCellsFrom ⟨gn,on+i*K19,none⟩ 0 K19 #[]) W=.ok #[I6 n.k,I6 n.o,I6 n.a,I6 n.b,Bv n.qn,Sg n.qa,Sg n.qd,Sg n.s,Bv n.tr,Sg n.r.sh,I6 n.r.c,I6 n.r.r,Bv n.r.fc,Bv n.r.fr,Sg n.t.sh,I6 n.t.c,I6 n.t.r,Bv n.t.fc,Bv n.t.fr] W):=fun W hW =>
  a0p W gn (on+i*K19) HK19 n (fun j u hu=>by rw[HK19.out];exact q9 hW (hcn j u hu) (Xk (hcn j u hu)))
 obtain⟨Po,hPo⟩:=nM (b1r A (qX n) w);rw[<-hPo];have J5:=zh hPo;have HA:=zh hA;have hB:=Below.refl w.heap.size w;obtain⟨L,hL⟩:=nM N.length;rw[<-hL] at hin hl2 |-
 clear hPo hA hN hN2 hcn hi hL;by_cases h7:n.k=7
 ·
  have g7:(n.k==7)=true:=by simpa using h7
  have HX:Hid (a1h A (qX n)=true):=a4d (n:=qX n) (by show n.k≠9;omega);have HX2:Hid (Xj A (qX n)=[n.a]):=if_pos h7;clear h7;go_enter Tryz.func73,Tryz.ntmps73
  go_upto_region 1 with fail
  obtain⟨s1,F,j6,qY,j8,zF⟩:=qy w (.cells #[.slice (some ⟨gn,on,none⟩) L cn,v] 25);have hN:=Qz (b:=F) j6 qY;have qV:=hN 0 _ rfl;clear hN;have j7:=qQ bR j6;rw[<-j6];try rw[<-qY]
  clear j6 j8 qY;have LN:=J6.out _ j7
  go_upto_region 2 with (refine a0c rfl _ _ rfl rfl _ _ _ rfl rfl rfl (by rfl) (by rfl) (by rfl) ?_)
  obtain⟨s2,X,j6,qw,j8,zX⟩:=qy s1 (.cells (Qk n).toArray 69);have j9:=JW j6;clear j9;have yX:=qZ (b:=X) j6 qw;replace j7:=qQ j7 j6;rw[<-j6];try rw[<-qw]
  clear j6 j8 qw;clear LN;go_wp2_with fail;show Po _ _;rw[J5.out];refine⟨⟨_,by first | (rw[HX.out];done) | (rw[HX.out];rfl),?_⟩,X7 j7⟩
  rw[HX.out,if_pos rfl,HX2.out];exact a5o _ _ _ _ rfl
 have g7:(n.k==7)=false:=by simpa using h7
 by_cases h8:n.k=8
 ·
  have g8:(n.k==8)=true:=by simpa using h8
  have HX:Hid (a1h A (qX n)=true):=a4d (n:=qX n) (by show n.k≠9;omega);have HX2:Hid (Xj A (qX n)=[n.a,n.b]):=(if_neg h7).trans (if_pos h8);clear h7 h8;go_enter Tryz.func73,Tryz.ntmps73
  go_upto_region 1 with fail
  obtain⟨s3,F,j6,qY,j8,zF⟩:=qy w (.cells #[.slice (some ⟨gn,on,none⟩) L cn,v] 25);have hN:=Qz (b:=F) j6 qY;have qV:=hN 0 _ rfl;clear hN;have j7:=qQ bR j6;rw[<-j6];try rw[<-qY]
  clear j6 j8 qY;have LN:=J6.out _ j7
  go_upto_region 2 with (refine a0c rfl _ _ rfl rfl _ _ _ rfl rfl rfl (by rfl) (by rfl) (by rfl) ?_)
  obtain⟨s4,X,j6,qw,j8,zX⟩:=qy s3 (.cells (Qk n).toArray 69);have j9:=JW j6;clear j9;have yX:=qZ (b:=X) j6 qw;replace j7:=qQ j7 j6;rw[<-j6];try rw[<-qw]
  clear j6 j8 qw;clear LN;go_wp2_with fail;show Po _ _;rw[J5.out];refine⟨⟨_,by first | (rw[HX.out];done) | (rw[HX.out];rfl),?_⟩,X7 j7⟩
  rw[HX.out,if_pos rfl,HX2.out];exact b1n _ _ _ _ _ rfl
 have g8:(n.k==8)=false:=by simpa using h8
 by_cases h9:n.k=9
 ·
  have g9:(n.k==9)=true:=by simpa using h9
  have HX2:Hid (Xj A (qX n)=(A.drop n.a.toNat).take n.b.toNat):=(if_neg h7).trans ((if_neg h8).trans (if_pos h9));by_cases hb:0<n.b
  ·
   by_cases hab:0<=n.a/\n.a+n.b<=A.length
   ·
    have HX:Hid (a1h A (qX n)=true):=(a2g A (qX n)).2 (fun _ _=>hab);obtain⟨gv,ov,cv,rfl,hv1,hv2,zv,hvc⟩:=(HA.out).news (by omega);have hvm:A.length<=1000:=hl;obtain⟨a',ha'⟩:∃ a':Nat,n.a=a':=⟨n.a.toNat,by omega⟩;obtain⟨b',hb'⟩:∃ b':Nat,n.b=b':=⟨n.b.toNat,by omega⟩;rw[ha',hb',Int.toNat_natCast,Int.toNat_natCast] at HX2;have hsub:a'+b'<=A.length:=by omega
    have hb1:0<b':=by omega
    have HVC:=zh hvc;have HSUB:=zh hsub;obtain⟨LA,hLA⟩:=nM A.length;rw[<-hLA] at hv1 hsub hvm |-
    have e1:a'<=cv:=by omega
    have e2:a'+b'<=cv:=by omega
    have e3 : ¬ cv=a':=by omega
    have e4:(a':Int)<=LA:=by omega
    have e5:(b':Int)<=LA-a':=by omega
    have e6:(0:Int)<b':=by omega
    obtain⟨i0,hi0,hz0,hz1,hz2⟩:=info_parts Tryz.infoInt;have hk1:(0+b')<=maxLen:=by unfold maxLen;omega
    have hk3:(0+b')*8<=140737488355328:=by omega
    have HLEN:Hid ((JV ((A.drop a').take b')).length=b'*1):=zh <| by rw[List.length_map,List.length_take,List.length_drop];have:=HSUB.out;omega
    obtain⟨k,o,a,b,qn,qa,qd,x,tr,r,t⟩:=n;dsimp only at ha' hb' g7 g8 g9 J6;subst ha' hb';clear h7 h8 h9 hb hab hvc hl hLA;go_enter Tryz.func73,Tryz.ntmps73
    go_upto_region 1 with fail
    obtain⟨s5,F,j6,qY,j8,zF⟩:=qy w (.cells #[.slice (some ⟨gn,on,none⟩) L cn,.slice (some ⟨gv,ov,none⟩) LA cv] 25);have hN:=Qz (b:=F) j6 qY;have qV:=hN 0 _ rfl;have J1:=hN 1 _ rfl;clear hN;have j7:=qQ bR j6;rw[<-j6];try rw[<-qY]
    clear j6 j8 qY;have LN:=J6.out _ j7
    go_upto_region 2 with (refine a0c rfl _ _ rfl rfl _ _ _ rfl rfl rfl (by rfl) (by rfl) (by rfl) ?_)
    obtain⟨s6,X,j6,qw,j8,zX⟩:=qy s5 (.cells #[I6 k,I6 o,I6 (a':Int),I6 (b':Int),Bv qn,Sg qa,Sg qd,Sg x,Bv tr,Sg r.sh,I6 r.c,I6 r.r,Bv r.fc,Bv r.fr,Sg t.sh,I6 t.c,I6 t.r,Bv t.fc,Bv t.fr] 69);have j9:=JW j6;replace J1:=q9 j9 J1 zF;clear j9;have yX:=qZ (b:=X) j6 qw;replace j7:=qQ j7 j6;rw[<-j6];try rw[<-qw]
    clear j6 j8 qw;clear LN;have HNEW:=zh (fun W (hW:Bl w W)=>c2t (W:=W) (g:=gv) (o:=ov) (a:=a') (b:=b') (A:=A) (fun k hk=>q9 hW (HVC.out k hk) zv) HSUB.out);go_wp2_with (at_builtin;(refine wpList_append_own _ rfl _ _ 23 rfl w.heap.size 3 i0 (I6 0) 1 8 Tryz.underlying23 hi0 hz0 hz1 hz2 rfl (by decide) _ _ _ rfl (World.ownsRow_nil _ _ _ _) ⟨gv,ov+a',none⟩ (a'+b'-a') _ (JV ((A.drop a').take b')) rfl (by rw[Nat.add_sub_cancel_left];exact HLEN.out) (HNEW.out _ j7) (ints_oneCell _ _) (by rw[Nat.add_sub_cancel_left];exact hk1) (by rw[Nat.add_sub_cancel_left];exact hk3) j7.size ?_);intro v1 w2 hown1 hgrow1 _);show Po _ _;rw[J5.out];refine⟨⟨_,by first | (rw[HX.out];done) | (rw[HX.out];rfl),?_⟩,j7.grown hgrow1 j7.size (fun q hq=>by cases hq)⟩
    rw[HX.out,if_pos rfl,HX2.out];exact(IntsAt.of_owns (A:=(A.drop a').take b') hown1).2
   ·
    have HX:Hid (a1h A (qX n)=false):=b6p (n:=qX n) h9 hb hab;obtain⟨bv,cv,rfl,_⟩:=HA.out.slice;obtain⟨LA,hLA⟩:=nM A.length;rw[<-hLA] at hab hl |-
    clear h7 h8 h9 hLA HX2;by_cases ha:n.a<0
    ·
     clear hab;go_enter Tryz.func73,Tryz.ntmps73
     go_upto_region 1 with fail
     obtain⟨s7,F,j6,qY,j8,zF⟩:=qy w (.cells #[.slice (some ⟨gn,on,none⟩) L cn,.slice bv LA cv] 25);have hN:=Qz (b:=F) j6 qY;have qV:=hN 0 _ rfl;clear hN;have j7:=qQ bR j6;rw[<-j6];try rw[<-qY]
     clear j6 j8 qY;have LN:=J6.out _ j7
     go_upto_region 2 with (refine a0c rfl _ _ rfl rfl _ _ _ rfl rfl rfl (by rfl) (by rfl) (by rfl) ?_)
     obtain⟨s8,X,j6,qw,j8,zX⟩:=qy s7 (.cells (Qk n).toArray 69);have j9:=JW j6;clear j9;have yX:=qZ (b:=X) j6 qw;replace j7:=qQ j7 j6;rw[<-j6];try rw[<-qw]
     clear j6 j8 qw;clear LN;go_wp2_with fail;show Po _ _;rw[J5.out];refine⟨⟨_,by first | (rw[HX.out];done) | (rw[HX.out];rfl),?_⟩,j7⟩
     rw[HX.out];exact Or.inl ⟨rfl,rfl⟩
    ·
     by_cases ha2:(LA:Int)<n.a
     ·
      have ha:0<=n.a:=by omega
      clear hab;go_enter Tryz.func73,Tryz.ntmps73
      go_upto_region 1 with fail
      obtain⟨s9,F,j6,qY,j8,zF⟩:=qy w (.cells #[.slice (some ⟨gn,on,none⟩) L cn,.slice bv LA cv] 25);have hN:=Qz (b:=F) j6 qY;have qV:=hN 0 _ rfl;have J1:=hN 1 _ rfl;clear hN;have j7:=qQ bR j6;rw[<-j6];try rw[<-qY]
      clear j6 j8 qY;have LN:=J6.out _ j7
      go_upto_region 2 with (refine a0c rfl _ _ rfl rfl _ _ _ rfl rfl rfl (by rfl) (by rfl) (by rfl) ?_)
      obtain⟨s10,X,j6,qw,j8,zX⟩:=qy s9 (.cells (Qk n).toArray 69);have j9:=JW j6;replace J1:=q9 j9 J1 zF;clear j9;have yX:=qZ (b:=X) j6 qw;replace j7:=qQ j7 j6;rw[<-j6];try rw[<-qw]
      clear j6 j8 qw;clear LN;go_wp2_with fail;show Po _ _;rw[J5.out];refine⟨⟨_,by first | (rw[HX.out];done) | (rw[HX.out];rfl),?_⟩,j7⟩
      rw[HX.out];exact Or.inl ⟨rfl,rfl⟩
     ·
      have ha:0<=n.a:=by omega
      have ha2:n.a<=(LA:Int):=by omega
      have ha3:(LA:Int)-n.a<n.b:=by omega
      clear hab;go_enter Tryz.func73,Tryz.ntmps73
      go_upto_region 1 with fail
      obtain⟨s11,F,j6,qY,j8,zF⟩:=qy w (.cells #[.slice (some ⟨gn,on,none⟩) L cn,.slice bv LA cv] 25);have hN:=Qz (b:=F) j6 qY;have qV:=hN 0 _ rfl;have J1:=hN 1 _ rfl;clear hN;have j7:=qQ bR j6;rw[<-j6];try rw[<-qY]
      clear j6 j8 qY;have LN:=J6.out _ j7
      go_upto_region 2 with (refine a0c rfl _ _ rfl rfl _ _ _ rfl rfl rfl (by rfl) (by rfl) (by rfl) ?_)
      obtain⟨s12,X,j6,qw,j8,zX⟩:=qy s11 (.cells (Qk n).toArray 69);have j9:=JW j6;replace J1:=q9 j9 J1 zF;clear j9;have yX:=qZ (b:=X) j6 qw;replace j7:=qQ j7 j6;rw[<-j6];try rw[<-qw]
      clear j6 j8 qw;clear LN;go_wp2_with fail;show Po _ _;rw[J5.out];refine⟨⟨_,by first | (rw[HX.out];done) | (rw[HX.out];rfl),?_⟩,j7⟩
      rw[HX.out];exact Or.inl ⟨rfl,rfl⟩
  ·
   have HX:Hid (a1h A (qX n)=true):=b1q (n:=qX n) hb;have hbn:n.b<=0:=by omega
   have HX3:Hid (Xj A (qX n)=[]):=by rw[HX2.out,show n.b.toNat=0 by omega];rfl
   clear h7 h8 h9 hb;go_enter Tryz.func73,Tryz.ntmps73
   go_upto_region 1 with fail
   obtain⟨s13,F,j6,qY,j8,zF⟩:=qy w (.cells #[.slice (some ⟨gn,on,none⟩) L cn,v] 25);have hN:=Qz (b:=F) j6 qY;have qV:=hN 0 _ rfl;clear hN;have j7:=qQ bR j6;rw[<-j6];try rw[<-qY]
   clear j6 j8 qY;have LN:=J6.out _ j7
   go_upto_region 2 with (refine a0c rfl _ _ rfl rfl _ _ _ rfl rfl rfl (by rfl) (by rfl) (by rfl) ?_)
   obtain⟨s14,X,j6,qw,j8,zX⟩:=qy s13 (.cells (Qk n).toArray 69);have j9:=JW j6;clear j9;have yX:=qZ (b:=X) j6 qw;replace j7:=qQ j7 j6;rw[<-j6];try rw[<-qw]
   clear j6 j8 qw;clear LN;go_wp2_with fail;show Po _ _;rw[J5.out];refine⟨⟨_,by first | (rw[HX.out];done) | (rw[HX.out];rfl),?_⟩,j7⟩
   rw[HX.out,if_pos rfl,HX3.out];exact Or.inl ⟨rfl,rfl⟩
 ·
  have g9:(n.k==9)=false:=by simpa using h9
  have HX:Hid (a1h A (qX n)=true):=a4d (n:=qX n) h9;have HX3:Hid (Xj A (qX n)=[]):=(if_neg h7).trans ((if_neg h8).trans (if_neg h9));clear h7 h8 h9;go_enter Tryz.func73,Tryz.ntmps73
  go_upto_region 1 with fail
  obtain⟨s15,F,j6,qY,j8,zF⟩:=qy w (.cells #[.slice (some ⟨gn,on,none⟩) L cn,v] 25);have hN:=Qz (b:=F) j6 qY;have qV:=hN 0 _ rfl;clear hN;have j7:=qQ bR j6;rw[<-j6];try rw[<-qY]
  clear j6 j8 qY;have LN:=J6.out _ j7
  go_upto_region 2 with (refine a0c rfl _ _ rfl rfl _ _ _ rfl rfl rfl (by rfl) (by rfl) (by rfl) ?_)
  obtain⟨s16,X,j6,qw,j8,zX⟩:=qy s15 (.cells (Qk n).toArray 69);have j9:=JW j6;clear j9;have yX:=qZ (b:=X) j6 qw;replace j7:=qQ j7 j6;rw[<-j6];try rw[<-qw]
  clear j6 j8 qw;clear LN;go_wp2_with fail;show Po _ _;rw[J5.out];refine⟨⟨_,by first | (rw[HX.out];done) | (rw[HX.out];rfl),?_⟩,j7⟩
  rw[HX.out,if_pos rfl,HX3.out];exact Or.inl ⟨rfl,rfl⟩
