import Derived.Test.YtibiacmbljgmhaaGreatDoorCel8
import Derived.Test.YtibiacmbljgmhaaGreatDoorRewa
set_option maxHeartbeats 16000000
set_option maxRecDepth 100000
namespace Go.Proofs.YtibiacmbljgmhaaGreatDoor
open Go.RowKit Go.Shelf
set_option linter.all false
theorem f7s (w:World):Ca 64 #[] w (Y2 Y7):=by
 have JY:=Qw;obtain⟨K19,hz19,HK19⟩:=Y9;go_enter Tryz.func64,Tryz.ntmps64;go_wp2_with (refine a0c rfl _ _ rfl rfl (Qk Y7).toArray _ _ rfl rfl (by rfl) (by rfl) (by rfl) (by rfl) ?_);have LX:=a3o (W:=w.alloc (.cells (Qk Y7).toArray 69)) (g:=w.heap.size) (t:=69) (fr:=(0,0)) HK19 Y7 (by rw[<-World.alloc_eq];show (w.heap.push _)[w.heap.size]?=_;simp);refine jU (v:=Y2 Y7) (by simp[results,Tryz.results64,go_sem,hz19,LX]) rfl ⟨rfl,(Below.refl _ _).alloc (jC _) _⟩
theorem f7v (r:Rf) (ok:Bool) (w:World):Ca 32 #[.agg #[Sg r.sh,I6 r.c,I6 r.r,Bv r.fc,Bv r.fr],Bv ok] w (Y2 (e9t r ok)):=by
 have JY:=Qw;obtain⟨K19,hz19,HK19⟩:=Y9;have HL:=zh f7s
 cases ok with
 | true =>
  show Calls _ _ _ _ fun e w'=>e=.returned (Y2 ⟨5,0,0,0,false,⟨#[]⟩,⟨#[]⟩,⟨#[]⟩,false,r,Jj⟩)/\Bl w w'
  go_enter Tryz.func32,Tryz.ntmps32
  go_upto_region 1 with fail
  obtain⟨s1,A,Y,j6,jz,Qy,j8,zA,zY⟩:=YJ w (.cells #[Sg r.sh,I6 r.c,I6 r.r,Bv r.fc,Bv r.fr] 67) (.cells #[I6 0,I6 0,I6 0,I6 0,Bv false,S0,S0,S0,Bv false,S0,I6 0,I6 0,Bv false,Bv false,S0,I6 0,I6 0,Bv false,Bv false] 69);have yA:=Y4 (b:=A) j6 jz;have rY:s1.heap[Y]?=some (.cells #[I6 0,I6 0,I6 0,I6 0,Bv false,S0,S0,S0,Bv false,S0,I6 0,I6 0,Bv false,Bv false,S0,I6 0,I6 0,Bv false,Bv false] 69 (0,0)):=by have h:=heap_alloc_new (w.alloc (.cells #[Sg r.sh,I6 r.c,I6 r.r,Bv r.fc,Bv r.fr] 67)) (.cells #[I6 0,I6 0,I6 0,I6 0,Bv false,S0,S0,S0,Bv false,S0,I6 0,I6 0,Bv false,Bv false,S0,I6 0,I6 0,Bv false,Bv false] 69);rw[j6];simpa [jz,Qy] using h
  have lY:w.heap.size<=Y:=by omega
  have j7:=Yz bR j6;rw[<-j6];try rw[<-Qy]
  try rw[<-jz]
  clear j6 j8 jz Qy;have rY2:s1.heap[Y]?=_:=(by assumption);go_wp2_with (refine a1d rfl _ _ rfl rfl Y ⟨5,0,0,0,false,⟨#[]⟩,⟨#[]⟩,⟨#[]⟩,false,r,Jj⟩ _ _ rfl (by rfl) rY2 (by rfl) ?_);have LY:=a3o (W:=s1.setRow Y (Qk ⟨5,0,0,0,false,⟨#[]⟩,⟨#[]⟩,⟨#[]⟩,false,r,Jj⟩).toArray) HK19 ⟨5,0,0,0,false,⟨#[]⟩,⟨#[]⟩,⟨#[]⟩,false,r,Jj⟩ (setRow_heap _ Y _ _ _ _ rY2);refine jU (v:=Y2 ⟨5,0,0,0,false,⟨#[]⟩,⟨#[]⟩,⟨#[]⟩,false,r,Jj⟩) (by simp[results,Tryz.results32,go_sem,hz19,LY]) rfl ⟨rfl,a2v j7 j7.size lY⟩
 | false =>
  show Calls _ _ _ _ fun e w'=>e=.returned (Y2 Y7)/\Bl w w'
  go_enter Tryz.func32,Tryz.ntmps32
  go_upto_region 1 with fail
  obtain⟨s2,A,Y,j6,jz,Qy,j8,zA,zY⟩:=YJ w (.cells #[Sg r.sh,I6 r.c,I6 r.r,Bv r.fc,Bv r.fr] 67) (.cells #[I6 0,I6 0,I6 0,I6 0,Bv false,S0,S0,S0,Bv false,S0,I6 0,I6 0,Bv false,Bv false,S0,I6 0,I6 0,Bv false,Bv false] 69);have rY:s2.heap[Y]?=some (.cells #[I6 0,I6 0,I6 0,I6 0,Bv false,S0,S0,S0,Bv false,S0,I6 0,I6 0,Bv false,Bv false,S0,I6 0,I6 0,Bv false,Bv false] 69 (0,0)):=by have h:=heap_alloc_new (w.alloc (.cells #[Sg r.sh,I6 r.c,I6 r.r,Bv r.fc,Bv r.fr] 67)) (.cells #[I6 0,I6 0,I6 0,I6 0,Bv false,S0,S0,S0,Bv false,S0,I6 0,I6 0,Bv false,Bv false,S0,I6 0,I6 0,Bv false,Bv false] 69);rw[j6];simpa [jz,Qy] using h
  have lY:w.heap.size<=Y:=by omega
  have j7:=Yz bR j6;rw[<-j6];try rw[<-Qy]
  try rw[<-jz]
  clear j6 j8 jz Qy;go_wp2_with fail;refine jy (HL.out _) fun w5 hb=>?_
  have rY2:w5.heap[Y]?=_:=(hb.block Y zY).trans rY;replace j7:=X4 j7 hb;clear hb;go_wp2_with (refine a1d rfl _ _ rfl rfl Y Y7 _ _ rfl (by rfl) rY2 (by rfl) ?_);have LY:=a3o (W:=w5.setRow Y (Qk Y7).toArray) HK19 Y7 (setRow_heap _ Y _ _ _ _ rY2);refine jU (v:=Y2 Y7) (by simp[results,Tryz.results32,go_sem,hz19,LY]) rfl ⟨rfl,a2v j7 j7.size lY⟩
theorem f7w (a b:Rf) (ok:Bool) (w:World):Ca 33 #[.agg #[Sg a.sh,I6 a.c,I6 a.r,Bv a.fc,Bv a.fr],.agg #[Sg b.sh,I6 b.c,I6 b.r,Bv b.fc,Bv b.fr],Bv ok] w (Y2 (e8h a b ok)):=by
 have JY:=Qw;obtain⟨K19,hz19,HK19⟩:=Y9;have HL:=zh f7s;have hO:=fun w=>e0z a b w
 obtain⟨md,hmd⟩:=nM (e8h a b ok);rw[<-hmd];unfold e8h at hmd;generalize X5 a b=o at *;obtain⟨⟨xn,xc,xr,xf,xg⟩,⟨yn,yc,yr,yf,yg⟩⟩:=o;dsimp only at hO hmd;generalize a8z xc xr yc yr=ne at *;obtain⟨an,ac,ar,af,ag⟩:=a;obtain⟨bn,bc,br,bf,bg⟩:=b;dsimp only at hO |-
 have HO:=zh hO;have HMD:=zh hmd;clear hO hmd;go_enter Tryz.func33,Tryz.ntmps33
 go_upto_region 1 with fail
 obtain⟨s3,A,B,Y,j6,jz,J7,Qy,j8,zA,zB,zY⟩:=nm3 w (.cells #[Sg an,I6 ac,I6 ar,Bv af,Bv ag] 67) (.cells #[Sg bn,I6 bc,I6 br,Bv bf,Bv bg] 67) (.cells #[I6 0,I6 0,I6 0,I6 0,Bv false,S0,S0,S0,Bv false,S0,I6 0,I6 0,Bv false,Bv false,S0,I6 0,I6 0,Bv false,Bv false] 69);have yA:=by2 (b:=A) j6 jz;have yB:=Y4 (b:=B) j6 (by simp[J7]);have rY:s3.heap[Y]?=some (.cells #[I6 0,I6 0,I6 0,I6 0,Bv false,S0,S0,S0,Bv false,S0,I6 0,I6 0,Bv false,Bv false,S0,I6 0,I6 0,Bv false,Bv false] 69 (0,0)):=by have h:=heap_alloc_new ((w.alloc (.cells #[Sg an,I6 ac,I6 ar,Bv af,Bv ag] 67)).alloc (.cells #[Sg bn,I6 bc,I6 br,Bv bf,Bv bg] 67)) (.cells #[I6 0,I6 0,I6 0,I6 0,Bv false,S0,S0,S0,Bv false,S0,I6 0,I6 0,Bv false,Bv false,S0,I6 0,I6 0,Bv false,Bv false] 69);rw[j6];simpa [jz,J7,Qy] using h
 have lY:w.heap.size<=Y:=by omega
 have j7:=bs3 bR j6;rw[<-j6];try rw[<-Qy]
 try rw[<-J7]
 try rw[<-jz]
 clear j6 j8 jz J7 Qy;go_wp2_with fail;refine jy (HO.out _) fun w8 hb=>?_
 have rY8:w8.heap[Y]?=_:=(hb.block Y zY).trans rY;clear rY;replace zY:=jw hb zY;replace j7:=X4 j7 hb;clear hb;have zY8:=zY
 go_upto_region 2 with fail
 obtain⟨s4,P,Q,j6,hdP,hdQ,j8,zP,zQ⟩:=YJ w8 (.cells #[Sg xn,I6 xc,I6 xr,Bv xf,Bv xg] 67) (.cells #[Sg yn,I6 yc,I6 yr,Bv yf,Bv yg] 67);have j9:=up2 j6;have hAP:w8.heap.size<=P:=by omega
 have hAQ:w8.heap.size<=Q:=by omega
 replace zY:=jw j9 zY;have yP:=Y4 (b:=P) j6 hdP;have yQ:=qZ (b:=Q) j6 (by simp[hdQ]);replace j7:=Yz j7 j6;rw[<-j6];try rw[<-hdQ]
 try rw[<-hdP]
 clear j6 j8 hdP hdQ;have rY9:s4.heap[Y]?=_:=(j9.block Y zY8).trans rY8;clear j9 rY8 zY8
 cases ok with
 | false =>
  have hm:md=Y7:=HMD.out.trans (if_neg (by simp));go_wp2_with fail;refine jy (HL.out _) fun w9 hb=>?_
  have rY2:w9.heap[Y]?=_:=(hb.block Y zY).trans rY9;replace j7:=X4 j7 hb;clear hb;go_wp2_with (refine a1d rfl _ _ rfl rfl Y Y7 _ _ rfl (by rfl) rY2 (by rfl) ?_);have LY:=a3o (W:=w9.setRow Y (Qk Y7).toArray) HK19 Y7 (setRow_heap _ Y _ _ _ _ rY2);refine jU (v:=Y2 Y7) (by simp[results,Tryz.results33,go_sem,hz19,LY]) rfl ⟨by first | rfl | rw[hm],a2v j7 j7.size lY⟩
 | true =>
  by_cases hne:ne=0
  ·
   have hx:(ne != 0)=false:=by simpa using hne
   have hm:=HMD.out.trans ((if_pos rfl).trans (if_pos hne));clear hne;have rY2:=rY9;go_wp2_with (refine a1d rfl _ _ rfl rfl Y ⟨6,0,0,0,false,⟨#[]⟩,⟨#[]⟩,⟨#[]⟩,false,⟨xn,xc,xr,xf,xg⟩,⟨yn,yc,yr,yf,yg⟩⟩ _ _ rfl (by rfl) rY2 (by rfl) ?_);have LY:=a3o (W:=s4.setRow Y (Qk ⟨6,0,0,0,false,⟨#[]⟩,⟨#[]⟩,⟨#[]⟩,false,⟨xn,xc,xr,xf,xg⟩,⟨yn,yc,yr,yf,yg⟩⟩).toArray) HK19 ⟨6,0,0,0,false,⟨#[]⟩,⟨#[]⟩,⟨#[]⟩,false,⟨xn,xc,xr,xf,xg⟩,⟨yn,yc,yr,yf,yg⟩⟩ (setRow_heap _ Y _ _ _ _ rY2);refine jU (v:=Y2 ⟨6,0,0,0,false,⟨#[]⟩,⟨#[]⟩,⟨#[]⟩,false,⟨xn,xc,xr,xf,xg⟩,⟨yn,yc,yr,yf,yg⟩⟩) (by simp[results,Tryz.results33,go_sem,hz19,LY]) rfl ⟨by first | rfl | rw[hm],a2v j7 j7.size lY⟩
  ·
   have hx:(ne != 0)=true:=by simpa using hne
   have hm:=HMD.out.trans ((if_pos rfl).trans (if_neg hne));clear hne;go_wp2_with fail;refine jy (HL.out _) fun w9 hb=>?_
   have rY2:w9.heap[Y]?=_:=(hb.block Y zY).trans rY9;replace j7:=X4 j7 hb;clear hb;go_wp2_with (refine a1d rfl _ _ rfl rfl Y Y7 _ _ rfl (by rfl) rY2 (by rfl) ?_);have LY:=a3o (W:=w9.setRow Y (Qk Y7).toArray) HK19 Y7 (setRow_heap _ Y _ _ _ _ rY2);refine jU (v:=Y2 Y7) (by simp[results,Tryz.results33,go_sem,hz19,LY]) rfl ⟨by first | rfl | rw[hm],a2v j7 j7.size lY⟩
-- (a region told a7i by a7i: %%hwalk)
set_option maxHeartbeats 8000000
theorem f9y (own sheet:jW) (n:Nd) (w:World):Ca 40 #[Y2 n,Sg own,Sg sheet] w (Bv (f1l own sheet n)):=by
 have JY:=Qw;obtain⟨K19,hz19,HK19⟩:=Y9;obtain⟨R,hR⟩:=nM (f1l own sheet n);rw[<-hR];unfold f1l e6j at hR;obtain⟨k,o,a,b,qn,qa,qd,x,tr,⟨rs,rc,rr,rf,rg⟩,t⟩:=n;dsimp only at hR |-
 by_cases h5:k=5
 case neg =>
  have g5:(k==5)=false:=by simpa using h5
  have g5b:(k != 5)=true:=by simpa using h5
  rw[g5] at hR;by_cases h6:k=6
  case neg =>
   have g6:(k==6)=false:=by simpa using h6
   have g6b:(k != 6)=true:=by simpa using h6
   rw[g6] at hR;have HR:=zh hR;clear hR h5 h6;go_enter Tryz.func40,Tryz.ntmps40
   go_upto_region 1 with fail
   obtain⟨s1,A,j6,jz,j8,zA⟩:=qy w (.cells #[I6 k,I6 o,I6 a,I6 b,Bv qn,Sg qa,Sg qd,Sg x,Bv tr,Sg rs,I6 rc,I6 rr,Bv rf,Bv rg,Sg t.sh,I6 t.c,I6 t.r,Bv t.fc,Bv t.fr] 69);have yA:=qZ (b:=A) j6 jz;have j7:=qQ bR j6;rw[<-j6];try rw[<-jz]
   clear j6 j8 jz;go_wp2
   go_ret
   exact⟨J4 HR.out.symm,j7⟩
  have g6:(k==6)=true:=by simpa using h6
  have g6b:(k != 6)=false:=by simpa using h6
  rw[g6] at hR
  cases h1:(rs.toList==sheet.toList)<;>cases h2:rs.toList.isEmpty<;>cases h3:(own.toList==sheet.toList)
  all_goals
   rw[h1,h2,h3] at hR;have HR:=zh hR;clear hR h5 h6;go_enter Tryz.func40,Tryz.ntmps40
   go_upto_region 1 with fail
   obtain⟨s2,A,j6,jz,j8,zA⟩:=qy w (.cells #[I6 k,I6 o,I6 a,I6 b,Bv qn,Sg qa,Sg qd,Sg x,Bv tr,Sg rs,I6 rc,I6 rr,Bv rf,Bv rg,Sg t.sh,I6 t.c,I6 t.r,Bv t.fc,Bv t.fr] 69);have yA:=qZ (b:=A) j6 jz;have j7:=qQ bR j6;rw[<-j6];try rw[<-jz]
   clear j6 j8 jz;go_wp2
   go_ret
   exact⟨J4 HR.out.symm,j7⟩
 have g5:(k==5)=true:=by simpa using h5
 have g5b:(k != 5)=false:=by simpa using h5
 rw[g5] at hR
 cases h1:(rs.toList==sheet.toList)<;>cases h2:rs.toList.isEmpty<;>cases h3:(own.toList==sheet.toList)
 all_goals
  rw[h1,h2,h3] at hR;have HR:=zh hR;clear hR h5;go_enter Tryz.func40,Tryz.ntmps40
  go_upto_region 1 with fail
  obtain⟨s3,A,j6,jz,j8,zA⟩:=qy w (.cells #[I6 k,I6 o,I6 a,I6 b,Bv qn,Sg qa,Sg qd,Sg x,Bv tr,Sg rs,I6 rc,I6 rr,Bv rf,Bv rg,Sg t.sh,I6 t.c,I6 t.r,Bv t.fc,Bv t.fr] 69);have yA:=qZ (b:=A) j6 jz;have j7:=qQ bR j6;rw[<-j6];try rw[<-jz]
  clear j6 j8 jz;go_wp2
  go_ret
  exact⟨J4 HR.out.symm,j7⟩
set_option maxHeartbeats 16000000
def g1c (t0:World) (own sheet:jW) (N:List Nd) (r:Value) (wr:World):Prop:=∃ k:Nat,k<=N.length/\r=I6 k/\(∀ (j:Nat) (n:Nd),j<k->N[j]?=some n->f1l own sheet n=false)/\Bl t0 wr
theorem g0z {own sheet:jW} {N:List Nd} (h:∀ (j:Nat) (n:Nd),N[j]?=some n->f1l own sheet n=false):e0q own sheet N=false:=by
 cases hx:e0q own sheet N with
 | false=>rfl
 | true =>
  obtain⟨n,hn,ht⟩:=List.any_eq_true.1 (show N.any (f1l own sheet)=true from hx);obtain⟨j,hj⟩:=List.getElem?_of_mem hn;rw[h j n hj] at ht
  cases ht
theorem g0t {own sheet:jW} {N:List Nd} {j:Nat} {n:Nd} (h:N[j]?=some n) (ht:f1l own sheet n=true):e0q own sheet N=true :=
 List.any_eq_true.2 ⟨n,List.mem_of_getElem? h,ht⟩
theorem g0d (u v:Value) (N:List Nd) (A:List Int) (own sheet:jW) (w:World) (hN:NodesAt w u N) (hA:IntsAt w v A) (hf:∀ n ∈ N,J8 n) (hl:A.length<=1000) (hl2:N.length<=1000) :
  Ca 17 #[.agg #[u,v],Sg own,Sg sheet] w (Bv (Yw N A&&e0q own sheet N)):=by
 have JY:=Qw;obtain⟨K19,hz19,HK19⟩:=Y9;have hr:=fun w hN hA=>a3t u v N A w hN hA hf hl hl2
 have HT:=zh (fun n w=>f9y own sheet n w);have HN:=zh hN;have HA:=zh hA;obtain⟨bq,cq,rfl,_⟩:=hN.slice;obtain⟨R,hR⟩:=nM ((Yw N A&&e0q own sheet N));rw[<-hR]
 cases h:Yw N A
 all_goals
  rw[h] at hr hR;have HRT:=zh hr;have HR:=zh hR
 all_goals
  have HGE:Hid (∀ k,k<N.length->∃ n,N[k]?=some n):=fun k h=>⟨_,jH h⟩
  obtain⟨LN,hLN⟩:=nM N.length;rw[<-hLN] at HRT HGE hl2 |-
  have J6:=zh hLN;clear hr hR hN hA hf h hLN
 ·
  go_enter Tryz.func17,Tryz.ntmps17
  go_upto_region 1 with fail
  obtain⟨s1,F,j6,qY,j8,zF⟩:=qy w (.cells #[.slice bq LN cq,v] 25);have hN:=Qz (b:=F) j6 qY;have qV:=hN 0 _ rfl;have J1:=hN 1 _ rfl;clear hN;have j7:=qQ bR j6;rw[<-j6];try rw[<-qY]
  clear j6 j8 qY;go_wp2_with fail;refine jy (HRT.out _ (by rw[J6.out];exact HN.out.below j7) (HA.out.below j7)) fun w5 hb=>?_
  replace j7:=X4 j7 hb;clear hb;go_wp2
  go_ret
  exact⟨J4 HR.out.symm,j7⟩
 ·
  go_enter Tryz.func17,Tryz.ntmps17
  go_upto_region 1 with fail
  obtain⟨s2,F,j6,qY,j8,zF⟩:=qy w (.cells #[.slice bq LN cq,v] 25);have hN:=Qz (b:=F) j6 qY;have qV:=hN 0 _ rfl;have J1:=hN 1 _ rfl;clear hN;have j7:=qQ bR j6;rw[<-j6];try rw[<-qY]
  clear j6 j8 qY;go_wp2_with fail;refine jy (HRT.out _ (by rw[J6.out];exact HN.out.below j7) (HA.out.below j7)) fun w5 hb=>?_
  replace qV:=q9 hb qV zF;replace zF:=jw hb zF;replace j7:=X4 j7 hb;clear hb;go_wp2_with fail;have HZ:Hid (∀ W,Bl w5 W->Bl w W):=fun W h=>bT j7 h
  have HF1:Hid (∀ W,Bl w5 W->W.cell? ⟨F,0,none⟩=some (.slice bq LN cq)):=fun W h=>q9 h qV zF
  obtain⟨t0,ht0⟩:=nM w5;rw[<-ht0] at HZ HF1 qV zF j7 |-
  clear ht0 J1
  go_loopw [7] (g1c t0 own sheet N) (fun r _=>LN-(intOf r).toNat)
  case atStart=>exact⟨0,Nat.zero_le _,rfl,fun j n h=>absurd h (Nat.not_lt_zero j),Below.refl _ _⟩
  case round =>
   obtain⟨k,hk,rfl,hall,hW⟩:=hrel;rw[<-J6.out] at hk;have HAL:=zh hall;have HW:=zh hW;have j7:=HZ.out _ hW;have qV:=HF1.out _ hW;clear hall hW;by_cases hlt:k<LN
   ·
    obtain⟨n,hn⟩:=HGE.out k hlt;obtain⟨bz,cz,hq,hcs⟩:=(HN.out.below j7).slice;obtain⟨gn,om,rfl,hcn⟩:=hcs k n hn;obtain⟨rfl,-,-⟩:(bq=some ⟨gn,om,none⟩)/\N.length=N.length/\cq=cz:=by simpa using hq
    have LN0:=a0p wr gn (om+k*K19) HK19 n (fun j u hu=>by rw[HK19.out];exact hcn j u hu);have HN0:=zh hn;have ht:=fun w=>HT.out n w
    clear hcn hcs hq hn
    cases htn:f1l own sheet n with
    | false =>
     rw[htn] at ht;have HTN:=zh ht;have HT0:=zh htn;clear ht htn;go_wp2_with fail;refine jy (HTN.out _) fun w6 hb=>?_
     have HW6:Hid (Bl t0 w6):=HW.out.trans (hb.mono HW.out.size);clear hb;go_wp2
     go_roundw
     case rel=>exact⟨k+1,by rw[<-J6.out];omega,by go_num,fun j m hj hm=>by
      by_cases e:j=k
      ·
       subst e;rw[HN0.out] at hm;rw[<-jA hm];exact HT0.out
      ·
       exact HAL.out j m (by omega) hm,HW6.out⟩
     case measure=>simp[intOf];omega
    | true =>
     rw[htn] at ht;have HTN:=zh ht;have HR0:Hid (R=true):=zh (by rw[HR.out,g0t HN0.out htn];rfl);clear ht htn;go_wp2_with fail;refine jy (HTN.out _) fun w6 hb=>?_
     replace j7:=bT j7 hb;go_wp2
     go_ret
     exact⟨J4 HR0.out.symm,j7⟩
   ·
    obtain rfl:k=LN:=by omega
    have HR0:Hid (R=false):=zh (by rw[HR.out,g0z (fun j n hn=>HAL.out j n (by rw[J6.out];exact(List.getElem?_eq_some_iff.1 hn).1) hn)];rfl);go_wp2
    go_ret
    exact⟨J4 HR0.out.symm,j7⟩
set_option maxHeartbeats 64000000
-- (a region told a7i by a7i: %%hwalk)
def g0h (own sheet:jW) (fo:Nd->Rf × Bool) (fb:Nd->Rf × Rf × Bool) (n:Nd):Nd:=if f1l own sheet n=true then e2a fo fb n else n
def dcQ (own sheet:jW) (way a n:Int) (fo:Nd->Rf × Bool) (fb:Nd->Rf × Rf × Bool) (N:List Nd) (A:List Int):List Nd × List Int × Int:=if Yw N A=false then ([],[],3) else if YY way a n=false then ([],[],2) else (N.map (g0h own sheet fo fb),A,0)
theorem g1a {way a n L:Int} (h:L=if way=1 then 99 else 52):(!YY way a n)=(decide (way<0) || (decide (1<way) || (decide (a<1) || (decide (L<a) || (decide (n<1) || decide (L<n)))))):=by
 rw[Bool.eq_iff_iff];unfold YY Yx;simp only[Bool.not_eq_true',Bool.and_eq_false_iff,Bool.or_eq_true,decide_eq_true_eq,decide_eq_false_iff_not]
 split at h<;>(subst h;(repeat' split)<;>omega)
theorem f9u (inn:Bool) (K1 K2:Nat) (hK:(inn=true->K1=41/\K2=43)/\(inn=false->K1=42/\K2=44)) (own sheet:jW) (way a n:Int) (fo:Nd->Rf × Bool) (fb:Nd->Rf × Rf × Bool) (u v:Value) (N:List Nd) (A:List Int) (w:World) (hN:NodesAt w u N) (hA:IntsAt w v A) (hf:∀ n ∈ N,J8 n) (hl:A.length<=1000) (hl2:N.length<=1000)
  (h1:Yw N A=true->YY way a n=true->∀ m ∈ N,m.k=5->∀ w,Ca K1 #[.agg #[Sg m.r.sh,I6 m.r.c,I6 m.r.r,Bv m.r.fc,Bv m.r.fr],I6 way,I6 a,I6 n] w (.tuple #[.agg #[Sg ((fo m).1).sh,I6 ((fo m).1).c,I6 ((fo m).1).r,Bv ((fo m).1).fc,Bv ((fo m).1).fr],Bv (fo m).2]))
  (h2:Yw N A=true->YY way a n=true->∀ m ∈ N,m.k=6->∀ w,Ca K2 #[.agg #[Sg m.r.sh,I6 m.r.c,I6 m.r.r,Bv m.r.fc,Bv m.r.fr],.agg #[Sg m.t.sh,I6 m.t.c,I6 m.t.r,Bv m.t.fc,Bv m.t.fr],I6 way,I6 a,I6 n] w (.tuple #[.agg #[Sg ((fb m).1).sh,I6 ((fb m).1).c,I6 ((fb m).1).r,Bv ((fb m).1).fc,Bv ((fb m).1).fr],.agg #[Sg ((fb m).2.1).sh,I6 ((fb m).2.1).c,I6 ((fb m).2.1).r,Bv ((fb m).2.1).fc,Bv ((fb m).2.1).fr],Bv (fb m).2.2])) :
  Cz 14 #[.agg #[u,v],Sg own,Sg sheet,I6 way,I6 a,I6 n,Bv inn] w (d8s (dcQ own sheet way a n fo fb N A).1 (dcQ own sheet way a n fo fb N A).2.1 (dcQ own sheet way a n fo fb N A).2.2 w):=by
 have JY:=Qw;obtain⟨K19,hz19,HK19⟩:=Y9;have hr:=fun w hN hA=>a3t u v N A w hN hA hf hl hl2
 have HCP:=zh (fun w hN hA=>e1v u v N A w hN hA (by omega) (by omega));have HTO:=zh (fun n w=>f9y own sheet n w);have HH1:=zh h1;have HH2:=zh h2;have HKK:=zh hK;have HN:=zh hN;have HA:=zh hA;clear h1 h2 hK;obtain⟨Po,hPo⟩:=nM (d8s (dcQ own sheet way a n fo fb N A).1 (dcQ own sheet way a n fo fb N A).2.1 (dcQ own sheet way a n fo fb N A).2.2 w);rw[<-hPo]
 cases hR:Yw N A with
 | false =>
  rw[hR] at hr;have HR:=zh hr;have J5:Hid (Po=d8s [] [] 3 w):=zh (hPo.trans (by unfold dcQ;rw[if_pos hR]));clear hr hR hN hA hf hPo;go_enter Tryz.func14,Tryz.ntmps14
  go_upto_region 1 with fail
  obtain⟨s1,F,R,j6,qY,Xq,j8,zF,zR⟩:=YJ w (.cells #[u,v] 25) (.cells #[.slice none 0 0,.slice none 0 0] 25);have hN:=bx1 (b:=F) j6 qY;have qV:=hN 0 _ rfl;have J1:=hN 1 _ rfl;clear hN;have hN:=Qz (b:=R) j6 (by simp[Xq]);have hM:=Qq (b:=R) j6 (by simp[Xq]);have J3:=hN 0 _ rfl;have J2:=hN 1 _ rfl;have XJ:=hM 0;have Q7:=hM 1;clear hN hM;have lR:w.heap.size<=R:=by omega
  have j7:=Yz bR j6;rw[<-j6];try rw[<-Xq]
  try rw[<-qY]
  clear j6 j8 qY Xq;go_wp2_with fail;refine jy (HR.out _ (HN.out.below j7) (HA.out.below j7)) fun w5 hb=>?_
  replace qV:=q9 hb qV zF;replace J1:=q9 hb J1 zF;replace zF:=jw hb zF;replace J3:=q9 hb J3 zR;replace J2:=q9 hb J2 zR;replace XJ:=QW hb XJ zR;replace Q7:=QW hb Q7 zR;replace zR:=jw hb zR;replace j7:=X4 j7 hb;clear hb;go_wp2_with fail;refine jU (v:=.tuple #[.agg #[.slice none 0 0,.slice none 0 0],I6 3]) (by simp[results,Tryz.results14,go_sem,J3,J2,XJ,Q7,zR]) rfl ?_;rw[J5.out];exact e4s (sc2 j7 lR)
 | true =>
  have hS:=b3v hR;rw[hR] at hr;have HR:=zh hr;have J5:Hid (Po=d8s (dcQ own sheet way a n fo fb N A).1 (dcQ own sheet way a n fo fb N A).2.1 (dcQ own sheet way a n fo fb N A).2.2 w):=zh hPo;have HRR:=zh hR;have HGE:Hid (∀ k,k<N.length->∃ n,N[k]?=some n):=fun k h=>⟨_,jH h⟩
  obtain⟨LN,hLN⟩:=nM N.length;obtain⟨LA,hLA⟩:=nM A.length;have hl3:=hS.1;rw[<-hLN] at HGE hl2 hl3;rw[<-hLA] at hl;have J6:=zh hLN;have QZ:=zh hLA;clear hr hR hN hA hf hPo hS hLN hLA;go_enter Tryz.func14,Tryz.ntmps14
  go_upto_region 1 with fail
  obtain⟨s2,F,R,j6,qY,Xq,j8,zF,zR⟩:=YJ w (.cells #[u,v] 25) (.cells #[.slice none 0 0,.slice none 0 0] 25);have hN:=bx1 (b:=F) j6 qY;have qV:=hN 0 _ rfl;have J1:=hN 1 _ rfl;clear hN;have lF:w.heap.size<=F:=by omega
  have hN:=Qz (b:=R) j6 (by simp[Xq]);have hM:=Qq (b:=R) j6 (by simp[Xq]);have J3:=hN 0 _ rfl;have J2:=hN 1 _ rfl;have XJ:=hM 0;have Q7:=hM 1;clear hN hM;have lR:w.heap.size<=R:=by omega
  have j7:=Yz bR j6;rw[<-j6];try rw[<-Xq]
  try rw[<-qY]
  clear j6 j8 qY Xq;go_wp2_with fail;refine jy (HR.out _ (HN.out.below j7) (HA.out.below j7)) fun w5 hb=>?_
  replace qV:=q9 hb qV zF;replace J1:=q9 hb J1 zF;replace zF:=jw hb zF;replace J3:=q9 hb J3 zR;replace J2:=q9 hb J2 zR;replace XJ:=QW hb XJ zR;replace Q7:=QW hb Q7 zR;replace zR:=jw hb zR;replace j7:=X4 j7 hb;clear hb;obtain⟨L,hL⟩:∃ L:Int,L=if way=1 then 99 else 52:=⟨_,rfl⟩
  have HL:=zh hL;clear hL
  go_upto_if 35 with fail
  go_cut [16] (fun v wx=>v=I6 L/\wx=w5)
  case first =>
   by_cases e1:way=1
   ·
    have g1:(way==1)=true:=by simpa using e1
    have e2:=HL.out.trans (if_pos e1);clear e1;go_wp2
    go_meet
    exact⟨by rw[e2],rfl⟩
   ·
    have g1:(way==1)=false:=by simpa using e1
    have e2:=HL.out.trans (if_neg e1);clear e1;go_wp2
    go_meet
    exact⟨by rw[e2],rfl⟩
  obtain⟨rfl,hwc⟩:=hcut;rw[hwc];clear hwc wc;have hmb:(!YY way a n)=(decide (way<0) || (decide (1<way) || (decide (a<1) || (decide (L<a) || (decide (n<1) || decide (L<n)))))):=g1a HL.out
  obtain⟨M,hM⟩:=nM (YY way a n);rw[<-hM] at hmb;have HM:=zh hM;clear hM
  go_upto_region 6 with fail
  go_cut [59] (fun v wx=>v=Bv (!M)/\wx=w5)
  case first =>
   cases h1:decide (way<0)<;>cases h2:decide (1<way)<;>cases h3:decide (a<1)<;>cases h4:decide (L<a)<;>cases h5:decide (n<1)<;>cases h6:decide (L<n)
   all_goals
    rw[h1,h2,h3,h4,h5,h6] at hmb;have HMB:=zh hmb;clear hmb;go_wp2
    go_meet
    exact⟨by rw[HMB.out];rfl,rfl⟩
  obtain⟨rfl,hwc⟩:=hcut;rw[hwc];clear hwc wc hmb
  cases M with
  | false =>
   go_wp2_with fail;refine jU (v:=.tuple #[.agg #[.slice none 0 0,.slice none 0 0],I6 2]) (by simp[results,Tryz.results14,go_sem,J3,J2,XJ,Q7,zR]) rfl ?_;rw[J5.out];unfold dcQ;rw[if_neg (by rw[HRR.out];simp),if_pos HM.out.symm];exact e4s (sc2 j7 lR)
  | true =>
  go_wp2_with fail;have HZ:Hid (∀ W,Below (w5.heap.size) w5 W->Bl w W):=fun W h=>bT j7 h
  have HR1:Hid (∀ W,Below (w5.heap.size) w5 W->W.cell? ⟨R,0,none⟩=some (.slice none 0 0)/\W.cell? ⟨R,1,none⟩=some (.slice none 0 0)/\W.frozen? ⟨R,0,none⟩=false/\W.frozen? ⟨R,1,none⟩=false):=fun W h=>⟨(h.cell (p:=⟨R,0,none⟩) zR).trans J3,(h.cell (p:=⟨R,1,none⟩) zR).trans J2,(h.frozen (p:=⟨R,0,none⟩) zR).trans XJ,(h.frozen (p:=⟨R,1,none⟩) zR).trans Q7⟩
  have HLR:=zh lR;have HR6:=zh zR;refine(HCP.out _ (HN.out.below j7) (HA.out.below j7)).mono ?_;rintro e w7 ⟨⟨us,vs,rfl,ho1,ho2,huv⟩,hb⟩;rw[<-J6.out] at ho1;rw[<-QZ.out] at ho2;obtain⟨g,on,cap,rfl,HON⟩:=e1d ho1 hl3;obtain⟨ba,ca,rfl⟩:=a0l ho2;have HO1:=zh ho1;have HO2:=zh ho2;have HUV:=zh huv;have HB7:Hid (Below (w5.heap.size) w5 w7):=zh hb;clear ho1 ho2 huv;replace qV:=q9 hb qV zF;replace J1:=q9 hb J1 zF;replace zF:=jw hb zF;replace J3:=q9 hb J3 zR;replace J2:=q9 hb J2 zR;replace XJ:=QW hb XJ zR;replace Q7:=QW hb Q7 zR;replace zR:=jw hb zR;replace j7:=X4 j7 hb;clear hb;go_wp2_with fail;obtain⟨s3,O,j6,hdO,j8,zO⟩:=qy w7 (.cells #[.slice (some ⟨g,on,none⟩) LN cap,.slice ba LA ca] 25);have j9:=JW j6;have hAO:w7.heap.size<=O:=by omega
  replace qV:=q9 j9 qV zF;replace J1:=q9 j9 J1 zF;replace zF:=jw j9 zF;replace J3:=q9 j9 J3 zR;replace J2:=q9 j9 J2 zR;replace XJ:=QW j9 XJ zR;replace Q7:=QW j9 Q7 zR;replace zR:=jw j9 zR;have hN:=Qz (b:=O) j6 hdO;have hM:=Qq (b:=O) j6 hdO;have kO0:=hN 0 _ rfl;have kO1:=hN 1 _ rfl;have fO0:=hM 0;have fO1:=hM 1;clear hN hM;have lO:w.heap.size<=O:=by have:=j7.size;omega
  replace j7:=qQ j7 j6;rw[<-j6];try rw[<-hdO]
  clear j6 j8 hdO;have HGA:Hid (GAt s3 O w5.heap.size N A (.slice (some ⟨g,on,none⟩) LN cap) (.slice ba LA ca)):=⟨kO0,kO1,fO0,fO1,by rw[<-J6.out];exact a1g HO1.out j9,by rw[<-QZ.out];exact a1g HO2.out j9,HUV.out,fun y hy e=>by have:=(HO1.out.lt y hy).2;omega,fun y hy e=>by have:=(HO2.out.lt y hy).2;omega,by have:=HB7.out.size;omega,zO⟩;have HBO:Hid (Below (w5.heap.size) w5 s3):=HB7.out.trans (j9.mono HB7.out.size);obtain⟨t1,ht1⟩:=nM s3;subst ht1;obtain⟨t0,ht0⟩:=nM w5;rw[<-ht0] at HZ HR1 HR6 HGA HBO HO1 HO2 HB7;obtain⟨b6,hb6⟩:=nM t0.heap.size;rw[<-hb6] at HZ HR1 HR6 HGA HBO HO1 HO2 HB7;have q0:=HGA.out.c0;have zO:=HGA.out.pz;clear ht0 hb6 JY j9 hAO j7 qV J1 zF lF J3 J2 XJ Q7 zR lR kO0 kO1 fO0 fO1 lO HO1 HO2 HB7 HR HCP HN HA HUV;go_wp2_with fail
  go_loopw [18] (f2y t0 O b6 (g0h own sheet fo fb) N A (.slice (some ⟨g,on,none⟩) LN cap) (.slice ba LA ca)) (fun r _=>LN-(intOf r).toNat)
  case atStart=>exact⟨0,Nat.zero_le _,rfl,by rw[e2x];exact HGA.out,HBO.out⟩
  case round =>
   obtain⟨k,hk,rfl,hga,hW⟩:=hrel;rw[<-J6.out] at hk;have HW:=zh hW;have HWK:=zh hga;have q0:=hga.c0;have zO:=hga.pz;have j7:=HZ.out _ hW;clear hW hga HGA HBO;by_cases hlt:k<LN
   ·
    obtain⟨nd,hn⟩:=HGE.out k hlt;obtain⟨bq,cq,hq,hcs⟩:=(NodesAt.of_owns HWK.out.ou).2.slice;obtain⟨gn,om,rfl,hcn⟩:=hcs k nd (e1w _ hn);obtain⟨⟨rfl,rfl⟩,-,-⟩:(g=gn/\on=om)/\LN=(e0p (g0h own sheet fo fb) N k).length/\cap=cq:=by simpa using hq
    have LN0:=a0p wr g (on+k*K19) HK19 nd (fun j u hu=>by rw[HK19.out];exact hcn j u hu);have HN0:=zh hn;clear hcn hcs hq hn
    go_upto_region 13 with (refine a0c rfl _ _ rfl rfl _ _ _ rfl rfl rfl (by rfl) (by rfl) (by rfl) ?_)
    obtain⟨s4,X,j6,qw,j8,zX⟩:=qy wr (.cells (Qk nd).toArray 69);have j9:=JW j6;have hAX:wr.heap.size<=X:=by omega
    have yX:=qZ (b:=X) j6 qw;have LX:=Qv HK19 yX;replace j7:=qQ j7 j6;rw[<-j6];try rw[<-qw]
    clear j6 j8 qw;clear LN0;obtain⟨we,hwe⟩:=nM s4;subst hwe;have HWX:=zh (HWK.out.below j9);have HBX:Hid (Below b6 t0 we):=HW.out.trans (j9.mono (jG HWK.out.pb (Nat.le_of_lt HWK.out.pz)));have HXO:Hid (X≠O/\∀ q,some g=some q->X≠q):=zh ⟨by have:=HWK.out.pz;omega,fun q hq e=>by have:=(HWK.out.ou.lt q hq).2;omega⟩;have HGO:Hid (∀ q,some g=some q->O≠q):=zh HWK.out.up;have hm:nd ∈ N:=List.mem_of_getElem? HN0.out;have hto:=fun w=>HTO.out nd w
    clear j9 hAX;go_wp2_with fail;refine jy (hto _) fun w4 hb=>?_
    have HG4:=zh (HWX.out.below hb);have HB4:Hid (Below b6 t0 w4):=HBX.out.trans (hb.mono (jG HWX.out.pb (Nat.le_of_lt HWX.out.pz)));clear q0 zO hto;replace yX:=jv hb yX zX;replace zX:=jw hb zX;replace j7:=X4 j7 hb;clear hb;replace LX:=Qv HK19 yX;have q0:=HG4.out.c0;have zO:=HG4.out.pz
    cases htn:f1l own sheet nd with
    | false =>
     have HFN:Hid (g0h own sheet fo fb nd=nd):=zh (if_neg (by rw[htn];simp));clear htn;go_wp2
     go_roundw
     case rel=>exact⟨k+1,by rw[<-J6.out];omega,by go_num,by rw[e2y _ HN0.out HFN.out];exact HG4.out,HB4.out⟩
     case measure=>simp[intOf];omega
    | true =>
    have HTT:=zh htn
    have hrest:(nd.k==5)=true\/((nd.k==5)=false/\(nd.k==6)=true):=by
     unfold f1l at htn
     revert htn
     cases (nd.k==5)<;>cases (nd.k==6)<;>simp
    clear htn
    rcases hrest with h5 | ⟨h5,h6⟩
    case inl =>
     have hh:=HH1.out HRR.out HM.out.symm nd hm (by simpa using h5);have hfn:=f3h (fo:=fo) (fb:=fb) h5
     rcases hq:fo nd with ⟨⟨csh,cc,cr,cf,cg⟩,p⟩
     rw[hq] at hh hfn;obtain⟨md,hm2⟩:∃ m,m=e9t ⟨csh,cc,cr,cf,cg⟩ p:=⟨_,rfl⟩;have htc:=fun w=>f7v ⟨csh,cc,cr,cf,cg⟩ p w
     dsimp only at hh hfn htc;rw[<-hm2] at hfn htc;have HH:=zh hh;have HTC:=zh htc;have HFN:Hid (g0h own sheet fo fb nd=md):=zh ((if_pos HTT.out).trans hfn);clear hh htc hfn hm2 hq
     cases inn
     case true =>
      obtain⟨rfl,rfl⟩:=HKK.out.1 rfl;go_wp2_with fail;refine jy (HH.out _) fun w6 hb=>?_
      have HG5:=zh (HG4.out.below hb);have HB5:Hid (Below b6 t0 w6):=HB4.out.trans (hb.mono (jG HG4.out.pb (Nat.le_of_lt HG4.out.pz)));clear q0 zO LX;replace yX:=jv hb yX zX;replace zX:=jw hb zX;replace j7:=X4 j7 hb;clear hb;replace LX:=Qv HK19 yX;have q0:=HG5.out.c0;have zO:=HG5.out.pz
      go_upto_region 16 with fail
      obtain⟨s5,P,j6,hdP,j8,zP⟩:=qy w6 (.cells #[Sg csh,I6 cc,I6 cr,Bv cf,Bv cg] 67);have j9:=JW j6;have hAP:w6.heap.size<=P:=by omega
      replace yX:=jv j9 yX zX;replace zX:=jw j9 zX;have hN:=Qz (b:=P) j6 hdP;have kP0:=hN 0 _ rfl;have kP1:=hN 1 _ rfl;have kP2:=hN 2 _ rfl;have kP3:=hN 3 _ rfl;have kP4:=hN 4 _ rfl;clear hN;replace LX:=Qv HK19 yX;replace j7:=qQ j7 j6;rw[<-j6];try rw[<-hdP]
      clear j6 j8 hdP;have HGW:=zh (HG5.out.below j9);have HBW:Hid (Below b6 t0 s5):=HB5.out.trans (j9.mono (jG HG5.out.pb (Nat.le_of_lt HG5.out.pz)));have HPO2:Hid (∀ q,some g=some q->P≠q):=zh (fun q hq e=>by have:=(HG5.out.ou.lt q hq).2;omega);have q0:=HGW.out.c0;have zO:=HGW.out.pz;clear j9 hAP;obtain⟨w8,hw8⟩:=nM s5;rw[<-hw8] at HGW HBW q0 zO kP0 kP1 kP2 kP3 kP4 zP j7 |-
      clear hw8 yX LX;have HF:=QX j7;clear j7;refine wp_region_held_drew (S:=fun w'=>w'.cell? ⟨O,0,none⟩=some (.slice (some ⟨g,on,none⟩) LN cap)/\w'.cell? ⟨P,0,none⟩=some (Sg csh)/\w'.cell? ⟨P,1,none⟩=some (I6 cc)/\w'.cell? ⟨P,2,none⟩=some (I6 cr)/\w'.cell? ⟨P,3,none⟩=some (Bv cf)/\w'.cell? ⟨P,4,none⟩=some (Bv cg)) (by kernel_rfl) JB (fun jx=>?_)
      refine tk 0 ?_;refine tk 1 ?_;refine tk 2 ?_;refine tk 3 ?_;refine tk 4 ?_;refine Jq 5 (by kernel_rfl) rfl fun K hK=>?_
      go_simp
      (go_at_call 32;refine jy (HTC.out _) fun x6 qk=>?_;obtain⟨qx,jk,qK⟩:=Q4 w8 qk)
      try (go_wp2_with fail)
      refine hK.out _ _ JB (fun jx=>?_)
      clear hK K;try simp only[pz]
      refine tk 6 ?_;refine Jq 7 (by kernel_rfl) rfl fun K hK=>?_
      (refine d7v rfl _ _ rfl rfl (base:=b6) (N:=e0p (g0h own sheet fo fb) N k) md HK19 HON (by have:=(HGW.out.below qx).ou;rwa [d7p,<-J6.out] at this) (by rw[d7p,<-J6.out];exact hlt) (by rfl) (by rfl) ?_;intro wf J0 jj hsz2;have e0:=Jw jj ((jk O 0 zO).trans q0) HGO.out;have eP0:=Jw jj ((jk P 0 zP).trans kP0) HPO2.out;have eP1:=Jw jj ((jk P 1 zP).trans kP1) HPO2.out;have eP2:=Jw jj ((jk P 2 zP).trans kP2) HPO2.out;have eP3:=Jw jj ((jk P 3 zP).trans kP3) HPO2.out;have eP4:=Jw jj ((jk P 4 zP).trans kP4) HPO2.out)
      refine hK.out _ _ JB (fun jx=>?_)
      clear hK K;try simp only[pz]
      refine wpAnyH_done (by kernel_rfl) ?_ _;go_wp2
      go_roundw
      case rel =>
       have hGX:=HGW.out.below qx;refine⟨k+1,by rw[<-J6.out];omega,by go_num,?_,a3m (HBW.out.trans (qx.mono (jG HGW.out.pb (Nat.le_of_lt HGW.out.pz)))) hGX.ou (jC _) (jG hGX.pb (Nat.le_of_lt hGX.pz)) jj⟩;rw[d9e _ HN0.out,HFN.out];exact hGX.set jj (by rw[List.length_set,d7p,<-J6.out];exact J0)
      case measure=>simp[intOf];omega
     case false =>
      obtain⟨rfl,rfl⟩:=HKK.out.2 rfl;go_wp2_with fail;refine jy (HH.out _) fun w6 hb=>?_
      have HG5:=zh (HG4.out.below hb);have HB5:Hid (Below b6 t0 w6):=HB4.out.trans (hb.mono (jG HG4.out.pb (Nat.le_of_lt HG4.out.pz)));clear q0 zO LX;replace yX:=jv hb yX zX;replace zX:=jw hb zX;replace j7:=X4 j7 hb;clear hb;replace LX:=Qv HK19 yX;have q0:=HG5.out.c0;have zO:=HG5.out.pz
      go_upto_region 19 with fail
      obtain⟨s7,P,j6,hdP,j8,zP⟩:=qy w6 (.cells #[Sg csh,I6 cc,I6 cr,Bv cf,Bv cg] 67);have j9:=JW j6;have hAP:w6.heap.size<=P:=by omega
      replace yX:=jv j9 yX zX;replace zX:=jw j9 zX;have hN:=Qz (b:=P) j6 hdP;have kP0:=hN 0 _ rfl;have kP1:=hN 1 _ rfl;have kP2:=hN 2 _ rfl;have kP3:=hN 3 _ rfl;have kP4:=hN 4 _ rfl;clear hN;replace LX:=Qv HK19 yX;replace j7:=qQ j7 j6;rw[<-j6];try rw[<-hdP]
      clear j6 j8 hdP;have HGW:=zh (HG5.out.below j9);have HBW:Hid (Below b6 t0 s7):=HB5.out.trans (j9.mono (jG HG5.out.pb (Nat.le_of_lt HG5.out.pz)));have HPO2:Hid (∀ q,some g=some q->P≠q):=zh (fun q hq e=>by have:=(HG5.out.ou.lt q hq).2;omega);have q0:=HGW.out.c0;have zO:=HGW.out.pz;clear j9 hAP;obtain⟨w8,hw8⟩:=nM s7;rw[<-hw8] at HGW HBW q0 zO kP0 kP1 kP2 kP3 kP4 zP j7 |-
      clear hw8 yX LX;have HF:=QX j7;clear j7;refine wp_region_held_drew (S:=fun w'=>w'.cell? ⟨O,0,none⟩=some (.slice (some ⟨g,on,none⟩) LN cap)/\w'.cell? ⟨P,0,none⟩=some (Sg csh)/\w'.cell? ⟨P,1,none⟩=some (I6 cc)/\w'.cell? ⟨P,2,none⟩=some (I6 cr)/\w'.cell? ⟨P,3,none⟩=some (Bv cf)/\w'.cell? ⟨P,4,none⟩=some (Bv cg)) (by kernel_rfl) JB (fun jx=>?_)
      refine tk 0 ?_;refine tk 1 ?_;refine tk 2 ?_;refine tk 3 ?_;refine tk 4 ?_;refine Jq 5 (by kernel_rfl) rfl fun K hK=>?_
      go_simp
      (go_at_call 32;refine jy (HTC.out _) fun x8 qk=>?_;obtain⟨qx,jk,qK⟩:=Q4 w8 qk)
      try (go_wp2_with fail)
      refine hK.out _ _ JB (fun jx=>?_)
      clear hK K;try simp only[pz]
      refine tk 6 ?_;refine Jq 7 (by kernel_rfl) rfl fun K hK=>?_
      (refine d7v rfl _ _ rfl rfl (base:=b6) (N:=e0p (g0h own sheet fo fb) N k) md HK19 HON (by have:=(HGW.out.below qx).ou;rwa [d7p,<-J6.out] at this) (by rw[d7p,<-J6.out];exact hlt) (by rfl) (by rfl) ?_;intro wf J0 jj hsz2;have e0:=Jw jj ((jk O 0 zO).trans q0) HGO.out;have eP0:=Jw jj ((jk P 0 zP).trans kP0) HPO2.out;have eP1:=Jw jj ((jk P 1 zP).trans kP1) HPO2.out;have eP2:=Jw jj ((jk P 2 zP).trans kP2) HPO2.out;have eP3:=Jw jj ((jk P 3 zP).trans kP3) HPO2.out;have eP4:=Jw jj ((jk P 4 zP).trans kP4) HPO2.out)
      refine hK.out _ _ JB (fun jx=>?_)
      clear hK K;try simp only[pz]
      refine wpAnyH_done (by kernel_rfl) ?_ _;go_wp2
      go_roundw
      case rel =>
       have hGX:=HGW.out.below qx;refine⟨k+1,by rw[<-J6.out];omega,by go_num,?_,a3m (HBW.out.trans (qx.mono (jG HGW.out.pb (Nat.le_of_lt HGW.out.pz)))) hGX.ou (jC _) (jG hGX.pb (Nat.le_of_lt hGX.pz)) jj⟩;rw[d9e _ HN0.out,HFN.out];exact hGX.set jj (by rw[List.length_set,d7p,<-J6.out];exact J0)
      case measure=>simp[intOf];omega
    case inr =>
     have hh:=HH2.out HRR.out HM.out.symm nd hm (by simpa using h6);have hfn:=f3i (fo:=fo) (fb:=fb) h5 h6
     rcases hq:fb nd with ⟨⟨csh,cc,cr,cf,cg⟩,⟨dsh,dc,dr,df,dg⟩,p⟩
     rw[hq] at hh hfn;obtain⟨md,hm2⟩:∃ m,m=e8h ⟨csh,cc,cr,cf,cg⟩ ⟨dsh,dc,dr,df,dg⟩ p:=⟨_,rfl⟩;have htc:=fun w=>f7w ⟨csh,cc,cr,cf,cg⟩ ⟨dsh,dc,dr,df,dg⟩ p w
     dsimp only at hh hfn htc;rw[<-hm2] at hfn htc;have HH:=zh hh;have HTC:=zh htc;have HFN:Hid (g0h own sheet fo fb nd=md):=zh ((if_pos HTT.out).trans hfn);clear hh htc hfn hm2 hq
     cases inn
     case true =>
      obtain⟨rfl,rfl⟩:=HKK.out.1 rfl;go_wp2_with fail;refine jy (HH.out _) fun w6 hb=>?_
      have HG5:=zh (HG4.out.below hb);have HB5:Hid (Below b6 t0 w6):=HB4.out.trans (hb.mono (jG HG4.out.pb (Nat.le_of_lt HG4.out.pz)));clear q0 zO LX;replace yX:=jv hb yX zX;replace zX:=jw hb zX;replace j7:=X4 j7 hb;clear hb;replace LX:=Qv HK19 yX;have q0:=HG5.out.c0;have zO:=HG5.out.pz
      go_upto_region 22 with fail
      obtain⟨s9,P,Q,j6,hdP,hdQ,j8,zP,zQ⟩:=YJ w6 (.cells #[Sg csh,I6 cc,I6 cr,Bv cf,Bv cg] 67) (.cells #[Sg dsh,I6 dc,I6 dr,Bv df,Bv dg] 67);have j9:=up2 j6;have hAP:w6.heap.size<=P:=by omega
      have hAQ:w6.heap.size<=Q:=by omega
      replace yX:=jv j9 yX zX;replace zX:=jw j9 zX;have hN:=bx1 (b:=P) j6 hdP;have kP0:=hN 0 _ rfl;have kP1:=hN 1 _ rfl;have kP2:=hN 2 _ rfl;have kP3:=hN 3 _ rfl;have kP4:=hN 4 _ rfl;clear hN;have hN:=Qz (b:=Q) j6 (by simp[hdQ]);have kQ0:=hN 0 _ rfl;have kQ1:=hN 1 _ rfl;have kQ2:=hN 2 _ rfl;have kQ3:=hN 3 _ rfl;have kQ4:=hN 4 _ rfl;clear hN;replace LX:=Qv HK19 yX;replace j7:=Yz j7 j6;rw[<-j6];try rw[<-hdQ]
      try rw[<-hdP]
      clear j6 j8 hdP hdQ;have HGW:=zh (HG5.out.below j9);have HBW:Hid (Below b6 t0 s9):=HB5.out.trans (j9.mono (jG HG5.out.pb (Nat.le_of_lt HG5.out.pz)));have HPO2:Hid (∀ q,some g=some q->P≠q):=zh (fun q hq e=>by have:=(HG5.out.ou.lt q hq).2;omega);have HQO:Hid (∀ q,some g=some q->Q≠q):=zh (fun q hq e=>by have:=(HG5.out.ou.lt q hq).2;omega);have q0:=HGW.out.c0;have zO:=HGW.out.pz;clear j9 hAP hAQ;obtain⟨w8,hw8⟩:=nM s9;rw[<-hw8] at HGW HBW q0 zO kP0 kP1 kP2 kP3 kP4 kQ0 kQ1 kQ2 kQ3 kQ4 zP zQ j7 |-
      clear hw8 yX LX;have HF:=QX j7;clear j7;refine wp_region_held_drew (S:=fun w'=>w'.cell? ⟨O,0,none⟩=some (.slice (some ⟨g,on,none⟩) LN cap)/\w'.cell? ⟨P,0,none⟩=some (Sg csh)/\w'.cell? ⟨P,1,none⟩=some (I6 cc)/\w'.cell? ⟨P,2,none⟩=some (I6 cr)/\w'.cell? ⟨P,3,none⟩=some (Bv cf)/\w'.cell? ⟨P,4,none⟩=some (Bv cg)/\w'.cell? ⟨Q,0,none⟩=some (Sg dsh)/\w'.cell? ⟨Q,1,none⟩=some (I6 dc)/\w'.cell? ⟨Q,2,none⟩=some (I6 dr)/\w'.cell? ⟨Q,3,none⟩=some (Bv df)/\w'.cell? ⟨Q,4,none⟩=some (Bv dg)) (by kernel_rfl) JB (fun jx=>?_)
      refine tk 0 ?_;refine tk 1 ?_;refine tk 2 ?_;refine tk 3 ?_;refine tk 4 ?_;refine tk 5 ?_;refine Jq 6 (by kernel_rfl) rfl fun K hK=>?_
      go_simp
      (go_at_call 33;refine jy (HTC.out _) fun x10 qk=>?_;obtain⟨qx,jk,qK⟩:=Q4 w8 qk)
      try (go_wp2_with fail)
      refine hK.out _ _ JB (fun jx=>?_)
      clear hK K;try simp only[pz]
      refine tk 7 ?_;refine Jq 8 (by kernel_rfl) rfl fun K hK=>?_
      (refine d7v rfl _ _ rfl rfl (base:=b6) (N:=e0p (g0h own sheet fo fb) N k) md HK19 HON (by have:=(HGW.out.below qx).ou;rwa [d7p,<-J6.out] at this) (by rw[d7p,<-J6.out];exact hlt) (by rfl) (by rfl) ?_;intro wf J0 jj hsz2;have e0:=Jw jj ((jk O 0 zO).trans q0) HGO.out;have eP0:=Jw jj ((jk P 0 zP).trans kP0) HPO2.out;have eP1:=Jw jj ((jk P 1 zP).trans kP1) HPO2.out;have eP2:=Jw jj ((jk P 2 zP).trans kP2) HPO2.out;have eP3:=Jw jj ((jk P 3 zP).trans kP3) HPO2.out;have eP4:=Jw jj ((jk P 4 zP).trans kP4) HPO2.out;have eQ0:=Jw jj ((jk Q 0 zQ).trans kQ0) HQO.out;have eQ1:=Jw jj ((jk Q 1 zQ).trans kQ1) HQO.out;have eQ2:=Jw jj ((jk Q 2 zQ).trans kQ2) HQO.out;have eQ3:=Jw jj ((jk Q 3 zQ).trans kQ3) HQO.out;have eQ4:=Jw jj ((jk Q 4 zQ).trans kQ4) HQO.out)
      refine hK.out _ _ JB (fun jx=>?_)
      clear hK K;try simp only[pz]
      refine wpAnyH_done (by kernel_rfl) ?_ _;go_wp2
      go_roundw
      case rel =>
       have hGX:=HGW.out.below qx;refine⟨k+1,by rw[<-J6.out];omega,by go_num,?_,a3m (HBW.out.trans (qx.mono (jG HGW.out.pb (Nat.le_of_lt HGW.out.pz)))) hGX.ou (jC _) (jG hGX.pb (Nat.le_of_lt hGX.pz)) jj⟩;rw[d9e _ HN0.out,HFN.out];exact hGX.set jj (by rw[List.length_set,d7p,<-J6.out];exact J0)
      case measure=>simp[intOf];omega
     case false =>
      obtain⟨rfl,rfl⟩:=HKK.out.2 rfl;go_wp2_with fail;refine jy (HH.out _) fun w6 hb=>?_
      have HG5:=zh (HG4.out.below hb);have HB5:Hid (Below b6 t0 w6):=HB4.out.trans (hb.mono (jG HG4.out.pb (Nat.le_of_lt HG4.out.pz)));clear q0 zO LX;replace yX:=jv hb yX zX;replace zX:=jw hb zX;replace j7:=X4 j7 hb;clear hb;replace LX:=Qv HK19 yX;have q0:=HG5.out.c0;have zO:=HG5.out.pz
      go_upto_region 24 with fail
      obtain⟨s11,P,Q,j6,hdP,hdQ,j8,zP,zQ⟩:=YJ w6 (.cells #[Sg csh,I6 cc,I6 cr,Bv cf,Bv cg] 67) (.cells #[Sg dsh,I6 dc,I6 dr,Bv df,Bv dg] 67);have j9:=up2 j6;have hAP:w6.heap.size<=P:=by omega
      have hAQ:w6.heap.size<=Q:=by omega
      replace yX:=jv j9 yX zX;replace zX:=jw j9 zX;have hN:=bx1 (b:=P) j6 hdP;have kP0:=hN 0 _ rfl;have kP1:=hN 1 _ rfl;have kP2:=hN 2 _ rfl;have kP3:=hN 3 _ rfl;have kP4:=hN 4 _ rfl;clear hN;have hN:=Qz (b:=Q) j6 (by simp[hdQ]);have kQ0:=hN 0 _ rfl;have kQ1:=hN 1 _ rfl;have kQ2:=hN 2 _ rfl;have kQ3:=hN 3 _ rfl;have kQ4:=hN 4 _ rfl;clear hN;replace LX:=Qv HK19 yX;replace j7:=Yz j7 j6;rw[<-j6];try rw[<-hdQ]
      try rw[<-hdP]
      clear j6 j8 hdP hdQ;have HGW:=zh (HG5.out.below j9);have HBW:Hid (Below b6 t0 s11):=HB5.out.trans (j9.mono (jG HG5.out.pb (Nat.le_of_lt HG5.out.pz)));have HPO2:Hid (∀ q,some g=some q->P≠q):=zh (fun q hq e=>by have:=(HG5.out.ou.lt q hq).2;omega);have HQO:Hid (∀ q,some g=some q->Q≠q):=zh (fun q hq e=>by have:=(HG5.out.ou.lt q hq).2;omega);have q0:=HGW.out.c0;have zO:=HGW.out.pz;clear j9 hAP hAQ;obtain⟨w8,hw8⟩:=nM s11;rw[<-hw8] at HGW HBW q0 zO kP0 kP1 kP2 kP3 kP4 kQ0 kQ1 kQ2 kQ3 kQ4 zP zQ j7 |-
      clear hw8 yX LX;have HF:=QX j7;clear j7;refine wp_region_held_drew (S:=fun w'=>w'.cell? ⟨O,0,none⟩=some (.slice (some ⟨g,on,none⟩) LN cap)/\w'.cell? ⟨P,0,none⟩=some (Sg csh)/\w'.cell? ⟨P,1,none⟩=some (I6 cc)/\w'.cell? ⟨P,2,none⟩=some (I6 cr)/\w'.cell? ⟨P,3,none⟩=some (Bv cf)/\w'.cell? ⟨P,4,none⟩=some (Bv cg)/\w'.cell? ⟨Q,0,none⟩=some (Sg dsh)/\w'.cell? ⟨Q,1,none⟩=some (I6 dc)/\w'.cell? ⟨Q,2,none⟩=some (I6 dr)/\w'.cell? ⟨Q,3,none⟩=some (Bv df)/\w'.cell? ⟨Q,4,none⟩=some (Bv dg)) (by kernel_rfl) JB (fun jx=>?_)
      refine tk 0 ?_;refine tk 1 ?_;refine tk 2 ?_;refine tk 3 ?_;refine tk 4 ?_;refine tk 5 ?_;refine Jq 6 (by kernel_rfl) rfl fun K hK=>?_
      go_simp
      (go_at_call 33;refine jy (HTC.out _) fun x12 qk=>?_;obtain⟨qx,jk,qK⟩:=Q4 w8 qk)
      try (go_wp2_with fail)
      refine hK.out _ _ JB (fun jx=>?_)
      clear hK K;try simp only[pz]
      refine tk 7 ?_;refine Jq 8 (by kernel_rfl) rfl fun K hK=>?_
      (refine d7v rfl _ _ rfl rfl (base:=b6) (N:=e0p (g0h own sheet fo fb) N k) md HK19 HON (by have:=(HGW.out.below qx).ou;rwa [d7p,<-J6.out] at this) (by rw[d7p,<-J6.out];exact hlt) (by rfl) (by rfl) ?_;intro wf J0 jj hsz2;have e0:=Jw jj ((jk O 0 zO).trans q0) HGO.out;have eP0:=Jw jj ((jk P 0 zP).trans kP0) HPO2.out;have eP1:=Jw jj ((jk P 1 zP).trans kP1) HPO2.out;have eP2:=Jw jj ((jk P 2 zP).trans kP2) HPO2.out;have eP3:=Jw jj ((jk P 3 zP).trans kP3) HPO2.out;have eP4:=Jw jj ((jk P 4 zP).trans kP4) HPO2.out;have eQ0:=Jw jj ((jk Q 0 zQ).trans kQ0) HQO.out;have eQ1:=Jw jj ((jk Q 1 zQ).trans kQ1) HQO.out;have eQ2:=Jw jj ((jk Q 2 zQ).trans kQ2) HQO.out;have eQ3:=Jw jj ((jk Q 3 zQ).trans kQ3) HQO.out;have eQ4:=Jw jj ((jk Q 4 zQ).trans kQ4) HQO.out)
      refine hK.out _ _ JB (fun jx=>?_)
      clear hK K;try simp only[pz]
      refine wpAnyH_done (by kernel_rfl) ?_ _;go_wp2
      go_roundw
      case rel =>
       have hGX:=HGW.out.below qx;refine⟨k+1,by rw[<-J6.out];omega,by go_num,?_,a3m (HBW.out.trans (qx.mono (jG HGW.out.pb (Nat.le_of_lt HGW.out.pz)))) hGX.ou (jC _) (jG hGX.pb (Nat.le_of_lt hGX.pz)) jj⟩;rw[d9e _ HN0.out,HFN.out];exact hGX.set jj (by rw[List.length_set,d7p,<-J6.out];exact J0)
      case measure=>simp[intOf];omega
   ·
    obtain rfl:k=LN:=by omega
    have hga:GAt wr O b6 (N.map (g0h own sheet fo fb)) A (.slice (some ⟨g,on,none⟩) k cap) (.slice ba LA ca):=by
     have h:=HWK.out
     rwa [show e0p (g0h own sheet fo fb) N k=N.map (g0h own sheet fo fb) by rw[J6.out,e4r]] at h
    have HGF:=zh hga;obtain⟨J3,J2,XJ,Q7⟩:=HR1.out _ HW.out;have zR:=Xk J3;have q1:=hga.c1;clear hga;go_wp2_with fail;refine jU (v:=.tuple #[.agg #[.slice (some ⟨g,on,none⟩) k cap,.slice ba LA ca],I6 0]) (by simp[results,Tryz.results14,go_sem,J3,J2,XJ,Q7,zR,q0,q1]) rfl ?_;have hdc:dcQ own sheet way a n fo fb N A=(N.map (g0h own sheet fo fb),A,0):=by unfold dcQ;rw[if_neg (by rw[HRR.out];simp),if_neg (by rw[<-HM.out];simp)]
    rw[J5.out,hdc];exact⟨⟨_,_,rfl,(NodesAt.of_owns (ownsRow_setCell_below (ownsRow_setCell_below HGF.out.ou HR6.out _) HR6.out _)).2,(IntsAt.of_owns (ownsRow_setCell_below (ownsRow_setCell_below HGF.out.ov HR6.out _) HR6.out _)).2⟩,(j7.setCell HLR.out _).setCell HLR.out _⟩
