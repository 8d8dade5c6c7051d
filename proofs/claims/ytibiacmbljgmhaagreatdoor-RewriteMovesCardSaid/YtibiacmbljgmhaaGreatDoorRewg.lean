/-
  
  
  
  
-/
import Derived.Test.YtibiacmbljgmhaaGreatDoorRewb
set_option maxHeartbeats 16000000
set_option maxRecDepth 100000
namespace Go.Proofs.YtibiacmbljgmhaaGreatDoor
open Go.RowKit Go.Shelf
set_option linter.all false
theorem f7s (w:World):Calls Tryz.prog 64 #[] w fun e w'=>e=.returned (ndV d7c)/\Bl w w':=by
 have hud:=hUd;obtain⟨K19,hz19,HK19⟩:=a0q;go_enter Tryz.func64,Tryz.ntmps64;go_wp2_with (refine a0c rfl _ _ rfl rfl (ndL d7c).toArray _ _ rfl rfl (by rfl) (by rfl) (by rfl) (by rfl) ?_);have LX:=a3o (W:=w.alloc (.cells (ndL d7c).toArray 69)) (g:=w.heap.size) (t:=69) (fr:=(0,0)) HK19 d7c (by rw[<-World.alloc_eq];show (w.heap.push _)[w.heap.size]?=_;simp);refine jU (v:=ndV d7c) (by simp[results,Tryz.results64,go_sem,hz19,LX]) rfl ⟨rfl,(Below.refl _ _).alloc (jC _) _⟩
theorem f7v (r:Rf) (ok:Bool) (w:World):Calls Tryz.prog 32 #[.agg #[Sg r.sh,I6 r.c,I6 r.r,Bv r.fc,Bv r.fr],Bv ok] w fun e w'=>e=.returned (ndV (e9t r ok))/\Bl w w':=by
 have hud:=hUd;obtain⟨K19,hz19,HK19⟩:=a0q;have HL:=zh f7s
 cases ok with
 | true =>
  show Calls _ _ _ _ fun e w'=>e=.returned (ndV ⟨5,0,0,0,false,⟨#[]⟩,⟨#[]⟩,⟨#[]⟩,false,r,rf0⟩)/\Bl w w'
  go_enter Tryz.func32,Tryz.ntmps32
  go_upto_region 1 with fail
  obtain⟨s1,A,Y,hws,hdA,hdY,hsz,zA,zY⟩:=nm2 w (.cells #[Sg r.sh,I6 r.c,I6 r.r,Bv r.fc,Bv r.fr] 67) (.cells #[I6 0,I6 0,I6 0,I6 0,Bv false,S0,S0,S0,Bv false,S0,I6 0,I6 0,Bv false,Bv false,S0,I6 0,I6 0,Bv false,Bv false] 69);have yA:=by1 (b:=A) hws hdA;have rY:s1.heap[Y]?=some (.cells #[I6 0,I6 0,I6 0,I6 0,Bv false,S0,S0,S0,Bv false,S0,I6 0,I6 0,Bv false,Bv false,S0,I6 0,I6 0,Bv false,Bv false] 69 (0,0)):=by have h:=heap_alloc_new (w.alloc (.cells #[Sg r.sh,I6 r.c,I6 r.r,Bv r.fc,Bv r.fr] 67)) (.cells #[I6 0,I6 0,I6 0,I6 0,Bv false,S0,S0,S0,Bv false,S0,I6 0,I6 0,Bv false,Bv false,S0,I6 0,I6 0,Bv false,Bv false] 69);rw[hws];simpa [hdA,hdY] using h
  have lY:w.heap.size<=Y:=by omega
  have hBo:=bs2 bR hws;rw[<-hws];try rw[<-hdY]
  try rw[<-hdA]
  clear hws hsz hdA hdY;have rY2:s1.heap[Y]?=_:=(by assumption);go_wp2_with (refine a1d rfl _ _ rfl rfl Y ⟨5,0,0,0,false,⟨#[]⟩,⟨#[]⟩,⟨#[]⟩,false,r,rf0⟩ _ _ rfl (by rfl) rY2 (by rfl) ?_);have LY:=a3o (W:=s1.setRow Y (ndL ⟨5,0,0,0,false,⟨#[]⟩,⟨#[]⟩,⟨#[]⟩,false,r,rf0⟩).toArray) HK19 ⟨5,0,0,0,false,⟨#[]⟩,⟨#[]⟩,⟨#[]⟩,false,r,rf0⟩ (setRow_heap _ Y _ _ _ _ rY2);refine jU (v:=ndV ⟨5,0,0,0,false,⟨#[]⟩,⟨#[]⟩,⟨#[]⟩,false,r,rf0⟩) (by simp[results,Tryz.results32,go_sem,hz19,LY]) rfl ⟨rfl,a2v hBo hBo.size lY⟩
 | false =>
  show Calls _ _ _ _ fun e w'=>e=.returned (ndV d7c)/\Bl w w'
  go_enter Tryz.func32,Tryz.ntmps32
  go_upto_region 1 with fail
  obtain⟨s2,A,Y,hws,hdA,hdY,hsz,zA,zY⟩:=nm2 w (.cells #[Sg r.sh,I6 r.c,I6 r.r,Bv r.fc,Bv r.fr] 67) (.cells #[I6 0,I6 0,I6 0,I6 0,Bv false,S0,S0,S0,Bv false,S0,I6 0,I6 0,Bv false,Bv false,S0,I6 0,I6 0,Bv false,Bv false] 69);have rY:s2.heap[Y]?=some (.cells #[I6 0,I6 0,I6 0,I6 0,Bv false,S0,S0,S0,Bv false,S0,I6 0,I6 0,Bv false,Bv false,S0,I6 0,I6 0,Bv false,Bv false] 69 (0,0)):=by have h:=heap_alloc_new (w.alloc (.cells #[Sg r.sh,I6 r.c,I6 r.r,Bv r.fc,Bv r.fr] 67)) (.cells #[I6 0,I6 0,I6 0,I6 0,Bv false,S0,S0,S0,Bv false,S0,I6 0,I6 0,Bv false,Bv false,S0,I6 0,I6 0,Bv false,Bv false] 69);rw[hws];simpa [hdA,hdY] using h
  have lY:w.heap.size<=Y:=by omega
  have hBo:=bs2 bR hws;rw[<-hws];try rw[<-hdY]
  try rw[<-hdA]
  clear hws hsz hdA hdY;go_wp2_with fail;refine cAn (HL.out _) fun w5 hb=>?_
  have rY2:w5.heap[Y]?=_:=(hb.block Y zY).trans rY;replace hBo:=f4s hBo hb;clear hb;go_wp2_with (refine a1d rfl _ _ rfl rfl Y d7c _ _ rfl (by rfl) rY2 (by rfl) ?_);have LY:=a3o (W:=w5.setRow Y (ndL d7c).toArray) HK19 d7c (setRow_heap _ Y _ _ _ _ rY2);refine jU (v:=ndV d7c) (by simp[results,Tryz.results32,go_sem,hz19,LY]) rfl ⟨rfl,a2v hBo hBo.size lY⟩
theorem f7w (a b:Rf) (ok:Bool) (w:World):Calls Tryz.prog 33 #[.agg #[Sg a.sh,I6 a.c,I6 a.r,Bv a.fc,Bv a.fr],.agg #[Sg b.sh,I6 b.c,I6 b.r,Bv b.fc,Bv b.fr],Bv ok] w fun e w'=>e=.returned (ndV (e8h a b ok))/\Bl w w':=by
 have hud:=hUd;obtain⟨K19,hz19,HK19⟩:=a0q;have HL:=zh f7s;have hO:=fun w=>e0z a b w
 obtain⟨md,hmd⟩:=nM (e8h a b ok);rw[<-hmd];unfold e8h at hmd;generalize d7o a b=o at *;obtain⟨⟨xn,xc,xr,xf,xg⟩,⟨yn,yc,yr,yf,yg⟩⟩:=o;dsimp only at hO hmd;generalize a8z xc xr yc yr=ne at *;obtain⟨an,ac,ar,af,ag⟩:=a;obtain⟨bn,bc,br,bf,bg⟩:=b;dsimp only at hO |-
 have HO:=zh hO;have HMD:=zh hmd;clear hO hmd;go_enter Tryz.func33,Tryz.ntmps33
 go_upto_region 1 with fail
 obtain⟨s3,A,B,Y,hws,hdA,hdB,hdY,hsz,zA,zB,zY⟩:=nm3 w (.cells #[Sg an,I6 ac,I6 ar,Bv af,Bv ag] 67) (.cells #[Sg bn,I6 bc,I6 br,Bv bf,Bv bg] 67) (.cells #[I6 0,I6 0,I6 0,I6 0,Bv false,S0,S0,S0,Bv false,S0,I6 0,I6 0,Bv false,Bv false,S0,I6 0,I6 0,Bv false,Bv false] 69);have yA:=by2 (b:=A) hws hdA;have yB:=by1 (b:=B) hws (by simp[hdB]);have rY:s3.heap[Y]?=some (.cells #[I6 0,I6 0,I6 0,I6 0,Bv false,S0,S0,S0,Bv false,S0,I6 0,I6 0,Bv false,Bv false,S0,I6 0,I6 0,Bv false,Bv false] 69 (0,0)):=by have h:=heap_alloc_new ((w.alloc (.cells #[Sg an,I6 ac,I6 ar,Bv af,Bv ag] 67)).alloc (.cells #[Sg bn,I6 bc,I6 br,Bv bf,Bv bg] 67)) (.cells #[I6 0,I6 0,I6 0,I6 0,Bv false,S0,S0,S0,Bv false,S0,I6 0,I6 0,Bv false,Bv false,S0,I6 0,I6 0,Bv false,Bv false] 69);rw[hws];simpa [hdA,hdB,hdY] using h
 have lY:w.heap.size<=Y:=by omega
 have hBo:=bs3 bR hws;rw[<-hws];try rw[<-hdY]
 try rw[<-hdB]
 try rw[<-hdA]
 clear hws hsz hdA hdB hdY;go_wp2_with fail;refine cAn (HO.out _) fun w8 hb=>?_
 have rY8:w8.heap[Y]?=_:=(hb.block Y zY).trans rY;clear rY;replace zY:=zHl hb zY;replace hBo:=f4s hBo hb;clear hb;have zY8:=zY
 go_upto_region 2 with fail
 obtain⟨s4,P,Q,hws,hdP,hdQ,hsz,zP,zQ⟩:=nm2 w8 (.cells #[Sg xn,I6 xc,I6 xr,Bv xf,Bv xg] 67) (.cells #[Sg yn,I6 yc,I6 yr,Bv yf,Bv yg] 67);have hUp:=up2 hws;have hAP:w8.heap.size<=P:=by omega
 have hAQ:w8.heap.size<=Q:=by omega
 replace zY:=zHl hUp zY;have yP:=by1 (b:=P) hws hdP;have yQ:=by0 (b:=Q) hws (by simp[hdQ]);replace hBo:=bs2 hBo hws;rw[<-hws];try rw[<-hdQ]
 try rw[<-hdP]
 clear hws hsz hdP hdQ;have rY9:s4.heap[Y]?=_:=(hUp.block Y zY8).trans rY8;clear hUp rY8 zY8
 cases ok with
 | false =>
  have hm:md=d7c:=HMD.out.trans (if_neg (by simp));go_wp2_with fail;refine cAn (HL.out _) fun w9 hb=>?_
  have rY2:w9.heap[Y]?=_:=(hb.block Y zY).trans rY9;replace hBo:=f4s hBo hb;clear hb;go_wp2_with (refine a1d rfl _ _ rfl rfl Y d7c _ _ rfl (by rfl) rY2 (by rfl) ?_);have LY:=a3o (W:=w9.setRow Y (ndL d7c).toArray) HK19 d7c (setRow_heap _ Y _ _ _ _ rY2);refine jU (v:=ndV d7c) (by simp[results,Tryz.results33,go_sem,hz19,LY]) rfl ⟨by first | rfl | rw[hm],a2v hBo hBo.size lY⟩
 | true =>
  by_cases hne:ne=0
  ·
   have hx:(ne != 0)=false:=by simpa using hne
   have hm:=HMD.out.trans ((if_pos rfl).trans (if_pos hne));clear hne;have rY2:=rY9;go_wp2_with (refine a1d rfl _ _ rfl rfl Y ⟨6,0,0,0,false,⟨#[]⟩,⟨#[]⟩,⟨#[]⟩,false,⟨xn,xc,xr,xf,xg⟩,⟨yn,yc,yr,yf,yg⟩⟩ _ _ rfl (by rfl) rY2 (by rfl) ?_);have LY:=a3o (W:=s4.setRow Y (ndL ⟨6,0,0,0,false,⟨#[]⟩,⟨#[]⟩,⟨#[]⟩,false,⟨xn,xc,xr,xf,xg⟩,⟨yn,yc,yr,yf,yg⟩⟩).toArray) HK19 ⟨6,0,0,0,false,⟨#[]⟩,⟨#[]⟩,⟨#[]⟩,false,⟨xn,xc,xr,xf,xg⟩,⟨yn,yc,yr,yf,yg⟩⟩ (setRow_heap _ Y _ _ _ _ rY2);refine jU (v:=ndV ⟨6,0,0,0,false,⟨#[]⟩,⟨#[]⟩,⟨#[]⟩,false,⟨xn,xc,xr,xf,xg⟩,⟨yn,yc,yr,yf,yg⟩⟩) (by simp[results,Tryz.results33,go_sem,hz19,LY]) rfl ⟨by first | rfl | rw[hm],a2v hBo hBo.size lY⟩
  ·
   have hx:(ne != 0)=true:=by simpa using hne
   have hm:=HMD.out.trans ((if_pos rfl).trans (if_neg hne));clear hne;go_wp2_with fail;refine cAn (HL.out _) fun w9 hb=>?_
   have rY2:w9.heap[Y]?=_:=(hb.block Y zY).trans rY9;replace hBo:=f4s hBo hb;clear hb;go_wp2_with (refine a1d rfl _ _ rfl rfl Y d7c _ _ rfl (by rfl) rY2 (by rfl) ?_);have LY:=a3o (W:=w9.setRow Y (ndL d7c).toArray) HK19 d7c (setRow_heap _ Y _ _ _ _ rY2);refine jU (v:=ndV d7c) (by simp[results,Tryz.results33,go_sem,hz19,LY]) rfl ⟨by first | rfl | rw[hm],a2v hBo hBo.size lY⟩
set_option maxHeartbeats 64000000
-- (a region told step by step: %%hwalk)
def f7j (xd xe:Int) (n:Nd):Rf × Bool:=(mvR n.r xd xe,mvB n.r xd xe)
def f7k (xd xe:Int) (n:Nd):Rf × Rf × Bool:=(mvR n.r xd xe,mvR n.t xd xe,mvB n.r xd xe&&mvB n.t xd xe)
def f7z (N:List Nd) (A:List Int) (xd xe:Int):List Nd × List Int × Int:=if a0w N A=false then ([],[],3) else (N.map (e2a (f7j xd xe) (f7k xd xe)),A,0)
theorem f7x (u v:Value) (N:List Nd) (A:List Int) (xd xe:Int) (w:World) (hN:NodesAt w u N) (hA:IntsAt w v A) (hf:∀ n ∈ N,Fits n) (hl:A.length<=1000) (hl2:N.length<=1000) (hd1 : -9223372036854775808<=xd) (hd2:xd<=9223372036854775807) (he1 : -9223372036854775808<=xe) (he2:xe<=9223372036854775807) :
  Calls Tryz.prog 10 #[.agg #[u,v],I6 xd,I6 xe] w (d8s (f7z N A xd xe).1 (f7z N A xd xe).2.1 (f7z N A xd xe).2.2 w):=by
 have hud:=hUd;obtain⟨K19,hz19,HK19⟩:=a0q;have hr:=fun w hN hA=>a3t u v N A w hN hA hf hl hl2
 have HCP:=zh (fun w hN hA=>e1v u v N A w hN hA (by omega) (by omega));have HMV:=zh (fun (q:Rf) (hs:q.sh.size<=100) (h0:a8g q.sh q.c q.r=true) w=>f9n q xd xe w (jG hs (by decide)) h0 hd1 hd2 he1 he2);have HFT:=zh hf;have HN:=zh hN;have HA:=zh hA;obtain⟨Po,hPo⟩:=nM (d8s (f7z N A xd xe).1 (f7z N A xd xe).2.1 (f7z N A xd xe).2.2 w);rw[<-hPo]
 cases hR:a0w N A with
 | false =>
  rw[hR] at hr;have HR:=zh hr;have HPO:Hid (Po=d8s [] [] 3 w):=zh (hPo.trans (by unfold f7z;rw[if_pos hR]));clear hr hR hN hA hf hPo;go_enter Tryz.func10,Tryz.ntmps10
  go_upto_region 1 with fail
  obtain⟨s1,F,R,hws,hdF,hdR,hsz,zF,zR⟩:=nm2 w (.cells #[u,v] 25) (.cells #[.slice none 0 0,.slice none 0 0] 25);have hN:=bx1 (b:=F) hws hdF;have kF0:=hN 0 _ rfl;have kF1:=hN 1 _ rfl;clear hN;have hN:=bx0 (b:=R) hws (by simp[hdR]);have hM:=bf0 (b:=R) hws (by simp[hdR]);have kR0:=hN 0 _ rfl;have kR1:=hN 1 _ rfl;have fR0:=hM 0;have fR1:=hM 1;clear hN hM;have lR:w.heap.size<=R:=by omega
  have hBo:=bs2 bR hws;rw[<-hws];try rw[<-hdR]
  try rw[<-hdF]
  clear hws hsz hdF hdR;go_wp2_with fail;refine cAn (HR.out _ (HN.out.below hBo) (HA.out.below hBo)) fun w5 hb=>?_
  replace kF0:=a0f hb kF0 zF;replace kF1:=a0f hb kF1 zF;replace zF:=zHl hb zF;replace kR0:=a0f hb kR0 zR;replace kR1:=a0f hb kR1 zR;replace fR0:=a0g hb fR0 zR;replace fR1:=a0g hb fR1 zR;replace zR:=zHl hb zR;replace hBo:=f4s hBo hb;clear hb;go_wp2_with fail;refine jU (v:=.tuple #[.agg #[.slice none 0 0,.slice none 0 0],I6 3]) (by simp[results,Tryz.results10,go_sem,kR0,kR1,fR0,fR1,zR]) rfl ?_;rw[HPO.out];exact e4s (sc2 hBo lR)
 | true =>
  have hS:=b3v hR;rw[hR] at hr;have HR:=zh hr;have HPO:Hid (Po=d8s (N.map (e2a (f7j xd xe) (f7k xd xe))) A 0 w):=zh (hPo.trans (by unfold f7z;rw[if_neg (by rw[hR];simp)]));have HCN:Hid (∀ n ∈ N,a1x n=true):=fun n hn=>f4y hR hn
  have HGE:Hid (∀ k,k<N.length->∃ n,N[k]?=some n):=fun k h=>⟨_,jH h⟩
  obtain⟨LN,hLN⟩:=nM N.length;obtain⟨LA,hLA⟩:=nM A.length;have hl3:=hS.1;rw[<-hLN] at HGE hl2 hl3;rw[<-hLA] at hl;have HLN:=zh hLN;have HLA:=zh hLA;clear hr hR hN hA hf hPo hS hLN hLA;go_enter Tryz.func10,Tryz.ntmps10
  go_upto_region 1 with fail
  obtain⟨s2,F,R,hws,hdF,hdR,hsz,zF,zR⟩:=nm2 w (.cells #[u,v] 25) (.cells #[.slice none 0 0,.slice none 0 0] 25);have hN:=bx1 (b:=F) hws hdF;have kF0:=hN 0 _ rfl;have kF1:=hN 1 _ rfl;clear hN;have lF:w.heap.size<=F:=by omega
  have hN:=bx0 (b:=R) hws (by simp[hdR]);have hM:=bf0 (b:=R) hws (by simp[hdR]);have kR0:=hN 0 _ rfl;have kR1:=hN 1 _ rfl;have fR0:=hM 0;have fR1:=hM 1;clear hN hM;have lR:w.heap.size<=R:=by omega
  have hBo:=bs2 bR hws;rw[<-hws];try rw[<-hdR]
  try rw[<-hdF]
  clear hws hsz hdF hdR;go_wp2_with fail;refine cAn (HR.out _ (HN.out.below hBo) (HA.out.below hBo)) fun w5 hb=>?_
  replace kF0:=a0f hb kF0 zF;replace kF1:=a0f hb kF1 zF;replace zF:=zHl hb zF;replace kR0:=a0f hb kR0 zR;replace kR1:=a0f hb kR1 zR;replace fR0:=a0g hb fR0 zR;replace fR1:=a0g hb fR1 zR;replace zR:=zHl hb zR;replace hBo:=f4s hBo hb;clear hb;go_wp2_with fail;have HZ:Hid (∀ W,Below (w5.heap.size) w5 W->Bl w W):=fun W h=>bT hBo h
  have HR1:Hid (∀ W,Below (w5.heap.size) w5 W->W.cell? ⟨R,0,none⟩=some (.slice none 0 0)/\W.cell? ⟨R,1,none⟩=some (.slice none 0 0)/\W.frozen? ⟨R,0,none⟩=false/\W.frozen? ⟨R,1,none⟩=false):=fun W h=>⟨(h.cell (p:=⟨R,0,none⟩) zR).trans kR0,(h.cell (p:=⟨R,1,none⟩) zR).trans kR1,(h.frozen (p:=⟨R,0,none⟩) zR).trans fR0,(h.frozen (p:=⟨R,1,none⟩) zR).trans fR1⟩
  have HLR:=zh lR;have HR6:=zh zR;refine(HCP.out _ (HN.out.below hBo) (HA.out.below hBo)).mono ?_;rintro e w7 ⟨⟨us,vs,rfl,ho1,ho2,huv⟩,hb⟩;rw[<-HLN.out] at ho1;rw[<-HLA.out] at ho2;obtain⟨g,on,cap,rfl,HON⟩:=e1d ho1 hl3;obtain⟨ba,ca,rfl⟩:=a0l ho2;have HO1:=zh ho1;have HO2:=zh ho2;have HUV:=zh huv;have HB7:Hid (Below (w5.heap.size) w5 w7):=zh hb;clear ho1 ho2 huv;replace kF0:=a0f hb kF0 zF;replace kF1:=a0f hb kF1 zF;replace zF:=zHl hb zF;replace kR0:=a0f hb kR0 zR;replace kR1:=a0f hb kR1 zR;replace fR0:=a0g hb fR0 zR;replace fR1:=a0g hb fR1 zR;replace zR:=zHl hb zR;replace hBo:=f4s hBo hb;clear hb;go_wp2_with fail;obtain⟨s3,O,hws,hdO,hsz,zO⟩:=nm1 w7 (.cells #[.slice (some ⟨g,on,none⟩) LN cap,.slice ba LA ca] 25);have hUp:=up1 hws;have hAO:w7.heap.size<=O:=by omega
  replace kF0:=a0f hUp kF0 zF;replace kF1:=a0f hUp kF1 zF;replace zF:=zHl hUp zF;replace kR0:=a0f hUp kR0 zR;replace kR1:=a0f hUp kR1 zR;replace fR0:=a0g hUp fR0 zR;replace fR1:=a0g hUp fR1 zR;replace zR:=zHl hUp zR;have hN:=bx0 (b:=O) hws hdO;have hM:=bf0 (b:=O) hws hdO;have kO0:=hN 0 _ rfl;have kO1:=hN 1 _ rfl;have fO0:=hM 0;have fO1:=hM 1;clear hN hM;have lO:w.heap.size<=O:=by have:=hBo.size;omega
  replace hBo:=bs1 hBo hws;rw[<-hws];try rw[<-hdO]
  clear hws hsz hdO;have HGA:Hid (GAt s3 O w5.heap.size N A (.slice (some ⟨g,on,none⟩) LN cap) (.slice ba LA ca)):=⟨kO0,kO1,fO0,fO1,by rw[<-HLN.out];exact a1g HO1.out hUp,by rw[<-HLA.out];exact a1g HO2.out hUp,HUV.out,fun y hy e=>by have:=(HO1.out.lt y hy).2;omega,fun y hy e=>by have:=(HO2.out.lt y hy).2;omega,by have:=HB7.out.size;omega,zO⟩;have HBO:Hid (Below (w5.heap.size) w5 s3):=HB7.out.trans (hUp.mono HB7.out.size);obtain⟨t1,ht1⟩:=nM s3;subst ht1;obtain⟨t0,ht0⟩:=nM w5;rw[<-ht0] at HZ HR1 HR6 HGA HBO HO1 HO2 HB7;obtain⟨b6,hb6⟩:=nM t0.heap.size;rw[<-hb6] at HZ HR1 HR6 HGA HBO HO1 HO2 HB7;have q0:=HGA.out.c0;have zO:=HGA.out.pz;clear ht0 hb6 hud hUp hAO hBo kF0 kF1 zF lF kR0 kR1 fR0 fR1 zR lR kO0 kO1 fO0 fO1 lO HO1 HO2 HB7 HR HCP HN HA HUV;go_wp2_with fail
  go_loopw [9] (f2y t0 O b6 (e2a (f7j xd xe) (f7k xd xe)) N A (.slice (some ⟨g,on,none⟩) LN cap) (.slice ba LA ca)) (fun r _=>LN-(intOf r).toNat)
  case atStart=>exact⟨0,Nat.zero_le _,rfl,by rw[e2x];exact HGA.out,HBO.out⟩
  case round =>
   obtain⟨k,hk,rfl,hga,hW⟩:=hrel;rw[<-HLN.out] at hk;have HW:=zh hW;have HWK:=zh hga;have q0:=hga.c0;have zO:=hga.pz;have hBo:=HZ.out _ hW;clear hW hga HGA HBO;by_cases hlt:k<LN
   ·
    obtain⟨n,hn⟩:=HGE.out k hlt;obtain⟨bq,cq,hq,hcs⟩:=(NodesAt.of_owns HWK.out.ou).2.slice;obtain⟨gn,om,rfl,hcn⟩:=hcs k n (e1w _ hn);obtain⟨⟨rfl,rfl⟩,-,-⟩:(g=gn/\on=om)/\LN=(e0p (e2a (f7j xd xe) (f7k xd xe)) N k).length/\cap=cq:=by simpa using hq
    have LN0:=a0p wr g (on+k*K19) HK19 n (fun j u hu=>by rw[HK19.out];exact hcn j u hu);have HN0:=zh hn;clear hcn hcs hq hn
    go_upto_region 8 with (refine a0c rfl _ _ rfl rfl _ _ _ rfl rfl rfl (by rfl) (by rfl) (by rfl) ?_)
    obtain⟨s4,X,hws,hdX,hsz,zX⟩:=nm1 wr (.cells #[I6 n.k,I6 n.o,I6 n.a,I6 n.b,Bv n.qn,Sg n.qa,Sg n.qd,Sg n.s,Bv n.tr,Sg n.r.sh,I6 n.r.c,I6 n.r.r,Bv n.r.fc,Bv n.r.fr,Sg n.t.sh,I6 n.t.c,I6 n.t.r,Bv n.t.fc,Bv n.t.fr] 69);have hUp:=up1 hws;have hAX:wr.heap.size<=X:=by omega
    have yX:=by0 (b:=X) hws hdX;have kX0:s4.cell? ⟨X,0,none⟩=some (I6 n.k):=yX 0;have LX:=eqM HK19 yX;replace hBo:=bs1 hBo hws;rw[<-hws];try rw[<-hdX]
    clear hws hsz hdX;clear LN0;obtain⟨we,hwe⟩:=nM s4;subst hwe;have HWX:=zh (HWK.out.below hUp);have HBX:Hid (Below b6 t0 we):=HW.out.trans (hUp.mono (jG HWK.out.pb (Nat.le_of_lt HWK.out.pz)));have HXO:Hid (X≠O/\∀ q,some g=some q->X≠q):=zh ⟨by have:=HWK.out.pz;omega,fun q hq e=>by have:=(HWK.out.ou.lt q hq).2;omega⟩;have HGO:Hid (∀ q,some g=some q->O≠q):=zh HWK.out.up
    have hrest:(n.k==5)=true/\(n.k==6)=false\/((n.k==5)=false/\(n.k==6)=true)\/((n.k==5)=false/\(n.k==6)=false):=by
     by_cases h5:n.k=5
     ·
      exact Or.inl ⟨by simpa using h5,by rw[h5];decide⟩
     ·
      have h5b:(n.k==5)=false:=by simpa using h5
      cases (n.k==6)<;>simp[h5b]
    have hm:n ∈ N:=List.mem_of_getElem? HN0.out;obtain⟨-,-,-,hsz1,hsz2⟩:=HFT.out n hm;have q0:=HWX.out.c0;have zO:=HWX.out.pz;clear hUp hAX
    rcases hrest with ⟨h5,h6⟩ | ⟨h5,h6⟩ | ⟨h5,h6⟩
    case inr.inr =>
     have HFN:=zh (f0e (fo:=f7j xd xe) (fb:=f7k xd xe) h5 h6);go_wp2_with fail
     go_roundw
     case rel=>exact⟨k+1,by rw[<-HLN.out];omega,by go_num,by rw[e2y _ HN0.out HFN.out];exact HWX.out,HBX.out⟩
     case measure=>simp[intOf];omega
    case inl =>
     have hh:=HMV.out n.r hsz1 (f4a (HCN.out n hm) (by simpa using h5)).2;have hfn:=f3h (fo:=f7j xd xe) (fb:=f7k xd xe) h5;unfold f7j at hfn;dsimp only at hfn;generalize mvR n.r xd xe=c at hh hfn;generalize mvB n.r xd xe=p at hh hfn;obtain⟨csh,cc,cr,cf,cg⟩:=c;obtain⟨m,hm2⟩:∃ m,m=e9t ⟨csh,cc,cr,cf,cg⟩ p:=⟨_,rfl⟩;have htc:=fun w=>f7v ⟨csh,cc,cr,cf,cg⟩ p w
     dsimp only at hh htc;rw[<-hm2] at hfn htc;have HH:=zh hh;have HTC:=zh htc;have HFN:Hid (e2a (f7j xd xe) (f7k xd xe) n=m):=zh hfn;clear hh htc hfn hm2 hsz1 hsz2;go_wp2_with fail;refine cAn (HH.out _) fun w5 hb=>?_
     have HG5:=zh (HWX.out.below hb);have HB5:Hid (Below b6 t0 w5):=HBX.out.trans (hb.mono (jG HWX.out.pb (Nat.le_of_lt HWX.out.pz)));clear q0 zO;replace yX:=eqB hb yX zX;replace kX0:w5.cell? ⟨X,0,none⟩=some (I6 n.k):=yX 0;replace zX:=zHl hb zX;replace hBo:=f4s hBo hb;clear hb;replace LX:=eqM HK19 yX;have q0:=HG5.out.c0;have zO:=HG5.out.pz
     go_upto_region 10 with fail
     obtain⟨s5,P,hws,hdP,hsz,zP⟩:=nm1 w5 (.cells #[Sg csh,I6 cc,I6 cr,Bv cf,Bv cg] 67);have hUp:=up1 hws;have hAP:w5.heap.size<=P:=by omega
     replace yX:=eqB hUp yX zX;replace kX0:s5.cell? ⟨X,0,none⟩=some (I6 n.k):=yX 0;replace zX:=zHl hUp zX;have hN:=bx0 (b:=P) hws hdP;have kP0:=hN 0 _ rfl;have kP1:=hN 1 _ rfl;have kP2:=hN 2 _ rfl;have kP3:=hN 3 _ rfl;have kP4:=hN 4 _ rfl;clear hN;replace LX:=eqM HK19 yX;replace hBo:=bs1 hBo hws;rw[<-hws];try rw[<-hdP]
     clear hws hsz hdP;have HGW:=zh (HG5.out.below hUp);have HBW:Hid (Below b6 t0 s5):=HB5.out.trans (hUp.mono (jG HG5.out.pb (Nat.le_of_lt HG5.out.pz)));have HPO:Hid (∀ q,some g=some q->P≠q):=zh (fun q hq e=>by have:=(HG5.out.ou.lt q hq).2;omega);have q0:=HGW.out.c0;have zO:=HGW.out.pz;clear hUp LX hAP;obtain⟨w6,hw6⟩:=nM s5;rw[<-hw6] at HGW HBW q0 zO kX0 kP0 kP1 kP2 kP3 kP4 zX zP hBo |-
     clear hw6 yX;have HF:=hFF hBo;clear hBo;refine wp_region_held_drew (S:=fun w'=>w'.cell? ⟨O,0,none⟩=some (.slice (some ⟨g,on,none⟩) LN cap)/\w'.cell? ⟨P,0,none⟩=some (Sg csh)/\w'.cell? ⟨P,1,none⟩=some (I6 cc)/\w'.cell? ⟨P,2,none⟩=some (I6 cr)/\w'.cell? ⟨P,3,none⟩=some (Bv cf)/\w'.cell? ⟨P,4,none⟩=some (Bv cg)) (by kernel_rfl) JB (fun hHeld=>?_)
     refine tk 0 ?_;refine tk 1 ?_;refine tk 2 ?_;refine tk 3 ?_;refine tk 4 ?_;refine rd1 5 (by kernel_rfl) rfl fun K hK=>?_
     go_simp
     (go_at_call 32;refine cAn (HTC.out _) fun x6 hbx=>?_;obtain⟨hTx,hcx,hfx⟩:=bAn w6 hbx)
     try (go_wp2_with fail)
     refine hK.out _ _ JB (fun hHeld=>?_)
     clear hK K;try simp only[pz]
     refine tk 6 ?_;refine rd1 7 (by kernel_rfl) rfl fun K hK=>?_
     (refine d7v rfl _ _ rfl rfl (base:=b6) (N:=e0p (e2a (f7j xd xe) (f7k xd xe)) N k) m HK19 HON (by have:=(HGW.out.below hTx).ou;rwa [d7p,<-HLN.out] at this) (by rw[d7p,<-HLN.out];exact hlt) (by rfl) (by rfl) ?_;intro wf hown2 hgrow2 hsz2;have e0:=a0a hgrow2 ((hcx O 0 zO).trans q0) HGO.out;have eP0:=a0a hgrow2 ((hcx P 0 zP).trans kP0) HPO.out;have eP1:=a0a hgrow2 ((hcx P 1 zP).trans kP1) HPO.out;have eP2:=a0a hgrow2 ((hcx P 2 zP).trans kP2) HPO.out;have eP3:=a0a hgrow2 ((hcx P 3 zP).trans kP3) HPO.out;have eP4:=a0a hgrow2 ((hcx P 4 zP).trans kP4) HPO.out;have eX0:=a0a hgrow2 ((hcx X 0 zX).trans kX0) HXO.out.2)
     refine hK.out _ _ JB (fun hHeld=>?_)
     clear hK K;try simp only[pz]
     refine wpAnyH_done (by kernel_rfl) ?_ _;go_wp2_with fail
     go_roundw
     case rel =>
      have hGX:=HGW.out.below hTx;refine⟨k+1,by rw[<-HLN.out];omega,by go_num,?_,a3m (HBW.out.trans (hTx.mono (jG HGW.out.pb (Nat.le_of_lt HGW.out.pz)))) hGX.ou (jC _) (jG hGX.pb (Nat.le_of_lt hGX.pz)) hgrow2⟩;rw[d9e _ HN0.out,HFN.out];exact hGX.set hgrow2 (by rw[List.length_set,d7p,<-HLN.out];exact hown2)
     case measure=>simp[intOf];omega
    case inr.inl =>
     have hh1:=HMV.out n.r hsz1 (f6e (HCN.out n hm) (by simpa using h6)).1;have hh2:=HMV.out n.t hsz2 (f6e (HCN.out n hm) (by simpa using h6)).2;have hfn:=f3i (fo:=f7j xd xe) (fb:=f7k xd xe) h5 h6;unfold f7k at hfn;dsimp only at hfn;generalize mvR n.r xd xe=c at hh1 hfn;generalize mvB n.r xd xe=p at hh1 hfn;generalize mvR n.t xd xe=d at hh2 hfn;generalize mvB n.t xd xe=q at hh2 hfn;obtain⟨csh,cc,cr,cf,cg⟩:=c;obtain⟨dsh,dc,dr,df,dg⟩:=d;obtain⟨m,hm2⟩:∃ m,m=e8h ⟨csh,cc,cr,cf,cg⟩ ⟨dsh,dc,dr,df,dg⟩ (p&&q):=⟨_,rfl⟩;have htc:=fun w=>f7w ⟨csh,cc,cr,cf,cg⟩ ⟨dsh,dc,dr,df,dg⟩ (p&&q) w
     dsimp only at hh1 hh2 htc;rw[<-hm2] at hfn htc;have HH1:=zh hh1;have HH2:=zh hh2;have HFN:Hid (e2a (f7j xd xe) (f7k xd xe) n=m):=zh hfn;clear hh1 hh2 hfn hm2 hsz1 hsz2;go_wp2_with fail;refine cAn (HH1.out _) fun w5 hb=>?_
     have HG5:=zh (HWX.out.below hb);have HB5:Hid (Below b6 t0 w5):=HBX.out.trans (hb.mono (jG HWX.out.pb (Nat.le_of_lt HWX.out.pz)));clear q0 zO;replace yX:=eqB hb yX zX;replace kX0:w5.cell? ⟨X,0,none⟩=some (I6 n.k):=yX 0;replace zX:=zHl hb zX;replace hBo:=f4s hBo hb;clear hb;replace LX:=eqM HK19 yX
     go_upto_region 13 with fail
     obtain⟨s7,P,hws,hdP,hsz,zP⟩:=nm1 w5 (.cells #[Sg csh,I6 cc,I6 cr,Bv cf,Bv cg] 67);have hUp:=up1 hws;have hAP:w5.heap.size<=P:=by omega
     replace yX:=eqB hUp yX zX;replace kX0:s7.cell? ⟨X,0,none⟩=some (I6 n.k):=yX 0;replace zX:=zHl hUp zX;have hN:=bx0 (b:=P) hws hdP;have kP0:=hN 0 _ rfl;have kP1:=hN 1 _ rfl;have kP2:=hN 2 _ rfl;have kP3:=hN 3 _ rfl;have kP4:=hN 4 _ rfl;clear hN;replace LX:=eqM HK19 yX;replace hBo:=bs1 hBo hws;rw[<-hws];try rw[<-hdP]
     clear hws hsz hdP;have HG6:=zh (HG5.out.below hUp);have HB6:Hid (Below b6 t0 s7):=HB5.out.trans (hUp.mono (jG HG5.out.pb (Nat.le_of_lt HG5.out.pz)));have HPO:Hid (∀ q,some g=some q->P≠q):=zh (fun q hq e=>by have:=(HG5.out.ou.lt q hq).2;omega);clear hUp hAP LX;go_wp2_with fail;refine cAn (HH2.out _) fun w7 hb=>?_
     have HG7:=zh (HG6.out.below hb);have HB7:Hid (Below b6 t0 w7):=HB6.out.trans (hb.mono (jG HG6.out.pb (Nat.le_of_lt HG6.out.pz)));replace yX:=eqB hb yX zX;replace kX0:w7.cell? ⟨X,0,none⟩=some (I6 n.k):=yX 0;replace zX:=zHl hb zX;have q:=fun {j u} h=>a0f (p:=⟨P,j,none⟩) (v:=u) hb h zP;replace kP0:=q kP0;replace kP1:=q kP1;replace kP2:=q kP2;replace kP3:=q kP3;replace kP4:=q kP4;clear q;replace zP:=zHl hb zP
     replace hBo:=f4s hBo hb;clear hb;replace LX:=eqM HK19 yX;have q0:=HG7.out.c0;have zO:=HG7.out.pz
     go_upto_region 14 with fail
     obtain⟨s8,Q,hws,hdQ,hsz,zQ⟩:=nm1 w7 (.cells #[Sg dsh,I6 dc,I6 dr,Bv df,Bv dg] 67);have hUp:=up1 hws;have hAQ:w7.heap.size<=Q:=by omega
     replace yX:=eqB hUp yX zX;replace kX0:s8.cell? ⟨X,0,none⟩=some (I6 n.k):=yX 0;replace zX:=zHl hUp zX;replace kP0:=a0f hUp kP0 zP;replace kP1:=a0f hUp kP1 zP;replace kP2:=a0f hUp kP2 zP;replace kP3:=a0f hUp kP3 zP;replace kP4:=a0f hUp kP4 zP;replace zP:=zHl hUp zP;have hN:=bx0 (b:=Q) hws hdQ;have kQ0:=hN 0 _ rfl;have kQ1:=hN 1 _ rfl;have kQ2:=hN 2 _ rfl;have kQ3:=hN 3 _ rfl;have kQ4:=hN 4 _ rfl;clear hN;replace LX:=eqM HK19 yX;replace hBo:=bs1 hBo hws;rw[<-hws];try rw[<-hdQ]
     clear hws hsz hdQ;have HGW:=zh (HG7.out.below hUp);have HBW:Hid (Below b6 t0 s8):=HB7.out.trans (hUp.mono (jG HG7.out.pb (Nat.le_of_lt HG7.out.pz)));have HQO:Hid (∀ q,some g=some q->Q≠q):=zh (fun q hq e=>by have:=(HG7.out.ou.lt q hq).2;omega);have q0:=HGW.out.c0;have zO:=HGW.out.pz;clear hUp hAQ;obtain⟨w6,hw6⟩:=nM s8;rw[<-hw6] at HGW HBW q0 zO kP0 kP1 kP2 kP3 kP4 kQ0 kQ1 kQ2 kQ3 kQ4 zP zQ hBo |-
     clear hw6 yX
     cases p with
     | false =>
      rw[Bool.false_and] at htc;have HTC:=zh htc;clear htc;have HF:=hFF hBo;clear hBo;refine wp_region_held_drew (S:=fun w'=>w'.cell? ⟨O,0,none⟩=some (.slice (some ⟨g,on,none⟩) LN cap)/\w'.cell? ⟨P,0,none⟩=some (Sg csh)/\w'.cell? ⟨P,1,none⟩=some (I6 cc)/\w'.cell? ⟨P,2,none⟩=some (I6 cr)/\w'.cell? ⟨P,3,none⟩=some (Bv cf)/\w'.cell? ⟨P,4,none⟩=some (Bv cg)/\w'.cell? ⟨Q,0,none⟩=some (Sg dsh)/\w'.cell? ⟨Q,1,none⟩=some (I6 dc)/\w'.cell? ⟨Q,2,none⟩=some (I6 dr)/\w'.cell? ⟨Q,3,none⟩=some (Bv df)/\w'.cell? ⟨Q,4,none⟩=some (Bv dg)) (by kernel_rfl) JB (fun hHeld=>?_)
      refine tk 0 ?_;refine tk 1 ?_;refine tk 2 ?_;refine tk 3 ?_;refine tk 4 ?_;refine tk 5 ?_;refine tk 6 ?_;refine tSk 7 ?_;refine tk 8 ?_;refine rd1 9 (by kernel_rfl) rfl fun K hK=>?_
      go_simp
      (go_at_call 33;refine cAn (HTC.out _) fun x9 hbx=>?_;obtain⟨hTx,hcx,hfx⟩:=bAn w6 hbx)
      try (go_wp2_with fail)
      refine hK.out _ _ JB (fun hHeld=>?_)
      clear hK K;try simp only[pz]
      refine tk 10 ?_;refine rd1 11 (by kernel_rfl) rfl fun K hK=>?_
      (refine d7v rfl _ _ rfl rfl (base:=b6) (N:=e0p (e2a (f7j xd xe) (f7k xd xe)) N k) m HK19 HON (by have:=(HGW.out.below hTx).ou;rwa [d7p,<-HLN.out] at this) (by rw[d7p,<-HLN.out];exact hlt) (by rfl) (by rfl) ?_;intro wf hown2 hgrow2 hsz2;have e0:=a0a hgrow2 ((hcx O 0 zO).trans q0) HGO.out;have eP0:=a0a hgrow2 ((hcx P 0 zP).trans kP0) HPO.out;have eP1:=a0a hgrow2 ((hcx P 1 zP).trans kP1) HPO.out;have eP2:=a0a hgrow2 ((hcx P 2 zP).trans kP2) HPO.out;have eP3:=a0a hgrow2 ((hcx P 3 zP).trans kP3) HPO.out;have eP4:=a0a hgrow2 ((hcx P 4 zP).trans kP4) HPO.out;have eQ0:=a0a hgrow2 ((hcx Q 0 zQ).trans kQ0) HQO.out;have eQ1:=a0a hgrow2 ((hcx Q 1 zQ).trans kQ1) HQO.out;have eQ2:=a0a hgrow2 ((hcx Q 2 zQ).trans kQ2) HQO.out;have eQ3:=a0a hgrow2 ((hcx Q 3 zQ).trans kQ3) HQO.out;have eQ4:=a0a hgrow2 ((hcx Q 4 zQ).trans kQ4) HQO.out)
      refine hK.out _ _ JB (fun hHeld=>?_)
      clear hK K;try simp only[pz]
      refine wpAnyH_done (by kernel_rfl) ?_ _;go_wp2_with fail
      go_roundw
      case rel =>
       have hGX:=HGW.out.below hTx;refine⟨k+1,by rw[<-HLN.out];omega,by go_num,?_,a3m (HBW.out.trans (hTx.mono (jG HGW.out.pb (Nat.le_of_lt HGW.out.pz)))) hGX.ou (jC _) (jG hGX.pb (Nat.le_of_lt hGX.pz)) hgrow2⟩;rw[d9e _ HN0.out,HFN.out];exact hGX.set hgrow2 (by rw[List.length_set,d7p,<-HLN.out];exact hown2)
      case measure=>simp[intOf];omega
     | true =>
      rw[Bool.true_and] at htc;have HTC:=zh htc;clear htc;have HF:=hFF hBo;clear hBo;refine wp_region_held_drew (S:=fun w'=>w'.cell? ⟨O,0,none⟩=some (.slice (some ⟨g,on,none⟩) LN cap)/\w'.cell? ⟨P,0,none⟩=some (Sg csh)/\w'.cell? ⟨P,1,none⟩=some (I6 cc)/\w'.cell? ⟨P,2,none⟩=some (I6 cr)/\w'.cell? ⟨P,3,none⟩=some (Bv cf)/\w'.cell? ⟨P,4,none⟩=some (Bv cg)/\w'.cell? ⟨Q,0,none⟩=some (Sg dsh)/\w'.cell? ⟨Q,1,none⟩=some (I6 dc)/\w'.cell? ⟨Q,2,none⟩=some (I6 dr)/\w'.cell? ⟨Q,3,none⟩=some (Bv df)/\w'.cell? ⟨Q,4,none⟩=some (Bv dg)) (by kernel_rfl) JB (fun hHeld=>?_)
      refine tk 0 ?_;refine tk 1 ?_;refine tk 2 ?_;refine tk 3 ?_;refine tk 4 ?_;refine tk 5 ?_;refine tk 6 ?_;refine tk 7 ?_;refine tk 8 ?_;refine rd1 9 (by kernel_rfl) rfl fun K hK=>?_
      go_simp
      (go_at_call 33;refine cAn (HTC.out _) fun x10 hbx=>?_;obtain⟨hTx,hcx,hfx⟩:=bAn w6 hbx)
      try (go_wp2_with fail)
      refine hK.out _ _ JB (fun hHeld=>?_)
      clear hK K;try simp only[pz]
      refine tk 10 ?_;refine rd1 11 (by kernel_rfl) rfl fun K hK=>?_
      (refine d7v rfl _ _ rfl rfl (base:=b6) (N:=e0p (e2a (f7j xd xe) (f7k xd xe)) N k) m HK19 HON (by have:=(HGW.out.below hTx).ou;rwa [d7p,<-HLN.out] at this) (by rw[d7p,<-HLN.out];exact hlt) (by rfl) (by rfl) ?_;intro wf hown2 hgrow2 hsz2;have e0:=a0a hgrow2 ((hcx O 0 zO).trans q0) HGO.out;have eP0:=a0a hgrow2 ((hcx P 0 zP).trans kP0) HPO.out;have eP1:=a0a hgrow2 ((hcx P 1 zP).trans kP1) HPO.out;have eP2:=a0a hgrow2 ((hcx P 2 zP).trans kP2) HPO.out;have eP3:=a0a hgrow2 ((hcx P 3 zP).trans kP3) HPO.out;have eP4:=a0a hgrow2 ((hcx P 4 zP).trans kP4) HPO.out;have eQ0:=a0a hgrow2 ((hcx Q 0 zQ).trans kQ0) HQO.out;have eQ1:=a0a hgrow2 ((hcx Q 1 zQ).trans kQ1) HQO.out;have eQ2:=a0a hgrow2 ((hcx Q 2 zQ).trans kQ2) HQO.out;have eQ3:=a0a hgrow2 ((hcx Q 3 zQ).trans kQ3) HQO.out;have eQ4:=a0a hgrow2 ((hcx Q 4 zQ).trans kQ4) HQO.out)
      refine hK.out _ _ JB (fun hHeld=>?_)
      clear hK K;try simp only[pz]
      refine wpAnyH_done (by kernel_rfl) ?_ _;go_wp2_with fail
      go_roundw
      case rel =>
       have hGX:=HGW.out.below hTx;refine⟨k+1,by rw[<-HLN.out];omega,by go_num,?_,a3m (HBW.out.trans (hTx.mono (jG HGW.out.pb (Nat.le_of_lt HGW.out.pz)))) hGX.ou (jC _) (jG hGX.pb (Nat.le_of_lt hGX.pz)) hgrow2⟩;rw[d9e _ HN0.out,HFN.out];exact hGX.set hgrow2 (by rw[List.length_set,d7p,<-HLN.out];exact hown2)
      case measure=>simp[intOf];omega
   ·
    obtain rfl:k=LN:=by omega
    have hga:GAt wr O b6 (N.map (e2a (f7j xd xe) (f7k xd xe))) A (.slice (some ⟨g,on,none⟩) k cap) (.slice ba LA ca):=by
     have h:=HWK.out
     rwa [show e0p (e2a (f7j xd xe) (f7k xd xe)) N k=N.map (e2a (f7j xd xe) (f7k xd xe)) by rw[HLN.out,e4r]] at h
    have HGF:=zh hga;obtain⟨kR0,kR1,fR0,fR1⟩:=HR1.out _ HW.out;have zR:=a0j kR0;have q1:=hga.c1;clear hga;go_wp2_with fail;refine jU (v:=.tuple #[.agg #[.slice (some ⟨g,on,none⟩) k cap,.slice ba LA ca],I6 0]) (by simp[results,Tryz.results10,go_sem,kR0,kR1,fR0,fR1,zR,q0,q1]) rfl ?_;rw[HPO.out];exact⟨⟨_,_,rfl,(NodesAt.of_owns (ownsRow_setCell_below (ownsRow_setCell_below HGF.out.ou HR6.out _) HR6.out _)).2,(IntsAt.of_owns (ownsRow_setCell_below (ownsRow_setCell_below HGF.out.ov HR6.out _) HR6.out _)).2⟩,(hBo.setCell HLR.out _).setCell HLR.out _⟩
set_option maxHeartbeats 16000000
theorem f9e (x y:Value) (w:World):(callFunc 26 #[x,y]).run Tryz.prog w=.ok (.enter 26 #[x,y]) w:=by kernel_rfl
theorem f8d (xd xe:Int) (r:Rf) (w:World) (hs:r.sh.size<=100) (h0:a8g r.sh r.c r.r=true) (hd1 : -9223372036854775808<=xd) (hd2:xd<=9223372036854775807) (he1 : -9223372036854775808<=xe) (he2:xe<=9223372036854775807) :
  Calls Tryz.prog 26 #[.agg #[I6 xd,I6 xe],.agg #[Sg r.sh,I6 r.c,I6 r.r,Bv r.fc,Bv r.fr]] w fun e w'=>e=.returned (.tuple #[.agg #[Sg ((mvR r xd xe)).sh,I6 ((mvR r xd xe)).c,I6 ((mvR r xd xe)).r,Bv ((mvR r xd xe)).fc,Bv ((mvR r xd xe)).fr],Bv (mvB r xd xe)])/\Bl w w':=by
 have hud:=hUd;have hm:=fun w=>f9o r xd xe w (jG hs (by decide)) h0 hd1 hd2 he1 he2
 generalize mvR r xd xe=c at *;generalize mvB r xd xe=p at *;obtain⟨csh,cc,cr,cf,cg⟩:=c;obtain⟨rs,rc,rr,rf,rg⟩:=r;dsimp only at hm |-
 have HM:=zh hm;clear hm h0;go_enter Tryz.func26,Tryz.ntmps26
 go_upto_region 1 with fail
 obtain⟨s1,C,A,R,hws,hdC,hdA,hdR,hsz,zC,zA,zR⟩:=nm3 w (.cells #[I6 xd,I6 xe] 60) (.cells #[Sg rs,I6 rc,I6 rr,Bv rf,Bv rg] 67) (.cells #[S0,I6 0,I6 0,Bv false,Bv false] 67);have dRC:R≠C:=by omega
 have dRA:R≠A:=by omega
 have hN:=bx2 (b:=C) hws hdC;have kC0:=hN 0 _ rfl;have kC1:=hN 1 _ rfl;clear hN;have yA:=by1 (b:=A) hws (by simp[hdA]);have yR:=by0 (b:=R) hws (by simp[hdR]);have fR:=bf0 (b:=R) hws (by simp[hdR]);have lR:w.heap.size<=R:=by omega
 have hBo:=bs3 bR hws;rw[<-hws];try rw[<-hdR]
 try rw[<-hdA]
 try rw[<-hdC]
 clear hws hsz hdC hdA hdR;go_wp2_with fail;refine cAn (HM.out _) fun w5 hb=>?_
 replace yR:=eqB hb yR zR;replace fR:=fun j=>a0g hb (fR j) zR
 replace hBo:=f4s hBo hb;clear hb
 all_goals go_wp2_with fail
 all_goals refine jU (v:=.tuple #[.agg #[Sg csh,I6 cc,I6 cr,Bv cf,Bv cg],Bv p]) (by simp[results,Tryz.results26,go_sem,yR]) rfl ⟨rfl,?_⟩
 all_goals exact(sc5 hBo lR)
theorem f7o (u v:Value) (N:List Nd) (A:List Int) (xd xe:Int) (w:World) (hN:NodesAt w u N) (hA:IntsAt w v A) (hf:∀ n ∈ N,Fits n) (hnm:NamesAt w) (hl:A.length<=1000) (hl2:N.length<=1000) (hd1 : -9223372036854775808<=xd) (hd2:xd<=9223372036854775807) (he1 : -9223372036854775808<=xe) (he2:xe<=9223372036854775807) :
  Calls Tryz.prog 8 #[.agg #[u,v],I6 xd,I6 xe] w (GotOwn (f7z N A xd xe).1 (f7z N A xd xe).2.1 (f7z N A xd xe).2.2 w):=by
 have hud:=hUd;have hr:=fun W h1 h2 h3=>a3y u v N A W h1 h2 hf h3 hl hl2
 have hmv:=fun (q:Rf) (hs:q.sh.size<=100) (h0:a8g q.sh q.c q.r=true) w=>f8d xd xe q w hs h0 hd1 hd2 he1 he2
 have hfw:=fun W (hR:a0w N A=true) (hn:0<N.length) h1 h2=>e1g u v 26 28 (.agg #[I6 xd,I6 xe]) (.func (.func 26) #[.agg #[I6 xd,I6 xe]] #[]) f9e f3k (f7j xd xe) (f7k xd xe) N A W h1 h2 hl hl2 hn (fun n hn h5 w=>hmv n.r (hf n hn).2.2.2.1 (f4a (f4y hR hn) h5).2 w) (fun n hn h6 w=>e9u 26 (.agg #[I6 xd,I6 xe]) f9e n.r n.t (mvR n.r xd xe) (mvR n.t xd xe) (mvB n.r xd xe) (mvB n.t xd xe) w (fun w=>hmv n.r (hf n hn).2.2.2.1 (f6e (f4y hR hn) h6).1 w) (fun w=>hmv n.t (hf n hn).2.2.2.2 (f6e (f4y hR hn) h6).2 w))
 have HN:=zh hN;have HA:=zh hA;have HM:=zh hnm;obtain⟨Po,hPo⟩:=nM (GotOwn (f7z N A xd xe).1 (f7z N A xd xe).2.1 (f7z N A xd xe).2.2 w);rw[<-hPo]
 cases hR:a0w N A with
 | false =>
  rw[hR] at hr;have HR:=zh hr;have HPO:Hid (Po=GotOwn [] [] 3 w):=zh (hPo.trans (by unfold f7z;rw[if_pos hR]));clear hr hR hN hA hf hPo hnm hmv hfw;go_enter Tryz.func8,Tryz.ntmps8
  go_upto_region 1 with fail
  obtain⟨s2,F,R,hws,hdF,hdR,hsz,zF,zR⟩:=nm2 w (.cells #[u,v] 25) (.cells #[.slice none 0 0,.slice none 0 0] 25);have hN:=bx1 (b:=F) hws hdF;have kF0:=hN 0 _ rfl;have kF1:=hN 1 _ rfl;clear hN;have hN:=bx0 (b:=R) hws (by simp[hdR]);have hM:=bf0 (b:=R) hws (by simp[hdR]);have kR0:=hN 0 _ rfl;have kR1:=hN 1 _ rfl;have fR0:=hM 0;have fR1:=hM 1;clear hN hM;have lR:w.heap.size<=R:=by omega
  have hBo:=bs2 bR hws;rw[<-hws];try rw[<-hdR]
  try rw[<-hdF]
  clear hws hsz hdF hdR;go_wp2_with fail;refine cAn (HR.out _ (HN.out.below hBo) (HA.out.below hBo) (HM.out.below hBo)) fun w5 hb=>?_
  replace kR0:=a0f hb kR0 zR;replace kR1:=a0f hb kR1 zR;replace fR0:=a0g hb fR0 zR;replace fR1:=a0g hb fR1 zR;replace hBo:=f4s hBo hb;clear hb;go_wp2_with fail;refine jU (v:=.tuple #[.agg #[.slice none 0 0,.slice none 0 0],I6 3]) (by simp[results,Tryz.results8,go_sem,kR0,kR1,fR0,fR1]) rfl ?_;rw[HPO.out];exact d9r (sc2 hBo lR)
 | true =>
  have hS:=b3v hR;rw[hR] at hr;have HR:=zh hr;have HFW:=zh (fun W=>hfw W hR (by omega));have HPO:Hid (Po=GotOwn (N.map (e2a (f7j xd xe) (f7k xd xe))) A 0 w):=zh (hPo.trans (by unfold f7z;rw[if_neg (by rw[hR];simp)]));clear hr hR hN hA hf hPo hnm hmv hfw hS;generalize N.map (e2a (f7j xd xe) (f7k xd xe))=M at HFW HPO;go_enter Tryz.func8,Tryz.ntmps8
  go_upto_region 1 with fail
  obtain⟨s3,F,R,hws,hdF,hdR,hsz,zF,zR⟩:=nm2 w (.cells #[u,v] 25) (.cells #[.slice none 0 0,.slice none 0 0] 25);have hN:=bx1 (b:=F) hws hdF;have kF0:=hN 0 _ rfl;have kF1:=hN 1 _ rfl;clear hN;have hN:=bx0 (b:=R) hws (by simp[hdR]);have hM:=bf0 (b:=R) hws (by simp[hdR]);have kR0:=hN 0 _ rfl;have kR1:=hN 1 _ rfl;have fR0:=hM 0;have fR1:=hM 1;clear hN hM;have lR:w.heap.size<=R:=by omega
  have hBo:=bs2 bR hws;rw[<-hws];try rw[<-hdR]
  try rw[<-hdF]
  clear hws hsz hdF hdR;go_wp2_with fail;refine cAn (HR.out _ (HN.out.below hBo) (HA.out.below hBo) (HM.out.below hBo)) fun w5 hb=>?_
  replace kF0:=a0f hb kF0 zF;replace kF1:=a0f hb kF1 zF;replace kR0:=a0f hb kR0 zR;replace kR1:=a0f hb kR1 zR;replace fR0:=a0g hb fR0 zR;replace fR1:=a0g hb fR1 zR;replace zR:=zHl hb zR;replace hBo:=f4s hBo hb;clear hb;go_wp2_with fail;refine(HFW.out _ (HN.out.below hBo) (HA.out.below hBo)).mono ?_;rintro e w7 ⟨⟨us,vs,rfl,h1,h2,-⟩,hb⟩;obtain⟨b1,c1,rfl⟩:=a0l h1;obtain⟨b2,c2,rfl⟩:=a0l h2;have HZR:=zh zR;have HWB:=zh hBo.size;have HN7:=zh h1;have HA7:=zh h2;clear h1 h2;obtain⟨ml,hml⟩:=nM M.length;obtain⟨al,hal⟩:=nM A.length;rw[<-hml] at HN7 |-
  rw[<-hal] at HA7 |-
  have HML:=zh hml;have HAL:=zh hal;clear hml hal;replace kR0:=a0f hb kR0 zR;replace kR1:=a0f hb kR1 zR;replace fR0:=a0g hb fR0 zR;replace fR1:=a0g hb fR1 zR;replace hBo:=f4s hBo hb;clear hb;go_wp2_with fail;refine jU (v:=.tuple #[.agg #[.slice b1 ml c1,.slice b2 al c2],I6 0]) (by simp[results,Tryz.results8,go_sem,kR0,kR1,fR0,fR1,zR]) rfl ?_;rw[HPO.out];exact⟨⟨_,_,rfl,by rw[<-HML.out];exact d6w (ownsRow_setCell_below (ownsRow_setCell_below HN7.out HZR.out _) HZR.out _) HWB.out,by rw[<-HAL.out];exact d6w (ownsRow_setCell_below (ownsRow_setCell_below HA7.out HZR.out _) HZR.out _) HWB.out⟩,(hBo.setCell lR _).setCell lR _⟩
theorem f7y {q:Rf} {d e:Int} (h:mvB q d e=true):d7t (mvR q d e)=true/\(mvR q d e).sh=q.sh:=by
 rw[f7t h];unfold mvB at h;rw[Bool.and_eq_true] at h;exact⟨h.2,rfl⟩
theorem f8u (q:Rf) (d e:Int) (h:q.sh.size<=100):(mvR q d e).sh.size<=100:=by
 unfold mvR
 split
 ·
  exact h
 ·
  show (ByteArray.mk #[]).size<=100;decide
theorem f8g {q:Rf} (h:d7t q=true):mvB q 0 0=true/\mvR q 0 0=q:=by
 have hc:∀ (f:Bool) (c:Int),mvC f c 0=c:=fun f c=>by unfold mvC;split<;>omega
 have hb:mvB q 0 0=true:=by
  unfold mvB;rw[hc,hc,show a8g q.sh q.c q.r=true from h];rfl
 refine⟨hb,?_⟩;rw[f7t hb,hc,hc]
theorem f8v (xd xe:Int) {N:List Nd} {A:List Int} (h:a0w N A=true):a0w (N.map (e2a (f7j xd xe) (f7k xd xe))) A=true :=
 f6c _ h fun n _ hc=>f7a hc (fun _ hy=>(f7y hy).1) (fun h6 hy=>by
  have hy:(mvB n.r xd xe&&mvB n.t xd xe)=true:=hy;rw[Bool.and_eq_true] at hy
  exact⟨(f7y hy.1).1,(f7y hy.2).1,(f7y hy.2).2.trans (f4b hc h6).2.2.2.2⟩)
theorem f8z {N:List Nd} {A:List Int} (h:a0w N A=true):N.map (e2a (f7j 0 0) (f7k 0 0))=N:=by
 conv=>rhs;rw[<-List.map_id N]
 refine List.map_congr_left fun n hn=>?_
 obtain⟨k,hk⟩:=List.getElem?_of_mem hn;have hc:=b9k h hk;by_cases h5:n.k=5
 ·
  obtain⟨e1,e2⟩:=f8g (f4a hc h5).2;rw[f3h (by simpa using h5)];unfold f7j;dsimp only;rw[e1,e2];exact f5c hc h5
 ·
  by_cases h6:n.k=6
  ·
   obtain⟨e1,e2⟩:=f8g (f6e hc h6).1;obtain⟨e3,e4⟩:=f8g (f6e hc h6).2;rw[f3i (by simpa using h5) (by simpa using h6)];unfold f7k;dsimp only;rw[e1,e2,e3,e4];exact f5l hc h6
  ·
   exact f0e (by simpa using h5) (by simpa using h6)
theorem f9a (xd xe:Int) {N:List Nd} {A:List Int} (h:a0w N A=true):f7z N A xd xe=(N.map (e2a (f7j xd xe) (f7k xd xe)),A,0):=if_neg (by rw[h];simp)
theorem f9b (xd xe:Int) {n:Nd} (h:Fits n):Fits (e2a (f7j xd xe) (f7k xd xe) n):=f6t h (f8u _ _ _ h.2.2.2.1) ⟨f8u _ _ _ h.2.2.2.1,f8u _ _ _ h.2.2.2.2⟩
end Go.Proofs.YtibiacmbljgmhaaGreatDoor
