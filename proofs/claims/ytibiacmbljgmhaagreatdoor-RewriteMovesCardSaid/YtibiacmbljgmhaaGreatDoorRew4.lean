/-
  
  
-/
import Derived.Test.YtibiacmbljgmhaaGreatDoorNdat
set_option maxHeartbeats 4000000
set_option maxRecDepth 100000
namespace Go.Proofs.YtibiacmbljgmhaaGreatDoor
open Go.RowKit Go.Shelf
set_option linter.all false
def d7c:Nd:=⟨4,3,0,0,false,⟨#[]⟩,⟨#[]⟩,⟨#[]⟩,false,rf0,rf0⟩
def e9t (r:Rf) (ok:Bool):Nd:=if ok=true then ⟨5,0,0,0,false,⟨#[]⟩,⟨#[]⟩,⟨#[]⟩,false,r,rf0⟩ else d7c
theorem e4t (w:World):Calls Tryz.prog 109 #[] w fun e w'=>e=.returned (ndV d7c)/\Bl w w':=by
 have hud:=hUd;obtain⟨K19,hz19,HK19⟩:=a0q;go_enter Tryz.func109,Tryz.ntmps109;go_wp2_with (refine a0c rfl _ _ rfl rfl (ndL d7c).toArray _ _ rfl rfl (by rfl) (by rfl) (by rfl) (by rfl) ?_);have LX:=a3o (W:=w.alloc (.cells (ndL d7c).toArray 69)) (g:=w.heap.size) (t:=69) (fr:=(0,0)) HK19 d7c (by rw[<-World.alloc_eq];show (w.heap.push _)[w.heap.size]?=_;simp);refine jU (v:=ndV d7c) (by simp[results,Tryz.results109,go_sem,hz19,LX]) rfl ⟨rfl,(Below.refl _ _).alloc (jC _) _⟩
theorem e6f (r:Rf) (ok:Bool) (w:World):Calls Tryz.prog 60 #[.agg #[Sg r.sh,I6 r.c,I6 r.r,Bv r.fc,Bv r.fr],Bv ok] w fun e w'=>e=.returned (ndV (e9t r ok))/\Bl w w':=by
 have hud:=hUd;obtain⟨K19,hz19,HK19⟩:=a0q;have HL:=zh e4t
 cases ok with
 | true =>
  show Calls _ _ _ _ fun e w'=>e=.returned (ndV ⟨5,0,0,0,false,⟨#[]⟩,⟨#[]⟩,⟨#[]⟩,false,r,rf0⟩)/\Bl w w'
  go_enter Tryz.func60,Tryz.ntmps60
  go_upto_region 1 with fail
  obtain⟨s5,A,Y,hws,hdA,hdY,hsz,zA,zY⟩:=nm2 w (.cells #[Sg r.sh,I6 r.c,I6 r.r,Bv r.fc,Bv r.fr] 67) (.cells #[I6 0,I6 0,I6 0,I6 0,Bv false,S0,S0,S0,Bv false,S0,I6 0,I6 0,Bv false,Bv false,S0,I6 0,I6 0,Bv false,Bv false] 69);have yA:=by1 (b:=A) hws hdA;have rY:s5.heap[Y]?=some (.cells #[I6 0,I6 0,I6 0,I6 0,Bv false,S0,S0,S0,Bv false,S0,I6 0,I6 0,Bv false,Bv false,S0,I6 0,I6 0,Bv false,Bv false] 69 (0,0)):=by have h:=heap_alloc_new (w.alloc (.cells #[Sg r.sh,I6 r.c,I6 r.r,Bv r.fc,Bv r.fr] 67)) (.cells #[I6 0,I6 0,I6 0,I6 0,Bv false,S0,S0,S0,Bv false,S0,I6 0,I6 0,Bv false,Bv false,S0,I6 0,I6 0,Bv false,Bv false] 69);rw[hws];simpa [hdA,hdY] using h
  have lY:w.heap.size<=Y:=by omega
  have hBo:=bs2 bR hws;rw[<-hws];try rw[<-hdY]
  try rw[<-hdA]
  clear hws hsz hdA hdY;have rY2:s5.heap[Y]?=_:=(by assumption);go_wp2_with (refine a1d rfl _ _ rfl rfl Y ⟨5,0,0,0,false,⟨#[]⟩,⟨#[]⟩,⟨#[]⟩,false,r,rf0⟩ _ _ rfl (by rfl) rY2 (by rfl) ?_);have LY:=a3o (W:=s5.setRow Y (ndL ⟨5,0,0,0,false,⟨#[]⟩,⟨#[]⟩,⟨#[]⟩,false,r,rf0⟩).toArray) HK19 ⟨5,0,0,0,false,⟨#[]⟩,⟨#[]⟩,⟨#[]⟩,false,r,rf0⟩ (setRow_heap _ Y _ _ _ _ rY2);refine jU (v:=ndV ⟨5,0,0,0,false,⟨#[]⟩,⟨#[]⟩,⟨#[]⟩,false,r,rf0⟩) (by simp[results,Tryz.results60,go_sem,hz19,LY]) rfl ⟨rfl,a2v hBo hBo.size lY⟩
 | false =>
  show Calls _ _ _ _ fun e w'=>e=.returned (ndV d7c)/\Bl w w'
  go_enter Tryz.func60,Tryz.ntmps60
  go_upto_region 1 with fail
  obtain⟨s6,A,Y,hws,hdA,hdY,hsz,zA,zY⟩:=nm2 w (.cells #[Sg r.sh,I6 r.c,I6 r.r,Bv r.fc,Bv r.fr] 67) (.cells #[I6 0,I6 0,I6 0,I6 0,Bv false,S0,S0,S0,Bv false,S0,I6 0,I6 0,Bv false,Bv false,S0,I6 0,I6 0,Bv false,Bv false] 69);have rY:s6.heap[Y]?=some (.cells #[I6 0,I6 0,I6 0,I6 0,Bv false,S0,S0,S0,Bv false,S0,I6 0,I6 0,Bv false,Bv false,S0,I6 0,I6 0,Bv false,Bv false] 69 (0,0)):=by have h:=heap_alloc_new (w.alloc (.cells #[Sg r.sh,I6 r.c,I6 r.r,Bv r.fc,Bv r.fr] 67)) (.cells #[I6 0,I6 0,I6 0,I6 0,Bv false,S0,S0,S0,Bv false,S0,I6 0,I6 0,Bv false,Bv false,S0,I6 0,I6 0,Bv false,Bv false] 69);rw[hws];simpa [hdA,hdY] using h
  have lY:w.heap.size<=Y:=by omega
  have hBo:=bs2 bR hws;rw[<-hws];try rw[<-hdY]
  try rw[<-hdA]
  clear hws hsz hdA hdY;go_wp2_with fail;refine cAn (HL.out _) fun w5 hb=>?_
  have rY2:w5.heap[Y]?=_:=(hb.block Y zY).trans rY;replace hBo:=f4s hBo hb;clear hb;go_wp2_with (refine a1d rfl _ _ rfl rfl Y d7c _ _ rfl (by rfl) rY2 (by rfl) ?_);have LY:=a3o (W:=w5.setRow Y (ndL d7c).toArray) HK19 d7c (setRow_heap _ Y _ _ _ _ rY2);refine jU (v:=ndV d7c) (by simp[results,Tryz.results60,go_sem,hz19,LY]) rfl ⟨rfl,a2v hBo hBo.size lY⟩
set_option maxHeartbeats 16000000
def e8h (a b:Rf) (ok:Bool):Nd:=if ok=true then (if a8z (d7o a b).1.c (d7o a b).1.r (d7o a b).2.c (d7o a b).2.r=0 then ⟨6,0,0,0,false,⟨#[]⟩,⟨#[]⟩,⟨#[]⟩,false,(d7o a b).1,(d7o a b).2⟩ else d7c) else d7c
abbrev rfL (p:Rf):List Value:=[Sg p.sh,I6 p.c,I6 p.r,Bv p.fc,Bv p.fr]
theorem f4q {W:World} {Y:Nat} {c:Array Value} {t:TypeId} {x:Nat × Nat} (h:W.heap[Y]?=some (.cells c t x)):∀ j,W.cell? ⟨Y,j,none⟩=c.toList[j]?:=fun j=>by
 unfold World.cell?;dsimp only;rw[h];simp
def f4r (A B Y:Nat) (b0:Nat) (t:World) (p q:Rf) (row:Obj) (wx:World):Prop:=(∀ j,wx.cell? ⟨A,j,none⟩=(rfL p)[j]?)/\(∀ j,wx.cell? ⟨B,j,none⟩=(rfL q)[j]?)/\(∀ j,wx.frozen? ⟨A,j,none⟩=false)/\(∀ j,wx.frozen? ⟨B,j,none⟩=false)/\wx.heap[Y]?=some row/\Below b0 t wx
theorem e6g (a b:Rf) (ok:Bool) (w:World):Calls Tryz.prog 61 #[.agg #[Sg a.sh,I6 a.c,I6 a.r,Bv a.fc,Bv a.fr],.agg #[Sg b.sh,I6 b.c,I6 b.r,Bv b.fc,Bv b.fr],Bv ok] w fun e w'=>e=.returned (ndV (e8h a b ok))/\Bl w w':=by
 have hud:=hUd;obtain⟨K19,hz19,HK19⟩:=a0q;have HL:=zh e4t
 cases ok with
 | false =>
  show Calls _ _ _ _ fun e w'=>e=.returned (ndV d7c)/\Bl w w'
  obtain⟨an,ac,ar,af,ag⟩:=a;obtain⟨bn,bc,br,bf,bg⟩:=b;go_enter Tryz.func61,Tryz.ntmps61
  go_upto_region 1 with fail
  obtain⟨s1,A,B,Y,hws,hdA,hdB,hdY,hsz,zA,zB,zY⟩:=nm3 w (.cells #[Sg an,I6 ac,I6 ar,Bv af,Bv ag] 67) (.cells #[Sg bn,I6 bc,I6 br,Bv bf,Bv bg] 67) (.cells #[I6 0,I6 0,I6 0,I6 0,Bv false,S0,S0,S0,Bv false,S0,I6 0,I6 0,Bv false,Bv false,S0,I6 0,I6 0,Bv false,Bv false] 69);have yA:=by2 (b:=A) hws hdA;have fA:=bf2 (b:=A) hws hdA;have lA:w.heap.size<=A:=by omega
  have yB:=by1 (b:=B) hws (by simp[hdB]);have fB:=bf1 (b:=B) hws (by simp[hdB]);have lB:w.heap.size<=B:=by omega
  have yY:=by0 (b:=Y) hws (by simp[hdY]);have rY:s1.heap[Y]?=some (.cells #[I6 0,I6 0,I6 0,I6 0,Bv false,S0,S0,S0,Bv false,S0,I6 0,I6 0,Bv false,Bv false,S0,I6 0,I6 0,Bv false,Bv false] 69 (0,0)):=by have h:=heap_alloc_new ((w.alloc (.cells #[Sg an,I6 ac,I6 ar,Bv af,Bv ag] 67)).alloc (.cells #[Sg bn,I6 bc,I6 br,Bv bf,Bv bg] 67)) (.cells #[I6 0,I6 0,I6 0,I6 0,Bv false,S0,S0,S0,Bv false,S0,I6 0,I6 0,Bv false,Bv false,S0,I6 0,I6 0,Bv false,Bv false] 69);rw[hws];simpa [hdA,hdB,hdY] using h
  have lY:w.heap.size<=Y:=by omega
  have LY:=eqM HK19 yY;have hBo:=bs3 bR hws;rw[<-hws];try rw[<-hdY]
  try rw[<-hdB]
  try rw[<-hdA]
  clear hws hsz hdA hdB hdY;go_wp2_with fail;refine cAn (HL.out _) fun w9 hb=>?_
  have rY2:w9.heap[Y]?=_:=(hb.block Y zY).trans rY;replace yA:=eqB hb yA zA;replace fA:=fun j=>a0g hb (fA j) zA;replace zA:=zHl hb zA
  replace yB:=eqB hb yB zB;replace fB:=fun j=>a0g hb (fB j) zB;replace zB:=zHl hb zB
  replace yY:=eqB hb yY zY;replace zY:=zHl hb zY;replace hBo:=f4s hBo hb;clear hb;replace LY:=eqM HK19 yY;go_wp2_with (refine a1d rfl _ _ rfl rfl Y d7c _ _ rfl (by rfl) rY2 (by rfl) ?_);have LY:=a3o (W:=w9.setRow Y (ndL d7c).toArray) HK19 d7c (setRow_heap _ Y _ _ _ _ rY2);refine jU (v:=ndV d7c) (by simp[results,Tryz.results61,go_sem,hz19,LY]) rfl ⟨rfl,a2v hBo hBo.size lY⟩
 | true =>
  show Calls _ _ _ _ fun e w'=>e=.returned (ndV (if a8z (d7o a b).1.c (d7o a b).1.r (d7o a b).2.c (d7o a b).2.r=0 then ⟨6,0,0,0,false,⟨#[]⟩,⟨#[]⟩,⟨#[]⟩,false,(d7o a b).1,(d7o a b).2⟩ else d7c))/\Bl w w'
  obtain⟨o,ho⟩:=nM (d7o a b);obtain⟨h,hh⟩:=nM (e0m a b);rw[<-ho];replace ho:o=e0n h.1 h.2:=by rw[hh];exact ho
  obtain⟨⟨hn,hc,hr,hf,hg⟩,⟨kn,kc,kr,kf,kg⟩⟩:=h;obtain⟨⟨xn,xc,xr,xf,xg⟩,⟨yn,yc,yr,yf,yg⟩⟩:=o;have HNR:=zh (fun w=>b1e xc xr yc yr w);obtain⟨n1,n2,n3,n4,hv⟩:=b5d xc xr yc yr;rw[hv] at HNR;dsimp only at ho |-
  generalize a8z xc xr yc yr=ne at *;obtain⟨md,hmd⟩:∃ m:Nd,m=if ne=0 then ⟨6,0,0,0,false,⟨#[]⟩,⟨#[]⟩,⟨#[]⟩,false,⟨xn,xc,xr,xf,xg⟩,⟨yn,yc,yr,yf,yg⟩⟩ else d7c:=⟨_,rfl⟩
  rw[<-hmd];have HMD:=zh hmd;clear hmd;obtain⟨an,ac,ar,af,ag⟩:=a;obtain⟨bn,bc,br,bf,bg⟩:=b;unfold e0m at hh;unfold e0n at ho;dsimp only at hh ho;have HH:=zh hh;have HOO:=zh ho;clear hv hh ho;go_enter Tryz.func61,Tryz.ntmps61
  go_upto_region 1 with fail
  obtain⟨s2,A,B,Y,hws,hdA,hdB,hdY,hsz,zA,zB,zY⟩:=nm3 w (.cells #[Sg an,I6 ac,I6 ar,Bv af,Bv ag] 67) (.cells #[Sg bn,I6 bc,I6 br,Bv bf,Bv bg] 67) (.cells #[I6 0,I6 0,I6 0,I6 0,Bv false,S0,S0,S0,Bv false,S0,I6 0,I6 0,Bv false,Bv false,S0,I6 0,I6 0,Bv false,Bv false] 69);have dAB:A≠B:=by omega
  have dAY:A≠Y:=by omega
  have dBA:B≠A:=by omega
  have dBY:B≠Y:=by omega
  have yA:=by2 (b:=A) hws hdA;have fA:=bf2 (b:=A) hws hdA;have lA:w.heap.size<=A:=by omega
  have yB:=by1 (b:=B) hws (by simp[hdB]);have fB:=bf1 (b:=B) hws (by simp[hdB]);have lB:w.heap.size<=B:=by omega
  have yY:=by0 (b:=Y) hws (by simp[hdY]);have rY:s2.heap[Y]?=some (.cells #[I6 0,I6 0,I6 0,I6 0,Bv false,S0,S0,S0,Bv false,S0,I6 0,I6 0,Bv false,Bv false,S0,I6 0,I6 0,Bv false,Bv false] 69 (0,0)):=by have h:=heap_alloc_new ((w.alloc (.cells #[Sg an,I6 ac,I6 ar,Bv af,Bv ag] 67)).alloc (.cells #[Sg bn,I6 bc,I6 br,Bv bf,Bv bg] 67)) (.cells #[I6 0,I6 0,I6 0,I6 0,Bv false,S0,S0,S0,Bv false,S0,I6 0,I6 0,Bv false,Bv false,S0,I6 0,I6 0,Bv false,Bv false] 69);rw[hws];simpa [hdA,hdB,hdY] using h
  have lY:w.heap.size<=Y:=by omega
  have LY:=eqM HK19 yY;have hBo:=bs3 bR hws;rw[<-hws];try rw[<-hdY]
  try rw[<-hdB]
  try rw[<-hdA]
  clear hws hsz hdA hdB hdY
  go_upto_if 17 with fail
  go_cut [] (f4r A B Y w.heap.size w ⟨hn,hc,hr,hf,hg⟩ ⟨kn,kc,kr,kf,kg⟩ (.cells #[I6 0,I6 0,I6 0,I6 0,Bv false,S0,S0,S0,Bv false,S0,I6 0,I6 0,Bv false,Bv false,S0,I6 0,I6 0,Bv false,Bv false] 69 (0,0)))
  case first =>
   by_cases hx:bc<ac
   ·
    go_wp2_with fail;obtain⟨s3,hws⟩:∃ s,s=((s2.setCell ⟨A,1,none⟩ (I6 bc)).setCell ⟨B,1,none⟩ (I6 ac)):=⟨_,rfl⟩;have hBs:Bl w s3:=by rw[hws];exact(((hBo).setCell lA _).setCell lB _)
    have hsz:=ss2 hws;replace yY:=eqE hws (eqS (eqS yY dAY) dBY);have hq:∀ {p v},((s2.setCell ⟨A,1,none⟩ (I6 bc)).setCell ⟨B,1,none⟩ (I6 ac)).cell? p=some v->s3.cell? p=some v:=fun h=>by rw[hws];exact h
    replace yA:∀ j,s3.cell? ⟨A,j,none⟩=([Sg an,I6 bc,I6 ar,Bv af,Bv ag]:List Value)[j]?:=eqE hws (eqS (eqI yA (jB rfl)) dBA);replace yB:∀ j,s3.cell? ⟨B,j,none⟩=([Sg bn,I6 ac,I6 br,Bv bf,Bv bg]:List Value)[j]?:=eqE hws (eqI (eqS yB dAB) (jB rfl));clear hq;have hQF:=@fz2 _ _ _ _ _ _  hws;replace fA:=fun j=>hQF (fA j)
    replace fB:=fun j=>hQF (fB j)
    clear hQF;replace rY:s3.heap[Y]?=some (.cells #[I6 0,I6 0,I6 0,I6 0,Bv false,S0,S0,S0,Bv false,S0,I6 0,I6 0,Bv false,Bv false,S0,I6 0,I6 0,Bv false,Bv false] 69 (0,0)):=by rw[hws];(repeat rw[heap_setCell (by assumption)]);exact rY
    replace zA:=szH hsz zA;replace zB:=szH hsz zB;replace zY:=szH hsz zY;replace LY:=eqM HK19 yY;rw[<-hws];clear hBo hws hsz;have hBo:=hBs;clear hBs;obtain⟨s4,hws⟩:∃ s,s=((s3.setCell ⟨A,3,none⟩ (Bv bf)).setCell ⟨B,3,none⟩ (Bv af)):=⟨_,rfl⟩;have hBs:Bl w s4:=by rw[hws];exact(((hBo).setCell lA _).setCell lB _)
    have hsz:=ss2 hws;replace yY:=eqE hws (eqS (eqS yY dAY) dBY);have hq:∀ {p v},((s3.setCell ⟨A,3,none⟩ (Bv bf)).setCell ⟨B,3,none⟩ (Bv af)).cell? p=some v->s4.cell? p=some v:=fun h=>by rw[hws];exact h
    replace yA:∀ j,s4.cell? ⟨A,j,none⟩=([Sg an,I6 bc,I6 ar,Bv bf,Bv ag]:List Value)[j]?:=eqE hws (eqS (eqI yA (jB rfl)) dBA);replace yB:∀ j,s4.cell? ⟨B,j,none⟩=([Sg bn,I6 ac,I6 br,Bv af,Bv bg]:List Value)[j]?:=eqE hws (eqI (eqS yB dAB) (jB rfl));clear hq;have hQF:=@fz2 _ _ _ _ _ _  hws;replace fA:=fun j=>hQF (fA j)
    replace fB:=fun j=>hQF (fB j)
    clear hQF;replace rY:s4.heap[Y]?=some (.cells #[I6 0,I6 0,I6 0,I6 0,Bv false,S0,S0,S0,Bv false,S0,I6 0,I6 0,Bv false,Bv false,S0,I6 0,I6 0,Bv false,Bv false] 69 (0,0)):=by rw[hws];(repeat rw[heap_setCell (by assumption)]);exact rY
    replace zA:=szH hsz zA;replace zB:=szH hsz zB;replace zY:=szH hsz zY;replace LY:=eqM HK19 yY;rw[<-hws];clear hBo hws hsz;have hBo:=hBs;clear hBs
    go_meet
    obtain⟨e1,e2⟩:=Prod.mk.inj (HH.out.trans (if_pos (by omega)));simp only[Rf.mk.injEq] at e1 e2;obtain⟨rfl,rfl,rfl,rfl,rfl⟩:=e1;obtain⟨rfl,rfl,rfl,rfl,rfl⟩:=e2;exact⟨yA,yB,fA,fB,rY,hBo⟩
   ·
    go_wp2_with fail
    go_meet
    obtain⟨e1,e2⟩:=Prod.mk.inj (HH.out.trans (if_neg (by omega)));simp only[Rf.mk.injEq] at e1 e2;obtain⟨rfl,rfl,rfl,rfl,rfl⟩:=e1;obtain⟨rfl,rfl,rfl,rfl,rfl⟩:=e2;exact⟨yA,yB,fA,fB,rY,hBo⟩
  case rest =>
   clear yA yB yY fA fB rY zA zB zY hBo;obtain⟨yA,yB,fA,fB,rY,hBo⟩:=hcut;have zA:A<wc.heap.size:=a0j (yA 0);have zB:B<wc.heap.size:=a0j (yB 0);have zY:Y<wc.heap.size:=(Array.getElem?_eq_some_iff.1 rY).1;have yY:=f4q rY;obtain⟨w3,hw3⟩:=nM wc;rw[<-hw3] at yA yB yY fA fB rY zA zB zY hBo |-
   clear hw3
   go_upto_if 34 with fail
   go_cut [] (f4r A B Y w.heap.size w ⟨xn,xc,xr,xf,xg⟩ ⟨yn,yc,yr,yf,yg⟩ (.cells #[I6 0,I6 0,I6 0,I6 0,Bv false,S0,S0,S0,Bv false,S0,I6 0,I6 0,Bv false,Bv false,S0,I6 0,I6 0,Bv false,Bv false] 69 (0,0)))
   case first =>
    by_cases hx:kr<hr
    ·
     go_wp2_with fail;obtain⟨s5,hws⟩:∃ s,s=((w3.setCell ⟨A,2,none⟩ (I6 kr)).setCell ⟨B,2,none⟩ (I6 hr)):=⟨_,rfl⟩;have hBs:Bl w s5:=by rw[hws];exact(((hBo).setCell lA _).setCell lB _)
     have hsz:=ss2 hws;replace yY:=eqE hws (eqS (eqS yY dAY) dBY);have hq:∀ {p v},((w3.setCell ⟨A,2,none⟩ (I6 kr)).setCell ⟨B,2,none⟩ (I6 hr)).cell? p=some v->s5.cell? p=some v:=fun h=>by rw[hws];exact h
     replace yA:∀ j,s5.cell? ⟨A,j,none⟩=([Sg hn,I6 hc,I6 kr,Bv hf,Bv hg]:List Value)[j]?:=eqE hws (eqS (eqI yA (jB rfl)) dBA);replace yB:∀ j,s5.cell? ⟨B,j,none⟩=([Sg kn,I6 kc,I6 hr,Bv kf,Bv kg]:List Value)[j]?:=eqE hws (eqI (eqS yB dAB) (jB rfl));clear hq;have hQF:=@fz2 _ _ _ _ _ _  hws;replace fA:=fun j=>hQF (fA j)
     replace fB:=fun j=>hQF (fB j)
     clear hQF;replace rY:s5.heap[Y]?=some (.cells #[I6 0,I6 0,I6 0,I6 0,Bv false,S0,S0,S0,Bv false,S0,I6 0,I6 0,Bv false,Bv false,S0,I6 0,I6 0,Bv false,Bv false] 69 (0,0)):=by rw[hws];(repeat rw[heap_setCell (by assumption)]);exact rY
     replace zA:=szH hsz zA;replace zB:=szH hsz zB;replace zY:=szH hsz zY;replace LY:=eqM HK19 yY;rw[<-hws];clear hBo hws hsz;have hBo:=hBs;clear hBs;obtain⟨s6,hws⟩:∃ s,s=((s5.setCell ⟨A,4,none⟩ (Bv kg)).setCell ⟨B,4,none⟩ (Bv hg)):=⟨_,rfl⟩;have hBs:Bl w s6:=by rw[hws];exact(((hBo).setCell lA _).setCell lB _)
     have hsz:=ss2 hws;replace yY:=eqE hws (eqS (eqS yY dAY) dBY);have hq:∀ {p v},((s5.setCell ⟨A,4,none⟩ (Bv kg)).setCell ⟨B,4,none⟩ (Bv hg)).cell? p=some v->s6.cell? p=some v:=fun h=>by rw[hws];exact h
     replace yA:∀ j,s6.cell? ⟨A,j,none⟩=([Sg hn,I6 hc,I6 kr,Bv hf,Bv kg]:List Value)[j]?:=eqE hws (eqS (eqI yA (jB rfl)) dBA);replace yB:∀ j,s6.cell? ⟨B,j,none⟩=([Sg kn,I6 kc,I6 hr,Bv kf,Bv hg]:List Value)[j]?:=eqE hws (eqI (eqS yB dAB) (jB rfl));clear hq;have hQF:=@fz2 _ _ _ _ _ _  hws;replace fA:=fun j=>hQF (fA j)
     replace fB:=fun j=>hQF (fB j)
     clear hQF;replace rY:s6.heap[Y]?=some (.cells #[I6 0,I6 0,I6 0,I6 0,Bv false,S0,S0,S0,Bv false,S0,I6 0,I6 0,Bv false,Bv false,S0,I6 0,I6 0,Bv false,Bv false] 69 (0,0)):=by rw[hws];(repeat rw[heap_setCell (by assumption)]);exact rY
     replace zA:=szH hsz zA;replace zB:=szH hsz zB;replace zY:=szH hsz zY;replace LY:=eqM HK19 yY;rw[<-hws];clear hBo hws hsz;have hBo:=hBs;clear hBs
     go_meet
     obtain⟨e1,e2⟩:=Prod.mk.inj (HOO.out.trans (if_pos (by omega)));simp only[Rf.mk.injEq] at e1 e2;obtain⟨rfl,rfl,rfl,rfl,rfl⟩:=e1;obtain⟨rfl,rfl,rfl,rfl,rfl⟩:=e2;exact⟨yA,yB,fA,fB,rY,hBo⟩
    ·
     go_wp2_with fail
     go_meet
     obtain⟨e1,e2⟩:=Prod.mk.inj (HOO.out.trans (if_neg (by omega)));simp only[Rf.mk.injEq] at e1 e2;obtain⟨rfl,rfl,rfl,rfl,rfl⟩:=e1;obtain⟨rfl,rfl,rfl,rfl,rfl⟩:=e2;exact⟨yA,yB,fA,fB,rY,hBo⟩
   case rest =>
    clear yA yB yY fA fB rY zA zB zY hBo;obtain⟨yA,yB,fA,fB,rY,hBo⟩:=hcut;have zA:A<wc.heap.size:=a0j (yA 0);have zB:B<wc.heap.size:=a0j (yB 0);have zY:Y<wc.heap.size:=(Array.getElem?_eq_some_iff.1 rY).1;have yY:=f4q rY;have rYp:=rY;have zYp:=zY
    go_upto_region 10 with fail
    obtain⟨s7,X,hws,hdX,hsz,zX⟩:=nm1 wc (.cells #[I6 xc,I6 xr,I6 yc,I6 yr] 137);have hUp:=up1 hws;have hAX:wc.heap.size<=X:=by omega
    have dAX:A≠X:=by omega
    have dBX:B≠X:=by omega
    replace yA:=eqB hUp yA zA;replace fA:=fun j=>a0g hUp (fA j) zA;replace zA:=zHl hUp zA
    replace yB:=eqB hUp yB zB;replace fB:=fun j=>a0g hUp (fB j) zB;replace zB:=zHl hUp zB
    replace yY:=eqB hUp yY zY;replace zY:=zHl hUp zY;have yX:=by0 (b:=X) hws hdX;replace LY:=eqM HK19 yY;replace hBo:=bs1 hBo hws;rw[<-hws];try rw[<-hdX]
    clear hws hsz hdX;have rYx:s7.heap[Y]?=_:=(hUp.block Y zYp).trans rYp;clear hUp rYp zYp;go_wp2_with fail;refine cAn (HNR.out _) fun w8 hb=>?_
    have rY8:w8.heap[Y]?=_:=(hb.block Y zY).trans rYx;clear rYx;replace yA:=eqB hb yA zA;replace fA:=fun j=>a0g hb (fA j) zA;replace zA:=zHl hb zA
    replace yB:=eqB hb yB zB;replace fB:=fun j=>a0g hb (fB j) zB;replace zB:=zHl hb zB
    replace yY:=eqB hb yY zY;replace zY:=zHl hb zY;replace yX:=eqB hb yX zX;replace zX:=zHl hb zX;replace hBo:=f4s hBo hb;clear hb;replace LY:=eqM HK19 yY;have zY8:=zY
    go_upto_region 11 with fail
    obtain⟨s8,Z,hws,hdZ,hsz,zZ⟩:=nm1 w8 (.cells #[I6 n1,I6 n2,I6 n3,I6 n4] 137);have hUp:=up1 hws;have hAZ:w8.heap.size<=Z:=by omega
    have dAZ:A≠Z:=by omega
    have dBZ:B≠Z:=by omega
    replace yA:=eqB hUp yA zA;replace fA:=fun j=>a0g hUp (fA j) zA;replace zA:=zHl hUp zA
    replace yB:=eqB hUp yB zB;replace fB:=fun j=>a0g hUp (fB j) zB;replace zB:=zHl hUp zB
    replace yY:=eqB hUp yY zY;replace zY:=zHl hUp zY;replace yX:=eqB hUp yX zX;replace zX:=zHl hUp zX;have yZ:=by0 (b:=Z) hws hdZ;replace LY:=eqM HK19 yY;replace hBo:=bs1 hBo hws;rw[<-hws];try rw[<-hdZ]
    clear hws hsz hdZ;have rY9:s8.heap[Y]?=_:=(hUp.block Y zY8).trans rY8;clear hUp rY8 zY8;by_cases hne:ne=0
    ·
     subst hne;have hm:=HMD.out.trans (if_pos rfl);have rY2:=rY9;go_wp2_with (refine a1d rfl _ _ rfl rfl Y ⟨6,0,0,0,false,⟨#[]⟩,⟨#[]⟩,⟨#[]⟩,false,⟨xn,xc,xr,xf,xg⟩,⟨yn,yc,yr,yf,yg⟩⟩ _ _ rfl (by rfl) rY2 (by rfl) ?_);have LY:=a3o (W:=s8.setRow Y (ndL ⟨6,0,0,0,false,⟨#[]⟩,⟨#[]⟩,⟨#[]⟩,false,⟨xn,xc,xr,xf,xg⟩,⟨yn,yc,yr,yf,yg⟩⟩).toArray) HK19 ⟨6,0,0,0,false,⟨#[]⟩,⟨#[]⟩,⟨#[]⟩,false,⟨xn,xc,xr,xf,xg⟩,⟨yn,yc,yr,yf,yg⟩⟩ (setRow_heap _ Y _ _ _ _ rY2);refine jU (v:=ndV ⟨6,0,0,0,false,⟨#[]⟩,⟨#[]⟩,⟨#[]⟩,false,⟨xn,xc,xr,xf,xg⟩,⟨yn,yc,yr,yf,yg⟩⟩) (by simp[results,Tryz.results61,go_sem,hz19,LY]) rfl ⟨by first | rfl | rw[hm],a2v hBo hBo.size lY⟩
    ·
     have hx:(ne != 0)=true:=by simpa using hne
     have hm:=HMD.out.trans (if_neg hne);clear hne;go_wp2_with fail;refine cAn (HL.out _) fun w9 hb=>?_
     have rY2:w9.heap[Y]?=_:=(hb.block Y zY).trans rY9;replace yA:=eqB hb yA zA;replace fA:=fun j=>a0g hb (fA j) zA;replace zA:=zHl hb zA
     replace yB:=eqB hb yB zB;replace fB:=fun j=>a0g hb (fB j) zB;replace zB:=zHl hb zB
     replace yY:=eqB hb yY zY;replace zY:=zHl hb zY;replace yX:=eqB hb yX zX;replace zX:=zHl hb zX;replace yZ:=eqB hb yZ zZ;replace zZ:=zHl hb zZ;replace hBo:=f4s hBo hb;clear hb;replace LY:=eqM HK19 yY;go_wp2_with (refine a1d rfl _ _ rfl rfl Y d7c _ _ rfl (by rfl) rY2 (by rfl) ?_);have LY:=a3o (W:=w9.setRow Y (ndL d7c).toArray) HK19 d7c (setRow_heap _ Y _ _ _ _ rY2);refine jU (v:=ndV d7c) (by simp[results,Tryz.results61,go_sem,hz19,LY]) rfl ⟨by first | rfl | rw[hm],a2v hBo hBo.size lY⟩
end Go.Proofs.YtibiacmbljgmhaaGreatDoor
