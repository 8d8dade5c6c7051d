import Derived.Test.YtibiacmbljgmhaaGreatDoorRdr8
import Derived.Laws.Tables
set_option maxHeartbeats 4000000
set_option maxRecDepth 100000
namespace Go.Proofs.YtibiacmbljgmhaaGreatDoor
open Go.RowKit Go.Shelf
set_option linter.all false
def Y7:Nd:=⟨4,3,0,0,false,⟨#[]⟩,⟨#[]⟩,⟨#[]⟩,false,Jj,Jj⟩
def e9t (r:Rf) (ok:Bool):Nd:=if ok=true then ⟨5,0,0,0,false,⟨#[]⟩,⟨#[]⟩,⟨#[]⟩,false,r,Jj⟩ else Y7
theorem e4t (w:World):Ca 109 #[] w (Y2 Y7):=by
 have JY:=Qw;obtain⟨K19,hz19,HK19⟩:=Y9;go_enter Tryz.func109,Tryz.ntmps109;go_wp2_with (refine a0c rfl _ _ rfl rfl (Qk Y7).toArray _ _ rfl rfl (by rfl) (by rfl) (by rfl) (by rfl) ?_);have LX:=a3o (W:=w.alloc (.cells (Qk Y7).toArray 69)) (g:=w.heap.size) (t:=69) (fr:=(0,0)) HK19 Y7 (by rw[<-World.alloc_eq];show (w.heap.push _)[w.heap.size]?=_;simp);refine jU (v:=Y2 Y7) (by simp[results,Tryz.results109,go_sem,hz19,LX]) rfl ⟨rfl,(Below.refl _ _).alloc (jC _) _⟩
theorem e6f (r:Rf) (ok:Bool) (w:World):Ca 60 #[.agg #[Sg r.sh,I6 r.c,I6 r.r,Bv r.fc,Bv r.fr],Bv ok] w (Y2 (e9t r ok)):=by
 have JY:=Qw;obtain⟨K19,hz19,HK19⟩:=Y9;have HL:=zh e4t
 cases ok with
 | true =>
  show Calls _ _ _ _ fun e w'=>e=.returned (Y2 ⟨5,0,0,0,false,⟨#[]⟩,⟨#[]⟩,⟨#[]⟩,false,r,Jj⟩)/\Bl w w'
  go_enter Tryz.func60,Tryz.ntmps60
  go_upto_region 1 with fail
  obtain⟨s5,A,Y,j6,jz,Qy,j8,zA,zY⟩:=YJ w (.cells #[Sg r.sh,I6 r.c,I6 r.r,Bv r.fc,Bv r.fr] 67) (.cells #[I6 0,I6 0,I6 0,I6 0,Bv false,S0,S0,S0,Bv false,S0,I6 0,I6 0,Bv false,Bv false,S0,I6 0,I6 0,Bv false,Bv false] 69);have yA:=Y4 (b:=A) j6 jz;have rY:s5.heap[Y]?=some (.cells #[I6 0,I6 0,I6 0,I6 0,Bv false,S0,S0,S0,Bv false,S0,I6 0,I6 0,Bv false,Bv false,S0,I6 0,I6 0,Bv false,Bv false] 69 (0,0)):=by have h:=heap_alloc_new (w.alloc (.cells #[Sg r.sh,I6 r.c,I6 r.r,Bv r.fc,Bv r.fr] 67)) (.cells #[I6 0,I6 0,I6 0,I6 0,Bv false,S0,S0,S0,Bv false,S0,I6 0,I6 0,Bv false,Bv false,S0,I6 0,I6 0,Bv false,Bv false] 69);rw[j6];simpa [jz,Qy] using h
  have lY:w.heap.size<=Y:=by omega
  have j7:=Yz bR j6;rw[<-j6];try rw[<-Qy]
  try rw[<-jz]
  clear j6 j8 jz Qy;have rY2:s5.heap[Y]?=_:=(by assumption);go_wp2_with (refine a1d rfl _ _ rfl rfl Y ⟨5,0,0,0,false,⟨#[]⟩,⟨#[]⟩,⟨#[]⟩,false,r,Jj⟩ _ _ rfl (by rfl) rY2 (by rfl) ?_);have LY:=a3o (W:=s5.setRow Y (Qk ⟨5,0,0,0,false,⟨#[]⟩,⟨#[]⟩,⟨#[]⟩,false,r,Jj⟩).toArray) HK19 ⟨5,0,0,0,false,⟨#[]⟩,⟨#[]⟩,⟨#[]⟩,false,r,Jj⟩ (setRow_heap _ Y _ _ _ _ rY2);refine jU (v:=Y2 ⟨5,0,0,0,false,⟨#[]⟩,⟨#[]⟩,⟨#[]⟩,false,r,Jj⟩) (by simp[results,Tryz.results60,go_sem,hz19,LY]) rfl ⟨rfl,a2v j7 j7.size lY⟩
 | false =>
  show Calls _ _ _ _ fun e w'=>e=.returned (Y2 Y7)/\Bl w w'
  go_enter Tryz.func60,Tryz.ntmps60
  go_upto_region 1 with fail
  obtain⟨s6,A,Y,j6,jz,Qy,j8,zA,zY⟩:=YJ w (.cells #[Sg r.sh,I6 r.c,I6 r.r,Bv r.fc,Bv r.fr] 67) (.cells #[I6 0,I6 0,I6 0,I6 0,Bv false,S0,S0,S0,Bv false,S0,I6 0,I6 0,Bv false,Bv false,S0,I6 0,I6 0,Bv false,Bv false] 69);have rY:s6.heap[Y]?=some (.cells #[I6 0,I6 0,I6 0,I6 0,Bv false,S0,S0,S0,Bv false,S0,I6 0,I6 0,Bv false,Bv false,S0,I6 0,I6 0,Bv false,Bv false] 69 (0,0)):=by have h:=heap_alloc_new (w.alloc (.cells #[Sg r.sh,I6 r.c,I6 r.r,Bv r.fc,Bv r.fr] 67)) (.cells #[I6 0,I6 0,I6 0,I6 0,Bv false,S0,S0,S0,Bv false,S0,I6 0,I6 0,Bv false,Bv false,S0,I6 0,I6 0,Bv false,Bv false] 69);rw[j6];simpa [jz,Qy] using h
  have lY:w.heap.size<=Y:=by omega
  have j7:=Yz bR j6;rw[<-j6];try rw[<-Qy]
  try rw[<-jz]
  clear j6 j8 jz Qy;go_wp2_with fail;refine jy (HL.out _) fun w5 hb=>?_
  have rY2:w5.heap[Y]?=_:=(hb.block Y zY).trans rY;replace j7:=X4 j7 hb;clear hb;go_wp2_with (refine a1d rfl _ _ rfl rfl Y Y7 _ _ rfl (by rfl) rY2 (by rfl) ?_);have LY:=a3o (W:=w5.setRow Y (Qk Y7).toArray) HK19 Y7 (setRow_heap _ Y _ _ _ _ rY2);refine jU (v:=Y2 Y7) (by simp[results,Tryz.results60,go_sem,hz19,LY]) rfl ⟨rfl,a2v j7 j7.size lY⟩
set_option maxHeartbeats 16000000
def e8h (a b:Rf) (ok:Bool):Nd:=if ok=true then (if a8z (X5 a b).1.c (X5 a b).1.r (X5 a b).2.c (X5 a b).2.r=0 then ⟨6,0,0,0,false,⟨#[]⟩,⟨#[]⟩,⟨#[]⟩,false,(X5 a b).1,(X5 a b).2⟩ else Y7) else Y7
abbrev rfL (p:Rf):List Value:=[Sg p.sh,I6 p.c,I6 p.r,Bv p.fc,Bv p.fr]
theorem f4q {W:World} {Y:Nat} {c:Array Value} {t:TypeId} {x:Nat × Nat} (h:W.heap[Y]?=some (.cells c t x)):∀ j,W.cell? ⟨Y,j,none⟩=c.toList[j]?:=fun j=>by
 unfold World.cell?;dsimp only;rw[h];simp
def f4r (A B Y:Nat) (b0:Nat) (t:World) (p q:Rf) (row:Obj) (wx:World):Prop:=(∀ j,wx.cell? ⟨A,j,none⟩=(rfL p)[j]?)/\(∀ j,wx.cell? ⟨B,j,none⟩=(rfL q)[j]?)/\(∀ j,wx.frozen? ⟨A,j,none⟩=false)/\(∀ j,wx.frozen? ⟨B,j,none⟩=false)/\wx.heap[Y]?=some row/\Below b0 t wx
theorem e6g (a b:Rf) (ok:Bool) (w:World):Ca 61 #[.agg #[Sg a.sh,I6 a.c,I6 a.r,Bv a.fc,Bv a.fr],.agg #[Sg b.sh,I6 b.c,I6 b.r,Bv b.fc,Bv b.fr],Bv ok] w (Y2 (e8h a b ok)):=by
 have JY:=Qw;obtain⟨K19,hz19,HK19⟩:=Y9;have HL:=zh e4t
 cases ok with
 | false =>
  show Calls _ _ _ _ fun e w'=>e=.returned (Y2 Y7)/\Bl w w'
  obtain⟨an,ac,ar,af,ag⟩:=a;obtain⟨bn,bc,br,bf,bg⟩:=b;go_enter Tryz.func61,Tryz.ntmps61
  go_upto_region 1 with fail
  obtain⟨s1,A,B,Y,j6,jz,J7,Qy,j8,zA,zB,zY⟩:=nm3 w (.cells #[Sg an,I6 ac,I6 ar,Bv af,Bv ag] 67) (.cells #[Sg bn,I6 bc,I6 br,Bv bf,Bv bg] 67) (.cells #[I6 0,I6 0,I6 0,I6 0,Bv false,S0,S0,S0,Bv false,S0,I6 0,I6 0,Bv false,Bv false,S0,I6 0,I6 0,Bv false,Bv false] 69);have yA:=by2 (b:=A) j6 jz;have fA:=bf2 (b:=A) j6 jz;have lA:w.heap.size<=A:=by omega
  have yB:=Y4 (b:=B) j6 (by simp[J7]);have fB:=bf1 (b:=B) j6 (by simp[J7]);have lB:w.heap.size<=B:=by omega
  have yY:=qZ (b:=Y) j6 (by simp[Qy]);have rY:s1.heap[Y]?=some (.cells #[I6 0,I6 0,I6 0,I6 0,Bv false,S0,S0,S0,Bv false,S0,I6 0,I6 0,Bv false,Bv false,S0,I6 0,I6 0,Bv false,Bv false] 69 (0,0)):=by have h:=heap_alloc_new ((w.alloc (.cells #[Sg an,I6 ac,I6 ar,Bv af,Bv ag] 67)).alloc (.cells #[Sg bn,I6 bc,I6 br,Bv bf,Bv bg] 67)) (.cells #[I6 0,I6 0,I6 0,I6 0,Bv false,S0,S0,S0,Bv false,S0,I6 0,I6 0,Bv false,Bv false,S0,I6 0,I6 0,Bv false,Bv false] 69);rw[j6];simpa [jz,J7,Qy] using h
  have lY:w.heap.size<=Y:=by omega
  have LY:=Qv HK19 yY;have j7:=bs3 bR j6;rw[<-j6];try rw[<-Qy]
  try rw[<-J7]
  try rw[<-jz]
  clear j6 j8 jz J7 Qy;go_wp2_with fail;refine jy (HL.out _) fun w9 hb=>?_
  have rY2:w9.heap[Y]?=_:=(hb.block Y zY).trans rY;replace yA:=jv hb yA zA;replace fA:=qv hb fA zA;replace zA:=jw hb zA
  replace yB:=jv hb yB zB;replace fB:=qv hb fB zB;replace zB:=jw hb zB
  replace yY:=jv hb yY zY;replace zY:=jw hb zY;replace j7:=X4 j7 hb;clear hb;replace LY:=Qv HK19 yY;go_wp2_with (refine a1d rfl _ _ rfl rfl Y Y7 _ _ rfl (by rfl) rY2 (by rfl) ?_);have LY:=a3o (W:=w9.setRow Y (Qk Y7).toArray) HK19 Y7 (setRow_heap _ Y _ _ _ _ rY2);refine jU (v:=Y2 Y7) (by simp[results,Tryz.results61,go_sem,hz19,LY]) rfl ⟨rfl,a2v j7 j7.size lY⟩
 | true =>
  show Calls _ _ _ _ fun e w'=>e=.returned (Y2 (if a8z (X5 a b).1.c (X5 a b).1.r (X5 a b).2.c (X5 a b).2.r=0 then ⟨6,0,0,0,false,⟨#[]⟩,⟨#[]⟩,⟨#[]⟩,false,(X5 a b).1,(X5 a b).2⟩ else Y7))/\Bl w w'
  obtain⟨o,ho⟩:=nM (X5 a b);obtain⟨h,hh⟩:=nM (e0m a b);rw[<-ho];replace ho:o=e0n h.1 h.2:=by rw[hh];exact ho
  obtain⟨⟨hn,hc,hr,hf,hg⟩,⟨kn,kc,kr,kf,kg⟩⟩:=h;obtain⟨⟨xn,xc,xr,xf,xg⟩,⟨yn,yc,yr,yf,yg⟩⟩:=o;have HNR:=zh (fun w=>b1e xc xr yc yr w);obtain⟨n1,n2,n3,n4,hv⟩:=b5d xc xr yc yr;rw[hv] at HNR;dsimp only at ho |-
  generalize a8z xc xr yc yr=ne at *;obtain⟨md,hmd⟩:∃ m:Nd,m=if ne=0 then ⟨6,0,0,0,false,⟨#[]⟩,⟨#[]⟩,⟨#[]⟩,false,⟨xn,xc,xr,xf,xg⟩,⟨yn,yc,yr,yf,yg⟩⟩ else Y7:=⟨_,rfl⟩
  rw[<-hmd];have HMD:=zh hmd;clear hmd;obtain⟨an,ac,ar,af,ag⟩:=a;obtain⟨bn,bc,br,bf,bg⟩:=b;unfold e0m at hh;unfold e0n at ho;dsimp only at hh ho;have HH:=zh hh;have HOO:=zh ho;clear hv hh ho;go_enter Tryz.func61,Tryz.ntmps61
  go_upto_region 1 with fail
  obtain⟨s2,A,B,Y,j6,jz,J7,Qy,j8,zA,zB,zY⟩:=nm3 w (.cells #[Sg an,I6 ac,I6 ar,Bv af,Bv ag] 67) (.cells #[Sg bn,I6 bc,I6 br,Bv bf,Bv bg] 67) (.cells #[I6 0,I6 0,I6 0,I6 0,Bv false,S0,S0,S0,Bv false,S0,I6 0,I6 0,Bv false,Bv false,S0,I6 0,I6 0,Bv false,Bv false] 69);have dAB:A≠B:=by omega
  have dAY:A≠Y:=by omega
  have dBA:B≠A:=by omega
  have dBY:B≠Y:=by omega
  have yA:=by2 (b:=A) j6 jz;have fA:=bf2 (b:=A) j6 jz;have lA:w.heap.size<=A:=by omega
  have yB:=Y4 (b:=B) j6 (by simp[J7]);have fB:=bf1 (b:=B) j6 (by simp[J7]);have lB:w.heap.size<=B:=by omega
  have yY:=qZ (b:=Y) j6 (by simp[Qy]);have rY:s2.heap[Y]?=some (.cells #[I6 0,I6 0,I6 0,I6 0,Bv false,S0,S0,S0,Bv false,S0,I6 0,I6 0,Bv false,Bv false,S0,I6 0,I6 0,Bv false,Bv false] 69 (0,0)):=by have h:=heap_alloc_new ((w.alloc (.cells #[Sg an,I6 ac,I6 ar,Bv af,Bv ag] 67)).alloc (.cells #[Sg bn,I6 bc,I6 br,Bv bf,Bv bg] 67)) (.cells #[I6 0,I6 0,I6 0,I6 0,Bv false,S0,S0,S0,Bv false,S0,I6 0,I6 0,Bv false,Bv false,S0,I6 0,I6 0,Bv false,Bv false] 69);rw[j6];simpa [jz,J7,Qy] using h
  have lY:w.heap.size<=Y:=by omega
  have LY:=Qv HK19 yY;have j7:=bs3 bR j6;rw[<-j6];try rw[<-Qy]
  try rw[<-J7]
  try rw[<-jz]
  clear j6 j8 jz J7 Qy
  go_upto_if 17 with fail
  go_cut [] (f4r A B Y w.heap.size w ⟨hn,hc,hr,hf,hg⟩ ⟨kn,kc,kr,kf,kg⟩ (.cells #[I6 0,I6 0,I6 0,I6 0,Bv false,S0,S0,S0,Bv false,S0,I6 0,I6 0,Bv false,Bv false,S0,I6 0,I6 0,Bv false,Bv false] 69 (0,0)))
  case first =>
   by_cases hx:bc<ac
   ·
    go_wp2_with fail;obtain⟨s3,j6⟩:∃ s,s=((s2.setCell ⟨A,1,none⟩ (I6 bc)).setCell ⟨B,1,none⟩ (I6 ac)):=⟨_,rfl⟩;have qJ:Bl w s3:=by rw[j6];exact(((j7).setCell lA _).setCell lB _)
    have j8:=ss2 j6;replace yY:=Jv j6 (qz (qz yY dAY) dBY);have hq:∀ {p v},((s2.setCell ⟨A,1,none⟩ (I6 bc)).setCell ⟨B,1,none⟩ (I6 ac)).cell? p=some v->s3.cell? p=some v:=fun h=>by rw[j6];exact h
    replace yA:∀ j,s3.cell? ⟨A,j,none⟩=([Sg an,I6 bc,I6 ar,Bv af,Bv ag]:List Value)[j]?:=Jv j6 (qz (JX yA (jB rfl)) dBA);replace yB:∀ j,s3.cell? ⟨B,j,none⟩=([Sg bn,I6 ac,I6 br,Bv bf,Bv bg]:List Value)[j]?:=Jv j6 (JX (qz yB dAB) (jB rfl));clear hq;have J9:=@fz2 _ _ _ _ _ _  j6;replace fA:=fun j=>J9 (fA j)
    replace fB:=fun j=>J9 (fB j)
    clear J9;replace rY:s3.heap[Y]?=some (.cells #[I6 0,I6 0,I6 0,I6 0,Bv false,S0,S0,S0,Bv false,S0,I6 0,I6 0,Bv false,Bv false,S0,I6 0,I6 0,Bv false,Bv false] 69 (0,0)):=by rw[j6];(repeat rw[heap_setCell (by assumption)]);exact rY
    replace zA:=Xy j8 zA;replace zB:=Xy j8 zB;replace zY:=Xy j8 zY;replace LY:=Qv HK19 yY;rw[<-j6];clear j7 j6 j8;have j7:=qJ;clear qJ;obtain⟨s4,j6⟩:∃ s,s=((s3.setCell ⟨A,3,none⟩ (Bv bf)).setCell ⟨B,3,none⟩ (Bv af)):=⟨_,rfl⟩;have qJ:Bl w s4:=by rw[j6];exact(((j7).setCell lA _).setCell lB _)
    have j8:=ss2 j6;replace yY:=Jv j6 (qz (qz yY dAY) dBY);have hq:∀ {p v},((s3.setCell ⟨A,3,none⟩ (Bv bf)).setCell ⟨B,3,none⟩ (Bv af)).cell? p=some v->s4.cell? p=some v:=fun h=>by rw[j6];exact h
    replace yA:∀ j,s4.cell? ⟨A,j,none⟩=([Sg an,I6 bc,I6 ar,Bv bf,Bv ag]:List Value)[j]?:=Jv j6 (qz (JX yA (jB rfl)) dBA);replace yB:∀ j,s4.cell? ⟨B,j,none⟩=([Sg bn,I6 ac,I6 br,Bv af,Bv bg]:List Value)[j]?:=Jv j6 (JX (qz yB dAB) (jB rfl));clear hq;have J9:=@fz2 _ _ _ _ _ _  j6;replace fA:=fun j=>J9 (fA j)
    replace fB:=fun j=>J9 (fB j)
    clear J9;replace rY:s4.heap[Y]?=some (.cells #[I6 0,I6 0,I6 0,I6 0,Bv false,S0,S0,S0,Bv false,S0,I6 0,I6 0,Bv false,Bv false,S0,I6 0,I6 0,Bv false,Bv false] 69 (0,0)):=by rw[j6];(repeat rw[heap_setCell (by assumption)]);exact rY
    replace zA:=Xy j8 zA;replace zB:=Xy j8 zB;replace zY:=Xy j8 zY;replace LY:=Qv HK19 yY;rw[<-j6];clear j7 j6 j8;have j7:=qJ;clear qJ
    go_meet
    obtain⟨e1,e2⟩:=Prod.mk.inj (HH.out.trans (if_pos (by omega)));simp only[Rf.mk.injEq] at e1 e2;obtain⟨rfl,rfl,rfl,rfl,rfl⟩:=e1;obtain⟨rfl,rfl,rfl,rfl,rfl⟩:=e2;exact⟨yA,yB,fA,fB,rY,j7⟩
   ·
    go_wp2
    go_meet
    obtain⟨e1,e2⟩:=Prod.mk.inj (HH.out.trans (if_neg (by omega)));simp only[Rf.mk.injEq] at e1 e2;obtain⟨rfl,rfl,rfl,rfl,rfl⟩:=e1;obtain⟨rfl,rfl,rfl,rfl,rfl⟩:=e2;exact⟨yA,yB,fA,fB,rY,j7⟩
  case rest =>
   clear yA yB yY fA fB rY zA zB zY j7;obtain⟨yA,yB,fA,fB,rY,j7⟩:=hcut;have zA:A<wc.heap.size:=Xk (yA 0);have zB:B<wc.heap.size:=Xk (yB 0);have zY:Y<wc.heap.size:=(Array.getElem?_eq_some_iff.1 rY).1;have yY:=f4q rY;obtain⟨w3,hw3⟩:=nM wc;rw[<-hw3] at yA yB yY fA fB rY zA zB zY j7 |-
   clear hw3
   go_upto_if 34 with fail
   go_cut [] (f4r A B Y w.heap.size w ⟨xn,xc,xr,xf,xg⟩ ⟨yn,yc,yr,yf,yg⟩ (.cells #[I6 0,I6 0,I6 0,I6 0,Bv false,S0,S0,S0,Bv false,S0,I6 0,I6 0,Bv false,Bv false,S0,I6 0,I6 0,Bv false,Bv false] 69 (0,0)))
   case first =>
    by_cases hx:kr<hr
    ·
     go_wp2_with fail;obtain⟨s5,j6⟩:∃ s,s=((w3.setCell ⟨A,2,none⟩ (I6 kr)).setCell ⟨B,2,none⟩ (I6 hr)):=⟨_,rfl⟩;have qJ:Bl w s5:=by rw[j6];exact(((j7).setCell lA _).setCell lB _)
     have j8:=ss2 j6;replace yY:=Jv j6 (qz (qz yY dAY) dBY);have hq:∀ {p v},((w3.setCell ⟨A,2,none⟩ (I6 kr)).setCell ⟨B,2,none⟩ (I6 hr)).cell? p=some v->s5.cell? p=some v:=fun h=>by rw[j6];exact h
     replace yA:∀ j,s5.cell? ⟨A,j,none⟩=([Sg hn,I6 hc,I6 kr,Bv hf,Bv hg]:List Value)[j]?:=Jv j6 (qz (JX yA (jB rfl)) dBA);replace yB:∀ j,s5.cell? ⟨B,j,none⟩=([Sg kn,I6 kc,I6 hr,Bv kf,Bv kg]:List Value)[j]?:=Jv j6 (JX (qz yB dAB) (jB rfl));clear hq;have J9:=@fz2 _ _ _ _ _ _  j6;replace fA:=fun j=>J9 (fA j)
     replace fB:=fun j=>J9 (fB j)
     clear J9;replace rY:s5.heap[Y]?=some (.cells #[I6 0,I6 0,I6 0,I6 0,Bv false,S0,S0,S0,Bv false,S0,I6 0,I6 0,Bv false,Bv false,S0,I6 0,I6 0,Bv false,Bv false] 69 (0,0)):=by rw[j6];(repeat rw[heap_setCell (by assumption)]);exact rY
     replace zA:=Xy j8 zA;replace zB:=Xy j8 zB;replace zY:=Xy j8 zY;replace LY:=Qv HK19 yY;rw[<-j6];clear j7 j6 j8;have j7:=qJ;clear qJ;obtain⟨s6,j6⟩:∃ s,s=((s5.setCell ⟨A,4,none⟩ (Bv kg)).setCell ⟨B,4,none⟩ (Bv hg)):=⟨_,rfl⟩;have qJ:Bl w s6:=by rw[j6];exact(((j7).setCell lA _).setCell lB _)
     have j8:=ss2 j6;replace yY:=Jv j6 (qz (qz yY dAY) dBY);have hq:∀ {p v},((s5.setCell ⟨A,4,none⟩ (Bv kg)).setCell ⟨B,4,none⟩ (Bv hg)).cell? p=some v->s6.cell? p=some v:=fun h=>by rw[j6];exact h
     replace yA:∀ j,s6.cell? ⟨A,j,none⟩=([Sg hn,I6 hc,I6 kr,Bv hf,Bv kg]:List Value)[j]?:=Jv j6 (qz (JX yA (jB rfl)) dBA);replace yB:∀ j,s6.cell? ⟨B,j,none⟩=([Sg kn,I6 kc,I6 hr,Bv kf,Bv hg]:List Value)[j]?:=Jv j6 (JX (qz yB dAB) (jB rfl));clear hq;have J9:=@fz2 _ _ _ _ _ _  j6;replace fA:=fun j=>J9 (fA j)
     replace fB:=fun j=>J9 (fB j)
     clear J9;replace rY:s6.heap[Y]?=some (.cells #[I6 0,I6 0,I6 0,I6 0,Bv false,S0,S0,S0,Bv false,S0,I6 0,I6 0,Bv false,Bv false,S0,I6 0,I6 0,Bv false,Bv false] 69 (0,0)):=by rw[j6];(repeat rw[heap_setCell (by assumption)]);exact rY
     replace zA:=Xy j8 zA;replace zB:=Xy j8 zB;replace zY:=Xy j8 zY;replace LY:=Qv HK19 yY;rw[<-j6];clear j7 j6 j8;have j7:=qJ;clear qJ
     go_meet
     obtain⟨e1,e2⟩:=Prod.mk.inj (HOO.out.trans (if_pos (by omega)));simp only[Rf.mk.injEq] at e1 e2;obtain⟨rfl,rfl,rfl,rfl,rfl⟩:=e1;obtain⟨rfl,rfl,rfl,rfl,rfl⟩:=e2;exact⟨yA,yB,fA,fB,rY,j7⟩
    ·
     go_wp2
     go_meet
     obtain⟨e1,e2⟩:=Prod.mk.inj (HOO.out.trans (if_neg (by omega)));simp only[Rf.mk.injEq] at e1 e2;obtain⟨rfl,rfl,rfl,rfl,rfl⟩:=e1;obtain⟨rfl,rfl,rfl,rfl,rfl⟩:=e2;exact⟨yA,yB,fA,fB,rY,j7⟩
   case rest =>
    clear yA yB yY fA fB rY zA zB zY j7;obtain⟨yA,yB,fA,fB,rY,j7⟩:=hcut;have zA:A<wc.heap.size:=Xk (yA 0);have zB:B<wc.heap.size:=Xk (yB 0);have zY:Y<wc.heap.size:=(Array.getElem?_eq_some_iff.1 rY).1;have yY:=f4q rY;have rYp:=rY;have zYp:=zY
    go_upto_region 10 with fail
    obtain⟨s7,X,j6,qw,j8,zX⟩:=qy wc (.cells #[I6 xc,I6 xr,I6 yc,I6 yr] 137);have j9:=JW j6;have hAX:wc.heap.size<=X:=by omega
    have dAX:A≠X:=by omega
    have dBX:B≠X:=by omega
    replace yA:=jv j9 yA zA;replace fA:=qv j9 fA zA;replace zA:=jw j9 zA
    replace yB:=jv j9 yB zB;replace fB:=qv j9 fB zB;replace zB:=jw j9 zB
    replace yY:=jv j9 yY zY;replace zY:=jw j9 zY;have yX:=qZ (b:=X) j6 qw;replace LY:=Qv HK19 yY;replace j7:=qQ j7 j6;rw[<-j6];try rw[<-qw]
    clear j6 j8 qw;have rYx:s7.heap[Y]?=_:=(j9.block Y zYp).trans rYp;clear j9 rYp zYp;go_wp2_with fail;refine jy (HNR.out _) fun w8 hb=>?_
    have rY8:w8.heap[Y]?=_:=(hb.block Y zY).trans rYx;clear rYx;replace yA:=jv hb yA zA;replace fA:=qv hb fA zA;replace zA:=jw hb zA
    replace yB:=jv hb yB zB;replace fB:=qv hb fB zB;replace zB:=jw hb zB
    replace yY:=jv hb yY zY;replace zY:=jw hb zY;replace yX:=jv hb yX zX;replace zX:=jw hb zX;replace j7:=X4 j7 hb;clear hb;replace LY:=Qv HK19 yY;have zY8:=zY
    go_upto_region 11 with fail
    obtain⟨s8,Z,j6,hdZ,j8,zZ⟩:=qy w8 (.cells #[I6 n1,I6 n2,I6 n3,I6 n4] 137);have j9:=JW j6;have hAZ:w8.heap.size<=Z:=by omega
    have dAZ:A≠Z:=by omega
    have dBZ:B≠Z:=by omega
    replace yA:=jv j9 yA zA;replace fA:=qv j9 fA zA;replace zA:=jw j9 zA
    replace yB:=jv j9 yB zB;replace fB:=qv j9 fB zB;replace zB:=jw j9 zB
    replace yY:=jv j9 yY zY;replace zY:=jw j9 zY;replace yX:=jv j9 yX zX;replace zX:=jw j9 zX;have yZ:=qZ (b:=Z) j6 hdZ;replace LY:=Qv HK19 yY;replace j7:=qQ j7 j6;rw[<-j6];try rw[<-hdZ]
    clear j6 j8 hdZ;have rY9:s8.heap[Y]?=_:=(j9.block Y zY8).trans rY8;clear j9 rY8 zY8;by_cases hne:ne=0
    ·
     subst hne;have hm:=HMD.out.trans (if_pos rfl);have rY2:=rY9;go_wp2_with (refine a1d rfl _ _ rfl rfl Y ⟨6,0,0,0,false,⟨#[]⟩,⟨#[]⟩,⟨#[]⟩,false,⟨xn,xc,xr,xf,xg⟩,⟨yn,yc,yr,yf,yg⟩⟩ _ _ rfl (by rfl) rY2 (by rfl) ?_);have LY:=a3o (W:=s8.setRow Y (Qk ⟨6,0,0,0,false,⟨#[]⟩,⟨#[]⟩,⟨#[]⟩,false,⟨xn,xc,xr,xf,xg⟩,⟨yn,yc,yr,yf,yg⟩⟩).toArray) HK19 ⟨6,0,0,0,false,⟨#[]⟩,⟨#[]⟩,⟨#[]⟩,false,⟨xn,xc,xr,xf,xg⟩,⟨yn,yc,yr,yf,yg⟩⟩ (setRow_heap _ Y _ _ _ _ rY2);refine jU (v:=Y2 ⟨6,0,0,0,false,⟨#[]⟩,⟨#[]⟩,⟨#[]⟩,false,⟨xn,xc,xr,xf,xg⟩,⟨yn,yc,yr,yf,yg⟩⟩) (by simp[results,Tryz.results61,go_sem,hz19,LY]) rfl ⟨by first | rfl | rw[hm],a2v j7 j7.size lY⟩
    ·
     have hx:(ne != 0)=true:=by simpa using hne
     have hm:=HMD.out.trans (if_neg hne);clear hne;go_wp2_with fail;refine jy (HL.out _) fun w9 hb=>?_
     have rY2:w9.heap[Y]?=_:=(hb.block Y zY).trans rY9;replace yA:=jv hb yA zA;replace fA:=qv hb fA zA;replace zA:=jw hb zA
     replace yB:=jv hb yB zB;replace fB:=qv hb fB zB;replace zB:=jw hb zB
     replace yY:=jv hb yY zY;replace zY:=jw hb zY;replace yX:=jv hb yX zX;replace zX:=jw hb zX;replace yZ:=jv hb yZ zZ;replace zZ:=jw hb zZ;replace j7:=X4 j7 hb;clear hb;replace LY:=Qv HK19 yY;go_wp2_with (refine a1d rfl _ _ rfl rfl Y Y7 _ _ rfl (by rfl) rY2 (by rfl) ?_);have LY:=a3o (W:=w9.setRow Y (Qk Y7).toArray) HK19 Y7 (setRow_heap _ Y _ _ _ _ rY2);refine jU (v:=Y2 Y7) (by simp[results,Tryz.results61,go_sem,hz19,LY]) rfl ⟨by first | rfl | rw[hm],a2v j7 j7.size lY⟩
