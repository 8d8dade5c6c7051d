import Derived.Test.YtibiacmbljgmhaaGreatDoorDec1
import Derived.Test.YtibiacmbljgmhaaGreatDoorBox
set_option maxHeartbeats 1000000
set_option maxRecDepth 100000
namespace Go.Proofs.YtibiacmbljgmhaaGreatDoor
open Go.RowKit Go.Shelf
def sgn (neg:Bool) (n:Nat):Bool:=neg&&decide (n≠0)
abbrev mkW (neg:Bool) (n:Nat):Value:=.agg #[Bv (sgn neg n),Sg (Nt.E n)]
theorem c4o (neg:Bool):sgn neg 0=false:=by unfold sgn;simp
theorem c6v (neg:Bool) {n:Nat} (h:n≠0):sgn neg n=neg:=by unfold sgn;simp[h]
theorem a5a {a b:Bool} {x y:jW} (h:a=b) (h':x=y):jV (.agg #[Bv a,Sg x])=.returned (.agg #[Bv b,Sg y]):=by rw[h,h']
theorem a5j (neg:Bool) (m:jW) (w:World) :
  Ca 117 #[Bv neg,Sg m] w (mkW neg (Nt.V m)):=by
 have HT:=zh (fun w=>a0t m w);by_cases h0:Nt.V m=0
 ·
  have hv:=zh (c4o neg);have e0:Nt.E 0=⟨#[]⟩:=rfl;rw[h0,e0] at HT;rw[h0];clear h0
  cases neg
  all_goals
   go_enter Tryz.func117,Tryz.ntmps117;go_wp2_with (go_at_call 119;refine(HT.out _).mono ?_;rintro e w1 ⟨rfl,rfl⟩);refine jU (v:=.agg #[Bv false,S0]) (by simp[results,Tryz.results117,go_sem]) rfl ⟨a5a hv.out.symm e0.symm,?_⟩;exact(Below.refl _ _).alloc (jC _) _
 ·
  have hv:=zh (c6v neg h0);have hne:=a2h _ h0;have hne2:(Nt.E (Nt.V m)).toList.isEmpty=false:=by simpa using hne
  obtain⟨n,hn⟩:=nM (Nt.V m);rw[<-hn] at HT hv hne hne2 |-
  obtain⟨t,ht⟩:=nM (Nt.E n);rw[<-ht] at HT hne hne2;have HTT:=zh ht;clear h0 hn ht
  cases neg
  ·
   go_enter Tryz.func117,Tryz.ntmps117;go_wp2_with (go_at_call 119;refine(HT.out _).mono ?_;rintro e w1 ⟨rfl,rfl⟩);refine jU (v:=.agg #[Bv false,Sg t]) (by simp[results,Tryz.results117,go_sem]) rfl ⟨a5a hv.out.symm HTT.out,?_⟩;exact(Below.refl _ _).alloc (jC _) _
  ·
   go_enter Tryz.func117,Tryz.ntmps117;go_wp2_with (go_at_call 119;refine(HT.out _).mono ?_;rintro e w1 ⟨rfl,rfl⟩);refine jU (v:=.agg #[Bv true,Sg t]) (by simp[results,Tryz.results117,go_sem]) rfl ⟨a5a hv.out.symm HTT.out,?_⟩;exact(Below.refl _ _).alloc (jC _) _
theorem b5c (neg:Bool) (m:jW) (w:World) :
  Ca 149 #[.agg #[Bv neg,Sg m]] w (mkW neg (Nt.V m)):=by
 have HM:=zh (fun w=>a5j neg m w);obtain⟨b,hb⟩:=nM (sgn neg (Nt.V m));obtain⟨t,ht⟩:=nM (Nt.E (Nt.V m));have HM2:=zh (fun w=>(by have h:=HM.out w;unfold mkW at h;rw[<-hb,<-ht] at h;exact h:Ca 117 #[Bv neg,Sg m] w (.agg #[Bv b,Sg t])));have HBB:=zh hb;have HTT:=zh ht;clear hb ht HM;go_enter Tryz.func149,Tryz.ntmps149;go_wp2_with (go_at_call 117;refine(HM2.out _).mono ?_;rintro e w1 ⟨rfl,hb1⟩;obtain⟨hc,hf⟩:=a0k hb1);refine jU (v:=.agg #[Bv b,Sg t]) (by simp[results,Tryz.results149,go_sem,hc]) rfl ⟨a5a HBB.out HTT.out,?_⟩;exact((((bR.alloc (jC _) _).alloc (by simp) _).trans (hb1.mono (by simp;omega))).setCell (by simp) _).setCell (by simp) _
def minus (s:jW):Bool:=match s.data.toList with | []=>false | c :: _=>c==45
theorem c8t:∀ (a b:jW),a.data.toList=b.data.toList->a=b:=fun a b hab=>by
 obtain⟨⟨x⟩⟩:=a;obtain⟨⟨y⟩⟩:=b;simpa using hab
set_option linter.all false
def sI (neg:Bool) (n:Nat):Int:=if neg then -(n:Int) else n
def zb (z:Int):Bool:=decide (z<0)
def zt (z:Int):jW:=Nt.E z.natAbs
theorem c8k (z:Int):Nt.V (zt z)=z.natAbs:=Nt.V_E _
theorem c4z (neg:Bool) (n:Nat):(sI neg n).natAbs=n:=by unfold sI;cases neg<;>simp
theorem b3k (z:Int):sI (zb z) (Nt.V (zt z))=z:=by
 rw[c8k];unfold sI zb;by_cases h:z<0
 ·
  rw[if_pos (by simpa using h)];omega
 ·
  rw[if_neg (by simpa using h)];omega
theorem c8l (neg:Bool) (n:Nat):sgn neg n=zb (sI neg n):=by
 unfold sgn sI zb
 cases neg
 ·
  simp
 ·
  rw[Bool.eq_iff_iff];simp;omega
theorem c9k (neg:Bool) (n:Nat):mkW neg n=.agg #[Bv (zb (sI neg n)),Sg (zt (sI neg n))]:=by
 unfold mkW zt;rw[c8l,c4z]
theorem c2h {neg:Bool} {n:Nat} {x:Int} (h:sI neg n=x):mkW neg n=.agg #[Bv (zb x),Sg (zt x)]:=by rw[c9k,h]
theorem zt_nil {z:Int} : z=0 ↔ zt z=⟨#[]⟩:=by
 constructor
 ·
  rintro rfl;rfl
 ·
  intro h;have e:=c8k z;rw[h] at e;have:z.natAbs=0:=e.symm;omega
theorem c6r (n:Nat):zb (n:Int)=false:=by unfold zb;simp
theorem b4x (n:Nat):zt (n:Int)=Nt.E n:=rfl
theorem a3z (neg:Bool) (m:jW) (x:Int) (w:World) (hx:sI neg (Nt.V m)=x) :
  Ca 117 #[Bv neg,Sg m] w (.agg #[Bv (zb x),Sg (zt x)]):=by
 have h:=a5j neg m w
 rwa [c2h hx] at h
theorem b3d (neg:Bool) (m:jW) (x:Int) (w:World) (hx:sI neg (Nt.V m)=x) :
  Ca 149 #[.agg #[Bv neg,Sg m]] w (.agg #[Bv (zb x),Sg (zt x)]):=by
 have h:=b5c neg m w
 rwa [c2h hx] at h
def smB (x:Int):Bool:=decide (-9223372036854775808<=x/\x<=9223372036854775807)
theorem c8o (n1 n2:Bool) (a b:Nat):sI (n1 != n2) (a*b)=sI n1 a*sI n2 b:=by
 unfold sI
 cases n1<;>cases n2<;>simp[Int.neg_mul,Int.mul_neg]
end Go.Proofs.YtibiacmbljgmhaaGreatDoor
-- (YS=0)
set_option maxHeartbeats 4000000
namespace Go.Proofs.YtibiacmbljgmhaaGreatDoor
open Go.RowKit Go.Shelf
theorem b0u {neg:Bool} {m:jW} {x:Int} {k:Nat} (hx:sI neg (Nt.V m)=x) (h:m.size<=k):(zt x).size<=k:=by
 unfold zt;rw[<-hx,c4z];exact jG (Nt.E_size_V m) h
theorem b4y (n1 n2:Bool) (m1 m2:jW) (p:Int) (w:World) (h1:m1.size<=1000) (h2:m2.size<=1000) (hp:sI n1 (Nt.V m1)*sI n2 (Nt.V m2)=p) :
  Ca 116 #[.agg #[Bv n1,Sg m1],.agg #[Bv n2,Sg m2]] w (.agg #[Bv (zb p),Sg (zt p)]):=by
 obtain⟨x,hx⟩:∃ x,sI n1 (Nt.V m1)=x:=⟨_,rfl⟩;obtain⟨y,hy⟩:∃ y,sI n2 (Nt.V m2)=y:=⟨_,rfl⟩;rw[hx,hy] at hp;have zx:=b0u hx h1;have zy:=b0u hy h2;have HX:=zh (fun w=>b3d n1 m1 x w hx);have HY:=zh (fun w=>b3d n2 m2 y w hy);have hm:=fun w=>a6o (zt x) (zt y) w (by omega) (by omega)
 have hk:∀ (b:Bool) (w:World),b=(zb x != zb y)->Ca 117 #[Bv b,Sg (Nt.E (Nt.V (zt x)*Nt.V (zt y)))] w (.agg #[Bv (zb p),Sg (zt p)]) :=
  fun b w hb=>a3z b _ p w (by rw[Nt.V_E,hb,c8o,b3k,b3k,hp])
 generalize Nt.E (Nt.V (zt x)*Nt.V (zt y))=t at *;generalize zb x=bx at *;generalize zb y=by' at *;generalize zt x=tx at *;generalize zt y=ty at *;have HM:=zh hm;have HK:=zh hk;clear hm hk hp hx hy h1 h2 zx zy;go_enter Tryz.func116,Tryz.ntmps116;go_wp2_with fail;obtain⟨s1,j6⟩:∃ s,s=(((w.alloc (.cells #[Bv n1,Sg m1] 145)).alloc (.cells #[Bv n2,Sg m2] 145)).alloc (.cells #[Bv false,S0] 145)):=⟨_,rfl⟩;have qJ:=bs3 bR j6;obtain⟨A,jz⟩:=nM w.heap.size;obtain⟨B,J7⟩:=nM (w.heap.size+1);obtain⟨C,qq⟩:=nM (w.heap.size+1+1);have j8:s1.heap.size=w.heap.size+1+1+1:=by rw[j6];simp
 have dAB:A≠B:=by omega
 have dAC:A≠C:=by omega
 have dBA:B≠A:=by omega
 have dBC:B≠C:=by omega
 have dCA:C≠A:=by omega
 have dCB:C≠B:=by omega
 have hN:=bx2 (b:=A) j6 jz;have hM:=bf2 (b:=A) j6 jz;have kA0:=hN 0 _ rfl;have kA1:=hN 1 _ rfl;have fA0:=hM 0;have fA1:=hM 1;clear hN hM;have zA:A<s1.heap.size:=by omega
 have lA:w.heap.size<=A:=by omega
 have hN:=bx1 (b:=B) j6 (by simp[J7]);have hM:=bf1 (b:=B) j6 (by simp[J7]);have kB0:=hN 0 _ rfl;have kB1:=hN 1 _ rfl;have fB0:=hM 0;have fB1:=hM 1;clear hN hM;have zB:B<s1.heap.size:=by omega
 have lB:w.heap.size<=B:=by omega
 have hN:=Qz (b:=C) j6 (by simp[qq]);have hM:=Qq (b:=C) j6 (by simp[qq]);have Yq:=hN 0 _ rfl;have Yj:=hN 1 _ rfl;have YV:=hM 0;have YK:=hM 1;clear hN hM;have zC:C<s1.heap.size:=by omega
 have lC:w.heap.size<=C:=by omega
 rw[<-j6];try rw[<-qq]
 try rw[<-J7]
 try rw[<-jz]
 clear j6 j8 jz J7 qq;have j7:=qJ;clear qJ;refine(HX.out _).mono ?_;rintro e s2 ⟨rfl,hb⟩;replace kA0:=q9 hb kA0 zA;replace kA1:=q9 hb kA1 zA;replace fA0:=QW hb fA0 zA;replace fA1:=QW hb fA1 zA;replace zA:=jw hb zA;replace kB0:=q9 hb kB0 zB;replace kB1:=q9 hb kB1 zB;replace fB0:=QW hb fB0 zB;replace fB1:=QW hb fB1 zB;replace zB:=jw hb zB;replace Yq:=q9 hb Yq zC;replace Yj:=q9 hb Yj zC;replace YV:=QW hb YV zC;replace YK:=QW hb YK zC;replace zC:=jw hb zC;replace j7:=bT j7 hb;clear hb;go_wp2_with fail;obtain⟨s3,j6⟩:∃ s,s=((s2.setCell ⟨A,0,none⟩ (Bv bx)).setCell ⟨A,1,none⟩ (Sg tx)):=⟨_,rfl⟩;have qJ:Bl w s3:=by rw[j6];exact(((j7).setCell lA _).setCell lA _)
 have j8:s3.heap.size=s2.heap.size:=by rw[j6];simp
 have hQC:∀ b j v,s2.cell? ⟨b,j,none⟩=some v->A≠b->s3.cell? ⟨b,j,none⟩=some v:=fun b j v h dA=>by rw[j6];exact(stK (stK h dA) dA)
 replace kB0:=hQC _ _ _ kB0 dAB;replace kB1:=hQC _ _ _ kB1 dAB;replace Yq:=hQC _ _ _ Yq dAC;replace Yj:=hQC _ _ _ Yj dAC;clear hQC;have hq:∀ {p v},((s2.setCell ⟨A,0,none⟩ (Bv bx)).setCell ⟨A,1,none⟩ (Sg tx)).cell? p=some v->s3.cell? p=some v:=fun h=>by rw[j6];exact h
 replace kA0:=hq (stO (stS kA0) (by decide));replace kA1:=hq (stS (stO kA1 (by decide)));clear hq;have J9:∀ {p x},s2.frozen? p=x->s3.frozen? p=x:=fun h=>by rw[j6];simpa [go_sem] using h
 replace fB0:=J9 fB0;replace fB1:=J9 fB1;replace YV:=J9 YV;replace YK:=J9 YK;clear J9;replace zA:A<s3.heap.size:=by omega
 replace zB:B<s3.heap.size:=by omega
 replace zC:C<s3.heap.size:=by omega
 rw[<-j6];clear j7 j6 j8;have j7:=qJ;clear qJ;refine(HY.out _).mono ?_;rintro e s4 ⟨rfl,hb⟩;replace kA0:=q9 hb kA0 zA;replace kA1:=q9 hb kA1 zA;replace zA:=jw hb zA;replace kB0:=q9 hb kB0 zB;replace kB1:=q9 hb kB1 zB;replace fB0:=QW hb fB0 zB;replace fB1:=QW hb fB1 zB;replace zB:=jw hb zB;replace Yq:=q9 hb Yq zC;replace Yj:=q9 hb Yj zC;replace YV:=QW hb YV zC;replace YK:=QW hb YK zC;replace zC:=jw hb zC;replace j7:=bT j7 hb;clear hb;go_wp2_with fail;obtain⟨s5,j6⟩:∃ s,s=((s4.setCell ⟨B,0,none⟩ (Bv by')).setCell ⟨B,1,none⟩ (Sg ty)):=⟨_,rfl⟩;have qJ:Bl w s5:=by rw[j6];exact(((j7).setCell lB _).setCell lB _)
 have j8:s5.heap.size=s4.heap.size:=by rw[j6];simp
 have hQC:∀ b j v,s4.cell? ⟨b,j,none⟩=some v->B≠b->s5.cell? ⟨b,j,none⟩=some v:=fun b j v h dB=>by rw[j6];exact(stK (stK h dB) dB)
 replace kA0:=hQC _ _ _ kA0 dBA;replace kA1:=hQC _ _ _ kA1 dBA;replace Yq:=hQC _ _ _ Yq dBC;replace Yj:=hQC _ _ _ Yj dBC;clear hQC;have hq:∀ {p v},((s4.setCell ⟨B,0,none⟩ (Bv by')).setCell ⟨B,1,none⟩ (Sg ty)).cell? p=some v->s5.cell? p=some v:=fun h=>by rw[j6];exact h
 replace kB0:=hq (stO (stS kB0) (by decide));replace kB1:=hq (stS (stO kB1 (by decide)));clear hq;have J9:∀ {p x},s4.frozen? p=x->s5.frozen? p=x:=fun h=>by rw[j6];simpa [go_sem] using h
 replace YV:=J9 YV;replace YK:=J9 YK;clear J9;replace zA:A<s5.heap.size:=by omega
 replace zB:B<s5.heap.size:=by omega
 replace zC:C<s5.heap.size:=by omega
 rw[<-j6];clear j7 j6 j8;have j7:=qJ;clear qJ;have HF:Hid (∀ W,Bl s5 W->Bl w W):=fun W hW=>bT j7 hW
 clear j7
 first | (go_region_held3 (fun w'=>w'.cell? ⟨A,0,none⟩=some (Bv bx)/\w'.cell? ⟨A,1,none⟩=some (Sg tx)/\w'.cell? ⟨B,0,none⟩=some (Bv by')/\w'.cell? ⟨B,1,none⟩=some (Sg ty))
  (go_keep) (first
  | (go_at_call 150;refine(HM.out _).mono ?_;rintro e x6 ⟨rfl,qk⟩;have qx:Bl s5 x6:=bHb qk;obtain⟨jk,qK⟩:=a0k qx)
  | (go_at_call 117;refine(HK.out _ _ (by cases bx<;>cases by'<;>rfl)).mono ?_;rintro e x6 ⟨rfl,qk⟩;have qx:Bl s5 x6:=bHb qk;obtain⟨jk,qK⟩:=a0k qx))) | fail
 all_goals go_wp2
 all_goals refine jU (v:=.agg #[Bv (zb p),Sg (zt p)]) (by simp[results,Tryz.results116,go_sem,jk,Yq,Yj,zC]) rfl ⟨rfl,?_⟩
 all_goals exact(((HF.out _ (by assumption)).setCell lC _).setCell lC _)
