import Derived.Test.YtibiacmbljgmhaaGreatDoorRat6
-- (YS=0)
set_option maxHeartbeats 4000000
set_option maxRecDepth 100000
namespace Go.Proofs.YtibiacmbljgmhaaGreatDoor
open Go.RowKit Go.Shelf
set_option linter.all false
def b4j (d:Nat):Bool:=decide (d ∣ 10^256)
theorem a3q {p n k:Nat} (hp:2<=p) (h:Nt.IsVl p n k) (hn:n≠0) (hb:Nt.blen n<=256):k<256:=by
 have h1:=Nat.le_of_dvd (by omega) h.1;have h2:=(Nt.blen_bounds n hn).2.1;have h3:n<2^256:=jF h2 (jP (by omega) hb);have h4:2^k<=p^k:=Nat.pow_le_pow_left hp k;exact(Nat.pow_lt_pow_iff_right (a:=2) (by omega)).1 (by omega)
theorem c5y (a b:Nat):Nat.Coprime (2^a) (5^b):=Nat.Coprime.pow _ _ (by decide)
theorem c3k {d t f:Nat} (ht:Nt.IsVl 2 d t) (hf:Nt.IsVl 5 d f):∃ m,d=2^t*5^f*m/\¬ 2 ∣ m/\¬ 5 ∣ m:=by
 obtain⟨m,hm⟩:=Nat.Coprime.mul_dvd_of_dvd_of_dvd (c5y t f) ht.1 hf.1;refine⟨m,hm,fun⟨x,hx⟩=>ht.2 ⟨5^f*x,?_⟩,fun⟨x,hx⟩=>hf.2 ⟨2^t*x,?_⟩⟩
 ·
  rw[hm,hx,jN];ac_rfl
 ·
  rw[hm,hx,jN];ac_rfl
theorem b7f {m:Nat} (h2 : ¬ 2 ∣ m) (h5 : ¬ 5 ∣ m):Nat.Coprime m 10:=by
 have a:Nat.Coprime m 2:=by
  unfold Nat.Coprime;have h:=Nat.gcd_dvd_right m 2;have h':=Nat.gcd_dvd_left m 2;have:=Nat.le_of_dvd (by omega) h;generalize Nat.gcd m 2=g at *
  match g,this with
  | 0,_=>omega
  | 1,_=>rfl
  | 2,_=>exact absurd h' h2
 have b:Nat.Coprime m 5:=by
  unfold Nat.Coprime;have h:=Nat.gcd_dvd_right m 5;have h':=Nat.gcd_dvd_left m 5;have:=Nat.le_of_dvd (by omega) h;generalize Nat.gcd m 5=g at *
  match g,this with
  | 0,_=>omega
  | 1,_=>rfl
  | 2,_=>omega
  | 3,_=>omega
  | 4,_=>omega
  | 5,_=>exact absurd h' h5
 exact Nat.Coprime.mul_right a b
theorem b0d {d t f k:Nat} (ht:Nt.IsVl 2 d t) (hf:Nt.IsVl 5 d f) (hk:d ∣ 10^k):d=2^t*5^f:=by
 obtain⟨m,hm,h2,h5⟩:=c3k ht hf;have hc:Nat.Coprime m (10^k):=Nat.Coprime.pow_right k (b7f h2 h5);have hd:m ∣ 10^k:=Nat.dvd_trans ⟨2^t*5^f,by rw[hm];ac_rfl⟩ hk;have:=Nat.Coprime.eq_one_of_dvd hc hd;rw[hm,this,Nat.mul_one]
theorem b4k {t f k:Nat} (h1:t<=k) (h2:f<=k):2^t*5^f ∣ 10^k:=by
 rw[show (10:Nat)^k=2^k*5^k by rw[<-Nat.mul_pow]];exact Nat.mul_dvd_mul (Nat.pow_dvd_pow 2 h1) (Nat.pow_dvd_pow 5 h2)
theorem c5z {d t f:Nat} (h0:d≠0) (hb:Nt.blen d<=256) (ht:Nt.IsVl 2 d t) (hf:Nt.IsVl 5 d f):b4j d=decide (10^max t f%d=0):=by
 have b1:=a3q (by omega) ht h0 hb;have b2:=a3q (by omega) hf h0 hb;unfold b4j;rw[Bool.eq_iff_iff,decide_eq_true_eq,decide_eq_true_eq];constructor
 ·
  intro h;have:=b0d ht hf h;exact Nat.mod_eq_zero_of_dvd (by rw[this];exact b4k (Nat.le_max_left t f) (Nat.le_max_right t f))
 ·
  intro h;have:=b0d ht hf (Nat.dvd_of_mod_eq_zero h);rw[this];exact b4k (by omega) (by omega)
theorem c7x {d t f:Nat} (h0:d≠0) (hb:Nt.blen d<=256) (ht:Nt.IsVl 2 d t) (hf:Nt.IsVl 5 d f):b4j d=decide (2^t*5^f=d):=by
 have b1:=a3q (by omega) ht h0 hb;have b2:=a3q (by omega) hf h0 hb;unfold b4j;rw[Bool.eq_iff_iff,decide_eq_true_eq,decide_eq_true_eq];constructor
 ·
  intro h;exact(b0d ht hf h).symm
 ·
  intro h;have:=b4k (t:=t) (f:=f) (k:=256) (by omega) (by omega)
  rwa [h] at this
theorem a7j {k:Nat} (h:k<=1000) (v:Nat) (hv:0<v) (hv2:v<16):(Nt.E (v^k)).size<=1000:=Nt.pow_fits v 3 1000 k 1000 hv (by omega) (by omega) (by omega) h
theorem b0e (neg:Bool) (a d:jW) (w:World) (hr:a0y neg a d=true) (ha:a.size<=140737488351232) (hd:d.size<=140737488351232) :
  Ca 248 #[.agg #[Bv neg,Sg a,Sg d]] w (.agg #[Bv neg,Sg a,Sg d]):=by
 have h:=fun w=>a7d neg a d w ha hd
 rw[hr] at h;have HR:=zh h;clear h hr ha hd;go_enter Tryz.func248,Tryz.ntmps248;go_wp2_with fail;obtain⟨s1,j6⟩:∃ s,s=((w.alloc (.cells #[Bv neg,Sg a,Sg d] 52)).alloc (.cells #[Bv false,S0,S0] 52)):=⟨_,rfl⟩;have qJ:=Yz bR j6;obtain⟨A,jz⟩:=nM w.heap.size;obtain⟨C,qq⟩:=nM (w.heap.size+1);have j8:s1.heap.size=w.heap.size+1+1:=by rw[j6];simp
 have dCA:C≠A:=by omega
 have yA:=Y4 (b:=A) j6 jz;have zA:A<s1.heap.size:=by omega
 have hN:=Qz (b:=C) j6 (by simp[qq]);have hM:=Qq (b:=C) j6 (by simp[qq]);have Yq:=hN 0 _ rfl;have Yj:=hN 1 _ rfl;have kC2:=hN 2 _ rfl;have YV:=hM 0;have YK:=hM 1;have fC2:=hM 2;clear hN hM;have zC:C<s1.heap.size:=by omega
 have lC:w.heap.size<=C:=by omega
 rw[<-j6];try rw[<-qq]
 try rw[<-jz]
 clear j6 j8 jz qq;have j7:=qJ;clear qJ;refine(HR.out _).mono ?_;rintro e s2 ⟨rfl,hb⟩;replace yA:=jv hb yA zA;replace Yq:=q9 hb Yq zC;replace Yj:=q9 hb Yj zC;replace kC2:=q9 hb kC2 zC;replace YV:=QW hb YV zC;replace YK:=QW hb YK zC;replace fC2:=QW hb fC2 zC;replace j7:=bT j7 hb;clear hb
 all_goals go_wp2
 all_goals refine jU (v:=.agg #[Bv neg,Sg a,Sg d]) (by simp[results,Tryz.results248,go_sem,Yq,Yj,kC2,zC]) rfl ⟨rfl,?_⟩
 all_goals exact(((j7.setCell lC _).setCell lC _).setCell lC _)
theorem b2e (neg:Bool) (a d:jW) (w:World) (hr:a0y neg a d=true) (ha:a.size<=140737488351232) (hd:d.size<=140737488351232) :
  Ca 238 #[.agg #[Bv neg,Sg a,Sg d]] w (.agg #[Bv false,Sg a,Sg d]):=by
 have HR:=zh (fun w=>b0e neg a d w hr ha hd);clear hr ha hd;go_enter Tryz.func238,Tryz.ntmps238;go_wp2_with fail;obtain⟨s3,j6⟩:∃ s,s=((w.alloc (.cells #[Bv neg,Sg a,Sg d] 52)).alloc (.cells #[Bv false,S0,S0] 52)):=⟨_,rfl⟩;have qJ:=Yz bR j6;obtain⟨A,jz⟩:=nM w.heap.size;obtain⟨C,qq⟩:=nM (w.heap.size+1);have j8:s3.heap.size=w.heap.size+1+1:=by rw[j6];simp
 have dAC:A≠C:=by omega
 have dCA:C≠A:=by omega
 have hN:=bx1 (b:=A) j6 jz;have hM:=bf1 (b:=A) j6 jz;have kA0:=hN 0 _ rfl;have kA1:=hN 1 _ rfl;have kA2:=hN 2 _ rfl;have fA0:=hM 0;have fA1:=hM 1;have fA2:=hM 2;clear hN hM;have zA:A<s3.heap.size:=by omega
 have lA:w.heap.size<=A:=by omega
 have hN:=Qz (b:=C) j6 (by simp[qq]);have hM:=Qq (b:=C) j6 (by simp[qq]);have Yq:=hN 0 _ rfl;have Yj:=hN 1 _ rfl;have kC2:=hN 2 _ rfl;have YV:=hM 0;have YK:=hM 1;have fC2:=hM 2;clear hN hM;have zC:C<s3.heap.size:=by omega
 have lC:w.heap.size<=C:=by omega
 rw[<-j6];try rw[<-qq]
 try rw[<-jz]
 clear j6 j8 jz qq;have j7:=qJ;clear qJ;refine(HR.out _).mono ?_;rintro e s4 ⟨rfl,hb⟩;replace kA0:=q9 hb kA0 zA;replace kA1:=q9 hb kA1 zA;replace kA2:=q9 hb kA2 zA;replace fA0:=QW hb fA0 zA;replace fA1:=QW hb fA1 zA;replace fA2:=QW hb fA2 zA;replace Yq:=q9 hb Yq zC;replace Yj:=q9 hb Yj zC;replace kC2:=q9 hb kC2 zC;replace YV:=QW hb YV zC;replace YK:=QW hb YK zC;replace fC2:=QW hb fC2 zC;replace j7:=bT j7 hb;clear hb;go_wp2_with fail;refine jU (v:=.agg #[Bv false,Sg a,Sg d]) (by simp[results,Tryz.results238,go_sem,kA0,kA1,kA2,Yq,Yj,kC2,zA,zC,dAC,dCA]) rfl ⟨rfl,?_⟩;exact((((((j7.setCell lA _).setCell lA _).setCell lA _).setCell lA _).setCell lC _).setCell lC _).setCell lC _
theorem c6a (k:Nat) (w:World) (hk:k<=1000) :
  Ca 241 #[I6 (k:Int)] w (Sg (Nt.E (10^k))):=by
 have hB:=Below.refl w.heap.size w;have hp:=fun w=>b8a (Nt.E 10) (k:Int) w (by decide) (by omega)
 rw[Nt.V_E,a2i _ _ (jG (a7j hk 10 (by omega) (by omega)) (by omega))] at hp;have HO:=zh (fun w=>(a8o 10 w (by omega):Ca 253 #[.int .u64 10] w (Sg (Nt.E 10))));have HP:=zh hp;generalize Nt.E (10^k)=s at *;generalize Nt.E 10=u at *;clear hp;go_enter Tryz.func241,Tryz.ntmps241;go_wp2_with fail;refine(a2s hB (HO.out _)).mono ?_;clear hB;rintro e w1 ⟨rfl,hB⟩;go_wp2_with fail;refine(a2s hB (HP.out _)).mono ?_;clear hB;rintro e w2 ⟨rfl,hB⟩;go_wp2
 go_ret
 exact⟨rfl,hB⟩
theorem b2f (a:jW) (k:Nat) (w:World) (ha:a.size<=1000) (hs:(Nt.E (Nt.V a^k)).size<=1024) (hk:k<=1000) :
  Ca 118 #[Sg a,I6 (k:Int)] w (Sg (Nt.E (Nt.V a^k))):=by
 have hB:=Below.refl w.heap.size w;have hp:=fun w=>b7z a (k:Int) w ha (by omega)
 rw[a2i _ _ hs] at hp;have HP:=zh hp;generalize Nt.E (Nt.V a^k)=s at *;clear hp;go_enter Tryz.func118,Tryz.ntmps118;go_wp2_with (go_at_call 151;with_reducible refine(a2s hB (HP.out _)).mono ?_;clear hB;rintro e w1 ⟨rfl,hB⟩)
 all_goals go_ret
 all_goals exact⟨rfl,hB⟩
def a7k (b:Bool) (w:World) (e:Ending) (w':World):Prop:=(∃ n:Nat,e=.returned (.tuple #[I6 (n:Int),Bv b]))/\Bl w w'
theorem c0l {neg:Bool} {a d:jW} (h:a0y neg a d=true):Nt.V d≠0/\Nt.blen (Nt.V d)<=256/\Nt.E (Nt.V d)=d/\d.size<=32:=by
 obtain⟨h1,h2,h3⟩:=(a1p _ _ _).1 h;exact⟨h3.1,h3.2.2.2.1,h2,by rw[<-h2];exact a4a h3.2.2.2.1⟩
theorem b5p (t f:Nat):max (t:Int) (f:Int)=((max t f:Nat):Int):=by omega
theorem c0m (neg:Bool) (a d:jW) (w:World) (hr:a0y neg a d=true) (ha:a.size<=140737488351232) (hd:d.size<=140737488351232) :
  Cz 224 #[.agg #[Bv neg,Sg a,Sg d]] w (a7k (b4j (Nt.V d)) w):=by
 obtain⟨d0,d1,d2,d3⟩:=c0l hr;have HA:=zh (fun w=>b2e neg a d w hr ha hd);have HT:=zh (fun w=>b4r d w (by omega));obtain⟨b,hb⟩:=nM (b4j (Nt.V d));rw[<-hb]
 have HM:Hid (∀ t f:Nat,Nt.IsVl 2 (Nt.V d) t->Nt.IsVl 5 (Nt.V d) f->t<256/\f<256/\b=decide (10^max t f%Nt.V d=0)/\(∀ w,Ca 240 #[Sg (Nt.E (10^max t f)),Sg d] w (.tuple #[Sg (Nt.E (10^max t f/Nt.V d)),Sg (Nt.E (10^max t f%Nt.V d)),I6 0]))):=fun t f h1 h2=>by
  have b1:=a3q (by omega) h1 d0 d1;have b2:=a3q (by omega) h2 d0 d1;refine⟨b1,b2,hb.trans (c5z d0 d1 h1 h2),fun w=>?_⟩
  have h:=a8i (Nt.E (10^max t f)) d w (jG (a7j (by omega) 10 (by omega) (by omega)) (by omega)) (by omega);rw[Nt.V_E,a2y,if_neg d0] at h;exact h
 have D0:=zh d0;obtain⟨Po,hPo⟩:=nM (a7k b w);rw[<-hPo];have J5:=zh hPo;have F2:=fR2 false a d;clear hPo hb hr ha hd d0 d1 d2 d3;go_enter Tryz.func224,Tryz.ntmps224;go_wp2_with fail;obtain⟨s5,j6⟩:=nM ((w.alloc (.cells #[Bv neg,Sg a,Sg d] 52)));have qJ:=qQ bR j6;obtain⟨A,jz⟩:=nM w.heap.size;have j8:s5.heap.size=w.heap.size+1:=by rw[j6];simp
 have hN:=Qz (b:=A) j6 jz;clear hN;rw[<-j6];try rw[<-jz]
 clear j6 j8 jz;have j7:=qJ;clear qJ;refine(HA.out _).mono ?_;rintro e s6 ⟨rfl,hb⟩;replace j7:=bT j7 hb;clear hb;go_wp2_with fail;refine(HT.out _).mono ?_;rintro e w2 ⟨hT,hb2⟩
 rcases hT with ⟨h0,_⟩ | ⟨_,t,f,rfl,h1,h2⟩
 ·
  exact absurd h0 D0.out
 obtain⟨q1,q2,q3,hq⟩:=HM.out t f h1 h2;replace j7:=bT j7 hb2;have HQ:=zh hq;have HQ3:=zh q3;have HX:=zh (b5p t f);have HTN:=zh (fun w=>c6a (max t f) w (by omega));rw[<-HX.out] at HTN;clear hb2 hq q3 h1 h2 HM HT HA D0;go_wp2_with fail;refine(HTN.out _).mono ?_;rintro e w3 ⟨rfl,hb3⟩;replace j7:=bT j7 hb3;clear hb3;go_wp2_with fail;refine(HQ.out _).mono ?_;rintro e w4 ⟨rfl,hb4⟩;replace j7:=bT j7 hb4;clear hb4;by_cases hm:10^max t f%Nt.V d=0
 ·
  have hb:=zh (HQ3.out.trans (jD hm));rw[hm] at *;have hn:(Nt.E 0).toList=[]:=by rw[show Nt.E 0=⟨#[]⟩ from rfl,jI]
  clear HQ HQ3 HTN hm;go_wp2_with fail;show Po _ _;rw[J5.out,hb.out];refine⟨⟨max t f,?_⟩,j7⟩;rw[<-HX.out];rfl
 ·
  have hb:=zh (HQ3.out.trans (jE hm))
  have hn : ¬ (Nt.E (10^max t f%Nt.V d)).toList=[]:=by
   rw[jI,Nt.E_toList];intro h;exact hm (by have:=Nt.E_nil (10^max t f%Nt.V d) (by rw[Nt.E_size,h];simp);exact this)
  have hn2:(Nt.E (10^max t f%Nt.V d)).toList.isEmpty=false:=by simpa using hn
  generalize Nt.E (10^max t f%Nt.V d)=x at *;clear HQ HQ3 HTN hm;go_wp2_with fail;show Po _ _;rw[J5.out,hb.out];exact⟨⟨0,rfl⟩,j7⟩
def amB (neg:Bool) (a d:jW):Bool:=a0y neg a d && !neg&&b4j (Nt.V d)
theorem b2g (neg:Bool) (a d:jW) (w:World) (ha:a.size<=140737488351232) (hd:d.size<=140737488351232) :
  Ca 208 #[.agg #[Bv neg,Sg a,Sg d]] w (Bv (amB neg a d)):=by
 have hR:=fun w=>a7d neg a d w ha hd
 have JY:undef=Value.tuple #[]:=rfl;unfold amB
 cases hr:a0y neg a d with
 | false =>
  rw[hr] at hR;have HR:=zh hR;clear hR hr;go_enter Tryz.func208,Tryz.ntmps208;go_wp2_with fail;obtain⟨s7,j6⟩:=nM ((w.alloc (.cells #[Bv neg,Sg a,Sg d] 52)));have qJ:=qQ bR j6;obtain⟨A,jz⟩:=nM w.heap.size;have j8:s7.heap.size=w.heap.size+1:=by rw[j6];simp
  rw[<-j6];try rw[<-jz]
  clear j6 j8 jz;have j7:=qJ;clear qJ;refine(HR.out _).mono ?_;rintro e s8 ⟨rfl,hb⟩;replace j7:=bT j7 hb;clear hb
  all_goals go_wp2
  all_goals first | go_ret | go_ret2
  all_goals exact⟨rfl,j7⟩
 | true =>
  rw[hr] at hR;have HR:=zh hR;have hE:=fun w=>c0m neg a d w hr ha hd
  generalize b4j (Nt.V d)=b at *;have HE:=zh hE;clear hR hr hE
  cases neg with
  | true =>
   clear HE;go_enter Tryz.func208,Tryz.ntmps208;go_wp2_with fail;obtain⟨s9,j6⟩:=nM ((w.alloc (.cells #[Bv true,Sg a,Sg d] 52)));have qJ:=qQ bR j6;obtain⟨A,jz⟩:=nM w.heap.size;have j8:s9.heap.size=w.heap.size+1:=by rw[j6];simp
   have yA:=qZ (b:=A) j6 jz;have zA:A<s9.heap.size:=by omega
   rw[<-j6];try rw[<-jz]
   clear j6 j8 jz;have j7:=qJ;clear qJ;refine(HR.out _).mono ?_;rintro e s10 ⟨rfl,hb⟩;replace yA:=jv hb yA zA;replace j7:=bT j7 hb;clear hb
   all_goals go_wp2
   all_goals first | go_ret | go_ret2
   all_goals exact⟨rfl,j7⟩
  | false =>
   go_enter Tryz.func208,Tryz.ntmps208;go_wp2_with fail;obtain⟨s11,j6⟩:=nM ((w.alloc (.cells #[Bv false,Sg a,Sg d] 52)));have qJ:=qQ bR j6;obtain⟨A,jz⟩:=nM w.heap.size;have j8:s11.heap.size=w.heap.size+1:=by rw[j6];simp
   have yA:=qZ (b:=A) j6 jz;have zA:A<s11.heap.size:=by omega
   rw[<-j6];try rw[<-jz]
   clear j6 j8 jz;have j7:=qJ;clear qJ;refine(HR.out _).mono ?_;rintro e s12 ⟨rfl,hb⟩;replace yA:=jv hb yA zA;replace j7:=bT j7 hb;clear hb;go_wp2_with fail;refine(HE.out _).mono ?_;rintro e w2 ⟨⟨n,rfl⟩,hb2⟩;replace j7:=bT j7 hb2;clear hb2;go_wp2
   go_ret
   exact⟨J4 (by simp),j7⟩
theorem c6b (q:Rt):zt (c5a q)=Nt.E q.den:=c5b q
theorem c0n (neg:Bool) (a d:jW) (w:World) (ha:a.size<=140737488351232) (hd:d.size<=140737488351232) :
  Cz 66 #[.agg #[Bv neg,Sg a,Sg d]] w (a7k (b4j (wl neg a d).den) w):=by
 obtain⟨q,hq⟩:∃ q,wl neg a d=q:=⟨_,rfl⟩;have hok:=c9n neg a d;rw[hq] at hok |-
 obtain⟨k0,_,_,k3,_⟩:=hok;have hl:=fun w=>b8c neg a d (c5a q) w ha hd (by rw[hq])
 rw[c6b] at hl;generalize zb (c5a q)=bl at *;generalize q.den=D at *;have HL:=zh hl;have hDs:(Nt.E D).size<=32:=a4a k3;have ht:=fun w=>b4s (Nt.E D) w (by omega)
 rw[Nt.V_E] at ht;have HT:=zh ht;obtain⟨b,hb⟩:=nM (b4j D);rw[<-hb];have HM:Hid (∀ t f:Nat,Nt.IsVl 2 D t->Nt.IsVl 5 D f->t<256/\f<256/\b=decide (2^t*5^f=D)):=fun t f h1 h2=>⟨a3q (by omega) h1 k0 k3,a3q (by omega) h2 k0 k3,hb.trans (c7x k0 k3 h1 h2)⟩
 have D0:=zh k0;obtain⟨Po,hPo⟩:=nM (a7k b w);rw[<-hPo];have J5:=zh hPo;have F1:=fW1 bl (Nt.E D);clear hPo hb ha hd k0 k3 hl ht hq hDs;go_enter Tryz.func66,Tryz.ntmps66;go_wp2_with fail;obtain⟨s13,j6⟩:=nM ((w.alloc (.cells #[Bv neg,Sg a,Sg d] 52)));have qJ:=qQ bR j6;obtain⟨A,jz⟩:=nM w.heap.size;have j8:s13.heap.size=w.heap.size+1:=by rw[j6];simp
 have hN:=Qz (b:=A) j6 jz;clear hN;rw[<-j6];try rw[<-jz]
 clear j6 j8 jz;have j7:=qJ;clear qJ;refine(HL.out _).mono ?_;rintro e s14 ⟨rfl,hb⟩;replace j7:=bT j7 hb;clear hb;go_wp2_with fail;refine(HT.out _).mono ?_;rintro e w2 ⟨hT,hb2⟩
 rcases hT with ⟨h0,_⟩ | ⟨_,t,f,rfl,h1,h2⟩
 ·
  exact absurd h0 D0.out
 obtain⟨q1,q2,q3⟩:=HM.out t f h1 h2;replace j7:=bT j7 hb2;have HQ3:=zh q3;have s2:=a7j (show t<=1000 by omega) 2 (by omega) (by omega);have s5:=a7j (show f<=1000 by omega) 5 (by omega) (by omega);have hp2:∀ w,Ca 118 #[Sg ⟨#[2]⟩,I6 (t:Int)] w (Sg (Nt.E (2^t))):=fun w=>b2f ⟨#[2]⟩ t w (by decide) (jG s2 (by omega)) (by omega)
 have HP2:=zh hp2;clear hp2;have hp5:∀ w,Ca 118 #[Sg ⟨#[5]⟩,I6 (f:Int)] w (Sg (Nt.E (5^f))):=fun w=>b2f ⟨#[5]⟩ f w (by decide) (jG s5 (by omega)) (by omega)
 have HP5:=zh hp5;clear hp5;have HK2:=zh (fun w=>a3z false (Nt.E (2^t)) ((2^t:Nat):Int) w (by rw[Nt.V_E];rfl));have HK5:=zh (fun w=>a3z false (Nt.E (5^f)) ((5^f:Nat):Int) w (by rw[Nt.V_E];rfl));have hmm:=fun w=>b4y (zb ((2^t:Nat):Int)) (zb ((5^f:Nat):Int)) (zt ((2^t:Nat):Int)) (zt ((5^f:Nat):Int)) ((2^t*5^f:Nat):Int) w (by rw[b4x];exact s2) (by rw[b4x];exact s5) (by rw[b3k,b3k];exact(Int.natCast_mul _ _).symm)
 rw[b4x (2^t*5^f)] at hmm;have HMM:=zh hmm;have HX:=zh (b5p t f);clear hb2 hmm q3 h1 h2 HM HT HL D0 s2 s5 F1;have F1:=fW1 (zb ((2^t*5^f:Nat):Int)) (Nt.E (2^t*5^f));obtain⟨p,hp⟩:=nM (2^t*5^f);rw[<-hp] at HQ3 HMM F1;generalize zb ((2^t:Nat):Int)=z1 at *;generalize zt ((2^t:Nat):Int)=z2 at *;generalize zb ((5^f:Nat):Int)=z3 at *;generalize zt ((5^f:Nat):Int)=z4 at *;generalize zb (p:Int)=z5 at *;generalize Nt.E (2^t)=z6 at *;generalize Nt.E (5^f)=z7 at *;clear hp
 have hcmp:((Nt.E p).toList==(Nt.E D).toList)=decide (p=D):=by
  by_cases h:p=D
  ·
   rw[h];simp
  ·
   rw[a2j (fun he=>h (Nt.E_inj he))];simp[h]
 by_cases hm:p=D
 ·
  have hb:=zh (HQ3.out.trans (jD hm));rw[jD hm] at hcmp;generalize Nt.E p=z8 at *;clear HQ3 hm;go_wp2_with fail
  (with_reducible refine(HP2.out _).mono ?_)
  rintro e wn ⟨rfl,hbn⟩;replace j7:=bT j7 hbn;clear hbn;go_wp2_with fail
  (with_reducible refine(HK2.out _).mono ?_)
  rintro e wn ⟨rfl,hbn⟩;replace j7:=bT j7 hbn;clear hbn;go_wp2_with fail
  (with_reducible refine(HP5.out _).mono ?_)
  rintro e wn ⟨rfl,hbn⟩;replace j7:=bT j7 hbn;clear hbn;go_wp2_with fail
  (with_reducible refine(HK5.out _).mono ?_)
  rintro e wn ⟨rfl,hbn⟩;replace j7:=bT j7 hbn;clear hbn;go_wp2_with fail
  (with_reducible refine(HMM.out _).mono ?_)
  rintro e wn ⟨rfl,hbn⟩;replace j7:=bT j7 hbn;clear hbn;go_wp2_with fail;show Po _ _;rw[J5.out,hb.out];refine⟨⟨max t f,?_⟩,j7⟩;rw[<-HX.out];rfl
 ·
  have hb:=zh (HQ3.out.trans (jE hm));rw[jE hm] at hcmp;generalize Nt.E p=z8 at *;clear HQ3 hm;go_wp2_with fail
  (with_reducible refine(HP2.out _).mono ?_)
  rintro e wn ⟨rfl,hbn⟩;replace j7:=bT j7 hbn;clear hbn;go_wp2_with fail
  (with_reducible refine(HK2.out _).mono ?_)
  rintro e wn ⟨rfl,hbn⟩;replace j7:=bT j7 hbn;clear hbn;go_wp2_with fail
  (with_reducible refine(HP5.out _).mono ?_)
  rintro e wn ⟨rfl,hbn⟩;replace j7:=bT j7 hbn;clear hbn;go_wp2_with fail
  (with_reducible refine(HK5.out _).mono ?_)
  rintro e wn ⟨rfl,hbn⟩;replace j7:=bT j7 hbn;clear hbn;go_wp2_with fail
  (with_reducible refine(HMM.out _).mono ?_)
  rintro e wn ⟨rfl,hbn⟩;replace j7:=bT j7 hbn;clear hbn;go_wp2_with fail;show Po _ _;rw[J5.out,hb.out];exact⟨⟨0,rfl⟩,j7⟩
