import Derived.Test.YtibiacmbljgmhaaGreatDoorDec1
import Derived.Test.YtibiacmbljgmhaaGreatDoorBox
set_option maxHeartbeats 2000000
set_option maxRecDepth 100000
namespace Go.Proofs.YtibiacmbljgmhaaGreatDoor
open Go.RowKit Go.Shelf
theorem e6s {a b:jW} (h:a.data.toList=b.data.toList):a=b:=by
 obtain⟨⟨x⟩⟩:=a;obtain⟨⟨y⟩⟩:=b;simpa using h
theorem e4y (s:jW):s.extract (c9p s).size s.size=c9o s:=by
 apply e6s;rw[Lib.extract_data,d8k];have h:=List.takeWhile_append_dropWhile (p:=X1) (l:=s.data.toList);have hl:(c9p s).size=(s.data.toList.takeWhile X1).length:=(d8e s).symm;rw[hl];have j8:s.size=s.data.toList.length:=by simp
 rw[jS (by rw[List.length_drop,j8];omega)];generalize s.data.toList.takeWhile X1=a at h |-
 generalize s.data.toList.dropWhile X1=d at h |-
 rw[<-h];simp
theorem e6t (s:jW):s.extract 0 (c9p s).size=c9p s:=by
 apply e6s;rw[Lib.extract_data,e5u];have h:=List.takeWhile_append_dropWhile (p:=X1) (l:=s.data.toList);have hl:(c9p s).size=(s.data.toList.takeWhile X1).length:=(d8e s).symm;rw[hl];generalize s.data.toList.takeWhile X1=a at h |-
 generalize s.data.toList.dropWhile X1=d at h |-
 rw[<-h];simp
def e9z (d:jW) (r i:Value):Prop:=∃ n:Nat,n<=d.size/\r=I6 (Nt.dv (d.data.toList.take n):Nat)/\i=I6 n/\(d.data.toList.take n).all Nt.isDig=true
theorem e4c {l:List UInt8} {n:Nat} (hn:n<l.length) (h:(l.take n).all Nt.isDig=true) (hx:Nt.isDig l[n]=true):(l.take (n+1)).all Nt.isDig=true:=by
 rw[List.take_succ_eq_append_getElem hn,List.all_append,h];simp[hx]
theorem e4d {d:jW} (h3:d.size<=3) {n:Nat} (ha:(d.data.toList.take n).all Nt.isDig=true):Nt.dv (d.data.toList.take n)<1000:=by
 have h:=Nt.dv_lt (d.data.toList.take n) (fun b hb=>List.all_eq_true.1 ha b hb)
 have hle:(d.data.toList.take n).length<=3:=by
  rw[List.length_take];have:d.data.toList.length=d.size:=by simp
  omega
 have hp:10^(d.data.toList.take n).length<=10^3:=jP (by omega) hle;omega
theorem d9s (s:jW) (w:World) (hs:s.size<=maxLen) :
  Ca 221 #[Sg s] w (e2h (e2f s)):=by
 have hB:=Below.refl w.heap.size w;have JY:undef=Value.tuple #[]:=rfl;have hl:=fun w=>a7p s w hs
 rw[d8e] at hl;have HL:=zh hl;unfold maxLen at hs;have hz:=e5v s;have hcb:=e4y s;have hca:=e6t s;have hno:=fun h=>zh (f0i (s:=s) h)
 have hyes:=fun h1 h2 h3=>zh (e8t (s:=s) h1 h2 h3)
 have HC:=zh (fun w=>e2g (c9p s) w);obtain⟨V,hV⟩:=nM (e2h (e2f s));rw[<-hV];generalize e2f s=P at *;generalize c9p s=A at *;generalize c9o s=D at *;clear hl;by_cases hbad:A.size=0\/2<A.size\/D.size=0\/3<D.size
 ·
  have hr:P=(0,0,10):=by
   rcases hbad with h | h | h | h
   ·
    exact(hno (Or.inl h)).out
   ·
    exact(hno (Or.inr (Or.inl h))).out
   ·
    exact(hno (Or.inr (Or.inr (e5q h)))).out
   ·
    exact(hno (Or.inr (Or.inr (e5r h)))).out
  rw[hr] at hV;have HV:=zh hV;clear hno hyes hr hV hca HC;go_enter Tryz.func221,Tryz.ntmps221;go_wp2_with (go_at_call 121;refine(HL.out _).mono ?_;rintro e w1 ⟨rfl,rfl⟩)
  all_goals first
   | (exfalso;omega)
   | (go_ret3;exact⟨congrArg jV HV.out.symm,hB⟩)
 ·
  have hA0:0<A.size:=by omega
  have hA2:A.size<=2:=by omega
  have hD0:0<D.size:=by omega
  have hD3:D.size<=3:=by omega
  have hgA:1<=A.size:=by omega
  have hgD:1<=D.size:=by omega
  by_cases h48:D[0].toNat=48
  ·
   have hr:=(hno (Or.inr (Or.inr (e5s hD0 h48)))).out;rw[hr] at hV;have HV:=zh hV;clear hno hyes hr hV hca HC hbad;go_enter Tryz.func221,Tryz.ntmps221;go_wp2_with (go_at_call 121;refine(HL.out _).mono ?_;rintro e w1 ⟨rfl,rfl⟩)
   all_goals first
    | (exfalso;omega)
    | (go_ret3;exact⟨congrArg jV HV.out.symm,hB⟩)
  ·
   have hro:=e5t hD0 hD3 h48;have hDl:D.data.toList.length=D.size:=by simp
   have hDL:=zh hDl;have h48b:((D[0].toNat:Int)==48)=false:=by simp;omega
   clear hDl
   cases hall:D.data.toList.all Nt.isDig with
   | false =>
    rw[hall] at hro;have hr:=(hno (Or.inr (Or.inr hro))).out;rw[hr] at hV;have HV:=zh hV;have HALL:=zh hall;clear hno hyes hr hV hca HC hbad hro hall;go_enter Tryz.func221,Tryz.ntmps221;go_wp2_with (go_at_call 121;refine(HL.out _).mono ?_;rintro e w1 ⟨rfl,rfl⟩)
    go_loop [7,8] (e9z D) (fun _ i=>D.size-(intOf i).toNat)
    case atStart=>exact⟨0,by omega,rfl,rfl,rfl⟩
    case round =>
     obtain⟨n,hn,rfl,rfl,ha⟩:=hrel;have hv:=e4d hD3 ha;have HA:=zh ha;clear ha;by_cases hlt:n<D.size
     ·
      have hg:=zh (a4p D n hlt);have hst:=zh (Nt.dv_take D n hlt);by_cases h1:48<=D[n].toNat
      ·
       by_cases h2:D[n].toNat<=57
       ·
        have hu:Hid (Nt.isDig D[n]=true):=by show Nt.isDig D[n]=true;unfold Nt.isDig;simp;omega
        obtain⟨c,hc⟩:=nM (D[n].toNat);have q0:((c:Nat):Int)-48=((c-48:Nat):Int):=by omega
        have q1:IntKind.u8.wrap ((c:Int)-48)=((c-48:Nat):Int):=by show (_:Int)%256=_;omega
        have q2:((c:Int)-48)%256=((c-48:Nat):Int):=by omega
        rw[hc] at q0 q1 q2
        go_wp2
        refine⟨⟨n+1,by omega,?_,by go_num,?_⟩,by simp[intOf];omega⟩
        ·
         rw[hst.out];exact congrArg (Value.int .i64) (by omega)
        ·
         exact e4c (by rw[hDL.out];exact hlt) HA.out (by rw[hg.out];exact hu.out)
       ·
        go_wp2
        go_ret3
        exact⟨congrArg jV HV.out.symm,hB⟩
      ·
       go_wp2
       go_ret3
       exact⟨congrArg jV HV.out.symm,hB⟩
     ·
      exfalso;obtain rfl:n=D.size:=by omega
      have:=HA.out;rw[jS (by rw[hDL.out];omega),HALL.out] at this
      cases this
   | true =>
    rw[hall] at hro;have hr:=(hyes hA0 hA2 hro).out;unfold d9z at HC
    have HDG:Hid (∀ n (h:n<D.size),Nt.isDig D[n]=true):=fun n h=>by
     have:=List.all_eq_true.1 hall (D[n]) (by rw[<-a4p D n h];exact List.getElem_mem _);exact this
    have HVV:=zh hV;have HR:=zh hr;have HI:=zh (fun c r w=>a7o c r w);clear hno hyes hr hV hbad hro hall;go_enter Tryz.func221,Tryz.ntmps221;go_wp2_with (go_at_call 121;refine(HL.out _).mono ?_;rintro e w1 ⟨rfl,rfl⟩)
    go_loop [7,8] (e9z D) (fun _ i=>D.size-(intOf i).toNat)
    case atStart=>exact⟨0,by omega,rfl,rfl,rfl⟩
    case round =>
     obtain⟨n,hn,rfl,rfl,ha⟩:=hrel;have hv:=e4d hD3 ha;have HA:=zh ha;clear ha;by_cases hlt:n<D.size
     ·
      have hg:=zh (a4p D n hlt);have hst:=zh (Nt.dv_take D n hlt);have hu:=zh (HDG.out n hlt);have hdig:48<=D[n].toNat/\D[n].toNat<=57:=jB (HDG.out n hlt);obtain⟨h1,h2⟩:=hdig;obtain⟨c,hc⟩:=nM (D[n].toNat);have q0:((c:Nat):Int)-48=((c-48:Nat):Int):=by omega
      have q1:IntKind.u8.wrap ((c:Int)-48)=((c-48:Nat):Int):=by show (_:Int)%256=_;omega
      have q2:((c:Int)-48)%256=((c-48:Nat):Int):=by omega
      rw[hc] at q0 q1 q2
      go_wp2
      refine⟨⟨n+1,by omega,?_,by go_num,?_⟩,by simp[intOf];omega⟩
      ·
       rw[hst.out];exact congrArg (Value.int .i64) (by omega)
      ·
       exact e4c (by rw[hDL.out];exact hlt) HA.out (by rw[hg.out];exact hu.out)
     ·
      obtain rfl:n=D.size:=by omega
      have hf:D.data.toList.take D.size=D.data.toList:=jS (by rw[hDL.out];omega);rw[hf] at hv;rw[hf];have HRR:=HR.out;generalize Nt.dv D.data.toList=r at *;generalize e8r A=c at *;generalize (c != 0)=cb at *;clear HA hf HDG HR
      cases hg:YW c r with
      | false =>
       rw[hg] at HRR;have hVe:V=e2h (0,0,6):=by rw[HVV.out,HRR];rfl
       have HII:=fun w=>HI.out (c:Int) (r:Int) w
       rw[hg] at HII;have H2:=zh HII;have H3:=zh hVe;clear HII hVe hg HRR
       go_wp2_with (first
        | (go_at_call 233;with_reducible refine(a2s hB (HC.out _)).mono ?_;clear hB;rintro e w1 ⟨rfl,hB⟩)
        | (go_at_call 113;with_reducible refine(H2.out _).mono ?_;rintro e w1 ⟨rfl,rfl⟩))
       go_ret3
       exact⟨congrArg jV H3.out.symm,hB⟩
      | true =>
       rw[hg] at HRR;have hVe:V=e2h (c,r,0):=by rw[HVV.out,HRR];rfl
       have HII:=fun w=>HI.out (c:Int) (r:Int) w
       rw[hg] at HII;have H2:=zh HII;have H3:=zh hVe;clear HII hVe hg HRR
       go_wp2_with (first
        | (go_at_call 233;with_reducible refine(a2s hB (HC.out _)).mono ?_;clear hB;rintro e w1 ⟨rfl,hB⟩)
        | (go_at_call 113;with_reducible refine(H2.out _).mono ?_;rintro e w1 ⟨rfl,rfl⟩))
       go_ret3
       exact⟨congrArg jV H3.out.symm,hB⟩
set_option maxHeartbeats 4000000
set_option linter.all false
abbrev a1e (a b c d:Int):Value:=.agg #[I6 a,I6 b,I6 c,I6 d]
def cnt (a b c d:Int):Int:=(c-a+1)*(d-b+1)
def a8z (a b c d:Int):Int:=if (YW a b&&YW c d)=false then 6 else if 200<cnt (min a c) (min b d) (max a c) (max b d) then 7 else 0
def b6k (a b c d:Int):Value:=if a8z a b c d=0 then a1e (min a c) (min b d) (max a c) (max b d) else a1e 0 0 0 0
theorem a9q {a b c d:Int} (h:YW a b=false\/YW c d=false):a8z a b c d=6/\b6k a b c d=a1e 0 0 0 0:=by
 have h1:a8z a b c d=6:=by
  unfold a8z;rw[if_pos (by rcases h with h | h<;>rw[h]<;>simp)]
 refine⟨h1,?_⟩;unfold b6k;rw[h1];rfl
theorem b1d {a b c d:Int} (h1:YW a b=true) (h2:YW c d=true) (h:200<cnt (min a c) (min b d) (max a c) (max b d)):a8z a b c d=7/\b6k a b c d=a1e 0 0 0 0:=by
 have h1:a8z a b c d=7:=by
  unfold a8z;rw[h1,h2,if_neg (by decide),if_pos h]
 refine⟨h1,?_⟩;unfold b6k;rw[h1];rfl
theorem c4p {a b c d:Int} (h1:YW a b=true) (h2:YW c d=true) (h : ¬ 200<cnt (min a c) (min b d) (max a c) (max b d)):a8z a b c d=0/\b6k a b c d=a1e (min a c) (min b d) (max a c) (max b d):=by
 have h1:a8z a b c d=0:=by
  unfold a8z;rw[h1,h2,if_neg (by decide),if_neg h]
 refine⟨h1,?_⟩;unfold b6k;rw[h1];rfl
theorem a7q {a b c d:Int} (ha:1<=a/\a<=52) (hb:1<=b/\b<=99) (hc:1<=c/\c<=52) (hd:1<=d/\d<=99) : -10000<=cnt a b c d/\cnt a b c d<=10000:=by
 unfold cnt;have h1 : -51<=c-a+1/\c-a+1<=52:=by omega
 have h2 : -98<=d-b+1/\d-b+1<=99:=by omega
 generalize c-a+1=x at *;generalize d-b+1=y at *;obtain⟨x1,x2⟩:=h1;obtain⟨y1,y2⟩:=h2;have e:(52-x)*(99-y) ≥ 0:=Int.mul_nonneg (by omega) (by omega);have f:(52-x)*(y+98) ≥ 0:=Int.mul_nonneg (by omega) (by omega);have g:(x+51)*(99-y) ≥ 0:=Int.mul_nonneg (by omega) (by omega);have k:(x+51)*(y+98) ≥ 0:=Int.mul_nonneg (by omega) (by omega);simp only[Int.sub_mul,Int.mul_sub,Int.add_mul,Int.mul_add] at e f g k;generalize x*y=z at *;constructor<;>omega
theorem b8k (a b c d:Int) (w:World) (ha:1<=a/\a<=52) (hb:1<=b/\b<=99) (hc:1<=c/\c<=52) (hd:1<=d/\d<=99) :
  Ca 141 #[a1e a b c d] w (I6 (cnt a b c d)):=by
 obtain⟨u1,u2⟩:=a7q ha hb hc hd
 have hw:cnt a b c d=wrap64 ((c-a+1)*(d-b+1)):=by
  unfold cnt at *;generalize (c-a+1)*(d-b+1)=x at *;unfold wrap64;omega
 have HW:=zh hw;clear hw;obtain⟨a1,a2⟩:=ha;obtain⟨b1,b2⟩:=hb;obtain⟨c1,c2⟩:=hc;obtain⟨d1,d2⟩:=hd;go_enter Tryz.func141,Tryz.ntmps141
 go_wp2
 go_ret
 exact⟨a1c HW.out.symm,(Below.refl _ _).alloc (jC _) _⟩
theorem b1e (a b c d:Int) (w:World) :
  Ca 110 #[a1e a b c d] w (.tuple #[b6k a b c d,I6 (a8z a b c d)]):=by
 have h1:=fun w=>b5x (a6b a b w)
 have h2:=fun w=>b5x (a6b c d w)
 have JY:=Qw
 cases g1:YW a b with
 | false =>
  obtain⟨e1,e2⟩:=a9q (Or.inl g1:YW a b=false\/YW c d=false);rw[e1,e2];rw[g1] at h1;have H1:=zh h1;clear h1 h2 g1 e1 e2;go_enter Tryz.func110,Tryz.ntmps110;go_wp2_with fail;obtain⟨s1,A,C,j6,jz,qq,j8,zA,zC⟩:=YJ w (.cells #[I6 a,I6 b,I6 c,I6 d] 137) (.cells #[I6 0,I6 0,I6 0,I6 0] 137);have dCA:C≠A:=by omega
  have yC:=qZ (b:=C) j6 (by simp[qq]);have fC:=Qq (b:=C) j6 (by simp[qq]);have lC:w.heap.size<=C:=by omega
  have j7:=Yz bR j6;rw[<-j6];try rw[<-qq]
  try rw[<-jz]
  clear j6 j8 jz qq;refine jy (H1.out _) fun s2 hb=>?_
  replace yC:=jv hb yC zC;replace fC:=qv hb fC zC
  replace j7:=bT j7 hb;clear hb
  all_goals go_wp2
  all_goals refine jU (v:=.tuple #[a1e 0 0 0 0,I6 6]) (by simp[results,Tryz.results110,go_sem,yC]) rfl ⟨rfl,?_⟩
  all_goals exact(sc4 j7 lC)
 | true =>
  rw[g1] at h1;have H1:=zh h1
  cases g2:YW c d with
  | false =>
   obtain⟨e1,e2⟩:=a9q (Or.inr g2:YW a b=false\/YW c d=false);rw[e1,e2];rw[g2] at h2;have H2:=zh h2;clear h1 h2 g1 g2 e1 e2;go_enter Tryz.func110,Tryz.ntmps110;go_wp2_with fail;obtain⟨s3,A,C,j6,jz,qq,j8,zA,zC⟩:=YJ w (.cells #[I6 a,I6 b,I6 c,I6 d] 137) (.cells #[I6 0,I6 0,I6 0,I6 0] 137);have dCA:C≠A:=by omega
   have yA:=Y4 (b:=A) j6 jz;have yC:=qZ (b:=C) j6 (by simp[qq]);have fC:=Qq (b:=C) j6 (by simp[qq]);have lC:w.heap.size<=C:=by omega
   have j7:=Yz bR j6;rw[<-j6];try rw[<-qq]
   try rw[<-jz]
   clear j6 j8 jz qq;refine jy (H1.out _) fun s4 hb=>?_
   replace yA:=jv hb yA zA;replace yC:=jv hb yC zC;replace fC:=qv hb fC zC;replace zC:=jw hb zC
   replace j7:=bT j7 hb;clear hb;go_wp2_with fail;refine jy (H2.out _) fun s5 hb=>?_
   replace yC:=jv hb yC zC;replace fC:=qv hb fC zC
   replace j7:=bT j7 hb;clear hb
   all_goals go_wp2
   all_goals refine jU (v:=.tuple #[a1e 0 0 0 0,I6 6]) (by simp[results,Tryz.results110,go_sem,yC,zC]) rfl ⟨rfl,?_⟩
   all_goals exact(sc4 j7 lC)
  | true =>
   rw[g2] at h2;have H2:=zh h2;obtain⟨a1,a2,b1,b2⟩:=(a9p _ _).1 g1;obtain⟨c1,c2,d1,d2⟩:=(a9p _ _).1 g2;have HC:=zh (fun w=>b8k (min a c) (min b d) (max a c) (max b d) w (by omega) (by omega) (by omega) (by omega));by_cases hm:200<cnt (min a c) (min b d) (max a c) (max b d)
   ·
    obtain⟨e1,e2⟩:=b1d g1 g2 hm;rw[e1,e2];obtain⟨n,hn⟩:=nM (cnt (min a c) (min b d) (max a c) (max b d));rw[<-hn] at hm HC;have HN:=zh hn;clear h1 h2 g1 g2 e1 e2 hn;go_enter Tryz.func110,Tryz.ntmps110;go_wp2_with fail;obtain⟨s6,A,C,j6,jz,qq,j8,zA,zC⟩:=YJ w (.cells #[I6 a,I6 b,I6 c,I6 d] 137) (.cells #[I6 0,I6 0,I6 0,I6 0] 137);have dCA:C≠A:=by omega
    have yA:=Y4 (b:=A) j6 jz;have yC:=qZ (b:=C) j6 (by simp[qq]);have fC:=Qq (b:=C) j6 (by simp[qq]);have lC:w.heap.size<=C:=by omega
    have j7:=Yz bR j6;rw[<-j6];try rw[<-qq]
    try rw[<-jz]
    clear j6 j8 jz qq;refine jy (H1.out _) fun s7 hb=>?_
    replace yA:=jv hb yA zA;replace zA:=jw hb zA;replace yC:=jv hb yC zC;replace fC:=qv hb fC zC;replace zC:=jw hb zC
    replace j7:=bT j7 hb;clear hb;go_wp2_with fail;refine jy (H2.out _) fun s8 hb=>?_
    replace yA:=jv hb yA zA;replace yC:=jv hb yC zC;replace fC:=qv hb fC zC;replace zC:=jw hb zC
    replace j7:=bT j7 hb;clear hb;go_wp2_with fail;obtain⟨s9,E,j6,hdE,j8,zE⟩:=qy s8 (.cells #[I6 (min a c),I6 (min b d),I6 (max a c),I6 (max b d)] 137);have j9:=JW j6;have dCE:C≠E:=by omega
    replace yC:=jv j9 yC zC;replace fC:=qv j9 fC zC;replace zC:=jw j9 zC
    clear j9;replace j7:=qQ j7 j6;rw[<-j6];try rw[<-hdE]
    clear j6 j8 hdE;refine jy (HC.out _) fun s10 hb=>?_
    replace yC:=jv hb yC zC;replace fC:=qv hb fC zC
    replace j7:=bT j7 hb;clear hb
    all_goals go_wp2
    all_goals refine jU (v:=.tuple #[a1e 0 0 0 0,I6 7]) (by simp[results,Tryz.results110,go_sem,yC,zC]) rfl ⟨rfl,?_⟩
    all_goals exact(sc4 j7 lC)
   ·
    obtain⟨e1,e2⟩:=c4p g1 g2 hm;rw[e1,e2];obtain⟨n,hn⟩:=nM (cnt (min a c) (min b d) (max a c) (max b d));rw[<-hn] at hm HC;have HN:=zh hn;clear h1 h2 g1 g2 e1 e2 hn;go_enter Tryz.func110,Tryz.ntmps110;go_wp2_with fail;obtain⟨s11,A,C,j6,jz,qq,j8,zA,zC⟩:=YJ w (.cells #[I6 a,I6 b,I6 c,I6 d] 137) (.cells #[I6 0,I6 0,I6 0,I6 0] 137);have dCA:C≠A:=by omega
    have yA:=Y4 (b:=A) j6 jz;have yC:=qZ (b:=C) j6 (by simp[qq]);have fC:=Qq (b:=C) j6 (by simp[qq]);have lC:w.heap.size<=C:=by omega
    have j7:=Yz bR j6;rw[<-j6];try rw[<-qq]
    try rw[<-jz]
    clear j6 j8 jz qq;refine jy (H1.out _) fun s12 hb=>?_
    replace yA:=jv hb yA zA;replace zA:=jw hb zA;replace yC:=jv hb yC zC;replace fC:=qv hb fC zC;replace zC:=jw hb zC
    replace j7:=bT j7 hb;clear hb;go_wp2_with fail;refine jy (H2.out _) fun s13 hb=>?_
    replace yA:=jv hb yA zA;replace yC:=jv hb yC zC;replace fC:=qv hb fC zC;replace zC:=jw hb zC
    replace j7:=bT j7 hb;clear hb;go_wp2_with fail;obtain⟨s14,E,j6,hdE,j8,zE⟩:=qy s13 (.cells #[I6 (min a c),I6 (min b d),I6 (max a c),I6 (max b d)] 137);have j9:=JW j6;have dCE:C≠E:=by omega
    replace yC:=jv j9 yC zC;replace fC:=qv j9 fC zC;replace zC:=jw j9 zC
    clear j9;have yE:=qZ (b:=E) j6 hdE;replace j7:=qQ j7 j6;rw[<-j6];try rw[<-hdE]
    clear j6 j8 hdE;refine jy (HC.out _) fun s15 hb=>?_
    replace yC:=jv hb yC zC;replace fC:=qv hb fC zC
    replace yE:=jv hb yE zE;replace j7:=bT j7 hb;clear hb
    all_goals go_wp2
    all_goals refine jU (v:=.tuple #[a1e (min a c) (min b d) (max a c) (max b d),I6 0]) (by simp[results,Tryz.results110,go_sem,yC,zC]) rfl ⟨rfl,?_⟩
    all_goals exact(sc4 j7 lC)
theorem b3l (a b c d:Int) (w:World) :
  Ca 70 #[a1e a b c d] w (.tuple #[b6k a b c d,I6 (a8z a b c d)]):=by
 have h1:=fun w=>b5x (a7o a b w)
 have h2:=fun w=>b5x (a7o c d w)
 have JY:=Qw
 cases g1:YW a b with
 | false =>
  obtain⟨e1,e2⟩:=a9q (Or.inl g1:YW a b=false\/YW c d=false);rw[e1,e2];rw[g1] at h1;have H1:=zh h1;clear h1 h2 g1 e1 e2;go_enter Tryz.func70,Tryz.ntmps70;go_wp2_with fail;obtain⟨s16,A,C,j6,jz,qq,j8,zA,zC⟩:=YJ w (.cells #[I6 a,I6 b,I6 c,I6 d] 108) (.cells #[I6 0,I6 0,I6 0,I6 0] 108);have dCA:C≠A:=by omega
  have yC:=qZ (b:=C) j6 (by simp[qq]);have fC:=Qq (b:=C) j6 (by simp[qq]);have lC:w.heap.size<=C:=by omega
  have j7:=Yz bR j6;rw[<-j6];try rw[<-qq]
  try rw[<-jz]
  clear j6 j8 jz qq;refine jy (H1.out _) fun s17 hb=>?_
  replace yC:=jv hb yC zC;replace fC:=qv hb fC zC
  replace j7:=bT j7 hb;clear hb
  all_goals go_wp2
  all_goals refine jU (v:=.tuple #[a1e 0 0 0 0,I6 6]) (by simp[results,Tryz.results70,go_sem,yC]) rfl ⟨rfl,?_⟩
  all_goals exact(sc4 j7 lC)
 | true =>
  rw[g1] at h1;have H1:=zh h1
  cases g2:YW c d with
  | false =>
   obtain⟨e1,e2⟩:=a9q (Or.inr g2:YW a b=false\/YW c d=false);rw[e1,e2];rw[g2] at h2;have H2:=zh h2;clear h1 h2 g1 g2 e1 e2;go_enter Tryz.func70,Tryz.ntmps70;go_wp2_with fail;obtain⟨s18,A,C,j6,jz,qq,j8,zA,zC⟩:=YJ w (.cells #[I6 a,I6 b,I6 c,I6 d] 108) (.cells #[I6 0,I6 0,I6 0,I6 0] 108);have dCA:C≠A:=by omega
   have yA:=Y4 (b:=A) j6 jz;have yC:=qZ (b:=C) j6 (by simp[qq]);have fC:=Qq (b:=C) j6 (by simp[qq]);have lC:w.heap.size<=C:=by omega
   have j7:=Yz bR j6;rw[<-j6];try rw[<-qq]
   try rw[<-jz]
   clear j6 j8 jz qq;refine jy (H1.out _) fun s19 hb=>?_
   replace yA:=jv hb yA zA;replace yC:=jv hb yC zC;replace fC:=qv hb fC zC;replace zC:=jw hb zC
   replace j7:=bT j7 hb;clear hb;go_wp2_with fail;refine jy (H2.out _) fun s20 hb=>?_
   replace yC:=jv hb yC zC;replace fC:=qv hb fC zC
   replace j7:=bT j7 hb;clear hb
   all_goals go_wp2
   all_goals refine jU (v:=.tuple #[a1e 0 0 0 0,I6 6]) (by simp[results,Tryz.results70,go_sem,yC,zC]) rfl ⟨rfl,?_⟩
   all_goals exact(sc4 j7 lC)
  | true =>
   rw[g2] at h2;have H2:=zh h2;obtain⟨a1,a2,b1,b2⟩:=(a9p _ _).1 g1;obtain⟨c1,c2,d1,d2⟩:=(a9p _ _).1 g2;by_cases hm:200<cnt (min a c) (min b d) (max a c) (max b d)
   ·
    obtain⟨e1,e2⟩:=b1d g1 g2 hm;rw[e1,e2];obtain⟨n,hn⟩:=nM (cnt (min a c) (min b d) (max a c) (max b d));rw[<-hn] at hm
    have hw:wrap64 ((max a c-min a c+1)*(max b d-min b d+1))=n:=by
     have hs:=a7q (a:=min a c) (b:=min b d) (c:=max a c) (d:=max b d) (by omega) (by omega) (by omega) (by omega);rw[<-hn] at hs;have:(max a c-min a c+1)*(max b d-min b d+1)=n:=hn.symm;rw[this];unfold wrap64;omega
    have HN:=zh hn;clear h1 h2 g1 g2 e1 e2 hn;go_enter Tryz.func70,Tryz.ntmps70;go_wp2_with fail;obtain⟨s21,A,C,j6,jz,qq,j8,zA,zC⟩:=YJ w (.cells #[I6 a,I6 b,I6 c,I6 d] 108) (.cells #[I6 0,I6 0,I6 0,I6 0] 108);have dCA:C≠A:=by omega
    have yA:=Y4 (b:=A) j6 jz;have yC:=qZ (b:=C) j6 (by simp[qq]);have fC:=Qq (b:=C) j6 (by simp[qq]);have lC:w.heap.size<=C:=by omega
    have j7:=Yz bR j6;rw[<-j6];try rw[<-qq]
    try rw[<-jz]
    clear j6 j8 jz qq;refine jy (H1.out _) fun s22 hb=>?_
    replace yA:=jv hb yA zA;replace zA:=jw hb zA;replace yC:=jv hb yC zC;replace fC:=qv hb fC zC;replace zC:=jw hb zC
    replace j7:=bT j7 hb;clear hb;go_wp2_with fail;refine jy (H2.out _) fun s23 hb=>?_
    replace yA:=jv hb yA zA;replace yC:=jv hb yC zC;replace fC:=qv hb fC zC;replace zC:=jw hb zC
    replace j7:=bT j7 hb;clear hb
    all_goals go_wp2
    all_goals refine jU (v:=.tuple #[a1e 0 0 0 0,I6 7]) (by simp[results,Tryz.results70,go_sem,yC,zC]) rfl ⟨rfl,?_⟩
    all_goals exact((sc4 j7 lC).alloc (by first | exact j7.size | (have:=j7.size;simp;omega) | (have:=(HF.out _ (by assumption)).size;simp;omega)) _)
   ·
    obtain⟨e1,e2⟩:=c4p g1 g2 hm;rw[e1,e2];obtain⟨n,hn⟩:=nM (cnt (min a c) (min b d) (max a c) (max b d));rw[<-hn] at hm
    have hw:wrap64 ((max a c-min a c+1)*(max b d-min b d+1))=n:=by
     have hs:=a7q (a:=min a c) (b:=min b d) (c:=max a c) (d:=max b d) (by omega) (by omega) (by omega) (by omega);rw[<-hn] at hs;have:(max a c-min a c+1)*(max b d-min b d+1)=n:=hn.symm;rw[this];unfold wrap64;omega
    have HN:=zh hn;clear h1 h2 g1 g2 e1 e2 hn;go_enter Tryz.func70,Tryz.ntmps70;go_wp2_with fail;obtain⟨s24,A,C,j6,jz,qq,j8,zA,zC⟩:=YJ w (.cells #[I6 a,I6 b,I6 c,I6 d] 108) (.cells #[I6 0,I6 0,I6 0,I6 0] 108);have dCA:C≠A:=by omega
    have yA:=Y4 (b:=A) j6 jz;have yC:=qZ (b:=C) j6 (by simp[qq]);have fC:=Qq (b:=C) j6 (by simp[qq]);have lC:w.heap.size<=C:=by omega
    have j7:=Yz bR j6;rw[<-j6];try rw[<-qq]
    try rw[<-jz]
    clear j6 j8 jz qq;refine jy (H1.out _) fun s25 hb=>?_
    replace yA:=jv hb yA zA;replace zA:=jw hb zA;replace yC:=jv hb yC zC;replace fC:=qv hb fC zC;replace zC:=jw hb zC
    replace j7:=bT j7 hb;clear hb;go_wp2_with fail;refine jy (H2.out _) fun s26 hb=>?_
    replace yA:=jv hb yA zA;replace yC:=jv hb yC zC;replace fC:=qv hb fC zC;replace zC:=jw hb zC
    replace j7:=bT j7 hb;clear hb
    all_goals go_wp2
    all_goals refine jU (v:=.tuple #[a1e (min a c) (min b d) (max a c) (max b d),I6 0]) (by simp[results,Tryz.results70,go_sem,yC,zC]) rfl ⟨rfl,?_⟩
    all_goals exact((sc4 j7 lC).alloc (by first | exact j7.size | (have:=j7.size;simp;omega) | (have:=(HF.out _ (by assumption)).size;simp;omega)) _)
def c6w (a b c d:Int):Bool:=decide (a8z a b c d=0)&&decide (a<=c)&&decide (b<=d)
theorem a7h (a b c d:Int):c6w a b c d=true ↔ a8z a b c d=0/\a<=c/\b<=d:=by
 unfold c6w;simp only[Bool.and_eq_true,decide_eq_true_eq,and_assoc]
theorem b8l {a b c d:Int} (h : ¬ (a8z a b c d=0/\a<=c/\b<=d)):c6w a b c d=false:=by
 cases hb:c6w a b c d with
 | false=>rfl
 | true=>exact absurd ((a7h _ _ _ _).1 hb) h
theorem b5d (a b c d:Int):∃ x y z u,b6k a b c d=a1e x y z u:=by
 unfold b6k
 split
 ·
  exact⟨_,_,_,_,rfl⟩
 ·
  exact⟨_,_,_,_,rfl⟩
theorem b8m {a b c d:Int} (h:a8z a b c d≠0):(a8z a b c d==0)=false:=by simpa using h
