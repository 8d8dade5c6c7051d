import Derived.Test.YtibiacmbljgmhaaGreatDoorLex1
import Derived.Test.YtibiacmbljgmhaaGreatDoorRat9
set_option maxHeartbeats 8000000
set_option maxRecDepth 100000
namespace Go.Proofs.YtibiacmbljgmhaaGreatDoor
open Go.RowKit Go.Shelf
set_option linter.all false
def e3c (c:UInt8) (b:UInt8):Bool:=b != c
def f1z (s:jW) (c:UInt8) (i:Value):Prop:=∃ n:Nat,i=I6 n/\n<=s.size/\(s.data.toList.take n).all (e3c c)=true
theorem f3u {l:List UInt8} {p:UInt8->Bool} {n:Nat} (hn:n<l.length) (h:(l.take n).all p=true) (hx:p l[n]=false):(l.takeWhile p).length=n:=by
 have e:l=l.take n++l[n] :: l.drop (n+1):=by rw[<-e3o hn,List.take_append_drop]
 have h2:∀ m:List UInt8,m.all p=true->∀ x r,p x=false->((m++x :: r).takeWhile p)=m:=by
  intro m
  induction m with
  | nil=>intro _ x r hx;rw[List.nil_append,List.takeWhile_cons,hx];rfl
  | cons y m ih =>
   intro hm x r hx;rw[List.all_cons,Bool.and_eq_true] at hm;rw[List.cons_append,List.takeWhile_cons,hm.1,if_pos rfl,ih hm.2 x r hx]
 have h3:=h2 _ h l[n] (l.drop (n+1)) hx;rw[<-e] at h3;rw[h3,List.length_take];omega
theorem f2a {l:List UInt8} {p:UInt8->Bool} (h:l.all p=true):(l.takeWhile p).length=l.length:=by
 induction l with
 | nil=>rfl
 | cons x l ih =>
  rw[List.all_cons,Bool.and_eq_true] at h;rw[List.takeWhile_cons,h.1,if_pos rfl,List.length_cons,List.length_cons,ih h.2]
theorem e3q (s:jW) (c:UInt8) (w:World) (hs:s.size<=1000) :
  Cz 171 #[Sg s,.int .u8 (c.toNat:Int)] w fun e w'=>e=.returned (I6 (if (s.data.toList.takeWhile (e3c c)).length<s.size then ((s.data.toList.takeWhile (e3c c)).length:Int) else -1))/\w'=w:=by
 have hl:s.data.toList.length=s.size:=by simp
 obtain⟨R,hR⟩:=nM ((if (s.data.toList.takeWhile (e3c c)).length<s.size then ((s.data.toList.takeWhile (e3c c)).length:Int) else -1));rw[<-hR];have HR:=zh hR;have J6:=zh hl;clear hl hR;go_enter Tryz.func171,Tryz.ntmps171
 go_wp2
 go_loop [5] (f1z s c) (fun i=>s.size-(intOf i).toNat)
 case atStart=>exact⟨0,rfl,by omega,rfl⟩
 case round =>
  obtain⟨n,rfl,hn,hT⟩:=hrel;have HT:=zh hT;clear hT;by_cases hlt:n<s.size
  ·
   have hg:=zh (a4p s n hlt)
   have HX:Hid (e3c c s[n]=!(((s[n].toNat:Nat):Int)==((c.toNat:Nat):Int))):=by
    show _=_;unfold e3c;rw[bne,Bool.not_inj_iff,Bool.eq_iff_iff,beq_iff_eq,beq_iff_eq,<-UInt8.toNat_inj];omega
   by_cases hc:((s[n].toNat:Nat):Int)=((c.toNat:Nat):Int)
   ·
    have H2:Hid (R=(n:Int)):=by
     show R=_;rw[HR.out,f3u (by rw[J6.out];exact hlt) HT.out (by rw[hg.out,HX.out,hc];simp),if_pos hlt]
    go_wp2
    go_ret
    exact⟨a1c H2.out.symm,rfl⟩
   ·
    have H2:Hid (e3c c s[n]=true):=by
     show e3c c s[n]=true;rw[HX.out];simpa using hc
    go_wp2
    exact⟨⟨n+1,by go_num,by omega,a9h (by rw[J6.out];exact hlt) HT.out (by rw[hg.out,H2.out])⟩,by simp[intOf];omega⟩
  ·
   have H2:Hid (R=-1):=by
    show R=_;have h:=HT.out;rw[jS (by rw[J6.out];omega)] at h;rw[HR.out,f2a h,J6.out,if_neg (by omega)]
   go_wp2
   go_ret
   exact⟨a1c H2.out.symm,rfl⟩
def e0w (l:List UInt8):Bool:=l.all Nt.isDig&&decide (l≠[])
def f2b (s:jW) (i:Value):Prop:=∃ n:Nat,i=I6 n/\n<=s.size/\(s.data.toList.take n).all Nt.isDig=true
theorem d7s (s:jW) (w:World) (hs:s.size<=1000) :
  Cz 172 #[Sg s] w fun e w'=>e=.returned (Bv (e0w s.data.toList))/\w'=w:=by
 have hl:s.data.toList.length=s.size:=by simp
 obtain⟨R,hR⟩:=nM (e0w s.data.toList);rw[<-hR];have HR:=zh hR;have J6:=zh hl;clear hl hR;go_enter Tryz.func172,Tryz.ntmps172
 go_wp2
 go_loop [3] (f2b s) (fun i=>s.size-(intOf i).toNat)
 case atStart=>exact⟨0,rfl,by omega,rfl⟩
 case round =>
  obtain⟨n,rfl,hn,hT⟩:=hrel;have HT:=zh hT;clear hT;by_cases hlt:n<s.size
  ·
   have hg:=zh (a4p s n hlt);by_cases c1:48<=s[n].toNat
   ·
    by_cases c2:s[n].toNat<=57
    ·
     have HF:Hid (Nt.isDig s[n]=true):=by show Nt.isDig s[n]=true;unfold Nt.isDig;simp;omega
     go_wp2
     exact⟨⟨n+1,by go_num,by omega,a9h (by rw[J6.out];exact hlt) HT.out (by rw[hg.out,HF.out])⟩,by simp[intOf];omega⟩
    ·
     have HF:Hid (Nt.isDig s[n]=false):=by show Nt.isDig s[n]=false;unfold Nt.isDig;simp;omega
     have H2:Hid (R=false):=by
      show R=false;rw[HR.out];unfold e0w;rw[b0g (by rw[J6.out];exact hlt) (by rw[hg.out,HF.out]),Bool.false_and]
     go_wp2
     go_ret
     exact⟨J4 H2.out.symm,rfl⟩
   ·
    have HF:Hid (Nt.isDig s[n]=false):=by show Nt.isDig s[n]=false;unfold Nt.isDig;simp;omega
    have H2:Hid (R=false):=by
     show R=false;rw[HR.out];unfold e0w;rw[b0g (by rw[J6.out];exact hlt) (by rw[hg.out,HF.out]),Bool.false_and]
    go_wp2
    go_ret
    exact⟨J4 H2.out.symm,rfl⟩
  ·
   have H2:Hid (R=!(s.toList.isEmpty)):=by
    show R=_;have h:=HT.out;rw[jS (by rw[J6.out];omega)] at h;rw[HR.out];unfold e0w;rw[h,Bool.true_and,jI]
    cases s.data.toList<;>simp
   go_wp2
   all_goals go_ret
   all_goals exact⟨J4 (by rw[H2.out];try simp_all),rfl⟩
def d9p (l:List UInt8):jW × jW × Int :=
 let a:=l.takeWhile (e3c 46)
 let b:=l.drop (a.length+1)
 if e0w a=false\/a.length<l.length/\e0w b=false then (⟨#[]⟩,⟨#[]⟩,10) else
  let q:=mkR (Nt.dv (a++b)) ((10^b.length:Nat):Int)
  (rn q,rd q,mkE (Nt.dv (a++b)) ((10^b.length:Nat):Int))
theorem e3r:DOk d9p:=by
 intro l h;unfold d9p at h |-
 dsimp only at h |-
 split at h
 ·
  cases h
 ·
  rename_i hc
  rw[if_neg hc];dsimp only at h |-
  generalize (Nt.dv (l.takeWhile (e3c 46)++l.drop ((l.takeWhile (e3c 46)).length+1)):Int)=x at *;generalize hy:((10^(l.drop ((l.takeWhile (e3c 46)).length+1)).length:Nat):Int)=y at *;have hy0:y≠0:=by rw[<-hy];have:=jO (n:=(l.drop ((l.takeWhile (e3c 46)).length+1)).length) (show 0<10 by omega);omega
  have hb : ¬ (256<Nt.blen (mkN x y)\/256<Nt.blen (mkD x y)):=fun hb=>by rw[(c8q hy0 hb).2] at h;cases h
  rw[(c6t hy0 hb).1];have k1:(Nt.E (mkN x y)).size<=32:=a4a (by omega);have k2:(Nt.E (mkD x y)).size<=32:=a4a (by omega);exact⟨jG k1 (by omega),jG k2 (by omega)⟩
theorem f0r (n m:Nat):rb (mkR n m)=false:=by
 unfold mkR rb;have h:∀ k:Nat,zb (k:Int)=false:=fun k=>by unfold zb;simp
 split
 ·
  rfl
 ·
  split
  ·
   rfl
  ·
   dsimp only;rw[h,h];rfl
def dcV (q:jW × jW × Int):Value:=.tuple #[.agg #[Bv false,Sg q.1,Sg q.2.1],I6 q.2.2]
theorem e0x (k:Nat):(Nt.E (10^k)).size<=k+1:=Nt.E_size_lt (by
 have h1:10^k<=256^k:=Nat.pow_le_pow_left (by omega) k;have h2:256^k<256^(k+1):=Nat.pow_lt_pow_right (by omega) (by omega)
 omega)
theorem e0l (s:jW) (w:World) (hs:s.size<=300) :
  Ca 132 #[Sg s] w (dcV (d9p s.data.toList)):=by
 have JY:=Qw;have hl:s.data.toList.length=s.size:=by simp
 have hf:=fun w=>e3q s 46 w (by omega)
 have hdd:∀ (t:jW) (w:World),t.size<=300->_:=fun t w h=>d7s t w (by omega)
 obtain⟨R,hR⟩:=nM (d9p s.data.toList);rw[<-hR];unfold d9p at hR;dsimp only at hR;obtain⟨k,hk⟩:=nM ((s.data.toList.takeWhile (e3c 46)).length);rw[<-hk] at hf;have hk2:k<=s.size:=by rw[hk,<-hl];exact d7h _ _
 have hta:s.data.toList.takeWhile (e3c 46)=s.data.toList.take k:=by
  rw[hk];exact(List.prefix_iff_eq_take.1 (List.takeWhile_prefix _))
 rw[<-hk,hta] at hR;have e46:((46:UInt8).toNat:Int)=46:=rfl;rw[e46] at hf
 -- the two parts
 obtain⟨a,ha⟩:∃ a:jW,a=s.extract 0 k:=⟨_,rfl⟩;obtain⟨b,hb⟩:∃ b:jW,b=if k<s.size then s.extract (k+1) s.size else ⟨#[]⟩:=⟨_,rfl⟩
 have hal:a.data.toList=s.data.toList.take k:=by
  rw[ha,ByteArray.data_extract,Array.toList_extract,List.extract_eq_take_drop];rfl
 have hbl:b.data.toList=s.data.toList.drop (k+1):=by
  rw[hb]
  split
  ·
   rw[ByteArray.data_extract,Array.toList_extract,List.extract_eq_take_drop,jS];rw[List.length_drop,hl];exact jC _
  ·
   rw[List.drop_eq_nil_of_le (by rw[hl];omega)]
 have has:a.size=k:=by
  have:a.data.toList.length=a.size:=by simp
  rw[<-this,hal,List.length_take,hl];omega
 have hbs:b.size=s.size-(k+1):=by
  have:b.data.toList.length=b.size:=by simp
  rw[<-this,hbl,List.length_drop,hl]
 have hab:(a++b).data.toList=s.data.toList.take k++s.data.toList.drop (k+1):=by rw[ByteArray.data_append,Array.toList_append,hal,hbl]
 rw[<-hab,<-hal,<-hbl] at hR;have hblen:b.data.toList.length=b.size:=by simp
 rw[hblen,hl] at hR;have HA:=zh (fun w=>d7s a w (by omega));have HB:=zh (fun w=>d7s b w (by omega));have hbad:e0w a.data.toList=false\/k<s.size/\e0w b.data.toList=false->R=(⟨#[]⟩,⟨#[]⟩,10):=fun h=>by rw[hR,if_pos h]
 have habs:(a++b).size<=300:=by rw[ByteArray.size_append];omega
 have hgood:e0w a.data.toList=true->(k<s.size->e0w b.data.toList=true)->(a++b).data.toList.all Nt.isDig=true/\0<(a++b).size/\R=(rn (mkR (Nt.dv (a++b).data.toList) ((10^b.size:Nat):Int)),rd (mkR (Nt.dv (a++b).data.toList) ((10^b.size:Nat):Int)),mkE (Nt.dv (a++b).data.toList) ((10^b.size:Nat):Int)):=fun h1 h2=>by
  refine⟨?_,?_,?_⟩
  ·
   rw[ByteArray.data_append,Array.toList_append,List.all_append];have q1:a.data.toList.all Nt.isDig=true:=by unfold e0w at h1;rw[Bool.and_eq_true] at h1;exact h1.1
   rw[q1,Bool.true_and];by_cases hks:k<s.size
   ·
    have:=h2 hks;unfold e0w at this;rw[Bool.and_eq_true] at this;exact this.1
   ·
    have:b.data.toList=[]:=jT (by rw[hblen,hbs];omega);rw[this];rfl
  ·
   have q1:a.data.toList≠[]:=by unfold e0w at h1;rw[Bool.and_eq_true] at h1;exact jB h1.2
   have:0<a.data.toList.length:=List.length_pos_iff.2 q1;have h3:a.data.toList.length=a.size:=by simp
   rw[ByteArray.size_append];omega
  ·
   rw[hR,if_neg];rintro (h | ⟨h,h'⟩)
   ·
    rw[h1] at h;cases h
   ·
    rw[h2 h] at h';cases h'
 have HBAD:=zh hbad;have HGOOD:=zh hgood;have HDV:Hid ((a++b).data.toList.all Nt.isDig=true->(Nt.E (Nt.dv (a++b).data.toList)).size<=170):=fun h=>Nt.dv_size (fun x hx=>List.all_eq_true.1 h x hx) (jG (Nat.le_of_eq (show (a++b).data.toList.length=(a++b).size by simp)) (by omega))
 have HP:=zh (fun w=>e2e (a++b) w (by unfold maxLen;omega));have hbz:b.size<=300:=by omega
 have haz:a.size<=300:=by omega
 have hpw:=fun w=>b2f ⟨#[10]⟩ b.size w (by decide) (by
  rw[show Nt.V ⟨#[10]⟩=10 by decide]
  exact jG (e0x b.size) (by omega)) (by omega)
 rw[show Nt.V ⟨#[10]⟩=10 by decide] at hpw;have HPW:=zh hpw;have HW2:=zh (fun w=>a3z false (Nt.E (10^b.size)) ((10^b.size:Nat):Int) w (by rw[Nt.V_E];rfl));clear hR hta hk hal hbl hab hblen hdd hl hbad hgood hpw e46;obtain⟨T,hT⟩:=nM (10^b.size);have hTz:(Nt.E T).size<=1000:=by rw[hT];exact jG (e0x b.size) (by omega)
 rw[<-hT] at HGOOD HPW HW2
 have HGD:Hid (e0w a.data.toList=true->(k<s.size->e0w b.data.toList=true)->∃ x:Nat,d7n (a++b)=.tuple #[Sg (Nt.E x),I6 0]/\(∀ w,Ca 117 #[Bv false,Sg (Nt.E x)] w (.agg #[Bv (zb ((x:Int))),Sg (zt ((x:Int)))])) /\
   (∀ w,Ca 174 #[.agg #[Bv (zb ((x:Int))),Sg (zt ((x:Int)))],.agg #[Bv (zb ((T:Int))),Sg (zt ((T:Int)))]] w (dcV R))):=fun g1 g2=>by
  obtain⟨h1,h2,h3⟩:=HGOOD.out g1 g2;refine⟨Nt.dv (a++b).data.toList,d9x _ h1 h2 (by omega),fun w=>a3z false _ _ w (by rw[Nt.V_E];rfl),fun w=>?_⟩
  have hx:=HDV.out h1;rw[h3];generalize Nt.dv (a++b).data.toList=x at *;have hv:∀ n:Nat,sI (zb (n:Int)) (Nt.V (zt (n:Int)))=(n:Int):=fun n=>by rw[b3k]
  have hm:=e2t (zb (x:Int)) (zb (T:Int)) (zt (x:Int)) (zt (T:Int)) (mkR (x:Int) (T:Int)) (mkE (x:Int) (T:Int)) w (by show (Nt.E _).size<=1000;rw[Int.natAbs_natCast];omega) (by show (Nt.E _).size<=1000;rw[Int.natAbs_natCast];exact hTz) (by rw[hv,hv]) (by rw[hv,hv]);rw[f0r] at hm;exact hm
 clear HGOOD HDV;obtain⟨r1,r2,r3⟩:=R;obtain⟨V,hV⟩:=nM (dcV (r1,r2,r3));rw[<-hV];have HVV:Hid (V=.tuple #[.agg #[Bv false,Sg r1,Sg r2],I6 r3]):=hV;have HVB:Hid (((r1,r2,r3):jW × jW × Int)=(⟨#[]⟩,⟨#[]⟩,10)->V=.tuple #[.agg #[Bv false,S0,S0],I6 10]):=fun h=>by rw[hV,h];rfl
 have HGD2:Hid (e0w a.data.toList=true->(k<s.size->e0w b.data.toList=true)->∃ x:Nat,d7n (a++b)=.tuple #[Sg (Nt.E x),I6 0]/\(∀ w,Ca 117 #[Bv false,Sg (Nt.E x)] w (.agg #[Bv (zb ((x:Int))),Sg (zt ((x:Int)))])) /\
   (∀ w,Ca 174 #[.agg #[Bv (zb ((x:Int))),Sg (zt ((x:Int)))],.agg #[Bv (zb ((T:Int))),Sg (zt ((T:Int)))]] w (.tuple #[.agg #[Bv false,Sg r1,Sg r2],I6 r3]))):=HGD.out
 have q5:(0:Int)<=(k:Int):=by omega
 clear hV HGD;have HGD:=HGD2;clear HGD2;generalize e0w a.data.toList=ga at *;generalize e0w b.data.toList=gb at *;have ha2:s.extract 0 k=a:=ha.symm;clear ha has hbs;by_cases hks:k<s.size
 ·
  rw[if_pos hks] at hb;rw[if_pos hks] at hf;have HF:=zh hf;have hb2:s.extract (k+1) s.size=b:=hb.symm;clear hf hb hT
  cases ga with
  | false =>
   have HV:=zh (HVB.out (HBAD.out (Or.inl rfl)));clear HVV HVB;clear HGD HBAD HP HPW HW2;go_enter Tryz.func132,Tryz.ntmps132;go_wp2_with fail;obtain⟨s1,C,j6,qq,j8,zC⟩:=qy w (.cells #[Bv false,S0,S0] 52);have yC:=qZ (b:=C) j6 qq;have fC:=Qq (b:=C) j6 qq;have lC:w.heap.size<=C:=by omega
   have j7:=qQ bR j6;rw[<-j6];try rw[<-qq]
   clear j6 j8 qq;refine(HF.out _).mono ?_;rintro e wq ⟨rfl,rfl⟩;go_wp2_with fail;refine(HA.out _).mono ?_;rintro e wq ⟨rfl,rfl⟩;go_wp2_with fail
   all_goals go_wp2
   all_goals refine jU (v:=.tuple #[.agg #[Bv false,S0,S0],I6 10]) (by simp[results,Tryz.results132,go_sem,yC,zC]) rfl ⟨congrArg jV HV.out.symm,?_⟩
   all_goals exact(sc3 j7 lC)
  | true =>
   cases gb with
   | false =>
    have HV:=zh (HVB.out (HBAD.out (Or.inr ⟨hks,rfl⟩)));clear HVV HVB;clear HGD HBAD HP HPW HW2;go_enter Tryz.func132,Tryz.ntmps132;go_wp2_with fail;obtain⟨s2,C,j6,qq,j8,zC⟩:=qy w (.cells #[Bv false,S0,S0] 52);have yC:=qZ (b:=C) j6 qq;have fC:=Qq (b:=C) j6 qq;have lC:w.heap.size<=C:=by omega
    have j7:=qQ bR j6;rw[<-j6];try rw[<-qq]
    clear j6 j8 qq;refine(HF.out _).mono ?_;rintro e wq ⟨rfl,rfl⟩;go_wp2_with fail;refine(HA.out _).mono ?_;rintro e wq ⟨rfl,rfl⟩;go_wp2_with fail;refine(HB.out _).mono ?_;rintro e wq ⟨rfl,rfl⟩;go_wp2_with fail
    all_goals go_wp2
    all_goals refine jU (v:=.tuple #[.agg #[Bv false,S0,S0],I6 10]) (by simp[results,Tryz.results132,go_sem,yC,zC]) rfl ⟨congrArg jV HV.out.symm,?_⟩
    all_goals exact(sc3 j7 lC)
   | true =>
    have HV:=HVV;obtain⟨x,hx1,hx2,hx3⟩:=HGD.out rfl (fun _=>rfl);clear HVV HVB;rw[hx1] at HP;have HX2:=zh hx2;have HX3:=zh hx3;clear hx1 hx2 hx3 HBAD HGD;generalize Nt.E x=tx at *;generalize Nt.E T=tT at *;generalize zb (x:Int)=bx at *;generalize zb (T:Int)=bT at *;generalize zt (x:Int)=sx at *;generalize zt (T:Int)=sT at *;obtain⟨AB,hAB⟩:∃ AB,a++b=AB:=⟨_,rfl⟩;rw[hAB] at HP habs;go_enter Tryz.func132,Tryz.ntmps132;go_wp2_with fail;obtain⟨s3,C,j6,qq,j8,zC⟩:=qy w (.cells #[Bv false,S0,S0] 52);have yC:=qZ (b:=C) j6 qq;have fC:=Qq (b:=C) j6 qq;have lC:w.heap.size<=C:=by omega
    have j7:=qQ bR j6;rw[<-j6];try rw[<-qq]
    clear j6 j8 qq;refine(HF.out _).mono ?_;rintro e wq ⟨rfl,rfl⟩;go_wp2_with fail;refine(HA.out _).mono ?_;rintro e wq ⟨rfl,rfl⟩;go_wp2_with fail;refine(HB.out _).mono ?_;rintro e wq ⟨rfl,rfl⟩;go_wp2_with fail;refine jy (HP.out _) fun s4 hb=>?_
    replace yC:=jv hb yC zC;replace fC:=qv hb fC zC;replace zC:=jw hb zC
    replace j7:=j7.trans (hb.mono j7.size);clear hb;go_wp2_with fail;refine jy (HX2.out _) fun s5 hb=>?_
    replace yC:=jv hb yC zC;replace fC:=qv hb fC zC;replace zC:=jw hb zC
    replace j7:=j7.trans (hb.mono j7.size);clear hb;go_wp2_with fail;refine jy (HPW.out _) fun s6 hb=>?_
    replace yC:=jv hb yC zC;replace fC:=qv hb fC zC;replace zC:=jw hb zC
    replace j7:=j7.trans (hb.mono j7.size);clear hb;go_wp2_with fail;refine jy (HW2.out _) fun s7 hb=>?_
    replace yC:=jv hb yC zC;replace fC:=qv hb fC zC;replace zC:=jw hb zC
    replace j7:=j7.trans (hb.mono j7.size);clear hb;go_wp2_with fail;refine jy (HX3.out _) fun s8 hb=>?_
    replace yC:=jv hb yC zC;replace fC:=qv hb fC zC
    replace j7:=j7.trans (hb.mono j7.size);clear hb
    all_goals go_wp2
    all_goals refine jU (v:=.tuple #[.agg #[Bv false,Sg r1,Sg r2],I6 r3]) (by simp[results,Tryz.results132,go_sem,yC,zC]) rfl ⟨congrArg jV HV.out.symm,?_⟩
    all_goals exact(sc3 j7 lC)
 ·
  rw[if_neg hks] at hb;rw[if_neg hks] at hf;have HF:=zh hf
  have ha3:s.extract 0 k=s:=by
   obtain rfl:k=s.size:=by omega
   apply ByteArray.ext;rw[ByteArray.data_extract];simp
  obtain rfl:s=a:=ha3.symm.trans ha2;subst hb;clear hf hT ha3 ha2
  cases ga with
  | false =>
   have HV:=zh (HVB.out (HBAD.out (Or.inl rfl)));clear HVV HVB;clear HGD HBAD HP HPW HW2;go_enter Tryz.func132,Tryz.ntmps132;go_wp2_with fail;obtain⟨s9,C,j6,qq,j8,zC⟩:=qy w (.cells #[Bv false,S0,S0] 52);have yC:=qZ (b:=C) j6 qq;have fC:=Qq (b:=C) j6 qq;have lC:w.heap.size<=C:=by omega
   have j7:=qQ bR j6;rw[<-j6];try rw[<-qq]
   clear j6 j8 qq;refine(HF.out _).mono ?_;rintro e wq ⟨rfl,rfl⟩;go_wp2_with fail;refine(HA.out _).mono ?_;rintro e wq ⟨rfl,rfl⟩;go_wp2_with fail
   all_goals go_wp2
   all_goals refine jU (v:=.tuple #[.agg #[Bv false,S0,S0],I6 10]) (by simp[results,Tryz.results132,go_sem,yC,zC]) rfl ⟨congrArg jV HV.out.symm,?_⟩
   all_goals exact(sc3 j7 lC)
  | true =>
   have HV:=HVV;obtain⟨x,hx1,hx2,hx3⟩:=HGD.out rfl (fun h=>absurd h hks);clear HVV HVB;rw[hx1] at HP;have HX2:=zh hx2;have HX3:=zh hx3;clear hx1 hx2 hx3 HBAD HGD;generalize Nt.E x=tx at *;generalize Nt.E T=tT at *;generalize zb (x:Int)=bx at *;generalize zb (T:Int)=bT at *;generalize zt (x:Int)=sx at *;generalize zt (T:Int)=sT at *;obtain⟨AB,hAB⟩:∃ AB:jW,s++⟨#[]⟩=AB:=⟨_,rfl⟩;rw[hAB] at HP habs;go_enter Tryz.func132,Tryz.ntmps132;go_wp2_with fail;obtain⟨s10,C,j6,qq,j8,zC⟩:=qy w (.cells #[Bv false,S0,S0] 52);have yC:=qZ (b:=C) j6 qq;have fC:=Qq (b:=C) j6 qq;have lC:w.heap.size<=C:=by omega
   have j7:=qQ bR j6;rw[<-j6];try rw[<-qq]
   clear j6 j8 qq;refine(HF.out _).mono ?_;rintro e wq ⟨rfl,rfl⟩;go_wp2_with fail;refine(HA.out _).mono ?_;rintro e wq ⟨rfl,rfl⟩;go_wp2_with fail;refine jy (HP.out _) fun s11 hb=>?_
   replace yC:=jv hb yC zC;replace fC:=qv hb fC zC;replace zC:=jw hb zC
   replace j7:=j7.trans (hb.mono j7.size);clear hb;go_wp2_with fail;refine jy (HX2.out _) fun s12 hb=>?_
   replace yC:=jv hb yC zC;replace fC:=qv hb fC zC;replace zC:=jw hb zC
   replace j7:=j7.trans (hb.mono j7.size);clear hb;go_wp2_with fail;refine jy (HPW.out _) fun s13 hb=>?_
   replace yC:=jv hb yC zC;replace fC:=qv hb fC zC;replace zC:=jw hb zC
   replace j7:=j7.trans (hb.mono j7.size);clear hb;go_wp2_with fail;refine jy (HW2.out _) fun s14 hb=>?_
   replace yC:=jv hb yC zC;replace fC:=qv hb fC zC;replace zC:=jw hb zC
   replace j7:=j7.trans (hb.mono j7.size);clear hb;go_wp2_with fail;refine jy (HX3.out _) fun s15 hb=>?_
   replace yC:=jv hb yC zC;replace fC:=qv hb fC zC
   replace j7:=j7.trans (hb.mono j7.size);clear hb
   all_goals go_wp2
   all_goals refine jU (v:=.tuple #[.agg #[Bv false,Sg r1,Sg r2],I6 r3]) (by simp[results,Tryz.results132,go_sem,yC,zC]) rfl ⟨congrArg jV HV.out.symm,?_⟩
   all_goals exact(sc3 j7 lC)
