import Derived.Test.YtibiacmbljgmhaaGreatDoorLex4
set_option maxHeartbeats 8000000
set_option maxRecDepth 100000
namespace Go.Proofs.YtibiacmbljgmhaaGreatDoor
open Go.RowKit Go.Shelf
set_option linter.all false
def nmE (l:List UInt8) (a:Nat):Nat:=if l.getD (Y6 l a) 0=46/\Y6 l a+1<l.length/\Nt.isDig (l.getD (Y6 l a+1) 0) then Y6 l (Y6 l a+1) else Y6 l a
def e3s (l:List UInt8) (a:Nat):Tok × Nat × Int :=
 let q:=d9p ((l.drop a).take (nmE l a-a))
 if q.2.2=0 then (⟨1,QK ((l.drop a).take (nmE l a-a)),a,q.1,q.2.1⟩,nmE l a,0) else (e6a,a,q.2.2)
theorem e2l (s:jW) (n:Nat) (h:n<s.size):s.data.toList.getD n 0=s[n]:=by
 rw[jJ,jH (by simpa using h),Option.getD_some,a4p s n h]
theorem d7r (s:jW) (a b:Nat):s.extract a b=QK ((s.data.toList.drop a).take (b-a)):=by
 apply ByteArray.ext;apply Array.toList_inj.1;rw[ByteArray.data_extract,Array.toList_extract,List.extract_eq_take_drop];rfl
theorem e1n (s:jW) (a:Nat) (w:World) (hs:s.size<=300) (ha:a<s.size) :
  Ca 98 #[Sg s,I6 (a:Int)] w (lxV (e3s s.data.toList a)):=by
 have hl:s.data.toList.length=s.size:=by simp
 obtain⟨V,hV⟩:=nM (lxV (e3s s.data.toList a));rw[<-hV];unfold e3s at hV;dsimp only at hV;have hD1:=fun w=>d9a s a w (by omega) (by omega)
 have d1:=(e4k (l:=s.data.toList) (a:=a) (by rw[hl];omega));rw[hl] at d1;have hE:nmE s.data.toList a=if s.data.toList.getD (Y6 s.data.toList a) 0=46/\Y6 s.data.toList a+1<s.size/\Nt.isDig (s.data.toList.getD (Y6 s.data.toList a+1) 0)=true then Y6 s.data.toList (Y6 s.data.toList a+1) else Y6 s.data.toList a:=by unfold nmE;rw[hl]
 have hE1:a<=nmE s.data.toList a/\nmE s.data.toList a<=s.size:=by
  rw[hE]
  split
  ·
   rename_i h
   have:=(e4k (l:=s.data.toList) (a:=Y6 s.data.toList a+1) (by rw[hl];omega));rw[hl] at this;omega
  ·
   exact d1
 obtain⟨t2,ht2⟩:=nM (nmE s.data.toList a);rw[<-ht2] at hE hE1 hV;have hx:=d7r s a t2;have hDC:=fun w=>e0l (s.extract a t2) w (by rw[ByteArray.size_extract];omega)
 rw[<-hx] at hV;rw[show (s.extract a t2).data.toList=(s.data.toList.drop a).take (t2-a) by rw[hx];rfl] at hDC;obtain⟨⟨r1,r2,r3⟩,hq⟩:∃ q,q=d9p ((s.data.toList.drop a).take (t2-a)):=⟨_,rfl⟩;rw[<-hq] at hV hDC
 have hD2:Nt.isDig (s.data.toList.getD (Y6 s.data.toList a+1) 0)=true->Y6 s.data.toList a+1<s.size->∀ w,Cz 131 #[Sg s,I6 ((Y6 s.data.toList a:Nat)+1:Int)] w fun e w'=>e=.returned (I6 (Y6 s.data.toList (Y6 s.data.toList a+1):Nat))/\w'=w:=fun _ h w=>by
  have:=d9a s (Y6 s.data.toList a+1) w (by omega) (by omega);rw[show ((Y6 s.data.toList a+1:Nat):Int)=((Y6 s.data.toList a:Nat):Int)+1 by omega] at this;exact this
 have hg1:∀ n (h:n<s.size),s.data.toList.getD n 0=s[n]:=fun n h=>e2l s n h
 obtain⟨t1,ht1⟩:=nM (Y6 s.data.toList a);rw[<-ht1] at hE d1 hD1 hD2;have HV0:Hid (r3=0->V=.tuple #[.agg #[I6 1,Sg (s.extract a t2),I6 (a:Int),Bv false,Sg r1,Sg r2],I6 (t2:Int),I6 0]):=fun h=>by rw[hV];dsimp only;rw[if_pos h];rfl
 have HV1:Hid (r3≠0->V=.tuple #[.agg #[I6 0,S0,I6 0,Bv false,S0,S0],I6 (a:Int),I6 r3]):=fun h=>by rw[hV];dsimp only;rw[if_neg h];rfl
 have HDC:Hid (∀ w,Ca 132 #[Sg (s.extract a t2)] w (.tuple #[.agg #[Bv false,Sg r1,Sg r2],I6 r3])):=hDC;have HD1:=zh hD1;clear hV hx hDC hq ht2 ht1 hD1 hl;have q1:(a:Int)<=(t2:Int):=by omega
 have q2:(t2:Int)<=(s.size:Int):=by omega
 by_cases c1:t1+1<s.size
 ·
  have g1:=hg1 t1 (by omega);have g2:=hg1 (t1+1) c1;have HD:=zh (fun w=>a3u s[t1+1] w);rw[g1,g2] at hE;rw[g2] at hD2;by_cases c2:s[t1]=46
  ·
   have hi:((s[t1].toNat:Nat):Int)=46:=by rw[c2];rfl
   cases c3:Nt.isDig s[t1+1] with
   | true =>
    rw[if_pos ⟨c2,c1,c3⟩] at hE;have HD2:=zh (hD2 c3 c1);rw[<-hE] at HD2;rw[c3] at HD;clear hE hE1 hD2 c2 c3 g1 g2 hg1;go_enter Tryz.func98,Tryz.ntmps98;go_wp2_with fail;obtain⟨s1,C,j6,qq,j8,zC⟩:=qy w (.cells #[I6 0,S0,I6 0,Bv false,S0,S0] 54);have yC:=qZ (b:=C) j6 qq;have fC:=Qq (b:=C) j6 qq;have lC:w.heap.size<=C:=by omega
    have j7:=qQ bR j6;rw[<-j6];try rw[<-qq]
    clear j6 j8 qq;refine(HD1.out _).mono ?_;rintro e wq ⟨rfl,rfl⟩;go_wp2_with fail;refine(HD.out _).mono ?_;rintro e wq ⟨rfl,rfl⟩;go_wp2_with fail;refine(HD2.out _).mono ?_;rintro e wq ⟨rfl,rfl⟩;go_wp2_with fail;refine jy (HDC.out _) fun s2 hb=>?_
    replace yC:=jv hb yC zC;replace fC:=qv hb fC zC;replace zC:=jw hb zC
    replace j7:=bT j7 hb;clear hb;by_cases h3:r3=0
    ·
     have HV:=zh (HV0.out h3);have h4:(r3 != 0)=false:=by simpa using h3
     clear HV0 HV1 h3
     go_upto_region 7 with fail
     obtain⟨s3,X,j6,qw,j8,zX⟩:=qy s2 (.cells #[Bv false,Sg r1,Sg r2] 52);have j9:=JW j6;have dCX:C≠X:=by omega
     replace yC:=jv j9 yC zC;replace fC:=qv j9 fC zC
     clear j9;have yX:=qZ (b:=X) j6 qw;replace j7:=qQ j7 j6;rw[<-j6];try rw[<-qw]
     clear j6 j8 qw
     go_region
     all_goals go_wp2
     all_goals refine jU (v:=.tuple #[.agg #[I6 1,Sg (s.extract a t2),I6 (a:Int),Bv false,Sg r1,Sg r2],I6 (t2:Int),I6 0]) (by simp[results,Tryz.results98,go_sem,yC,zC]) rfl ⟨congrArg jV HV.out.symm,?_⟩
     all_goals exact(Below.drew (Q8 (j7.setCell lC _) lC))
    ·
     have HV:=zh (HV1.out h3);have h4:(r3 != 0)=true:=by simpa using h3
     clear HV0 HV1 h3
     go_upto_region 6 with fail
     obtain⟨s4,X,j6,qw,j8,zX⟩:=qy s2 (.cells #[Bv false,Sg r1,Sg r2] 52);have j9:=JW j6;have dCX:C≠X:=by omega
     replace yC:=jv j9 yC zC;replace fC:=qv j9 fC zC
     clear j9;replace j7:=qQ j7 j6;rw[<-j6];try rw[<-qw]
     clear j6 j8 qw
     all_goals go_wp2
     all_goals refine jU (v:=.tuple #[.agg #[I6 0,S0,I6 0,Bv false,S0,S0],I6 (a:Int),I6 r3]) (by simp[results,Tryz.results98,go_sem,yC,zC]) rfl ⟨congrArg jV HV.out.symm,?_⟩
     all_goals exact(Q8 (j7.setCell lC _) lC)
   | false =>
    rw[if_neg (fun h=>by rw[c3] at h;exact Bool.noConfusion h.2.2)] at hE;rw[c3] at HD;subst hE;clear hE1 hD2 c2 c3 g1 g2 hg1;go_enter Tryz.func98,Tryz.ntmps98;go_wp2_with fail;obtain⟨s5,C,j6,qq,j8,zC⟩:=qy w (.cells #[I6 0,S0,I6 0,Bv false,S0,S0] 54);have yC:=qZ (b:=C) j6 qq;have fC:=Qq (b:=C) j6 qq;have lC:w.heap.size<=C:=by omega
    have j7:=qQ bR j6;rw[<-j6];try rw[<-qq]
    clear j6 j8 qq;refine(HD1.out _).mono ?_;rintro e wq ⟨rfl,rfl⟩;go_wp2_with fail;refine(HD.out _).mono ?_;rintro e wq ⟨rfl,rfl⟩;go_wp2_with fail;refine jy (HDC.out _) fun s6 hb=>?_
    replace yC:=jv hb yC zC;replace fC:=qv hb fC zC;replace zC:=jw hb zC
    replace j7:=bT j7 hb;clear hb;by_cases h3:r3=0
    ·
     have HV:=zh (HV0.out h3);have h4:(r3 != 0)=false:=by simpa using h3
     clear HV0 HV1 h3
     go_upto_region 7 with fail
     obtain⟨s7,X,j6,qw,j8,zX⟩:=qy s6 (.cells #[Bv false,Sg r1,Sg r2] 52);have j9:=JW j6;have dCX:C≠X:=by omega
     replace yC:=jv j9 yC zC;replace fC:=qv j9 fC zC
     clear j9;have yX:=qZ (b:=X) j6 qw;replace j7:=qQ j7 j6;rw[<-j6];try rw[<-qw]
     clear j6 j8 qw
     go_region
     all_goals go_wp2
     all_goals refine jU (v:=.tuple #[.agg #[I6 1,Sg (s.extract a t2),I6 (a:Int),Bv false,Sg r1,Sg r2],I6 (t2:Int),I6 0]) (by simp[results,Tryz.results98,go_sem,yC,zC]) rfl ⟨congrArg jV HV.out.symm,?_⟩
     all_goals exact(Below.drew (Q8 (j7.setCell lC _) lC))
    ·
     have HV:=zh (HV1.out h3);have h4:(r3 != 0)=true:=by simpa using h3
     clear HV0 HV1 h3
     go_upto_region 6 with fail
     obtain⟨s8,X,j6,qw,j8,zX⟩:=qy s6 (.cells #[Bv false,Sg r1,Sg r2] 52);have j9:=JW j6;have dCX:C≠X:=by omega
     replace yC:=jv j9 yC zC;replace fC:=qv j9 fC zC
     clear j9;replace j7:=qQ j7 j6;rw[<-j6];try rw[<-qw]
     clear j6 j8 qw
     all_goals go_wp2
     all_goals refine jU (v:=.tuple #[.agg #[I6 0,S0,I6 0,Bv false,S0,S0],I6 (a:Int),I6 r3]) (by simp[results,Tryz.results98,go_sem,yC,zC]) rfl ⟨congrArg jV HV.out.symm,?_⟩
     all_goals exact(Q8 (j7.setCell lC _) lC)
  ·
   have hi : ¬ ((s[t1].toNat:Nat):Int)=46:=fun h=>c2 (by rw[<-UInt8.toNat_inj];exact Int.ofNat.inj h)
   rw[if_neg (fun h=>c2 h.1)] at hE;subst hE;clear hE1 hD2 c2 g1 g2 hg1 HD;go_enter Tryz.func98,Tryz.ntmps98;go_wp2_with fail;obtain⟨s9,C,j6,qq,j8,zC⟩:=qy w (.cells #[I6 0,S0,I6 0,Bv false,S0,S0] 54);have yC:=qZ (b:=C) j6 qq;have fC:=Qq (b:=C) j6 qq;have lC:w.heap.size<=C:=by omega
   have j7:=qQ bR j6;rw[<-j6];try rw[<-qq]
   clear j6 j8 qq;refine(HD1.out _).mono ?_;rintro e wq ⟨rfl,rfl⟩;go_wp2_with fail;refine jy (HDC.out _) fun s10 hb=>?_
   replace yC:=jv hb yC zC;replace fC:=qv hb fC zC;replace zC:=jw hb zC
   replace j7:=bT j7 hb;clear hb;by_cases h3:r3=0
   ·
    have HV:=zh (HV0.out h3);have h4:(r3 != 0)=false:=by simpa using h3
    clear HV0 HV1 h3
    go_upto_region 7 with fail
    obtain⟨s11,X,j6,qw,j8,zX⟩:=qy s10 (.cells #[Bv false,Sg r1,Sg r2] 52);have j9:=JW j6;have dCX:C≠X:=by omega
    replace yC:=jv j9 yC zC;replace fC:=qv j9 fC zC
    clear j9;have yX:=qZ (b:=X) j6 qw;replace j7:=qQ j7 j6;rw[<-j6];try rw[<-qw]
    clear j6 j8 qw
    go_region
    all_goals go_wp2
    all_goals refine jU (v:=.tuple #[.agg #[I6 1,Sg (s.extract a t2),I6 (a:Int),Bv false,Sg r1,Sg r2],I6 (t2:Int),I6 0]) (by simp[results,Tryz.results98,go_sem,yC,zC]) rfl ⟨congrArg jV HV.out.symm,?_⟩
    all_goals exact(Below.drew (Q8 (j7.setCell lC _) lC))
   ·
    have HV:=zh (HV1.out h3);have h4:(r3 != 0)=true:=by simpa using h3
    clear HV0 HV1 h3
    go_upto_region 6 with fail
    obtain⟨s12,X,j6,qw,j8,zX⟩:=qy s10 (.cells #[Bv false,Sg r1,Sg r2] 52);have j9:=JW j6;have dCX:C≠X:=by omega
    replace yC:=jv j9 yC zC;replace fC:=qv j9 fC zC
    clear j9;replace j7:=qQ j7 j6;rw[<-j6];try rw[<-qw]
    clear j6 j8 qw
    all_goals go_wp2
    all_goals refine jU (v:=.tuple #[.agg #[I6 0,S0,I6 0,Bv false,S0,S0],I6 (a:Int),I6 r3]) (by simp[results,Tryz.results98,go_sem,yC,zC]) rfl ⟨congrArg jV HV.out.symm,?_⟩
    all_goals exact(Q8 (j7.setCell lC _) lC)
 ·
  rw[if_neg (fun h=>c1 h.2.1)] at hE;subst hE;clear hE1 hD2 hg1;go_enter Tryz.func98,Tryz.ntmps98;go_wp2_with fail;obtain⟨s13,C,j6,qq,j8,zC⟩:=qy w (.cells #[I6 0,S0,I6 0,Bv false,S0,S0] 54);have yC:=qZ (b:=C) j6 qq;have fC:=Qq (b:=C) j6 qq;have lC:w.heap.size<=C:=by omega
  have j7:=qQ bR j6;rw[<-j6];try rw[<-qq]
  clear j6 j8 qq;refine(HD1.out _).mono ?_;rintro e wq ⟨rfl,rfl⟩;go_wp2_with fail;refine jy (HDC.out _) fun s14 hb=>?_
  replace yC:=jv hb yC zC;replace fC:=qv hb fC zC;replace zC:=jw hb zC
  replace j7:=bT j7 hb;clear hb;by_cases h3:r3=0
  ·
   have HV:=zh (HV0.out h3);have h4:(r3 != 0)=false:=by simpa using h3
   clear HV0 HV1 h3
   go_upto_region 7 with fail
   obtain⟨s15,X,j6,qw,j8,zX⟩:=qy s14 (.cells #[Bv false,Sg r1,Sg r2] 52);have j9:=JW j6;have dCX:C≠X:=by omega
   replace yC:=jv j9 yC zC;replace fC:=qv j9 fC zC
   clear j9;have yX:=qZ (b:=X) j6 qw;replace j7:=qQ j7 j6;rw[<-j6];try rw[<-qw]
   clear j6 j8 qw
   go_region
   all_goals go_wp2
   all_goals refine jU (v:=.tuple #[.agg #[I6 1,Sg (s.extract a t2),I6 (a:Int),Bv false,Sg r1,Sg r2],I6 (t2:Int),I6 0]) (by simp[results,Tryz.results98,go_sem,yC,zC]) rfl ⟨congrArg jV HV.out.symm,?_⟩
   all_goals exact(Below.drew (Q8 (j7.setCell lC _) lC))
  ·
   have HV:=zh (HV1.out h3);have h4:(r3 != 0)=true:=by simpa using h3
   clear HV0 HV1 h3
   go_upto_region 6 with fail
   obtain⟨s16,X,j6,qw,j8,zX⟩:=qy s14 (.cells #[Bv false,Sg r1,Sg r2] 52);have j9:=JW j6;have dCX:C≠X:=by omega
   replace yC:=jv j9 yC zC;replace fC:=qv j9 fC zC
   clear j9;replace j7:=qQ j7 j6;rw[<-j6];try rw[<-qw]
   clear j6 j8 qw
   all_goals go_wp2
   all_goals refine jU (v:=.tuple #[.agg #[I6 0,S0,I6 0,Bv false,S0,S0],I6 (a:Int),I6 r3]) (by simp[results,Tryz.results98,go_sem,yC,zC]) rfl ⟨congrArg jV HV.out.symm,?_⟩
   all_goals exact(Q8 (j7.setCell lC _) lC)
set_option maxHeartbeats 16000000
def twE (p:UInt8->Bool) (l:List UInt8) (a:Nat):Nat:=a+((l.drop a).takeWhile p).length
theorem e1o {p:UInt8->Bool} {l:List UInt8} {n:Nat} (h:n<l.length) (hd:p l[n]=true):twE p l (n+1)=twE p l n:=by
 unfold twE;rw[e3o h,List.takeWhile_cons,hd,if_pos rfl,List.length_cons];omega
theorem e4j {p:UInt8->Bool} {l:List UInt8} {n:Nat} (h:n<l.length) (hd:p l[n]=false):twE p l n=n:=by
 unfold twE;rw[e3o h,List.takeWhile_cons,hd];rfl
theorem e7b {p:UInt8->Bool} {l:List UInt8} {n:Nat} (h:l.length<=n):twE p l n=n:=by
 unfold twE;rw[List.drop_eq_nil_of_le h];rfl
theorem f0b {p:UInt8->Bool} {l:List UInt8} {a:Nat} (h:a<=l.length):a<=twE p l a/\twE p l a<=l.length:=by
 unfold twE;have:=d7h p (l.drop a);rw[List.length_drop] at this;omega
def f2c (p:UInt8->Bool) (s:jW) (R:Nat) (i:Value):Prop:=∃ n:Nat,i=I6 n/\n<=s.size/\twE p s.data.toList n=R
def f0c (b:UInt8):Bool:=b==32
def nxC (D:List UInt8->jW × jW × Int) (l:List UInt8) (a:Nat) (c:UInt8) (r:List UInt8):Tok × Nat × Int :=
 if Nt.isDig c then e3s l a
 else if c=34 then d9l a (txE r [] 1)
 else if c=35 then e0k a (c :: r)
 else if d7f c then (⟨3,QK ((c :: r).take ((c :: r).takeWhile d7f).length),a,⟨#[]⟩,⟨#[]⟩⟩,a+((c :: r).takeWhile d7f).length,0)
 else if (c :: r).take 2=[60,62]\/(c :: r).take 2=[60,61]\/(c :: r).take 2=[62,61] then (⟨4,QK ((c :: r).take 2),a,⟨#[]⟩,⟨#[]⟩⟩,a+2,0)
 else if d8m c=0 then (e6a,a,10)
 else (⟨d8m c,QK [c],a,⟨#[]⟩,⟨#[]⟩⟩,a+1,0)
theorem e7c {l:List UInt8} {a0 a:Nat} (ha:twE f0c l a0=a) (h:l.length<=a):d7l d9p l a0=({ e6a with p:=a },a,0):=by
 unfold d7l;have e:a0+((l.drop a0).takeWhile (· == 32)).length=a:=ha;dsimp only;rw[e,List.drop_eq_nil_of_le h]
theorem e5x {l:List UInt8} {a0 a:Nat} {c:UInt8} {r:List UInt8} (ha:twE f0c l a0=a) (h:l.drop a=c :: r):d7l d9p l a0=nxC d9p l a c r:=by
 unfold d7l;have e:a0+((l.drop a0).takeWhile (· == 32)).length=a:=ha;dsimp only;rw[e];unfold nxC d9l e0k e3s nmE;dsimp only;rw[h];rfl
theorem e3t (s:jW) (a0:Nat) (w:World) (hs:s.size<=300) (ha:a0<=s.size) :
  Ca 52 #[Sg s,I6 (a0:Int)] w (lxV (d7l d9p s.data.toList a0)):=by
 have hl:s.data.toList.length=s.size:=by simp
 obtain⟨V,hV⟩:=nM (lxV (d7l d9p s.data.toList a0));rw[<-hV];have HV:=zh hV;have J6:=zh hl;obtain⟨R,hR⟩:∃ R,twE f0c s.data.toList a0=R:=⟨_,rfl⟩;have HR:=zh hR;clear hl hV hR;go_enter Tryz.func52,Tryz.ntmps52;go_wp2_with fail;obtain⟨s1,C,j6,qq,j8,zC⟩:=qy w (.cells #[I6 0,S0,I6 0,Bv false,S0,S0] 54);have yC:=qZ (b:=C) j6 qq;have fC:=Qq (b:=C) j6 qq;have lC:w.heap.size<=C:=by omega
 have j7:=qQ bR j6;rw[<-j6];try rw[<-qq]
 clear j6 j8 qq
 go_loop [1] (f2c f0c s R) (fun i=>s.size-(intOf i).toNat)
 case atStart=>exact⟨a0,rfl,ha,HR.out⟩
 case round =>
  obtain⟨a,rfl,hn,hT⟩:=hrel;have HT:=zh hT;clear hT;by_cases hlt:a<s.size
  ·
   have hg:=a4p s a hlt;have h32:f0c s[a]=(((s[a].toNat:Nat):Int)==32):=e0u s[a] 32 (by omega);have hdr:s.data.toList.drop a=s[a] :: s.data.toList.drop (a+1):=by rw[e3o (by rw[J6.out];exact hlt),hg]
   have hst:f0c s[a]=true->twE f0c s.data.toList (a+1)=R:=fun h=>(e1o (by rw[J6.out];exact hlt) (by rw[hg];exact h)).trans HT.out
   have hsp:f0c s[a]=false->R=a:=fun h=>HT.out.symm.trans (e4j (by rw[J6.out];exact hlt) (by rw[hg];exact h))
   by_cases c32:((s[a].toNat:Nat):Int)=32
   ·
    have H2:=zh (hst (by rw[h32,c32];rfl));clear hst hsp hdr hg h32
    go_wp2
    exact⟨⟨a+1,by go_num,by omega,H2.out⟩,by simp[intOf];omega⟩
   ·
    have h2:=hsp (by rw[h32];simpa using c32);have h3:=HV.out;rw[e5x (HR.out.trans h2) hdr] at h3;have HTX:=zh (fun w=>e3p s a w hs hlt);have HFL:=zh (fun w=>e2k s a w hs hlt);have Xv:=zh (fun w=>e1n s a w hs hlt);have HDG:=zh (fun w=>a3u s[a] w);have HWD:=zh (fun w=>e0a s[a] w);have HSG:=zh (fun w=>e3n s[a] w);rw[hdr] at HFL;have e34:s[a]=34 ↔ ((s[a].toNat:Nat):Int)=34:=by rw[<-UInt8.toNat_inj];exact⟨fun h=>by rw[h];rfl,fun h=>Int.ofNat.inj h⟩
    have e35:s[a]=35 ↔ ((s[a].toNat:Nat):Int)=35:=by rw[<-UInt8.toNat_inj];exact⟨fun h=>by rw[h];rfl,fun h=>Int.ofNat.inj h⟩
    unfold nxC at h3;clear hst hsp h32 HT HV hg;have HX:Hid (nxC d9p s.data.toList a s[a] (s.data.toList.drop (a+1))=nxC d9p s.data.toList a s[a] (s.data.toList.drop (a+1))):=rfl
    have HWE:Hid (Nt.isDig s[a]=false->¬ ((s[a].toNat:Nat):Int)=34->¬ ((s[a].toNat:Nat):Int)=35->d7f s[a]=true ->
      V=.tuple #[.agg #[I6 3,Sg (s.extract a (twE d7f s.data.toList a)),I6 (a:Int),Bv false,S0,S0],I6 (twE d7f s.data.toList a:Nat),I6 0]):=fun b1 b2 b3 b4=>by
     rw[h3,if_neg (by rw[b1];exact Bool.false_ne_true),if_neg (fun h=>b2 (e34.1 h)),if_neg (fun h=>b3 (e35.1 h)),if_pos b4,d7r];unfold twE;rw[Nat.add_sub_cancel_left,hdr];rfl
    have HS:Hid (Nt.isDig s[a]=false->¬ ((s[a].toNat:Nat):Int)=34->¬ ((s[a].toNat:Nat):Int)=35->d7f s[a]=false ->
      (((a+2<=s.size/\((s.extract a (a+2)).toList=[60,62]\/(s.extract a (a+2)).toList=[60,61]\/(s.extract a (a+2)).toList=[62,61]))->V=.tuple #[.agg #[I6 4,Sg (s.extract a (a+2)),I6 (a:Int),Bv false,S0,S0],I6 ((a:Int)+2),I6 0]) /\
       (¬ (a+2<=s.size/\((s.extract a (a+2)).toList=[60,62]\/(s.extract a (a+2)).toList=[60,61]\/(s.extract a (a+2)).toList=[62,61]))->d8m s[a]=0->V=.tuple #[.agg #[I6 0,S0,I6 0,Bv false,S0,S0],I6 (a:Int),I6 10]) /\
       (¬ (a+2<=s.size/\((s.extract a (a+2)).toList=[60,62]\/(s.extract a (a+2)).toList=[60,61]\/(s.extract a (a+2)).toList=[62,61]))->d8m s[a]≠0->V=.tuple #[.agg #[I6 (d8m s[a]),Sg (s.extract a (a+1)),I6 (a:Int),Bv false,S0,S0],I6 ((a:Int)+1),I6 0]))):=fun b1 b2 b3 b4=>by
     rw[if_neg (by rw[b1];exact Bool.false_ne_true),if_neg (fun h=>b2 (e34.1 h)),if_neg (fun h=>b3 (e35.1 h)),if_neg (by rw[b4];exact Bool.false_ne_true)] at h3
     have e2:(s.extract a (a+2)).toList=(s[a] :: s.data.toList.drop (a+1)).take 2:=by
      rw[d7r,jI,show a+2-a=2 by omega,hdr];rfl
     have e1:s.extract a (a+1)=QK [s[a]]:=by
      rw[d7r,show a+1-a=1 by omega,hdr];rfl
     have h2l:∀ x y:UInt8,(s[a] :: s.data.toList.drop (a+1)).take 2=[x,y]->a+2<=s.size:=fun x y h=>by
      have:=congrArg List.length h;rw[<-hdr,List.length_take,List.length_drop,J6.out] at this;simp at this;omega
     have hiff:((s[a] :: s.data.toList.drop (a+1)).take 2=[60,62]\/(s[a] :: s.data.toList.drop (a+1)).take 2=[60,61]\/(s[a] :: s.data.toList.drop (a+1)).take 2=[62,61]) ↔ (a+2<=s.size/\((s.extract a (a+2)).toList=[60,62]\/(s.extract a (a+2)).toList=[60,61]\/(s.extract a (a+2)).toList=[62,61])):=by
      rw[e2];exact⟨fun h=>⟨by rcases h with h | h | h<;>exact h2l _ _ h,h⟩,fun h=>h.2⟩
     refine⟨fun h=>?_,fun h h0=>?_,fun h h0=>?_⟩
     ·
      rw[h3,if_pos (hiff.2 h)];have e3:s.extract a (a+2)=QK ((s[a] :: s.data.toList.drop (a+1)).take 2):=by rw[d7r,show a+2-a=2 by omega,hdr]
      rw[e3];show Value.tuple #[_,I6 ((a+2:Nat):Int),_]=_;rw[show ((a+2:Nat):Int)=(a:Int)+2 by omega]
     ·
      rw[h3,if_neg (fun h2=>h (hiff.1 h2)),if_pos h0];rfl
     ·
      rw[h3,if_neg (fun h2=>h (hiff.1 h2)),if_neg h0,e1];show Value.tuple #[_,I6 ((a+1:Nat):Int),_]=_;rw[show ((a+1:Nat):Int)=(a:Int)+1 by omega]
    have HD1:Hid (Nt.isDig s[a]=true->V=lxV (e3s s.data.toList a)):=fun b=>by rw[h3,if_pos b]
    have HD2:Hid (Nt.isDig s[a]=false->((s[a].toNat:Nat):Int)=34->V=lxV (d9l a (txE (s.data.toList.drop (a+1)) [] 1))):=fun b b2=>by rw[h3,if_neg (by rw[b];exact Bool.false_ne_true),if_pos (e34.2 b2)]
    have HD3:Hid (Nt.isDig s[a]=false->¬ ((s[a].toNat:Nat):Int)=34->((s[a].toNat:Nat):Int)=35->V=lxV (e0k a (s[a] :: s.data.toList.drop (a+1)))):=fun b b2 b3=>by rw[h3,if_neg (by rw[b];exact Bool.false_ne_true),if_neg (fun h=>b2 (e34.1 h)),if_pos (e35.2 b3)]
    have hw1:d7f s[a]=true->a+1<=twE d7f s.data.toList a:=fun h=>by
     rw[<-e1o (by rw[J6.out];exact hlt) (by rw[a4p s a hlt];exact h)];exact(f0b (by rw[J6.out];omega)).1
    have hw2:=(f0b (p:=d7f) (l:=s.data.toList) (a:=a) (by rw[J6.out];omega)).2;rw[J6.out] at hw2;clear h3 hdr e34 e35 h2 HX HR;generalize e3s s.data.toList a=q1 at *;generalize d9l a (txE (s.data.toList.drop (a+1)) [] 1)=q2 at *;generalize e0k a (s[a] :: s.data.toList.drop (a+1))=q3 at *;obtain⟨⟨k1,x1,p1,y1,z1⟩,t1,e1⟩:=q1;obtain⟨⟨k2,x2,p2,y2,z2⟩,t2,e2⟩:=q2;obtain⟨⟨k3,x3,p3,y3,z3⟩,t3,e3⟩:=q3;unfold lxV e7q at HD1 HD2 HD3 Xv HTX HFL;dsimp only at HD1 HD2 HD3 Xv HTX HFL;generalize Nt.isDig s[a]=bd at *;generalize d7f s[a]=bw at *;generalize hsk:d8m s[a]=sk at *;have hsk0:0<=sk/\sk<=9:=by rw[<-hsk];unfold d8m;(repeat' split)<;>omega
    clear hsk;obtain⟨te,hte⟩:=nM (twE d7f s.data.toList a);rw[<-hte] at hw1 hw2 HWE;have HTE:=zh hte;clear hte;go_wp2_with fail;refine(HDG.out _).mono ?_;rintro e wq ⟨rfl,rfl⟩;clear HDG
    cases bd with
    | true =>
     have HY:=zh (HD1.out rfl);clear HD1 HD2 HD3 HWE HS HTX HFL HSG HWD HTE hw1 hw2;go_wp2_with fail;refine jy (Xv.out _) fun s2 hb=>?_
     replace yC:=jv hb yC zC;replace fC:=qv hb fC zC
     replace j7:=bT j7 hb;clear hb
     all_goals go_wp2
     all_goals refine jU (v:=.tuple #[.agg #[I6 k1,Sg x1,I6 (p1:Int),Bv false,Sg y1,Sg z1],I6 (t1:Int),I6 e1]) (by simp[results,Tryz.results52,go_sem,yC]) rfl ⟨congrArg jV HY.out.symm,?_⟩
     all_goals exact(Q8 (j7.setCell lC _) lC)
    | false =>
     by_cases c34:((s[a].toNat:Nat):Int)=34
     ·
      have HY:=zh (HD2.out rfl c34);clear HD1 HD2 HD3 HWE HS Xv HFL HSG HWD HTE hw1 hw2;go_wp2_with fail;refine jy (HTX.out _) fun s3 hb=>?_
      replace yC:=jv hb yC zC;replace fC:=qv hb fC zC
      replace j7:=bT j7 hb;clear hb
      all_goals go_wp2
      all_goals refine jU (v:=.tuple #[.agg #[I6 k2,Sg x2,I6 (p2:Int),Bv false,Sg y2,Sg z2],I6 (t2:Int),I6 e2]) (by simp[results,Tryz.results52,go_sem,yC]) rfl ⟨congrArg jV HY.out.symm,?_⟩
      all_goals exact(Q8 (j7.setCell lC _) lC)
     by_cases c35:((s[a].toNat:Nat):Int)=35
     ·
      have HY:=zh (HD3.out rfl c34 c35);clear HD1 HD2 HD3 HWE HS Xv HTX HSG HWD HTE hw1 hw2;go_wp2_with fail;refine jy (HFL.out _) fun s4 hb=>?_
      replace yC:=jv hb yC zC;replace fC:=qv hb fC zC
      replace j7:=bT j7 hb;clear hb
      all_goals go_wp2
      all_goals refine jU (v:=.tuple #[.agg #[I6 k3,Sg x3,I6 (p3:Int),Bv false,Sg y3,Sg z3],I6 (t3:Int),I6 e3]) (by simp[results,Tryz.results52,go_sem,yC]) rfl ⟨congrArg jV HY.out.symm,?_⟩
      all_goals exact(Q8 (j7.setCell lC _) lC)
     go_wp2_with fail;refine(HWD.out _).mono ?_;rintro e wq ⟨rfl,rfl⟩;clear HWD
     cases bw with
     | true =>
      have HY:=zh (HWE.out (by first | trivial | rfl) c34 c35 (by first | trivial | rfl));have hw:=hw1 rfl;clear HD1 HD2 HD3 HWE HS Xv HTX HFL HSG;clear hw1 hsk0 c34 c35;go_wp2_with fail
      go_loop [8] (fun i=>f2c d7f s te i/\∃ n:Nat,i=I6 n/\a<=n) (fun i=>s.size-(intOf i).toNat)
      case atStart=>exact⟨⟨a,rfl,hn,HTE.out.symm⟩,a,rfl,jC _⟩
      case round =>
       obtain⟨⟨n,rfl,hn2,hT⟩,m,hm,ham⟩:=hrel;obtain rfl:n=m:=by (have:(n:Int)=(m:Int):=by simpa using hm);omega
       have HT:=zh hT;clear hT hm;by_cases hlt2:n<s.size
       ·
        have hg:=zh (a4p s n hlt2);have HWN:=zh (fun w=>e0a s[n] w)
        cases hx:d7f s[n] with
        | true =>
         rw[hx] at HWN;have HX:=zh hx;clear hx;go_wp2_with (go_at_call 101;refine(HWN.out _).mono ?_;rintro e w1 ⟨rfl,rfl⟩);exact⟨⟨⟨n+1,by go_num,by omega,(e1o (by rw[J6.out];exact hlt2) (by rw[hg.out];exact HX.out)).trans HT.out⟩,n+1,by go_num,by omega⟩,by simp[intOf];omega⟩
        | false =>
         rw[hx] at HWN;obtain rfl:te=n:=HT.out.symm.trans (e4j (by rw[J6.out];exact hlt2) (by rw[hg.out];exact hx));clear hx hg HT HTE;go_wp2_with (go_at_call 101;refine(HWN.out _).mono ?_;rintro e w1 ⟨rfl,rfl⟩)
         all_goals go_wp2
         all_goals refine jU (v:=.tuple #[.agg #[I6 3,Sg (s.extract a te),I6 (a:Int),Bv false,S0,S0],I6 (te:Int),I6 0]) (by simp[results,Tryz.results52,go_sem,yC]) rfl ⟨congrArg jV HY.out.symm,?_⟩
         all_goals exact(Q8 (j7.setCell lC _) lC)
       ·
        obtain rfl:te=n:=HT.out.symm.trans (e7b (by rw[J6.out];omega));clear HT HTE
        all_goals go_wp2
        all_goals refine jU (v:=.tuple #[.agg #[I6 3,Sg (s.extract a te),I6 (a:Int),Bv false,S0,S0],I6 (te:Int),I6 0]) (by simp[results,Tryz.results52,go_sem,yC]) rfl ⟨congrArg jV HY.out.symm,?_⟩
        all_goals exact(Q8 (j7.setCell lC _) lC)
     | false =>
      obtain⟨g1,g2,g3⟩:=HS.out (by first | trivial | rfl) c34 c35 (by first | trivial | rfl);have G1:=zh g1;have G2:=zh g2;have G3:=zh g3;clear HD1 HD2 HD3 HWE HS Xv HTX HFL g1 g2 g3 HTE hw1 hw2;by_cases c2:a+2<=s.size
      ·
       cases b1:((s.extract a (a+2)).toList == [60,62]) with
       | true =>
        have HY:=zh (G1.out ⟨c2,Or.inl (by simpa using b1)⟩);clear G1 G2 G3 HSG
        all_goals go_wp2
        all_goals refine jU (v:=.tuple #[.agg #[I6 4,Sg (s.extract a (a+2)),I6 (a:Int),Bv false,S0,S0],I6 ((a:Int)+2),I6 0]) (by simp[results,Tryz.results52,go_sem,yC]) rfl ⟨congrArg jV HY.out.symm,?_⟩
        all_goals exact(Q8 (j7.setCell lC _) lC)
       | false =>
        cases b2:((s.extract a (a+2)).toList == [60,61]) with
        | true =>
         have HY:=zh (G1.out ⟨c2,Or.inr (Or.inl (by simpa using b2))⟩);clear G1 G2 G3 HSG
         all_goals go_wp2
         all_goals refine jU (v:=.tuple #[.agg #[I6 4,Sg (s.extract a (a+2)),I6 (a:Int),Bv false,S0,S0],I6 ((a:Int)+2),I6 0]) (by simp[results,Tryz.results52,go_sem,yC]) rfl ⟨congrArg jV HY.out.symm,?_⟩
         all_goals exact(Q8 (j7.setCell lC _) lC)
        | false =>
         cases b3:((s.extract a (a+2)).toList == [62,61]) with
         | true =>
          have HY:=zh (G1.out ⟨c2,Or.inr (Or.inr (by simpa using b3))⟩);clear G1 G2 G3 HSG
          all_goals go_wp2
          all_goals refine jU (v:=.tuple #[.agg #[I6 4,Sg (s.extract a (a+2)),I6 (a:Int),Bv false,S0,S0],I6 ((a:Int)+2),I6 0]) (by simp[results,Tryz.results52,go_sem,yC]) rfl ⟨congrArg jV HY.out.symm,?_⟩
          all_goals exact(Q8 (j7.setCell lC _) lC)
         | false =>
          have hno : ¬ (a+2<=s.size/\((s.extract a (a+2)).toList=[60,62]\/(s.extract a (a+2)).toList=[60,61]\/(s.extract a (a+2)).toList=[62,61])):=by
           rintro ⟨_,h | h | h⟩
           ·
            rw[h] at b1;exact absurd b1 (by decide)
           ·
            rw[h] at b2;exact absurd b2 (by decide)
           ·
            rw[h] at b3;exact absurd b3 (by decide)
          have HNO:=zh hno;clear hno;by_cases hk0:sk=0
          ·
           have HY:=zh (G2.out HNO.out hk0);subst hk0;clear G1 G2 G3;go_wp2_with fail;refine(HSG.out _).mono ?_;rintro e wq ⟨rfl,rfl⟩
           all_goals go_wp2
           all_goals refine jU (v:=.tuple #[.agg #[I6 0,S0,I6 0,Bv false,S0,S0],I6 (a:Int),I6 10]) (by simp[results,Tryz.results52,go_sem,yC]) rfl ⟨congrArg jV HY.out.symm,?_⟩
           all_goals exact(Q8 (j7.setCell lC _) lC)
          ·
           have HY:=zh (G3.out HNO.out hk0);have hk1:(sk==0)=false:=by simpa using hk0
           clear G1 G2 G3 hk0;go_wp2_with fail;refine(HSG.out _).mono ?_;rintro e wq ⟨rfl,rfl⟩
           all_goals go_wp2
           all_goals refine jU (v:=.tuple #[.agg #[I6 sk,Sg (s.extract a (a+1)),I6 (a:Int),Bv false,S0,S0],I6 ((a:Int)+1),I6 0]) (by simp[results,Tryz.results52,go_sem,yC]) rfl ⟨congrArg jV HY.out.symm,?_⟩
           all_goals exact(Q8 (j7.setCell lC _) lC)
      ·
       have HNO:Hid (¬ (a+2<=s.size/\((s.extract a (a+2)).toList=[60,62]\/(s.extract a (a+2)).toList=[60,61]\/(s.extract a (a+2)).toList=[62,61]))):=fun h=>c2 h.1
       by_cases hk0:sk=0
       ·
        have HY:=zh (G2.out HNO.out hk0);subst hk0;clear G1 G2 G3;go_wp2_with fail;refine(HSG.out _).mono ?_;rintro e wq ⟨rfl,rfl⟩
        all_goals go_wp2
        all_goals refine jU (v:=.tuple #[.agg #[I6 0,S0,I6 0,Bv false,S0,S0],I6 (a:Int),I6 10]) (by simp[results,Tryz.results52,go_sem,yC]) rfl ⟨congrArg jV HY.out.symm,?_⟩
        all_goals exact(Q8 (j7.setCell lC _) lC)
       ·
        have HY:=zh (G3.out HNO.out hk0);have hk1:(sk==0)=false:=by simpa using hk0
        clear G1 G2 G3 hk0;go_wp2_with fail;refine(HSG.out _).mono ?_;rintro e wq ⟨rfl,rfl⟩
        all_goals go_wp2
        all_goals refine jU (v:=.tuple #[.agg #[I6 sk,Sg (s.extract a (a+1)),I6 (a:Int),Bv false,S0,S0],I6 ((a:Int)+1),I6 0]) (by simp[results,Tryz.results52,go_sem,yC]) rfl ⟨congrArg jV HY.out.symm,?_⟩
        all_goals exact(Q8 (j7.setCell lC _) lC)
  ·
   obtain rfl:a=s.size:=by omega
   have h3:=HV.out;rw[e7c (HR.out.trans (HT.out.symm.trans (e7b (by rw[J6.out];exact jC _)))) (by rw[J6.out];exact jC _)] at h3;have HY:Hid (V=.tuple #[.agg #[I6 0,S0,I6 (s.size:Int),Bv false,S0,S0],I6 (s.size:Int),I6 0]):=h3;clear h3 HT HV
   all_goals go_wp2
   all_goals refine jU (v:=.tuple #[.agg #[I6 0,S0,I6 (s.size:Int),Bv false,S0,S0],I6 (s.size:Int),I6 0]) (by simp[results,Tryz.results52,go_sem,yC]) rfl ⟨congrArg jV HY.out.symm,?_⟩
   all_goals exact(Q8 (j7.setCell lC _) lC)
abbrev e0c (T:List Tok):List Value:=T.flatMap tokL
theorem e1p (t:Tok):(tokL t).length=6:=rfl
theorem e7d (T:List Tok):(e0c T).length=T.length*6:=by
 induction T with
 | nil=>rfl
 | cons n N ih=>rw[e0c,List.flatMap_cons,jM,e1p,<-e0c,ih,List.length_cons];omega
theorem e2m (N M:List Tok):e0c (N++M)=e0c N++e0c M:=List.flatMap_append ..
theorem e7e {N:List Tok} : ∀ {k:Nat} {n:Tok},N[k]?=some n->∀ {j:Nat} {u:Value},(tokL n)[j]?=some u->(e0c N)[k*6+j]?=some u:=by
 induction N with
 | nil=>intro k n h;simp at h
 | cons m N ih =>
  intro k n h j u hj;rw[e0c,List.flatMap_cons]
  cases k with
  | zero =>
   obtain rfl:m=n:=by simpa using h
   have hlt:j<(tokL m).length:=(List.getElem?_eq_some_iff.1 hj).1;rw[Nat.zero_mul,Nat.zero_add,List.getElem?_append_left hlt];exact hj
  | succ k =>
   have h2:N[k]?=some n:=by simpa using h
   rw[List.getElem?_append_right (by rw[e1p];omega),e1p,show (k+1)*6+j-6=k*6+j by omega];exact ih h2 hj
theorem f0s {W:World} {v:Value} {n base:Nat} {t:TypeId} {T:List Tok} (h:W.ownsRow base t 6 v n (e0c T)) (hT:1<=T.length):∃ g cap,v=.slice (some ⟨g,0,none⟩) T.length cap/\base<=g/\T.length<=cap/\cap<=maxLen/\ToksAt W g cap T:=by
 have hl:=h.1;rw[e7d] at hl;have hn:n=T.length:=by omega
 rcases h.2 with ⟨hv,h0⟩ | ⟨g,cap,cur,hv,hb,hgg,hc,hm,_⟩
 ·
  omega
 ·
  refine⟨g,cap,by rw[hv,hn],hb,by omega,hm,fun k m hk j u hj=>?_,(Array.getElem?_eq_some_iff.1 hgg).1⟩
  have hc:=h.cells (g:=g) (by rw[hv];rfl) (k*6+j) u (e7e hk hj);rw[Addr.add_lit] at hc;rw[show k*6+j=0+(k*6+j) by omega];exact hc
theorem e7f (w:World) (t:Tok) (ty:TypeId):∀ j u,(tokL t)[j]?=some u->(w.alloc (.cells (tokL t).toArray ty)).cell? ((⟨w.heap.size,0,none⟩:Addr).add j)=some u:=by
 intro j u hj;rw[Addr.add_lit,Nat.zero_add];exact Qz rfl rfl j u hj
theorem e7g (t:Tok):∀ u ∈ tokL t,u.oneCell'=true:=by
 intro u h;simp only[tokL,List.mem_cons,List.not_mem_nil,or_false] at h
 rcases h with h | h | h | h | h | h<;>(subst h;rfl)
def e7h (q:List Tok × Nat × Int) (w:World) (e:Ending) (w':World):Prop:=(∃ v,e=.returned (.tuple #[v,I6 (q.2.1:Nat),I6 q.2.2])/\(q.2.2=0->∃ n,w'.ownsRow w.heap.size 54 6 v n (e0c q.1)))/\Bl w w'
def f2d (t0:World) (D:List UInt8->jW × jW × Int) (l:List UInt8) (G:List Tok × Nat × Int) (o at' i:Value) (wr:World):Prop:=∃ (n a:Nat) (T:List Tok),i=I6 n/\at'=I6 a/\n<=l.length+2/\a<=l.length/\T.length=n/\wr.ownsRow t0.heap.size 54 6 o n (e0c T)/\e2o D l (l.length+2-n) a T=G/\Bl t0 wr
theorem Tryz.infoTok:(Tryz.prog.info? 54).map (fun i=>(i.zero,i.size,i.bytes))=some (some (.agg #[I6 0,S0,I6 0,Bv false,S0,S0]),6,72):=by kernel_rfl
theorem e7i {D:List UInt8->jW × jW × Int} {l:List UInt8} {a:Nat} {T:List Tok} : e2o D l 0 a T=(T,0,0):=rfl
theorem e9d {D:List UInt8->jW × jW × Int} {l:List UInt8} {m a:Nat} {T:List Tok} {t:Tok} {b:Nat} {e:Int} (h:d7l D l a=(t,b,e)) (he:e≠0):e2o D l (m+1) a T=([],b,e):=by
 rw[e2o,h];dsimp only;rw[if_pos he]
theorem e9e {D:List UInt8->jW × jW × Int} {l:List UInt8} {m a:Nat} {T:List Tok} {t:Tok} {b:Nat} (h:d7l D l a=(t,b,0)) (hk:t.k=0):e2o D l (m+1) a T=(T ++ [t],0,0):=by
 rw[e2o,h];dsimp only;rw[if_neg (by simp),if_pos hk]
theorem f0t {D:List UInt8->jW × jW × Int} {l:List UInt8} {m a:Nat} {T:List Tok} {t:Tok} {b:Nat} (h:d7l D l a=(t,b,0)) (hk:t.k≠0):e2o D l (m+1) a T=e2o D l m b (T ++ [t]):=by
 rw[e2o,h];dsimp only;rw[if_neg (by simp),if_neg hk]
theorem e5y (s:jW) (w:World) (hsm:s.size<=maxLen) :
  Cz 21 #[Sg s] w (e7h (e2p d9p s.data.toList) w):=by
 have hl:s.data.toList.length=s.size:=by simp
 obtain⟨Po,hPo⟩:=nM (e7h (e2p d9p s.data.toList) w);rw[<-hPo];unfold e2p at hPo;rw[hl] at hPo;unfold maxLen at hsm;by_cases h3:300<s.size
 ·
  rw[if_pos h3] at hPo;have J5:=zh hPo;clear hPo hl;go_enter Tryz.func21,Tryz.ntmps21
  go_wp2
  refine jU (v:=.tuple #[.slice none 0 0,I6 0,I6 9]) (by simp[results,Tryz.results21,go_sem]) rfl ?_;rw[J5.out];exact⟨⟨_,rfl,fun h=>absurd h (by decide)⟩,Below.refl _ _⟩
 rw[if_neg h3] at hPo;obtain⟨G,hG⟩:=nM (e2o d9p s.data.toList (s.size+2) 0 []);rw[<-hG] at hPo;have J5:=zh hPo;have HG:=zh hG;have J6:=zh hl;have hs:s.size<=300:=by omega
 obtain⟨i0,hi0,hz0,hz1,hz2⟩:=info_parts Tryz.infoTok;clear hPo hG hl h3 hsm;go_enter Tryz.func21,Tryz.ntmps21;go_wp2_with fail
 go_loopw [5,6,7] (f2d w d9p s.data.toList G) (fun _ _ i _=>s.size+2-(intOf i).toNat)
 case atStart=>exact⟨0,0,[],rfl,rfl,by omega,by omega,rfl,World.ownsRow_nil _ _ _ _,by rw[J6.out];exact HG.out.symm,Below.refl _ _⟩
 case round =>
  obtain⟨n,a,T,rfl,rfl,hn,ha,hTl,hO,hT,j7⟩:=hrel;rw[J6.out] at hn ha hT;obtain⟨bo,co,rfl⟩:=a0l hO;by_cases hlt:n<=s.size+1
  ·
   have HN:=zh (fun w=>e3t s a w hs ha);obtain⟨m,hm⟩:∃ m,s.size+2-n=m+1:=⟨s.size+1-n,by omega⟩;rw[hm] at hT;have hok:=fun he=>e7o e3r (l:=s.data.toList) (a0:=a) (by rw[J6.out];exact ha) (by rw[J6.out];exact hs) he
   generalize hq:d7l d9p s.data.toList a=q at *;obtain⟨⟨k,x,p,y,z⟩,t,er⟩:=q;unfold lxV e7q at HN;dsimp only at HN;have HO:=zh hO;have HWB:=zh j7;by_cases he:er=0
   ·
    subst he;have ht:=(hok rfl).tw;rw[J6.out] at ht;dsimp only at ht;have hmm:s.size+2-(n+1)=m:=by omega
    have hTLN:n<=302:=by omega
    have hk1:n+1<=maxLen:=by unfold maxLen;omega
    have hk3:(n+1)*72<=140737488355328:=by omega
    by_cases hk:k=0
    ·
     rw[e9e hq hk] at hT;have HT:=zh hT;have hkb:(k==0)=true:=by simpa using hk
     clear hT hq hok hm hO hk;go_wp2_with fail;refine(HN.out _).mono ?_;rintro e3 w1 ⟨rfl,hb⟩;have HOO:=zh (a1g HO.out hb);have HWR:=zh hb;replace j7:=X4 j7 hb;clear hb
     go_upto_region 9 with fail
     obtain⟨s1,X,j6,qw,j8,zX⟩:=qy w1 (.cells #[I6 k,Sg x,I6 (p:Int),Bv false,Sg y,Sg z] 54);have j9:=JW j6;have hAX:w1.heap.size<=X:=by omega
     have yX:=qZ (b:=X) j6 qw;have Qx:s1.cell? ⟨X,0,none⟩=some (I6 k):=yX 0;replace j7:=qQ j7 j6;rw[<-j6];try rw[<-qw]
     clear j6 j8 qw;have HO2:=zh (a1g HOO.out j9)
     have HXG:Hid (∀ g,(Value.slice bo n co).ownBlock=some g->X≠g):=fun g hg e=>by
      have:=(HOO.out.lt g hg).2;omega
     have HUP:=zh j9;have hbs:=j7.size;clear j9;go_wp2_with (at_builtin;refine wpList_append_own _ rfl _ _ 44 rfl w.heap.size 54 i0 (.agg #[I6 0,S0,I6 0,.bool false,S0,S0]) 6 72 Tryz.underlying44 hi0 hz0 hz1 hz2 rfl (by decide) _ _ _ rfl (HO2.out.alloc _) ⟨s1.heap.size,0,none⟩ 1 1 (tokL ⟨k,x,p,y,z⟩) rfl rfl (e7f _ _ _) (e7g _) hk1 hk3 (by simp;omega) ?_;intro v1 w2 hown1 hgrow1 _;have kx0:=Jw hgrow1 (alK Qx) HXG.out);refine jU (v:=.tuple #[v1,I6 0,I6 0]) (by simp[results,Tryz.results21,go_sem]) rfl ?_;rw[J5.out,<-HT.out];refine⟨⟨_,rfl,fun _=>⟨n+1,?_⟩⟩,(X7 j7).grown hgrow1 (by simp;omega) (fun q hq=>(HOO.out.lt q hq).1)⟩
     rw[e2m];exact hown1
    ·
     rw[f0t hq hk] at hT;have HT:=zh hT;have hkb:(k==0)=false:=by simpa using hk
     clear hT hq hok hm hO hk;go_wp2_with fail;refine(HN.out _).mono ?_;rintro e3 w1 ⟨rfl,hb⟩;have HOO:=zh (a1g HO.out hb);have HWR:=zh hb;replace j7:=X4 j7 hb;clear hb
     go_upto_region 9 with fail
     obtain⟨s2,X,j6,qw,j8,zX⟩:=qy w1 (.cells #[I6 k,Sg x,I6 (p:Int),Bv false,Sg y,Sg z] 54);have j9:=JW j6;have hAX:w1.heap.size<=X:=by omega
     have yX:=qZ (b:=X) j6 qw;have Qx:s2.cell? ⟨X,0,none⟩=some (I6 k):=yX 0;replace j7:=qQ j7 j6;rw[<-j6];try rw[<-qw]
     clear j6 j8 qw;have HO2:=zh (a1g HOO.out j9)
     have HXG:Hid (∀ g,(Value.slice bo n co).ownBlock=some g->X≠g):=fun g hg e=>by
      have:=(HOO.out.lt g hg).2;omega
     have HUP:=zh j9;have hbs:=j7.size;clear j9;go_wp2_with (at_builtin;refine wpList_append_own _ rfl _ _ 44 rfl w.heap.size 54 i0 (.agg #[I6 0,S0,I6 0,.bool false,S0,S0]) 6 72 Tryz.underlying44 hi0 hz0 hz1 hz2 rfl (by decide) _ _ _ rfl (HO2.out.alloc _) ⟨s2.heap.size,0,none⟩ 1 1 (tokL ⟨k,x,p,y,z⟩) rfl rfl (e7f _ _ _) (e7g _) hk1 hk3 (by simp;omega) ?_;intro v1 w2 hown1 hgrow1 _;have kx0:=Jw hgrow1 (alK Qx) HXG.out)
     go_roundw
     case rel=>exact⟨n+1,t,T ++ [⟨k,x,p,y,z⟩],by go_num,rfl,by rw[J6.out];omega,by rw[J6.out];omega,by rw[jM,hTl];rfl,by rw[e2m];exact hown1,by rw[J6.out,hmm];exact HT.out,(X7 j7).grown hgrow1 (by simp;omega) (fun q hq=>(HOO.out.lt q hq).1)⟩
     case measure=>simp[intOf];omega
   ·
    rw[e9d hq he] at hT;have HT:=zh hT;have heb:(er != 0)=true:=by simpa using he
    have HE:=zh he;clear hT hq hok hm hO he;go_wp2_with fail;refine(HN.out _).mono ?_;rintro e3 w1 ⟨rfl,hb⟩;have HOO:=zh (a1g HO.out hb);have HWR:=zh hb;replace j7:=X4 j7 hb;clear hb;go_wp2_with fail;refine jU (v:=.tuple #[.slice none 0 0,I6 (t:Int),I6 er]) (by simp[results,Tryz.results21,go_sem]) rfl ?_;rw[J5.out,<-HT.out];exact⟨⟨_,rfl,fun h=>absurd h HE.out⟩,X7 j7⟩
  ·
   obtain rfl:n=s.size+2:=by omega
   rw[Nat.sub_self,e7i] at hT;have HT:=zh hT;clear hT;go_wp2_with fail;refine jU (v:=.tuple #[.slice bo (s.size+2) co,I6 0,I6 0]) (by simp[results,Tryz.results21,go_sem]) rfl ?_;rw[J5.out,<-HT.out];exact⟨⟨_,rfl,fun _=>⟨_,hO⟩⟩,j7⟩
