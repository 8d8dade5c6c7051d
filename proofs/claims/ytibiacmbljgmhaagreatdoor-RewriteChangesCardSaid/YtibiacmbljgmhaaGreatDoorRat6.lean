import Derived.Test.YtibiacmbljgmhaaGreatDoorRat5
set_option maxHeartbeats 8000000
set_option maxRecDepth 100000
namespace Go.Proofs.YtibiacmbljgmhaaGreatDoor
open Go.RowKit Go.Shelf
set_option linter.all false
theorem a1i {B:Nat} {a w:World} (h:Below B a w) (n:Nat):Below B a (w.drewN n):=⟨h.os,h.tape,h.output,h.size,h.block⟩
theorem b6h (s:jW) (w:World):Cz 119 #[Sg s] w fun e w'=>e=.returned (Sg (Nt.E (Nt.V s)))/\w'=w :=
 (a0t s w).mono fun _ _ ⟨he,hw⟩=>⟨he,hw.symm⟩
theorem b3e {n:Nat} (h:(Nt.E n).size<=32):Nt.blen n<=256:=by
 by_cases h0:0<(Nt.E n).size
 ·
  have ht:=Nt.blen_top n h0
  have:Nt.blen ((Nt.E n)[0]'h0).toNat<=8:=by
   have hl:((Nt.E n)[0]'h0).toNat<256:=UInt8.toNat_lt _;generalize ((Nt.E n)[0]'h0).toNat=v at *;unfold Nt.blen
   split
   ·
    omega
   ·
    rename_i hv
    have:=(Nat.log2_lt hv (k:=8)).2 hl;omega
  omega
 ·
  have:=Nt.E_nil n h0;subst this;decide
theorem a4o {neg:Bool} {a d:jW} (h : ¬ (Nt.E (Nt.V a)=a/\Nt.E (Nt.V d)=d/\b8i ⟨neg,Nt.V a,Nt.V d⟩)):a0y neg a d=false:=by
 cases hh:a0y neg a d with
 | false=>rfl
 | true=>exact absurd ((a1p _ _ _).1 hh) h
theorem a5y {d:jW} (h:d≠⟨#[]⟩) : ¬ d.toList=[]/\d.toList.isEmpty=false:=by
 have h1:=a2j h;rw[show (⟨#[]⟩:jW).toList=[] from by rw[jI]] at h1;have h2 : ¬ d.toList=[]:=by simpa using h1
 exact⟨h2,by simpa using h2⟩
theorem a7e (neg:Bool) (a d:jW) (w:World) (ha:a.size<=140737488351232) (hd:d.size<=140737488351232) :
  Ca 67 #[.agg #[Bv neg,Sg a,Sg d]] w (Bv (a0y neg a d)):=by
 have h1:=fun w=>b6h a w
 have h2:=fun w=>b6h d w
 by_cases sa:a.size<=32
 case neg =>
  rw[a4o (fun h=>sa (by rw[<-h.1];exact a4a h.2.2.2.2.1))];have t1:decide ((32:Int)<(a.size:Int))=true:=jD (by omega);clear h1 h2;go_enter Tryz.func67,Tryz.ntmps67;go_wp2_with fail;obtain⟨s1,A,j6,jz,j8,zA⟩:=qy w (.cells #[Bv neg,Sg a,Sg d] 52);have yA:=qZ (b:=A) j6 jz;have j7:=qQ bR j6;rw[<-j6];try rw[<-jz]
  clear j6 j8 jz
  go_quiet (fail)
  all_goals go_wp2
  all_goals first | go_ret | go_ret2
  all_goals exact⟨rfl,a1i j7 _⟩
 have t1:decide ((32:Int)<(a.size:Int))=false:=jE (by omega);by_cases sd:d.size<=32
 case neg =>
  rw[a4o (fun h=>sd (by rw[<-h.2.1];exact a4a h.2.2.2.2.2.1))];have t2:decide ((32:Int)<(d.size:Int))=true:=jD (by omega);clear h1 h2;go_enter Tryz.func67,Tryz.ntmps67;go_wp2_with fail;obtain⟨s2,A,j6,jz,j8,zA⟩:=qy w (.cells #[Bv neg,Sg a,Sg d] 52);have yA:=qZ (b:=A) j6 jz;have j7:=qQ bR j6;rw[<-j6];try rw[<-jz]
  clear j6 j8 jz
  go_quiet (fail)
  all_goals go_wp2
  all_goals first | go_ret | go_ret2
  all_goals exact⟨rfl,a1i j7 _⟩
 have t2:decide ((32:Int)<(d.size:Int))=false:=jE (by omega);by_cases de:d=⟨#[]⟩
 case pos =>
  subst de;rw[a4o (fun h=>h.2.2.1 (show Nt.V ⟨#[]⟩=0 from by decide))];clear h1 h2;go_enter Tryz.func67,Tryz.ntmps67;go_wp2_with fail;obtain⟨s3,A,j6,jz,j8,zA⟩:=qy w (.cells #[Bv neg,Sg a,S0] 52);have yA:=qZ (b:=A) j6 jz;have j7:=qQ bR j6;rw[<-j6];try rw[<-jz]
  clear j6 j8 jz
  go_quiet (fail)
  all_goals go_wp2
  all_goals first | go_ret | go_ret2
  all_goals exact⟨rfl,a1i j7 _⟩
 obtain⟨hnd,hnd2⟩:=a5y de;by_cases ea:Nt.E (Nt.V a)=a
 case neg =>
  rw[a4o (fun h=>ea h.1)];have hn:=a2j ea;generalize Nt.E (Nt.V a)=t at *;have H1:=zh h1;clear h1 h2 ea de;go_enter Tryz.func67,Tryz.ntmps67;go_wp2_with fail;obtain⟨s4,A,j6,jz,j8,zA⟩:=qy w (.cells #[Bv neg,Sg a,Sg d] 52);have yA:=qZ (b:=A) j6 jz;have j7:=qQ bR j6;rw[<-j6];try rw[<-jz]
  clear j6 j8 jz
  go_quiet ((go_at_call 119;exact Calls.quiet_of_same (H1.out _)))
  all_goals go_wp2
  all_goals first | go_ret | go_ret2
  all_goals exact⟨rfl,a1i j7 _⟩
 rw[ea] at h1;have H1:=zh h1;by_cases ed:Nt.E (Nt.V d)=d
 case neg =>
  rw[a4o (fun h=>ed h.2.1)];have hn:=a2j ed;generalize Nt.E (Nt.V d)=t at *;have H2:=zh h2;clear h1 h2 ea de ed;go_enter Tryz.func67,Tryz.ntmps67;go_wp2_with fail;obtain⟨s5,A,j6,jz,j8,zA⟩:=qy w (.cells #[Bv neg,Sg a,Sg d] 52);have yA:=qZ (b:=A) j6 jz;have j7:=qQ bR j6;rw[<-j6];try rw[<-jz]
  clear j6 j8 jz
  go_quiet (first | (go_at_call 119;with_reducible exact Calls.quiet_of_same (H1.out _)) | (go_at_call 119;with_reducible exact Calls.quiet_of_same (H2.out _)))
  all_goals go_wp2
  all_goals first | go_ret | go_ret2
  all_goals exact⟨rfl,a1i j7 _⟩
 rw[ed] at h2;have H2:=zh h2;have hri:a0y neg a d=true ↔ b8i ⟨neg,Nt.V a,Nt.V d⟩:=by rw[a1p];exact⟨fun h=>h.2.2,fun h=>⟨ea,ed,h⟩⟩
 have ba:=b3e (n:=Nt.V a) (by rw[ea];exact sa);have bd:=b3e (n:=Nt.V d) (by rw[ed];exact sd);have d0:Nt.V d≠0:=fun h=>de (by rw[<-ed,h];rfl)
 by_cases ae:a=⟨#[]⟩
 case pos =>
  subst ae
  have hr:a0y neg ⟨#[]⟩ d=(!neg&&decide (d=⟨#[1]⟩)):=by
   rw[Bool.eq_iff_iff,hri,show Nt.V (⟨#[]⟩:jW)=0 from by decide];simp only[b8i,Nat.gcd_zero_left,Bool.and_eq_true,Bool.not_eq_true',decide_eq_true_eq];constructor
   ·
    rintro ⟨_,h1,_,_,h2⟩;exact⟨h2 trivial,by rw[<-ed,h1];decide⟩
   ·
    rintro ⟨h1,h2⟩;rw[h2];exact⟨by decide,by decide,by decide,by decide,fun _=>h1⟩
  rw[hr];clear hri hr ea ed ba bd d0 h1 h2 de
  cases neg
  ·
   by_cases hd1:d=⟨#[1]⟩
   ·
    subst hd1;go_enter Tryz.func67,Tryz.ntmps67;go_wp2_with fail;obtain⟨s6,A,j6,jz,j8,zA⟩:=qy w (.cells #[Bv false,S0,Sg ⟨#[1]⟩] 52);have yA:=qZ (b:=A) j6 jz;have j7:=qQ bR j6;rw[<-j6];try rw[<-jz]
    clear j6 j8 jz
    go_quiet (first | (go_at_call 119;with_reducible exact Calls.quiet_of_same (H1.out _)) | (go_at_call 119;with_reducible exact Calls.quiet_of_same (H2.out _)))
    all_goals go_wp2
    all_goals first | go_ret | go_ret2
    all_goals exact⟨rfl,a1i j7 _⟩
   ·
    have hn:=a4y hd1;have hdd:=jE hd1;rw[hdd];simp only[Bool.and_false];clear hd1 hdd;go_enter Tryz.func67,Tryz.ntmps67;go_wp2_with fail;obtain⟨s7,A,j6,jz,j8,zA⟩:=qy w (.cells #[Bv false,S0,Sg d] 52);have yA:=qZ (b:=A) j6 jz;have j7:=qQ bR j6;rw[<-j6];try rw[<-jz]
    clear j6 j8 jz
    go_quiet (first | (go_at_call 119;with_reducible exact Calls.quiet_of_same (H1.out _)) | (go_at_call 119;with_reducible exact Calls.quiet_of_same (H2.out _)))
    all_goals go_wp2
    all_goals first | go_ret | go_ret2
    all_goals exact⟨rfl,a1i j7 _⟩
  ·
   simp only[Bool.not_true,Bool.false_and];go_enter Tryz.func67,Tryz.ntmps67;go_wp2_with fail;obtain⟨s8,A,j6,jz,j8,zA⟩:=qy w (.cells #[Bv true,S0,Sg d] 52);have yA:=qZ (b:=A) j6 jz;have j7:=qQ bR j6;rw[<-j6];try rw[<-jz]
   clear j6 j8 jz
   go_quiet (first | (go_at_call 119;with_reducible exact Calls.quiet_of_same (H1.out _)) | (go_at_call 119;with_reducible exact Calls.quiet_of_same (H2.out _)))
   all_goals go_wp2
   all_goals first | go_ret | go_ret2
   all_goals exact⟨rfl,a1i j7 _⟩
 obtain⟨hna,hna2⟩:=a5y ae;have a0:Nt.V a≠0:=fun h=>ae (by rw[<-ea,h];rfl)
 have hg:=fun w=>a9n a d w (by omega) (by omega)
 have hr:a0y neg a d=decide (Nat.gcd (Nt.V a) (Nt.V d)=1):=by
  rw[Bool.eq_iff_iff,hri];simp only[b8i,decide_eq_true_eq];exact⟨fun h=>h.2.1,fun h=>⟨d0,h,ba,bd,fun h=>absurd h a0⟩⟩
 rw[hr];by_cases g1:Nat.gcd (Nt.V a) (Nt.V d)=1
 case pos =>
  rw[g1,show Nt.E 1=⟨#[1]⟩ from by decide] at hg;rw[jD g1];have HG:=zh hg;clear hri hr ea ed ba bd d0 h1 h2 de ae a0 g1 hg;go_enter Tryz.func67,Tryz.ntmps67;go_wp2_with fail;obtain⟨s9,A,j6,jz,j8,zA⟩:=qy w (.cells #[Bv neg,Sg a,Sg d] 52);have yA:=qZ (b:=A) j6 jz;have j7:=qQ bR j6;rw[<-j6];try rw[<-jz]
  clear j6 j8 jz
  go_quiet (first | (go_at_call 119;with_reducible exact Calls.quiet_of_same (H1.out _)) | (go_at_call 119;with_reducible exact Calls.quiet_of_same (H2.out _)))
  go_wp2_with fail;generalize j6:s9.drewN _=s10 at *;replace j7:Bl w s10:=by rw[<-j6];exact a1i j7 _
  clear j6;refine jy (HG.out _) fun s11 hb=>?_
  replace j7:=bT j7 hb;clear hb
  all_goals go_wp2
  all_goals first | go_ret | go_ret2
  all_goals exact⟨rfl,j7⟩
 ·
  have hn1:Nt.E (Nat.gcd (Nt.V a) (Nt.V d))≠⟨#[1]⟩:=fun h=>g1 (by
   have:=Nt.V_E (Nat.gcd (Nt.V a) (Nt.V d));rw[h] at this
   exact this.symm.trans (by decide))
  have hn:=a4y hn1;rw[jE g1];generalize Nt.E (Nat.gcd (Nt.V a) (Nt.V d))=g at *;have HG:=zh hg;clear hri hr ea ed ba bd d0 h1 h2 de ae a0 g1 hg hn1;go_enter Tryz.func67,Tryz.ntmps67;go_wp2_with fail;obtain⟨s12,A,j6,jz,j8,zA⟩:=qy w (.cells #[Bv neg,Sg a,Sg d] 52);have yA:=qZ (b:=A) j6 jz;have j7:=qQ bR j6;rw[<-j6];try rw[<-jz]
  clear j6 j8 jz
  go_quiet (first | (go_at_call 119;with_reducible exact Calls.quiet_of_same (H1.out _)) | (go_at_call 119;with_reducible exact Calls.quiet_of_same (H2.out _)))
  go_wp2_with fail;generalize j6:s12.drewN _=s13 at *;replace j7:Bl w s13:=by rw[<-j6];exact a1i j7 _
  clear j6;refine jy (HG.out _) fun s14 hb=>?_
  replace j7:=bT j7 hb;clear hb
  all_goals go_wp2
  all_goals first | go_ret | go_ret2
  all_goals exact⟨rfl,j7⟩
set_option maxHeartbeats 4000000
def c5a (q:Rt):Int:=(q.den:Int)
theorem c5b (q:Rt):zt (c5a q)=rd q:=by unfold zt c5a rd;rw[Int.natAbs_natCast]
theorem c8p (q:Rt):zb (c5a q)=false:=by unfold c5a;exact c6r _
theorem XJ (b:Bool) (x y:jW) (w:World):(Instr.field 52 (.agg #[Bv b,Sg x,Sg y]) 0).run Tryz.prog w=.ok (Bv b) w:=by kernel_rfl
theorem Q7 (b:Bool) (x y:jW) (w:World):(Instr.field 52 (.agg #[Bv b,Sg x,Sg y]) 1).run Tryz.prog w=.ok (Sg x) w:=by kernel_rfl
theorem fR2 (b:Bool) (x y:jW) (w:World):(Instr.field 52 (.agg #[Bv b,Sg x,Sg y]) 2).run Tryz.prog w=.ok (Sg y) w:=by kernel_rfl
theorem fW1 (b:Bool) (x:jW) (w:World):(Instr.field 145 (.agg #[Bv b,Sg x]) 1).run Tryz.prog w=.ok (Sg x) w:=by kernel_rfl
theorem b4z (w:World):Ca 190 #[] w (.agg #[Bv false,S0,Sg ⟨#[1]⟩]):=by
 go_enter Tryz.func190,Tryz.ntmps190
 go_wp2
 refine jU (v:=.agg #[Bv false,S0,Sg ⟨#[1]⟩]) (by simp[results,Tryz.results190,go_sem]) rfl ⟨rfl,?_⟩;exact(Below.refl _ _).alloc (jC _) _
theorem b3f (neg:Bool) (a d:jW) (q:Rt) (w:World) (ha:a.size<=140737488351232) (hd:d.size<=140737488351232) (hq:wl neg a d=q) :
  Ca 147 #[.agg #[Bv neg,Sg a,Sg d]] w (.agg #[Bv (rb q),Sg (rn q),Sg (rd q)]):=by
 have hr:=fun w=>a7e neg a d w ha hd
 rw[<-hq]
 cases hb:a0y neg a d with
 | true =>
  obtain⟨e1,e2,e3⟩:=c4l hb;rw[e1,e2,e3];rw[hb] at hr;have HR:=zh hr;clear hr hb e1 e2 e3 ha hd hq;go_enter Tryz.func147,Tryz.ntmps147;go_wp2_with fail;obtain⟨s1,A,C,j6,jz,qq,j8,zA,zC⟩:=YJ w (.cells #[Bv neg,Sg a,Sg d] 52) (.cells #[Bv false,S0,S0] 52);have dCA:C≠A:=by omega
  have yA:=Y4 (b:=A) j6 jz;have yC:=qZ (b:=C) j6 (by simp[qq]);have fC:=Qq (b:=C) j6 (by simp[qq]);have lC:w.heap.size<=C:=by omega
  have j7:=Yz bR j6;rw[<-j6];try rw[<-qq]
  try rw[<-jz]
  clear j6 j8 jz qq;refine jy (HR.out _) fun s2 hb=>?_
  replace yA:=jv hb yA zA;replace zA:=jw hb zA;replace yC:=jv hb yC zC;replace fC:=qv hb fC zC;replace zC:=jw hb zC
  replace j7:=bT j7 hb;clear hb
  all_goals go_wp2
  all_goals refine jU (v:=.agg #[Bv neg,Sg a,Sg d]) (by simp[results,Tryz.results147,go_sem,yC,zC]) rfl ⟨rfl,?_⟩
  all_goals exact(sc3 j7 lC)
 | false =>
  obtain⟨e1,e2,e3⟩:=c4m hb;rw[e1,e2,e3];rw[hb] at hr;have HR:=zh hr;have HZ:=zh b4z;clear hr hb e1 e2 e3 ha hd hq;go_enter Tryz.func147,Tryz.ntmps147;go_wp2_with fail;obtain⟨s3,A,C,j6,jz,qq,j8,zA,zC⟩:=YJ w (.cells #[Bv neg,Sg a,Sg d] 52) (.cells #[Bv false,S0,S0] 52);have dCA:C≠A:=by omega
  have yA:=Y4 (b:=A) j6 jz;have yC:=qZ (b:=C) j6 (by simp[qq]);have fC:=Qq (b:=C) j6 (by simp[qq]);have lC:w.heap.size<=C:=by omega
  have j7:=Yz bR j6;rw[<-j6];try rw[<-qq]
  try rw[<-jz]
  clear j6 j8 jz qq;refine jy (HR.out _) fun s4 hb=>?_
  replace yA:=jv hb yA zA;replace zA:=jw hb zA;replace yC:=jv hb yC zC;replace fC:=qv hb fC zC;replace zC:=jw hb zC
  replace j7:=bT j7 hb;clear hb;go_wp2_with fail;refine jy (HZ.out _) fun s5 hb=>?_
  replace yA:=jv hb yA zA;replace zA:=jw hb zA;replace yC:=jv hb yC zC;replace fC:=qv hb fC zC;replace zC:=jw hb zC
  replace j7:=bT j7 hb;clear hb
  all_goals go_wp2
  all_goals refine jU (v:=.agg #[Bv false,S0,Sg ⟨#[1]⟩]) (by simp[results,Tryz.results147,go_sem,yC,zC]) rfl ⟨rfl,?_⟩
  all_goals exact(sc3 j7 lC)
theorem b8c (neg:Bool) (a d:jW) (x:Int) (w:World) (ha:a.size<=140737488351232) (hd:d.size<=140737488351232) (hx:c5a (wl neg a d)=x) :
  Ca 114 #[.agg #[Bv neg,Sg a,Sg d]] w (.agg #[Bv (zb x),Sg (zt x)]):=by
 obtain⟨q,hq⟩:∃ q,wl neg a d=q:=⟨_,rfl⟩;rw[hq] at hx;have hw:=fun w=>b3f neg a d q w ha hd hq
 have hm:=fun w=>a3z false (rd q) x w (by rw[<-c8p q,<-c5b,b3k,hx])
 generalize rb q=b1 at *;generalize rn q=t1 at *;generalize rd q=t2 at *;have HW:=zh hw;have HM:=zh hm;clear hw hm hq hx ha hd;have F2:=fR2 b1 t1 t2;go_enter Tryz.func114,Tryz.ntmps114;go_wp2_with fail;obtain⟨s8,A,C,j6,jz,qq,j8,zA,zC⟩:=YJ w (.cells #[Bv neg,Sg a,Sg d] 52) (.cells #[Bv false,S0] 145);have dCA:C≠A:=by omega
 have yA:=Y4 (b:=A) j6 jz;have hN:=Qz (b:=C) j6 (by simp[qq]);have hM:=Qq (b:=C) j6 (by simp[qq]);have Yq:=hN 0 _ rfl;have Yj:=hN 1 _ rfl;have YV:=hM 0;have YK:=hM 1;clear hN hM;have lC:w.heap.size<=C:=by omega
 have j7:=Yz bR j6;rw[<-j6];try rw[<-qq]
 try rw[<-jz]
 clear j6 j8 jz qq;refine jy (HW.out _) fun s9 hb=>?_
 replace yA:=jv hb yA zA;replace zA:=jw hb zA;replace Yq:=q9 hb Yq zC;replace Yj:=q9 hb Yj zC;replace YV:=QW hb YV zC;replace YK:=QW hb YK zC;replace zC:=jw hb zC;replace j7:=bT j7 hb;clear hb;go_wp2_with fail;refine jy (HM.out _) fun s10 hb=>?_
 replace yA:=jv hb yA zA;replace zA:=jw hb zA;replace Yq:=q9 hb Yq zC;replace Yj:=q9 hb Yj zC;replace YV:=QW hb YV zC;replace YK:=QW hb YK zC;replace zC:=jw hb zC;replace j7:=bT j7 hb;clear hb
 all_goals go_wp2
 all_goals refine jU (v:=.agg #[Bv (zb x),Sg (zt x)]) (by simp[results,Tryz.results114,go_sem,Yq,Yj,zC]) rfl ⟨rfl,?_⟩
 all_goals exact(sc2 j7 lC)
def mkN (x y:Int):Nat:=x.natAbs/Nat.gcd x.natAbs y.natAbs
def mkD (x y:Int):Nat:=y.natAbs/Nat.gcd x.natAbs y.natAbs
def b8d (x y:Int):Bool:=decide (256<Nt.blen (mkN x y)\/256<Nt.blen (mkD x y))
def mkR (x y:Int):Rt:=if y=0 then ⟨false,0,0⟩ else if b8d x y then ⟨false,0,0⟩ else ⟨(zb x != zb y)&&decide (mkN x y≠0),mkN x y,mkD x y⟩
def mkE (x y:Int):Int:=if y=0 then 5 else if b8d x y then 4 else 0
theorem rz:rb ⟨false,0,0⟩=false/\rn ⟨false,0,0⟩=⟨#[]⟩/\rd ⟨false,0,0⟩=⟨#[]⟩:=by decide
theorem f0y {x y:Int} (h:y=0):mkR x y=⟨false,0,0⟩/\mkE x y=5:=by unfold mkR mkE;rw[if_pos h,if_pos h];exact⟨rfl,rfl⟩
theorem c8q {x y:Int} (h:y≠0) (hb:256<Nt.blen (mkN x y)\/256<Nt.blen (mkD x y)):mkR x y=⟨false,0,0⟩/\mkE x y=4:=by
 have hb2:b8d x y=true:=by unfold b8d;exact jD hb
 unfold mkR mkE;rw[if_neg h,if_neg h,hb2];exact⟨rfl,rfl⟩
theorem c6t {x y:Int} (h:y≠0) (hb : ¬ (256<Nt.blen (mkN x y)\/256<Nt.blen (mkD x y))):mkR x y=⟨(zb x != zb y)&&decide (mkN x y≠0),mkN x y,mkD x y⟩/\mkE x y=0:=by
 have hb2:b8d x y=false:=by unfold b8d;exact jE hb
 unfold mkR mkE;rw[if_neg h,if_neg h,hb2];exact⟨rfl,rfl⟩
def bl (t:jW):Int:=(Nt.blen (Nt.V t):Int)
theorem b3g (t:jW) (w:World) (ht:t.size<=140737488351232):Ca 204 #[Sg t] w (I6 (bl t)):=b5w (b4v t w ht)
theorem c9q (n:Nat):bl (Nt.E n)=(Nt.blen n:Int):=by unfold bl;rw[Nt.V_E]
