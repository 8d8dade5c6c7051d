import Derived.Test.YtibiacmbljgmhaaGreatDoorLex5
set_option maxHeartbeats 16000000
set_option maxRecDepth 100000
namespace Go.Proofs.YtibiacmbljgmhaaGreatDoor
open Go.RowKit Go.Shelf
set_option linter.all false
theorem f2p {l:List UInt8} {sh:jW} {f:Bool} {l1:List UInt8} (hf:(l.head? == some 36)=f) (h1:(if f then l.tail else l)=l1) {k:Nat} (hk:(l1.takeWhile X1).length=k) {g:Bool} (hg:(decide (0<k)&&decide (l1.getD k 0=36)&&decide (k<l1.length))=g)
  {q:Nat × Nat × Nat} (hq:e2f (QK (if g then l1.take k++l1.drop (k+1) else l1))=q):d8f l sh=if q.2.2=0 then ((⟨sh,q.1,q.2.1,f,g⟩:Rf),(0:Int)) else (Jj,(q.2.2:Int)):=by
 unfold d8f;dsimp only;rw[hf,h1,hk,hg,hq]
def f2q (s:jW) (u i:Value):Prop:=∃ n:Nat,u=Sg s/\i=I6 n/\n<=s.size
theorem d7k (s:jW) (w:World) (hs:s.size<=1000) (h0:0<s.size) (h33:∀ i (h:i<s.size),¬ ((s[i].toNat:Nat):Int)=33) :
  Ca 206 #[Sg s] w (.tuple #[.agg #[Sg ((d8f s.data.toList ⟨#[]⟩).1).sh,I6 ((d8f s.data.toList ⟨#[]⟩).1).c,I6 ((d8f s.data.toList ⟨#[]⟩).1).r,Bv ((d8f s.data.toList ⟨#[]⟩).1).fc,Bv ((d8f s.data.toList ⟨#[]⟩).1).fr],I6 (d8f s.data.toList ⟨#[]⟩).2]):=by
 have hl:s.data.toList.length=s.size:=by simp
 have hmx:∀ t:jW,t.size<=1000->t.size<=maxLen:=fun t h=>by unfold maxLen;omega
 obtain⟨f,hf⟩:∃ f,(s.data.toList.head? == some 36)=f:=⟨_,rfl⟩;obtain⟨ta,hs1⟩:∃ t:jW,t=if f then s.extract 1 s.size else s:=⟨_,rfl⟩
 have e1:(if f then s.data.toList.tail else s.data.toList)=ta.data.toList:=by
  rw[hs1]
  cases f with
  | false=>rfl
  | true =>
   rw[if_pos rfl,if_pos rfl,d7r,jS (by rw[List.length_drop,hl];exact jC _),<-List.drop_one];rfl
 have hz1:ta.size<=1000:=by
  rw[hs1];split
  ·
   rw[ByteArray.size_extract];omega
  ·
   exact hs
 have hl1:ta.data.toList.length=ta.size:=by simp
 obtain⟨k,hk⟩:∃ k,(ta.data.toList.takeWhile X1).length=k:=⟨_,rfl⟩;have hk1:k<=ta.size:=by rw[<-hk,<-hl1];exact d7h _ _
 obtain⟨g,hg⟩:∃ g,(decide (0<k)&&decide (ta.data.toList.getD k 0=36)&&decide (k<ta.data.toList.length))=g:=⟨_,rfl⟩;obtain⟨tb,hs2⟩:∃ t:jW,t=if g then ta.extract 0 k++ta.extract (k+1) ta.size else ta:=⟨_,rfl⟩
 have e2:QK (if g then ta.data.toList.take k++ta.data.toList.drop (k+1) else ta.data.toList)=tb:=by
  rw[hs2]
  cases g with
  | false=>rfl
  | true =>
   rw[if_pos rfl,if_pos rfl,d7r,d7r,jS (l:=ta.data.toList.drop (k+1)) (by rw[List.length_drop,hl1];exact jC _),e0b];rfl
 have hz2:tb.size<=1000:=by
  rw[hs2];split
  ·
   rw[ByteArray.size_append,ByteArray.size_extract,ByteArray.size_extract];omega
  ·
   exact hz1
 obtain⟨q,hq⟩:∃ q,e2f tb=q:=⟨_,rfl⟩;have hR:=f2p (sh:=⟨#[]⟩) (q:=q) hf e1 hk hg (by rw[e2];exact hq);have HL:=zh (fun w=>a7p ta w (hmx ta hz1));rw[hk] at HL;have HP:=zh (fun w=>d9s tb w (hmx tb hz2));rw[hq] at HP;obtain⟨c,r,e⟩:=q;unfold e2h at HP;dsimp only at HP hR;obtain⟨V,hV⟩:∃ V,V=Value.tuple #[.agg #[Sg ((d8f s.data.toList ⟨#[]⟩).1).sh,I6 ((d8f s.data.toList ⟨#[]⟩).1).c,I6 ((d8f s.data.toList ⟨#[]⟩).1).r,Bv ((d8f s.data.toList ⟨#[]⟩).1).fc,Bv ((d8f s.data.toList ⟨#[]⟩).1).fr],I6 (d8f s.data.toList ⟨#[]⟩).2]:=⟨_,rfl⟩;rw[<-hV];have HV0:Hid (e=0->V=.tuple #[.agg #[S0,I6 (c:Int),I6 (r:Int),Bv f,Bv g],I6 0]):=fun h=>by rw[hV,hR,if_pos h]
 have HV1:Hid (e≠0->V=.tuple #[.agg #[S0,I6 0,I6 0,Bv false,Bv false],I6 (e:Int)]):=fun h=>by rw[hV,hR,if_neg h];rfl
 have hf0:f=(((s[0].toNat:Nat):Int)==36):=by
  rw[<-hf];have:s.data.toList.head?=some s[0]:=by rw[List.head?_eq_getElem?,jH (by rw[hl];exact h0),a4p s 0 h0]
  rw[this];exact e0u s[0] 36 (by omega)
 have hg0:∀ (h:k<ta.size),g=(decide (0<k)&&(((ta[k].toNat:Nat):Int)==36)):=fun h=>by
  rw[<-hg,e2l ta k h,hl1,jD h,Bool.and_true]
  congr 1
  exact e0u ta[k] 36 (by omega)
 have hgk:k=0->g=false:=fun h=>by rw[<-hg,h];rfl
 have hgz : ¬ k<ta.size->g=false:=fun h=>by rw[<-hg,hl1,jE h,Bool.and_false]
 have HG0:=zh hg0;have HGK:=zh hgk;have HGZ:=zh hgz;have HF0:=zh hf0;clear hR hV hf hg hk hq e1 e2 hl hl1 hmx hz2 hg0 hgk hgz hf0;go_enter Tryz.func206,Tryz.ntmps206;go_wp2_with fail;obtain⟨s1,C,A,j6,qq,jz,j8,zC,zA⟩:=YJ w (.cells #[S0,I6 0,I6 0,Bv false,Bv false] 67) (.cells #[S0,I6 0,I6 0,Bv false,Bv false] 67);have dCA:C≠A:=by omega
 have dAC:A≠C:=by omega
 have yC:=Y4 (b:=C) j6 qq;have fC:=bf1 (b:=C) j6 qq;have lC:w.heap.size<=C:=by omega
 have yA:=qZ (b:=A) j6 (by simp[jz]);have fA:=Qq (b:=A) j6 (by simp[jz]);have lA:w.heap.size<=A:=by omega
 have j7:=Yz bR j6;rw[<-j6];try rw[<-jz]
 try rw[<-qq]
 clear j6 j8 qq jz
 go_loop [0,5] (f2q s) (fun _ i=>s.size-(intOf i).toNat)
 case atStart=>exact⟨0,rfl,rfl,by omega⟩
 case round =>
  obtain⟨n,rfl,rfl,hn⟩:=hrel;by_cases hlt:n<s.size
  ·
   have hi:=h33 n hlt;clear h33
   go_wp2
   exact⟨⟨n+1,rfl,by go_num,by omega⟩,by simp[intOf];omega⟩
  clear h33
  cases f with
  | true =>
   have hi0:((s[0].toNat:Nat):Int)=36:=by have:=HF0.out;simpa using this.symm
   have hs1':s.extract 1 s.size=ta:=by rw[hs1];simp
   clear hs1 HF0;go_wp2_with fail;obtain⟨s2,j6⟩:∃ s,s=(s1.setCell ⟨A,3,none⟩ (Bv true)):=⟨_,rfl⟩;have qJ:Bl w s2:=by rw[j6];exact((j7).setCell lA _)
   have j8:=ss1 j6;replace yC:=Jv j6 (qz yC dAC);have hq:∀ {p v},(s1.setCell ⟨A,3,none⟩ (Bv true)).cell? p=some v->s2.cell? p=some v:=fun h=>by rw[j6];exact h
   replace yA:∀ j,s2.cell? ⟨A,j,none⟩=([S0,I6 0,I6 0,Bv true,Bv false]:List Value)[j]?:=Jv j6 (JX yA (jB rfl));clear hq;have J9:=@fz1 _ _ _ _  j6;replace fC:=fun j=>J9 (fC j)
   replace fA:=fun j=>J9 (fA j)
   clear J9;replace zC:=Xy j8 zC;replace zA:=Xy j8 zA;rw[<-j6];clear j7 j6 j8;have j7:=qJ;clear qJ;refine(HL.out _).mono ?_;rintro e wq ⟨rfl,hwq⟩;rw[hwq];clear hwq wq;clear HL hi0 hs1'
   cases g with
   | true =>
    have hk0:0<k:=by rcases Nat.eq_zero_or_pos k with h | h;exact absurd (HGK.out h) (by decide);exact h
    have hk2:k<ta.size:=by by_cases h:k<ta.size;exact h;exact absurd (HGZ.out h) (by decide)
    have hi:((ta[k].toNat:Nat):Int)=36:=by have:=HG0.out hk2;rw[jD hk0,Bool.true_and] at this;simpa using this.symm
    have hs2':ta.extract 0 k++ta.extract (k+1) ta.size=tb:=by rw[hs2];simp
    clear hs2 HG0 HGK HGZ;have w1:(ta.extract 0 k).size<=1000:=by rw[ByteArray.size_extract];omega
    have w2:(ta.extract (k+1) ta.size).size<=1000:=by rw[ByteArray.size_extract];omega
    have w3:((k:Int)+1).toNat=k+1:=by omega
    have w4:(0:Int)<=(k:Int)+1:=by omega
    have w5:(k:Int)+1<=(ta.size:Int):=by omega
    have w6:(k:Int)<=(ta.size:Int):=by omega
    have w7:(0:Int)<=(k:Int):=by omega
    go_upto_region 16 with fail
    obtain⟨s3,j6⟩:∃ s,s=(s2.setCell ⟨A,4,none⟩ (Bv true)):=⟨_,rfl⟩;have qJ:Bl w s3:=by rw[j6];exact((j7).setCell lA _)
    have j8:=ss1 j6;replace yC:=Jv j6 (qz yC dAC);have hq:∀ {p v},(s2.setCell ⟨A,4,none⟩ (Bv true)).cell? p=some v->s3.cell? p=some v:=fun h=>by rw[j6];exact h
    replace yA:∀ j,s3.cell? ⟨A,j,none⟩=([S0,I6 0,I6 0,Bv true,Bv true]:List Value)[j]?:=Jv j6 (JX yA (jB rfl));clear hq;have J9:=@fz1 _ _ _ _  j6;replace fC:=fun j=>J9 (fC j)
    replace fA:=fun j=>J9 (fA j)
    clear J9;replace zC:=Xy j8 zC;replace zA:=Xy j8 zA;rw[<-j6];clear j7 j6 j8;have j7:=qJ;clear qJ
    go_quiet (fail)
    generalize j6:s3.drewN _=s4 at *;replace yC:∀ j,s4.cell? ⟨C,j,none⟩=([S0,I6 0,I6 0,Bv false,Bv false]:List Value)[j]?:=fun j=>by rw[<-j6];simpa [go_sem] using yC j
    replace fC:∀ j,s4.frozen? ⟨C,j,none⟩=false:=fun j=>by rw[<-j6];simpa [go_sem] using fC j
    replace zC:C<s4.heap.size:=by rw[<-j6];exact zC
    replace yA:∀ j,s4.cell? ⟨A,j,none⟩=([S0,I6 0,I6 0,Bv true,Bv true]:List Value)[j]?:=fun j=>by rw[<-j6];simpa [go_sem] using yA j
    replace fA:∀ j,s4.frozen? ⟨A,j,none⟩=false:=fun j=>by rw[<-j6];simpa [go_sem] using fA j
    replace zA:A<s4.heap.size:=by rw[<-j6];exact zA
    replace j7:Bl w s4:=by rw[<-j6];exact a1i j7 _
    clear j6;go_wp2_with fail;refine jy (HP.out _) fun s5 hb=>?_
    replace yC:=jv hb yC zC;replace fC:=qv hb fC zC
    replace yA:=jv hb yA zA;replace fA:=qv hb fA zA
    replace j7:=bT j7 hb;clear hb;by_cases he:e=0
    ·
     have HY:=zh (HV0.out he);subst he;clear HV0 HV1;go_wp2_with fail;obtain⟨s6,j6⟩:∃ s,s=((s5.setCell ⟨A,1,none⟩ (I6 (c:Int))).setCell ⟨A,2,none⟩ (I6 (r:Int))):=⟨_,rfl⟩;have qJ:Bl w s6:=by rw[j6];exact(sc2 (j7) lA)
     have j8:=ss2 j6;replace yC:=Jv j6 (qz (qz yC dAC) dAC);have hq:∀ {p v},((s5.setCell ⟨A,1,none⟩ (I6 (c:Int))).setCell ⟨A,2,none⟩ (I6 (r:Int))).cell? p=some v->s6.cell? p=some v:=fun h=>by rw[j6];exact h
     clear hq;have J9:=@fz2 _ _ _ _ _ _  j6;clear J9;rw[<-j6];clear j7 j6 j8;have j7:=qJ;clear qJ
     all_goals go_wp2
     all_goals refine jU (v:=.tuple #[.agg #[S0,I6 (c:Int),I6 (r:Int),Bv true,Bv true],I6 0]) (by simp[results,Tryz.results206,go_sem,yC,zC]) rfl ⟨congrArg jV HY.out.symm,?_⟩
     all_goals exact(Q8 j7 lC)
    ·
     have HY:=zh (HV1.out he);have he2:((e:Int) != 0)=true:=by simpa using he
     clear HV0 HV1 he
     all_goals go_wp2
     all_goals refine jU (v:=.tuple #[.agg #[S0,I6 0,I6 0,Bv false,Bv false],I6 (e:Int)]) (by simp[results,Tryz.results206,go_sem,yC,zC]) rfl ⟨congrArg jV HY.out.symm,?_⟩
     all_goals exact(Q8 j7 lC)
   | false =>
    have hs2':tb=ta:=by rw[hs2];simp
    subst hs2';clear hs2;by_cases hk0:k=0
    ·
     subst hk0;clear HG0 HGK HGZ;go_wp2_with fail;refine jy (HP.out _) fun s7 hb=>?_
     replace yC:=jv hb yC zC;replace fC:=qv hb fC zC
     replace yA:=jv hb yA zA;replace fA:=qv hb fA zA
     replace j7:=bT j7 hb;clear hb;by_cases he:e=0
     ·
      have HY:=zh (HV0.out he);subst he;clear HV0 HV1;go_wp2_with fail;obtain⟨s8,j6⟩:∃ s,s=((s7.setCell ⟨A,1,none⟩ (I6 (c:Int))).setCell ⟨A,2,none⟩ (I6 (r:Int))):=⟨_,rfl⟩;have qJ:Bl w s8:=by rw[j6];exact(sc2 (j7) lA)
      have j8:=ss2 j6;replace yC:=Jv j6 (qz (qz yC dAC) dAC);have hq:∀ {p v},((s7.setCell ⟨A,1,none⟩ (I6 (c:Int))).setCell ⟨A,2,none⟩ (I6 (r:Int))).cell? p=some v->s8.cell? p=some v:=fun h=>by rw[j6];exact h
      clear hq;have J9:=@fz2 _ _ _ _ _ _  j6;clear J9;rw[<-j6];clear j7 j6 j8;have j7:=qJ;clear qJ
      all_goals go_wp2
      all_goals refine jU (v:=.tuple #[.agg #[S0,I6 (c:Int),I6 (r:Int),Bv true,Bv false],I6 0]) (by simp[results,Tryz.results206,go_sem,yC,zC]) rfl ⟨congrArg jV HY.out.symm,?_⟩
      all_goals exact(Q8 j7 lC)
     ·
      have HY:=zh (HV1.out he);have he2:((e:Int) != 0)=true:=by simpa using he
      clear HV0 HV1 he
      all_goals go_wp2
      all_goals refine jU (v:=.tuple #[.agg #[S0,I6 0,I6 0,Bv false,Bv false],I6 (e:Int)]) (by simp[results,Tryz.results206,go_sem,yC,zC]) rfl ⟨congrArg jV HY.out.symm,?_⟩
      all_goals exact(Q8 j7 lC)
    have hk9:0<k:=by omega
    by_cases hk2:k<tb.size
    ·
     have hi : ¬ ((tb[k].toNat:Nat):Int)=36:=by have:=HG0.out hk2;rw[jD hk9,Bool.true_and] at this;intro h;rw[h] at this;exact absurd this (by decide)
     clear HG0 HGK HGZ hk0;go_wp2_with fail;refine jy (HP.out _) fun s9 hb=>?_
     replace yC:=jv hb yC zC;replace fC:=qv hb fC zC
     replace yA:=jv hb yA zA;replace fA:=qv hb fA zA
     replace j7:=bT j7 hb;clear hb;by_cases he:e=0
     ·
      have HY:=zh (HV0.out he);subst he;clear HV0 HV1;go_wp2_with fail;obtain⟨s10,j6⟩:∃ s,s=((s9.setCell ⟨A,1,none⟩ (I6 (c:Int))).setCell ⟨A,2,none⟩ (I6 (r:Int))):=⟨_,rfl⟩;have qJ:Bl w s10:=by rw[j6];exact(sc2 (j7) lA)
      have j8:=ss2 j6;replace yC:=Jv j6 (qz (qz yC dAC) dAC);have hq:∀ {p v},((s9.setCell ⟨A,1,none⟩ (I6 (c:Int))).setCell ⟨A,2,none⟩ (I6 (r:Int))).cell? p=some v->s10.cell? p=some v:=fun h=>by rw[j6];exact h
      clear hq;have J9:=@fz2 _ _ _ _ _ _  j6;clear J9;rw[<-j6];clear j7 j6 j8;have j7:=qJ;clear qJ
      all_goals go_wp2
      all_goals refine jU (v:=.tuple #[.agg #[S0,I6 (c:Int),I6 (r:Int),Bv true,Bv false],I6 0]) (by simp[results,Tryz.results206,go_sem,yC,zC]) rfl ⟨congrArg jV HY.out.symm,?_⟩
      all_goals exact(Q8 j7 lC)
     ·
      have HY:=zh (HV1.out he);have he2:((e:Int) != 0)=true:=by simpa using he
      clear HV0 HV1 he
      all_goals go_wp2
      all_goals refine jU (v:=.tuple #[.agg #[S0,I6 0,I6 0,Bv false,Bv false],I6 (e:Int)]) (by simp[results,Tryz.results206,go_sem,yC,zC]) rfl ⟨congrArg jV HY.out.symm,?_⟩
      all_goals exact(Q8 j7 lC)
    ·
     clear HG0 HGK HGZ hk0;go_wp2_with fail;refine jy (HP.out _) fun s11 hb=>?_
     replace yC:=jv hb yC zC;replace fC:=qv hb fC zC
     replace yA:=jv hb yA zA;replace fA:=qv hb fA zA
     replace j7:=bT j7 hb;clear hb;by_cases he:e=0
     ·
      have HY:=zh (HV0.out he);subst he;clear HV0 HV1;go_wp2_with fail;obtain⟨s12,j6⟩:∃ s,s=((s11.setCell ⟨A,1,none⟩ (I6 (c:Int))).setCell ⟨A,2,none⟩ (I6 (r:Int))):=⟨_,rfl⟩;have qJ:Bl w s12:=by rw[j6];exact(sc2 (j7) lA)
      have j8:=ss2 j6;replace yC:=Jv j6 (qz (qz yC dAC) dAC);have hq:∀ {p v},((s11.setCell ⟨A,1,none⟩ (I6 (c:Int))).setCell ⟨A,2,none⟩ (I6 (r:Int))).cell? p=some v->s12.cell? p=some v:=fun h=>by rw[j6];exact h
      clear hq;have J9:=@fz2 _ _ _ _ _ _  j6;clear J9;rw[<-j6];clear j7 j6 j8;have j7:=qJ;clear qJ
      all_goals go_wp2
      all_goals refine jU (v:=.tuple #[.agg #[S0,I6 (c:Int),I6 (r:Int),Bv true,Bv false],I6 0]) (by simp[results,Tryz.results206,go_sem,yC,zC]) rfl ⟨congrArg jV HY.out.symm,?_⟩
      all_goals exact(Q8 j7 lC)
     ·
      have HY:=zh (HV1.out he);have he2:((e:Int) != 0)=true:=by simpa using he
      clear HV0 HV1 he
      all_goals go_wp2
      all_goals refine jU (v:=.tuple #[.agg #[S0,I6 0,I6 0,Bv false,Bv false],I6 (e:Int)]) (by simp[results,Tryz.results206,go_sem,yC,zC]) rfl ⟨congrArg jV HY.out.symm,?_⟩
      all_goals exact(Q8 j7 lC)
  | false =>
   have hi0 : ¬ ((s[0].toNat:Nat):Int)=36:=by intro h;have:=HF0.out;rw[h] at this;exact absurd this (by decide)
   have hs1':ta=s:=by rw[hs1];simp
   subst hs1';clear hs1 HF0;go_wp2_with fail;refine(HL.out _).mono ?_;rintro e wq ⟨rfl,hwq⟩;rw[hwq];clear hwq wq;clear HL hi0
   cases g with
   | true =>
    have hk0:0<k:=by rcases Nat.eq_zero_or_pos k with h | h;exact absurd (HGK.out h) (by decide);exact h
    have hk2:k<ta.size:=by by_cases h:k<ta.size;exact h;exact absurd (HGZ.out h) (by decide)
    have hi:((ta[k].toNat:Nat):Int)=36:=by have:=HG0.out hk2;rw[jD hk0,Bool.true_and] at this;simpa using this.symm
    have hs2':ta.extract 0 k++ta.extract (k+1) ta.size=tb:=by rw[hs2];simp
    clear hs2 HG0 HGK HGZ;have w1:(ta.extract 0 k).size<=1000:=by rw[ByteArray.size_extract];omega
    have w2:(ta.extract (k+1) ta.size).size<=1000:=by rw[ByteArray.size_extract];omega
    have w3:((k:Int)+1).toNat=k+1:=by omega
    have w4:(0:Int)<=(k:Int)+1:=by omega
    have w5:(k:Int)+1<=(ta.size:Int):=by omega
    have w6:(k:Int)<=(ta.size:Int):=by omega
    have w7:(0:Int)<=(k:Int):=by omega
    go_upto_region 16 with fail
    obtain⟨s13,j6⟩:∃ s,s=(s1.setCell ⟨A,4,none⟩ (Bv true)):=⟨_,rfl⟩;have qJ:Bl w s13:=by rw[j6];exact((j7).setCell lA _)
    have j8:=ss1 j6;replace yC:=Jv j6 (qz yC dAC);have hq:∀ {p v},(s1.setCell ⟨A,4,none⟩ (Bv true)).cell? p=some v->s13.cell? p=some v:=fun h=>by rw[j6];exact h
    replace yA:∀ j,s13.cell? ⟨A,j,none⟩=([S0,I6 0,I6 0,Bv false,Bv true]:List Value)[j]?:=Jv j6 (JX yA (jB rfl));clear hq;have J9:=@fz1 _ _ _ _  j6;replace fC:=fun j=>J9 (fC j)
    replace fA:=fun j=>J9 (fA j)
    clear J9;replace zC:=Xy j8 zC;replace zA:=Xy j8 zA;rw[<-j6];clear j7 j6 j8;have j7:=qJ;clear qJ
    go_quiet (fail)
    generalize j6:s13.drewN _=s14 at *;replace yC:∀ j,s14.cell? ⟨C,j,none⟩=([S0,I6 0,I6 0,Bv false,Bv false]:List Value)[j]?:=fun j=>by rw[<-j6];simpa [go_sem] using yC j
    replace fC:∀ j,s14.frozen? ⟨C,j,none⟩=false:=fun j=>by rw[<-j6];simpa [go_sem] using fC j
    replace zC:C<s14.heap.size:=by rw[<-j6];exact zC
    replace yA:∀ j,s14.cell? ⟨A,j,none⟩=([S0,I6 0,I6 0,Bv false,Bv true]:List Value)[j]?:=fun j=>by rw[<-j6];simpa [go_sem] using yA j
    replace fA:∀ j,s14.frozen? ⟨A,j,none⟩=false:=fun j=>by rw[<-j6];simpa [go_sem] using fA j
    replace zA:A<s14.heap.size:=by rw[<-j6];exact zA
    replace j7:Bl w s14:=by rw[<-j6];exact a1i j7 _
    clear j6;go_wp2_with fail;refine jy (HP.out _) fun s15 hb=>?_
    replace yC:=jv hb yC zC;replace fC:=qv hb fC zC
    replace yA:=jv hb yA zA;replace fA:=qv hb fA zA
    replace j7:=bT j7 hb;clear hb;by_cases he:e=0
    ·
     have HY:=zh (HV0.out he);subst he;clear HV0 HV1;go_wp2_with fail;obtain⟨s16,j6⟩:∃ s,s=((s15.setCell ⟨A,1,none⟩ (I6 (c:Int))).setCell ⟨A,2,none⟩ (I6 (r:Int))):=⟨_,rfl⟩;have qJ:Bl w s16:=by rw[j6];exact(sc2 (j7) lA)
     have j8:=ss2 j6;replace yC:=Jv j6 (qz (qz yC dAC) dAC);have hq:∀ {p v},((s15.setCell ⟨A,1,none⟩ (I6 (c:Int))).setCell ⟨A,2,none⟩ (I6 (r:Int))).cell? p=some v->s16.cell? p=some v:=fun h=>by rw[j6];exact h
     clear hq;have J9:=@fz2 _ _ _ _ _ _  j6;clear J9;rw[<-j6];clear j7 j6 j8;have j7:=qJ;clear qJ
     all_goals go_wp2
     all_goals refine jU (v:=.tuple #[.agg #[S0,I6 (c:Int),I6 (r:Int),Bv false,Bv true],I6 0]) (by simp[results,Tryz.results206,go_sem,yC,zC]) rfl ⟨congrArg jV HY.out.symm,?_⟩
     all_goals exact(Q8 j7 lC)
    ·
     have HY:=zh (HV1.out he);have he2:((e:Int) != 0)=true:=by simpa using he
     clear HV0 HV1 he
     all_goals go_wp2
     all_goals refine jU (v:=.tuple #[.agg #[S0,I6 0,I6 0,Bv false,Bv false],I6 (e:Int)]) (by simp[results,Tryz.results206,go_sem,yC,zC]) rfl ⟨congrArg jV HY.out.symm,?_⟩
     all_goals exact(Q8 j7 lC)
   | false =>
    have hs2':tb=ta:=by rw[hs2];simp
    subst hs2';clear hs2;by_cases hk0:k=0
    ·
     subst hk0;clear HG0 HGK HGZ;go_wp2_with fail;refine jy (HP.out _) fun s17 hb=>?_
     replace yC:=jv hb yC zC;replace fC:=qv hb fC zC
     replace yA:=jv hb yA zA;replace fA:=qv hb fA zA
     replace j7:=bT j7 hb;clear hb;by_cases he:e=0
     ·
      have HY:=zh (HV0.out he);subst he;clear HV0 HV1;go_wp2_with fail;obtain⟨s18,j6⟩:∃ s,s=((s17.setCell ⟨A,1,none⟩ (I6 (c:Int))).setCell ⟨A,2,none⟩ (I6 (r:Int))):=⟨_,rfl⟩;have qJ:Bl w s18:=by rw[j6];exact(sc2 (j7) lA)
      have j8:=ss2 j6;replace yC:=Jv j6 (qz (qz yC dAC) dAC);have hq:∀ {p v},((s17.setCell ⟨A,1,none⟩ (I6 (c:Int))).setCell ⟨A,2,none⟩ (I6 (r:Int))).cell? p=some v->s18.cell? p=some v:=fun h=>by rw[j6];exact h
      clear hq;have J9:=@fz2 _ _ _ _ _ _  j6;clear J9;rw[<-j6];clear j7 j6 j8;have j7:=qJ;clear qJ
      all_goals go_wp2
      all_goals refine jU (v:=.tuple #[.agg #[S0,I6 (c:Int),I6 (r:Int),Bv false,Bv false],I6 0]) (by simp[results,Tryz.results206,go_sem,yC,zC]) rfl ⟨congrArg jV HY.out.symm,?_⟩
      all_goals exact(Q8 j7 lC)
     ·
      have HY:=zh (HV1.out he);have he2:((e:Int) != 0)=true:=by simpa using he
      clear HV0 HV1 he
      all_goals go_wp2
      all_goals refine jU (v:=.tuple #[.agg #[S0,I6 0,I6 0,Bv false,Bv false],I6 (e:Int)]) (by simp[results,Tryz.results206,go_sem,yC,zC]) rfl ⟨congrArg jV HY.out.symm,?_⟩
      all_goals exact(Q8 j7 lC)
    have hk9:0<k:=by omega
    by_cases hk2:k<tb.size
    ·
     have hi : ¬ ((tb[k].toNat:Nat):Int)=36:=by have:=HG0.out hk2;rw[jD hk9,Bool.true_and] at this;intro h;rw[h] at this;exact absurd this (by decide)
     clear HG0 HGK HGZ hk0;go_wp2_with fail;refine jy (HP.out _) fun s19 hb=>?_
     replace yC:=jv hb yC zC;replace fC:=qv hb fC zC
     replace yA:=jv hb yA zA;replace fA:=qv hb fA zA
     replace j7:=bT j7 hb;clear hb;by_cases he:e=0
     ·
      have HY:=zh (HV0.out he);subst he;clear HV0 HV1;go_wp2_with fail;obtain⟨s20,j6⟩:∃ s,s=((s19.setCell ⟨A,1,none⟩ (I6 (c:Int))).setCell ⟨A,2,none⟩ (I6 (r:Int))):=⟨_,rfl⟩;have qJ:Bl w s20:=by rw[j6];exact(sc2 (j7) lA)
      have j8:=ss2 j6;replace yC:=Jv j6 (qz (qz yC dAC) dAC);have hq:∀ {p v},((s19.setCell ⟨A,1,none⟩ (I6 (c:Int))).setCell ⟨A,2,none⟩ (I6 (r:Int))).cell? p=some v->s20.cell? p=some v:=fun h=>by rw[j6];exact h
      clear hq;have J9:=@fz2 _ _ _ _ _ _  j6;clear J9;rw[<-j6];clear j7 j6 j8;have j7:=qJ;clear qJ
      all_goals go_wp2
      all_goals refine jU (v:=.tuple #[.agg #[S0,I6 (c:Int),I6 (r:Int),Bv false,Bv false],I6 0]) (by simp[results,Tryz.results206,go_sem,yC,zC]) rfl ⟨congrArg jV HY.out.symm,?_⟩
      all_goals exact(Q8 j7 lC)
     ·
      have HY:=zh (HV1.out he);have he2:((e:Int) != 0)=true:=by simpa using he
      clear HV0 HV1 he
      all_goals go_wp2
      all_goals refine jU (v:=.tuple #[.agg #[S0,I6 0,I6 0,Bv false,Bv false],I6 (e:Int)]) (by simp[results,Tryz.results206,go_sem,yC,zC]) rfl ⟨congrArg jV HY.out.symm,?_⟩
      all_goals exact(Q8 j7 lC)
    ·
     clear HG0 HGK HGZ hk0;go_wp2_with fail;refine jy (HP.out _) fun s21 hb=>?_
     replace yC:=jv hb yC zC;replace fC:=qv hb fC zC
     replace yA:=jv hb yA zA;replace fA:=qv hb fA zA
     replace j7:=bT j7 hb;clear hb;by_cases he:e=0
     ·
      have HY:=zh (HV0.out he);subst he;clear HV0 HV1;go_wp2_with fail;obtain⟨s22,j6⟩:∃ s,s=((s21.setCell ⟨A,1,none⟩ (I6 (c:Int))).setCell ⟨A,2,none⟩ (I6 (r:Int))):=⟨_,rfl⟩;have qJ:Bl w s22:=by rw[j6];exact(sc2 (j7) lA)
      have j8:=ss2 j6;replace yC:=Jv j6 (qz (qz yC dAC) dAC);have hq:∀ {p v},((s21.setCell ⟨A,1,none⟩ (I6 (c:Int))).setCell ⟨A,2,none⟩ (I6 (r:Int))).cell? p=some v->s22.cell? p=some v:=fun h=>by rw[j6];exact h
      clear hq;have J9:=@fz2 _ _ _ _ _ _  j6;clear J9;rw[<-j6];clear j7 j6 j8;have j7:=qJ;clear qJ
      all_goals go_wp2
      all_goals refine jU (v:=.tuple #[.agg #[S0,I6 (c:Int),I6 (r:Int),Bv false,Bv false],I6 0]) (by simp[results,Tryz.results206,go_sem,yC,zC]) rfl ⟨congrArg jV HY.out.symm,?_⟩
      all_goals exact(Q8 j7 lC)
     ·
      have HY:=zh (HV1.out he);have he2:((e:Int) != 0)=true:=by simpa using he
      clear HV0 HV1 he
      all_goals go_wp2
      all_goals refine jU (v:=.tuple #[.agg #[S0,I6 0,I6 0,Bv false,Bv false],I6 (e:Int)]) (by simp[results,Tryz.results206,go_sem,yC,zC]) rfl ⟨congrArg jV HY.out.symm,?_⟩
      all_goals exact(Q8 j7 lC)
