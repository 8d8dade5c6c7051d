import Derived.Test.YtibiacmbljgmhaaGreatDoorRdr1
set_option maxHeartbeats 4000000
set_option maxRecDepth 100000
namespace Go.Proofs.YtibiacmbljgmhaaGreatDoor
open Go.RowKit Go.Shelf
set_option linter.all false
theorem e0u (x:UInt8) (n:Nat) (hn:n<256):(x==UInt8.ofNat n)=(((x.toNat:Nat):Int)==(n:Int)):=by
 rw[Bool.eq_iff_iff,beq_iff_eq,beq_iff_eq,<-UInt8.toNat_inj,show (UInt8.ofNat n).toNat=n from (by simp;omega)];omega
theorem e0a (x:UInt8) (w:World) :
  Cz 101 #[.int .u8 (x.toNat:Int)] w fun e w'=>e=.returned (Bv (d7f x))/\w'=w:=by
 have JY:=Qw;have hL:=fun w=>a5v x w
 have hD:=fun w=>a3u x w
 have hr:d7f x=(a2a x || Nt.isDig x || (((x.toNat:Nat):Int)==36) || (((x.toNat:Nat):Int)==95)):=by
  unfold d7f;rw[show (36:UInt8)=UInt8.ofNat 36 from rfl,show (95:UInt8)=UInt8.ofNat 95 from rfl,e0u x 36 (by omega),e0u x 95 (by omega)];rfl
 have hx:=UInt8.toNat_lt x;generalize d7f x=R at *;have HR:=zh hr;generalize a2a x=b1 at *;generalize Nt.isDig x=b2 at *;clear hr
 cases b1<;>cases b2
 all_goals
  have XW:=zh hL;have HDD:=zh hD;clear hL hD;go_enter Tryz.func101,Tryz.ntmps101;go_wp2_with (first | (go_at_call 94;refine(XW.out _).mono ?_;rintro e w1 ⟨rfl,rfl⟩) | (go_at_call 97;refine(HDD.out _).mono ?_;rintro e w1 ⟨rfl,rfl⟩))
  all_goals (go_ret;exact⟨J4 (by rw[HR.out];simp_all),rfl⟩)
theorem e8w {l:List UInt8} {n:Nat} (h:n<l.length) (hd:Nt.isDig l[n]=true):Y6 l (n+1)=Y6 l n:=by
 unfold Y6;rw[List.drop_eq_getElem_cons h,List.takeWhile_cons,hd,if_pos rfl,List.length_cons];omega
theorem e8x {l:List UInt8} {n:Nat} (h:n<l.length) (hd:Nt.isDig l[n]=false):Y6 l n=n:=by
 unfold Y6;rw[List.drop_eq_getElem_cons h,List.takeWhile_cons,hd];rfl
theorem f0k {l:List UInt8} {n:Nat} (h:l.length<=n):Y6 l n=n:=by
 unfold Y6;rw[List.drop_eq_nil_of_le h];rfl
def f3s (s:jW) (R:Nat) (i:Value):Prop:=∃ n:Nat,i=I6 n/\n<=s.size/\Y6 s.data.toList n=R
theorem d9a (s:jW) (a:Nat) (w:World) (hs:s.size<=1000) (ha:a<=s.size) :
  Cz 131 #[Sg s,I6 (a:Int)] w fun e w'=>e=.returned (I6 (Y6 s.data.toList a:Nat))/\w'=w:=by
 have JY:=Qw;have hl:s.data.toList.length=s.size:=by simp
 obtain⟨R,hR⟩:∃ R,Y6 s.data.toList a=R:=⟨_,rfl⟩;rw[hR];have HR:=zh hR;have J6:=zh hl;clear hl hR;go_enter Tryz.func131,Tryz.ntmps131
 go_wp2
 go_loop [1] (f3s s R) (fun i=>s.size-(intOf i).toNat)
 case atStart=>exact⟨a,rfl,ha,HR.out⟩
 case round =>
  obtain⟨n,rfl,hn,hT⟩:=hrel;have HT:=zh hT;clear hT;by_cases hlt:n<s.size
  ·
   clear JY;have hg:=zh (a4p s n hlt);have HD:=zh (fun w=>a3u s[n] w)
   cases hx:Nt.isDig s[n] with
   | true =>
    rw[hx] at HD;have HX:=zh hx;clear hx;go_wp2_with (go_at_call 97;refine(HD.out _).mono ?_;rintro e w1 ⟨rfl,rfl⟩);exact⟨⟨n+1,by go_num,by omega,(e8w (by rw[J6.out];exact hlt) (by rw[hg.out];exact HX.out)).trans HT.out⟩,by simp[intOf];omega⟩
   | false =>
    rw[hx] at HD;have HX:=zh hx;clear hx;go_wp2_with (go_at_call 97;refine(HD.out _).mono ?_;rintro e w1 ⟨rfl,rfl⟩)
    go_ret
    exact⟨a1c (by rw[<-HT.out,e8x (by rw[J6.out];exact hlt) (by rw[hg.out];exact HX.out)]),rfl⟩
  ·
   have hn':n=s.size:=by omega
   go_wp2
   go_ret
   exact⟨a1c (by rw[<-HT.out,f0k (by rw[J6.out];omega)];try omega),rfl⟩
theorem e3n (x:UInt8) (w:World) :
  Cz 102 #[.int .u8 (x.toNat:Int)] w fun e w'=>e=.returned (I6 (d8m x))/\w'=w:=by
 have JY:=Qw
 have hr:d8m x=if x.toNat=40 then 5 else if x.toNat=41 then 6 else if x.toNat=44 then 7 else if x.toNat=58 then 8 else if x.toNat=33 then 9 else if x.toNat=43\/x.toNat=45\/x.toNat=42\/x.toNat=47\/x.toNat=94\/x.toNat=38\/x.toNat=61\/x.toNat=60\/x.toNat=62\/x.toNat=37 then 4 else 0:=by
  unfold d8m;simp only[<-UInt8.toNat_inj];rfl
 have HR:=zh hr;clear hr;generalize x.toNat=n at *;go_enter Tryz.func102,Tryz.ntmps102
 go_wp2
 all_goals go_ret
 all_goals refine⟨a1c ?_,rfl⟩
 all_goals rw[HR.out]
 all_goals clear HR
 all_goals try simp only[beq_iff_eq,beq_eq_false_iff_ne,bne_iff_ne,bne_eq_false_iff_eq,ne_eq] at *
 all_goals (repeat' split)<;>omega
theorem d8l (n:Nat) (w:World) (h1:1<=n) (h7:n<=7) :
  Ca 133 #[I6 (n:Int)] w (Sg (XQ n)):=by
 have JY:=Qw;obtain⟨wo,hwo⟩:=nM w;have h:n=1\/n=2\/n=3\/n=4\/n=5\/n=6\/n=7:=by omega
 clear h1 h7 hwo wo
 rcases h with rfl | rfl | rfl | rfl | rfl | rfl | rfl
 all_goals
  go_enter Tryz.func133,Tryz.ntmps133
  go_wp2
  go_ret
  exact⟨rfl,by repeat (with_reducible first | exact Below.refl _ _ | apply X7 | apply Below.drew)⟩
set_option maxHeartbeats 8000000
theorem f0l (acc:List UInt8) (n:Nat):txE [] acc n=none:=by unfold txE;rfl
theorem f1x {c:UInt8} {r acc:List UInt8} {n:Nat} (h:c≠34):txE (c :: r) acc n=txE r (acc ++ [c]) (n+1):=by rw[txE.eq_def];simp[h]
theorem f0m {r acc:List UInt8} {n:Nat} : txE (34 :: 34 :: r) acc n=txE r (acc ++ [34]) (n+2):=by rw[txE.eq_def];simp
theorem e8y {d:UInt8} {r acc:List UInt8} {n:Nat} (h:d≠34):txE (34 :: d :: r) acc n=some (acc,n+1):=by rw[txE.eq_def];simp[h]
theorem e8z {acc:List UInt8} {n:Nat} : txE [34] acc n=some (acc,n+1):=by rw[txE.eq_def];simp
theorem e3o {l:List UInt8} {n:Nat} (h:n<l.length):l.drop n=l[n] :: l.drop (n+1):=List.drop_eq_getElem_cons h
def f3t (s:jW) (a:Nat) (G:Option (List UInt8 × Nat)) (o i:Value):Prop:=∃ (n:Nat) (acc:List UInt8),i=I6 n/\o=Sg (QK acc)/\a+1<=n/\n<=s.size/\acc.length<=n/\txE (s.data.toList.drop n) acc (n-a)=G
def d9l (a:Nat) (G:Option (List UInt8 × Nat)):Tok × Nat × Int:=match G with
 | some (x,n)=>if b7h (QK x) then (⟨2,QK x,a,⟨#[]⟩,⟨#[]⟩⟩,a+n,0) else (e6a,a,10)
 | none=>(e6a,a,10)
def lxV (q:Tok × Nat × Int):Value:=.tuple #[e7q q.1,I6 (q.2.1:Nat),I6 q.2.2]
theorem e0b (l:List UInt8) (x:jW):QK l++x=QK (l++x.data.toList):=by
 apply ByteArray.ext;rw[ByteArray.data_append];apply Array.toList_inj.1;simp[QK]
theorem f1y {s:jW} {n:Nat} (h:n<s.size):(s.extract n (n+1)).data.toList=[s[n]]:=by
 obtain⟨⟨l⟩⟩:=s;have h':n<l.length:=h;rw[ByteArray.data_extract];simp only[Array.toList_extract,List.extract_eq_take_drop];rw[show n+1-n=1 by omega,e3o h'];rfl
theorem e3p (s:jW) (a:Nat) (w:World) (hs:s.size<=300) (ha:a<s.size) :
  Ca 99 #[Sg s,I6 (a:Int)] w (lxV (d9l a (txE (s.data.toList.drop (a+1)) [] 1))):=by
 have JY:=Qw;have hl:s.data.toList.length=s.size:=by simp
 obtain⟨G,hG⟩:∃ G,txE (s.data.toList.drop (a+1)) [] 1=G:=⟨_,rfl⟩;rw[hG];obtain⟨Po,hPo⟩:∃ Po:Ending->World->Prop,Po=fun e w'=>e=.returned (lxV (d9l a G))/\Bl w w':=⟨_,rfl⟩
 have hno:G=none->lxV (d9l a G)=.tuple #[.agg #[I6 0,S0,I6 0,Bv false,S0,S0],I6 (a:Int),I6 10]:=fun h=>by rw[h];rfl
 have hbad:∀ x n,G=some (x,n)->b7h (QK x)=false->lxV (d9l a G)=.tuple #[.agg #[I6 0,S0,I6 0,Bv false,S0,S0],I6 (a:Int),I6 10]:=fun x n h h2=>by rw[h];unfold d9l;dsimp only;rw[h2];rfl
 have hok:∀ x n,G=some (x,n)->b7h (QK x)=true->lxV (d9l a G)=.tuple #[.agg #[I6 2,Sg (QK x),I6 (a:Int),Bv false,S0,S0],I6 ((a+n:Nat):Int),I6 0]:=fun x n h h2=>by rw[h];unfold d9l;dsimp only;rw[h2];rfl
 have HNO:=zh hno;have HBAD:=zh hbad;have HOK:=zh hok;have HG:=zh hG;have J6:=zh hl;obtain⟨V,hV⟩:∃ V,lxV (d9l a G)=V:=⟨_,rfl⟩;rw[hV] at HNO HBAD HOK |-
 clear hl hG hPo hno hbad hok hV;go_enter Tryz.func99,Tryz.ntmps99;go_wp2_with fail;obtain⟨s1,C,j6,qq,j8,zC⟩:=qy w (.cells #[I6 0,S0,I6 0,Bv false,S0,S0] 54);have yC:=qZ (b:=C) j6 qq;have fC:=Qq (b:=C) j6 qq;have lC:w.heap.size<=C:=by omega
 have j7:=qQ bR j6;rw[<-j6];try rw[<-qq]
 clear j6 j8 qq
 go_loop [7,8] (f3t s a G) (fun _ i=>s.size-(intOf i).toNat)
 case atStart=>exact⟨a+1,[],by go_num,rfl,by omega,by omega,by simp,by rw[show a+1-a=1 by omega];exact HG.out⟩
 case round =>
  obtain⟨n,acc,rfl,rfl,hn1,hn2,hacc,hT⟩:=hrel;have hbs:(QK acc).size<=300:=by rw[d8i];omega
  by_cases hlt:n<s.size
  ·
   have hg:=a4p s n hlt;have hdr:s.data.toList.drop n=s[n] :: s.data.toList.drop (n+1):=by rw[e3o (by rw[J6.out];exact hlt),hg]
   have h34:(s[n]==34)=(((s[n].toNat:Nat):Int)==34):=e0u s[n] 34 (by omega);rw[hdr] at hT;by_cases hq:s[n]=34
   ·
    have hi:((s[n].toNat:Nat):Int)=34:=by rw[hq];rfl
    by_cases h2:n+1<s.size
    ·
     have hg2:=a4p s (n+1) h2;have hdr2:s.data.toList.drop (n+1)=s[n+1] :: s.data.toList.drop (n+2):=by rw[e3o (by rw[J6.out];exact h2),hg2]
     rw[hdr2,hq] at hT;by_cases hq2:s[n+1]=34
     ·
      have hi2:((s[n+1].toNat:Nat):Int)=34:=by rw[hq2];rfl
      rw[hq2,f0m] at hT;have HT:=zh hT;have hap:QK acc++⟨#[34]⟩=QK (acc ++ [34]):=e0b _ _;have HAP:=zh hap;clear hT hap hdr hdr2 hg hg2 hq hq2 h34 JY;generalize QK acc=B at *
      go_wp2
      exact⟨⟨n+2,acc ++ [34],by go_num,by rw[<-HAP.out],by omega,by omega,by rw[jM,List.length_singleton];omega,by rw[show n+2-a=n-a+2 by omega];exact HT.out⟩,by simp[intOf];omega⟩
     ·
      have hi2 : ¬ ((s[n+1].toNat:Nat):Int)=34:=fun h=>hq2 (by rw[<-UInt8.toNat_inj];exact Int.ofNat.inj h)
      rw[e8y hq2] at hT;have hpl:=fun w=>c0r (QK acc) w (by unfold maxLen;omega)
      cases hp:b7h (QK acc) with
      | true =>
       have HV:=zh (HOK.out _ _ hT.symm hp);rw[hp] at hpl;have HPL:=zh hpl;have e1:((a+(n-a+1):Nat):Int)=(n:Int)+1:=by omega
       rw[e1] at HV;clear hT hdr hdr2 hg hg2 hq hq2 h34 hpl hp e1;generalize QK acc=B at *;go_wp2_with (go_at_call 68;refine(HPL.out _).mono ?_;rintro e w1 ⟨rfl,rfl⟩)
       all_goals go_wp2
       all_goals refine jU (v:=.tuple #[.agg #[I6 2,Sg B,I6 (a:Int),Bv false,S0,S0],I6 ((n:Int)+1),I6 0]) (by simp[results,Tryz.results99,go_sem,yC,zC]) rfl ⟨congrArg jV HV.out.symm,?_⟩
       all_goals exact(Q8 (j7.setCell lC _) lC)
      | false =>
       have HV:=zh (HBAD.out _ _ hT.symm hp);rw[hp] at hpl;have HPL:=zh hpl;clear hT hdr hdr2 hg hg2 hq hq2 h34 hpl hp;generalize QK acc=B at *;go_wp2_with (go_at_call 68;refine(HPL.out _).mono ?_;rintro e w1 ⟨rfl,rfl⟩)
       all_goals go_wp2
       all_goals refine jU (v:=.tuple #[.agg #[I6 0,S0,I6 0,Bv false,S0,S0],I6 (a:Int),I6 10]) (by simp[results,Tryz.results99,go_sem,yC,zC]) rfl ⟨congrArg jV HV.out.symm,?_⟩
       all_goals exact(Q8 (j7.setCell lC _) lC)
    ·
     have hdr2:s.data.toList.drop (n+1)=[]:=List.drop_eq_nil_of_le (by rw[J6.out];omega);rw[hdr2,hq,e8z] at hT;have hpl:=fun w=>c0r (QK acc) w (by unfold maxLen;omega)
     cases hp:b7h (QK acc) with
     | true =>
      have HV:=zh (HOK.out _ _ hT.symm hp);rw[hp] at hpl;have HPL:=zh hpl;have e1:((a+(n-a+1):Nat):Int)=(n:Int)+1:=by omega
      rw[e1] at HV;clear hT hdr hdr2 hg hq h34 hpl hp e1;generalize QK acc=B at *;go_wp2_with (go_at_call 68;refine(HPL.out _).mono ?_;rintro e w1 ⟨rfl,rfl⟩)
      all_goals go_wp2
      all_goals refine jU (v:=.tuple #[.agg #[I6 2,Sg B,I6 (a:Int),Bv false,S0,S0],I6 ((n:Int)+1),I6 0]) (by simp[results,Tryz.results99,go_sem,yC,zC]) rfl ⟨congrArg jV HV.out.symm,?_⟩
      all_goals exact(Q8 (j7.setCell lC _) lC)
     | false =>
      have HV:=zh (HBAD.out _ _ hT.symm hp);rw[hp] at hpl;have HPL:=zh hpl;clear hT hdr hdr2 hg hq h34 hpl hp;generalize QK acc=B at *;go_wp2_with (go_at_call 68;refine(HPL.out _).mono ?_;rintro e w1 ⟨rfl,rfl⟩)
      all_goals go_wp2
      all_goals refine jU (v:=.tuple #[.agg #[I6 0,S0,I6 0,Bv false,S0,S0],I6 (a:Int),I6 10]) (by simp[results,Tryz.results99,go_sem,yC,zC]) rfl ⟨congrArg jV HV.out.symm,?_⟩
      all_goals exact(Q8 (j7.setCell lC _) lC)
   ·
    have hi : ¬ ((s[n].toNat:Nat):Int)=34:=fun h=>hq (by rw[<-UInt8.toNat_inj];exact Int.ofNat.inj h)
    rw[f1x hq] at hT;have HT:=zh hT;have hap:QK acc++s.extract n (n+1)=QK (acc ++ [s[n]]):=by rw[e0b,f1y hlt]
    have hes:(s.extract n (n+1)).size=1:=by simp;omega
    have HAP:=zh hap;clear hT hap hdr hg hq h34 JY;generalize QK acc=B at *;generalize hX:s.extract n (n+1)=X at *
    go_wp2
    exact⟨⟨n+1,acc ++ [s[n]],by go_num,by rw[<-HAP.out],by omega,by omega,by rw[jM,List.length_singleton];omega,by rw[show n+1-a=n-a+1 by omega];exact HT.out⟩,by simp[intOf];omega⟩
  ·
   have hdr:s.data.toList.drop n=[]:=List.drop_eq_nil_of_le (by rw[J6.out];omega);rw[hdr,f0l] at hT;have HV:=zh (HNO.out hT.symm);clear hT hdr
   all_goals go_wp2
   all_goals refine jU (v:=.tuple #[.agg #[I6 0,S0,I6 0,Bv false,S0,S0],I6 (a:Int),I6 10]) (by simp[results,Tryz.results99,go_sem,yC,zC]) rfl ⟨congrArg jV HV.out.symm,?_⟩
   all_goals exact(Q8 (j7.setCell lC _) lC)
def e6z (l b:List UInt8) (i:Nat):List UInt8:=if (XQ i).size > b.length/\(XQ i).data.toList.isPrefixOf l then (XQ i).data.toList else b
def d8j (l:List UInt8) (k:Nat):List UInt8:=(List.range k).foldl (e6z l) []
theorem f0n (l:List UInt8):d8j l 8=d7q l:=rfl
theorem f0o (l:List UInt8):d8j l 1=[]:=by
 unfold d8j;rw[show List.range 1=[0] from rfl,List.foldl_cons,List.foldl_nil];unfold e6z;rw[if_neg];rintro ⟨h,_⟩;exact absurd h (by decide)
theorem e0v (l:List UInt8) (k:Nat):d8j l (k+1)=e6z l (d8j l k) k:=by
 unfold d8j;rw[List.range_succ,List.foldl_append,List.foldl_cons,List.foldl_nil]
theorem e4i (k:Nat):(XQ k).size<=10:=by
 match k with
 | 0 | 1 | 2 | 3 | 4 | 5 | 6 | 7=>decide
 | k+8=>exact(by decide:(ByteArray.mk #[]).size<=10)
theorem e5w (l:List UInt8) (k:Nat):(d8j l k).length<=10:=by
 induction k with
 | zero=>exact Nat.zero_le _
 | succ k ih =>
  rw[e0v];unfold e6z
  split
  ·
   exact e4i k
  ·
   exact ih
theorem f0p {s N:jW} {a:Nat} : ((N.data.toList.isPrefixOf (s.data.toList.drop a))=true ↔ (a+N.size<=s.size\/N.size=0)/\s.extract a (a+N.size)=N):=by
 obtain⟨⟨l⟩⟩:=s;obtain⟨⟨n⟩⟩:=N
 have e:(ByteArray.mk ⟨l⟩).extract a (a+(ByteArray.mk ⟨n⟩).size)=⟨⟨(l.drop a).take n.length⟩⟩:=by
  apply ByteArray.ext;apply Array.toList_inj.1;rw[ByteArray.data_extract];simp only[Array.toList_extract,List.extract_eq_take_drop];show List.take (a+n.length-a) (List.drop a l)=_;rw[Nat.add_sub_cancel_left]
 rw[e,List.isPrefixOf_iff_prefix];show n <+: l.drop a ↔ (a+n.length<=l.length\/n.length=0)/\_;constructor
 ·
  intro h;have h2:=h.length_le;rw[List.length_drop] at h2;refine⟨?_,?_⟩
  ·
   rcases Nat.eq_zero_or_pos n.length with h3 | h3
   ·
    exact Or.inr h3
   ·
    exact Or.inl (by omega)
  ·
   rw[<-List.prefix_iff_eq_take.1 h]
 ·
  rintro ⟨_,h⟩;have:(l.drop a).take n.length=n:=by injection h with h;injection h
  rw[<-this];exact List.take_prefix _ _
theorem e7a:(QK []).toList=[]:=by rw[jI];rfl
theorem e9a {l:List UInt8} (h:l≠[]) : ¬ (QK l).toList=[]:=by rw[jI];exact h
def e0k (a:Nat) (l:List UInt8):Tok × Nat × Int:=if d7q l=[] then (e6a,a,10) else (⟨10,QK (d7q l),a,⟨#[]⟩,⟨#[]⟩⟩,a+(d7q l).length,0)
def f0q (t0:World) (l:List UInt8) (b i:Value) (wr:World):Prop:=∃ k:Nat,i=I6 k/\1<=k/\k<=8/\b=Sg (QK (d8j l k))/\Bl t0 wr
theorem e2k (s:jW) (a:Nat) (w:World) (hs:s.size<=300) (ha:a<s.size) :
  Ca 100 #[Sg s,I6 (a:Int)] w (lxV (e0k a (s.data.toList.drop a))):=by
 obtain⟨l,hl⟩:=nM (s.data.toList.drop a);rw[<-hl];have hno:d7q l=[]->lxV (e0k a l)=.tuple #[.agg #[I6 0,S0,I6 0,Bv false,S0,S0],I6 (a:Int),I6 10]:=fun h=>by unfold e0k;rw[if_pos h];rfl
 have hok:d7q l≠[]->lxV (e0k a l)=.tuple #[.agg #[I6 10,Sg (QK (d7q l)),I6 (a:Int),Bv false,S0,S0],I6 ((a+(d7q l).length:Nat):Int),I6 0]:=fun h=>by unfold e0k;rw[if_neg h];rfl
 have HNO:=zh hno;have HOK:=zh hok;have HL:=zh hl;obtain⟨V,hV⟩:∃ V,lxV (e0k a l)=V:=⟨_,rfl⟩;rw[hV] at HNO HOK |-
 clear hno hok hl hV;go_enter Tryz.func100,Tryz.ntmps100;go_wp2_with fail;obtain⟨s1,C,j6,qq,j8,zC⟩:=qy w (.cells #[I6 0,S0,I6 0,Bv false,S0,S0] 54);have hN:=Qz (b:=C) j6 qq;have hM:=Qq (b:=C) j6 qq;have Yq:=hN 0 _ rfl;have Yj:=hN 1 _ rfl;have kC2:=hN 2 _ rfl;have kC3:=hN 3 _ rfl;have kC4:=hN 4 _ rfl;have kC5:=hN 5 _ rfl;have YV:=hM 0;have YK:=hM 1;have fC2:=hM 2;have fC3:=hM 3;have fC4:=hM 4;have fC5:=hM 5;clear hN hM;have lC:w.heap.size<=C:=by omega
 have j7:=qQ bR j6;rw[<-j6];try rw[<-qq]
 clear j6 j8 qq
 go_loopw [7,8] (f0q s1 l) (fun _ i _=>8-(intOf i).toNat)
 case atStart=>exact⟨1,rfl,by omega,by omega,by rw[f0o];rfl,Below.refl _ _⟩
 case round =>
  obtain⟨k,rfl,hk1,hk8,rfl,hW⟩:=hrel;have hbz:=e5w l k;by_cases hlt:k<8
  ·
   have HN:=zh (fun w=>d8l k w hk1 (by omega));have hst:=e0v l k;have hnz:=e4i k;have hpe:=f0p (s:=s) (N:=XQ k) (a:=a);rw[<-HL.out] at hpe
   have hnn:(XQ k).size≠0:=by
    have:k=1\/k=2\/k=3\/k=4\/k=5\/k=6\/k=7:=by omega
    rcases this with rfl | rfl | rfl | rfl | rfl | rfl | rfl<;>decide
   unfold e6z at hst;have hNB:QK (XQ k).data.toList=XQ k:=rfl;have HW:=zh hW;have hB1:(QK (d8j l k)).size=(d8j l k).length:=d8i _
   have hx3:((s.extract a (a+(XQ k).size)).toList==(XQ k).toList)=true ↔ s.extract a (a+(XQ k).size)=XQ k:=by
    rw[beq_iff_eq,jI,jI];exact⟨fun h=>ByteArray.ext (Array.toList_inj.1 h),fun h=>by rw[h]⟩
   have hyes:(d8j l k).length<(XQ k).size->a+(XQ k).size<=s.size->((s.extract a (a+(XQ k).size)).toList==(XQ k).toList)=true->QK (d8j l (k+1))=XQ k:=fun c1 c2 c3=>by
    rw[if_pos ⟨c1,hpe.2 ⟨Or.inl c2,hx3.1 c3⟩⟩] at hst;rw[hst,hNB]
   have hnot : ¬ ((d8j l k).length<(XQ k).size/\a+(XQ k).size<=s.size/\((s.extract a (a+(XQ k).size)).toList==(XQ k).toList)=true)->QK (d8j l (k+1))=QK (d8j l k):=fun h=>by
    rw[if_neg (fun h2=>h ⟨h2.1,((hpe.1 h2.2).1.resolve_right hnn),hx3.2 (hpe.1 h2.2).2⟩)] at hst;rw[hst]
   have HYES:=zh hyes;have HNOT:=zh hnot;clear hst hpe hNB hnn hW hx3 hyes hnot;rw[<-hB1] at HYES HNOT;generalize QK (d8j l k)=B at *;generalize XQ k=M at *;have hb3:B.size<=10:=by omega
   clear hbz hB1;by_cases c1:B.size<M.size
   ·
    by_cases c2:a+M.size<=s.size
    ·
     cases c3:((s.extract a (a+M.size)).toList==M.toList) with
     | true =>
      have HST:=zh (HYES.out c1 c2 c3);clear HYES HNOT;go_wp2_with (go_at_call 133;refine jy (HN.out _) fun w2 hb=>?_);exact⟨⟨k+1,by go_num,by omega,by omega,by rw[HST.out],HW.out.trans (hb.mono HW.out.size)⟩,by simp[intOf];omega⟩
     | false =>
      have HST:=zh (HNOT.out (fun h=>by rw[c3] at h;exact Bool.noConfusion h.2.2));clear HYES HNOT;go_wp2_with (go_at_call 133;refine jy (HN.out _) fun w2 hb=>?_);exact⟨⟨k+1,by go_num,by omega,by omega,by rw[HST.out],HW.out.trans (hb.mono HW.out.size)⟩,by simp[intOf];omega⟩
    ·
     have HST:=zh (HNOT.out (fun h=>c2 h.2.1));clear HYES HNOT;go_wp2_with (go_at_call 133;refine jy (HN.out _) fun w2 hb=>?_);exact⟨⟨k+1,by go_num,by omega,by omega,by rw[HST.out],HW.out.trans (hb.mono HW.out.size)⟩,by simp[intOf];omega⟩
   ·
    have HST:=zh (HNOT.out (fun h=>c1 h.1));clear HYES HNOT;go_wp2_with (go_at_call 133;refine jy (HN.out _) fun w2 hb=>?_);exact⟨⟨k+1,by go_num,by omega,by omega,by rw[HST.out],HW.out.trans (hb.mono HW.out.size)⟩,by simp[intOf];omega⟩
  ·
   obtain rfl:k=8:=by omega
   rw[f0n] at hbz |-
   have hB1:(QK (d7q l)).size=(d7q l).length:=d8i _;obtain⟨jk,qK⟩:=a0k hW;have Yq:=(jk C 0 zC).trans Yq;have Yj:=(jk C 1 zC).trans Yj;have kC2:=(jk C 2 zC).trans kC2;have kC3:=(jk C 3 zC).trans kC3;have kC4:=(jk C 4 zC).trans kC4;have kC5:=(jk C 5 zC).trans kC5;have YV:=(qK C 0 zC).trans YV;have YK:=(qK C 1 zC).trans YK;have fC2:=(qK C 2 zC).trans fC2;have fC3:=(qK C 3 zC).trans fC3;have fC4:=(qK C 4 zC).trans fC4;have fC5:=(qK C 5 zC).trans fC5;have j7:=bT j7 hW;clear jk qK hW;by_cases hn:d7q l=[]
   ·
    have HV:=zh (HNO.out hn);have hn1:(QK (d7q l)).toList=[]:=by rw[hn];exact e7a
    generalize QK (d7q l)=B at *;clear hn hB1
    all_goals go_wp2
    all_goals refine jU (v:=.tuple #[.agg #[I6 0,S0,I6 0,Bv false,S0,S0],I6 (a:Int),I6 10]) (by simp[results,Tryz.results100,go_sem,Yq,Yj,kC2,kC3,kC4,kC5]) rfl ⟨congrArg jV HV.out.symm,?_⟩
    all_goals exact(Q8 (j7.setCell lC _) lC)
   ·
    have HV:=zh (HOK.out hn);have hn1 : ¬ (QK (d7q l)).toList=[]:=e9a hn;have hn2:(QK (d7q l)).toList.isEmpty=false:=by simpa using hn1
    rw[<-hB1] at HV hbz;generalize QK (d7q l)=B at *;have e1:((a+B.size:Nat):Int)=(a:Int)+(B.size:Int):=by omega
    rw[e1] at HV;clear hn e1 hB1
    all_goals go_wp2
    all_goals refine jU (v:=.tuple #[.agg #[I6 10,Sg B,I6 (a:Int),Bv false,S0,S0],I6 ((a:Int)+(B.size:Int)),I6 0]) (by simp[results,Tryz.results100,go_sem,Yq,Yj,kC2,kC3,kC4,kC5]) rfl ⟨congrArg jV HV.out.symm,?_⟩
    all_goals exact(Q8 (j7.setCell lC _) lC)
