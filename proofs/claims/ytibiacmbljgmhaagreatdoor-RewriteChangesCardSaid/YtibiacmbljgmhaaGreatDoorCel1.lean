import Derived.Test.YtibiacmbljgmhaaGreatDoorDec1
import Derived.Test.YtibiacmbljgmhaaGreatDoorBox
import Derived.Lib.Case
import Derived.Laws.IdiomStrings
import Derived.Lib.ConvBytes
namespace Go.Proofs.YtibiacmbljgmhaaGreatDoor
set_option linter.all false
open Go.RowKit Go.Shelf
def a2a (b:UInt8):Bool:=decide (65<=b.toNat/\b.toNat<=90\/97<=b.toNat/\b.toNat<=122)
def a4l (b:UInt8):Bool:=a2a b || Nt.isDig b || b==95
def a8w (l:List UInt8):Bool :=
 decide (l.length-(l.dropWhile a2a).length<=2)&&decide (1<=(l.dropWhile a2a).length)&&decide ((l.dropWhile a2a).length<=3)&&(l.dropWhile a2a).all Nt.isDig
def c0z (l:List UInt8):Bool :=
 decide (1<=(l.takeWhile X1).length)&&decide ((l.takeWhile X1).length<=2)&&decide (1<=(l.dropWhile X1).length)&&decide ((l.dropWhile X1).length<=3)&&(l.dropWhile X1).all Nt.isDig
def a7f:List UInt8:=[84,82,85,69]
def a4h:List UInt8:=[70,65,76,83,69]
def c8a (l:List UInt8):Bool :=
 decide (1<=l.length)&&decide (l.length<=12)&&a2a (l.headD 0)&&l.all a4l && !(Lib.toUpperA l==a7f) && !(Lib.toUpperA l==a4h) && !a8w l
def b4n (s:jW):Bool:=c8a s.data.toList
theorem a8e (b:UInt8):X1 (Lib.upperB b)=a2a b/\Nt.isDig (Lib.upperB b)=Nt.isDig b:=by
 have h:∀ n:Fin 256,X1 (Lib.upperB (UInt8.ofNat n.val))=a2a (UInt8.ofNat n.val)/\Nt.isDig (Lib.upperB (UInt8.ofNat n.val))=Nt.isDig (UInt8.ofNat n.val):=by decide +kernel
 have:=h ⟨b.toNat,UInt8.toNat_lt b⟩
 rwa [show UInt8.ofNat (⟨b.toNat,UInt8.toNat_lt b⟩:Fin 256).val=b from UInt8.ofNat_toNat] at this
theorem c1a {b:UInt8} (h:a4l b=true):b.toNat<128:=by
 have h2:∀ n:Fin 256,a4l (UInt8.ofNat n.val)=true->(UInt8.ofNat n.val).toNat<128:=by decide +kernel
 have:=h2 ⟨b.toNat,UInt8.toNat_lt b⟩;rw[show UInt8.ofNat (⟨b.toNat,UInt8.toNat_lt b⟩:Fin 256).val=b from UInt8.ofNat_toNat] at this;exact this h
theorem a6u:∀ l:List UInt8,(Lib.toUpperA l).takeWhile X1=Lib.toUpperA (l.takeWhile a2a)
 | []=>rfl
 | b :: l=>by
  have hb:=(a8e b).1;have ih:=a6u l;unfold Lib.toUpperA at ih |-
  rw[List.map_cons,List.takeWhile_cons,List.takeWhile_cons,hb]
  split
  ·
   rw[List.map_cons,ih]
  ·
   rfl
theorem a6v:∀ l:List UInt8,(Lib.toUpperA l).dropWhile X1=Lib.toUpperA (l.dropWhile a2a)
 | []=>rfl
 | b :: l=>by
  have hb:=(a8e b).1;have ih:=a6v l;unfold Lib.toUpperA at ih |-
  rw[List.map_cons,List.dropWhile_cons,List.dropWhile_cons,hb]
  split
  ·
   rw[ih]
  ·
   rfl
theorem c4t:∀ l:List UInt8,(Lib.toUpperA l).all Nt.isDig=l.all Nt.isDig
 | []=>rfl
 | b :: l=>by
  have ih:=c4t l;unfold Lib.toUpperA at ih |-
  rw[List.map_cons,List.all_cons,List.all_cons,ih,(a8e b).2]
theorem a8f (l:List UInt8):(Lib.toUpperA l).length=l.length:=by unfold Lib.toUpperA;simp
theorem c1b {l:List UInt8} (h:a2a (l.headD 0)=true) (h1:1<=l.length):c0z (Lib.toUpperA l)=a8w l:=by
 unfold c0z a8w;rw[a6u,a6v,c4t,a8f,a8f];have hs:=congrArg List.length (List.takeWhile_append_dropWhile (p:=a2a) (l:=l));rw[jM] at hs
 have hp:1<=(l.takeWhile a2a).length:=by
  cases l with
  | nil=>simp at h1
  | cons b l =>
   rw[List.takeWhile_cons,show a2a b=true from h];simp
 have e:l.length-(l.dropWhile a2a).length=(l.takeWhile a2a).length:=by omega
 rw[e,jD hp,Bool.true_and]
theorem a4w {l:List UInt8} {p:UInt8->Bool} {n:Nat} (hn:n<l.length) (h:(l.take n).all p=true) (hx:p l[n]=true):(l.take (n+1)).all p=true:=by
 rw[List.take_succ_eq_append_getElem hn,List.all_append,h];simp[hx]
theorem c1c {l:List UInt8} {p:UInt8->Bool} {n:Nat} (hn:n<l.length) (hx:p l[n]=false):l.all p=false:=by
 rw[List.all_eq_false];exact⟨l[n],List.getElem_mem hn,by simp[hx]⟩
theorem a7m {s:jW} (h:s.size=0\/12<s.size):b4n s=false:=by
 have hl:s.data.toList.length=s.size:=by simp
 unfold b4n c8a;rw[hl]
 rcases h with h | h
 ·
  rw[h];rfl
 ·
  rw[jE (by omega : ¬ s.size<=12)];simp
theorem b5y {s:jW} (h0:0<s.size) (h:a2a s[0]=false):b4n s=false:=by
 unfold b4n c8a;rw[a5l h0,h];simp
theorem c1d {s:jW} (h:s.data.toList.all a4l=false):b4n s=false:=by
 unfold b4n c8a;rw[h];simp
theorem c1e {s:jW} (h0:0<s.size) (h1:s.size<=12) (h:a2a s[0]=true) (h2:s.data.toList.all a4l=true) :
  b4n s=(!(Lib.toUpperA s.data.toList==a7f) && !(Lib.toUpperA s.data.toList==a4h) && !a8w s.data.toList):=by
 have hl:s.data.toList.length=s.size:=by simp
 unfold b4n c8a;rw[a5l h0,h,h2,hl,jD (by omega:1<=s.size),jD h1];simp
set_option maxHeartbeats 1000000
set_option maxRecDepth 100000
theorem a6w (x:UInt8) (w:World) :
  Cz 90 #[.int .u8 (x.toNat:Int)] w fun e w'=>e=.returned (Bv (a2a x))/\w'=w:=by
 unfold a2a;generalize x.toNat=n;go_enter Tryz.func90,Tryz.ntmps90
 go_wp2
 all_goals (go_ret;exact⟨J4 (by rw[Bool.eq_iff_iff];simp<;>omega),rfl⟩)
theorem a5v (x:UInt8) (w:World) :
  Cz 94 #[.int .u8 (x.toNat:Int)] w fun e w'=>e=.returned (Bv (a2a x))/\w'=w:=by
 unfold a2a;generalize x.toNat=n;go_enter Tryz.func94,Tryz.ntmps94
 go_wp2
 all_goals (go_ret;exact⟨J4 (by rw[Bool.eq_iff_iff];simp<;>omega),rfl⟩)
theorem b4o (x:UInt8) (w:World) :
  Cz 91 #[.int .u8 (x.toNat:Int)] w fun e w'=>e=.returned (Bv (Nt.isDig x))/\w'=w:=by
 unfold Nt.isDig;generalize x.toNat=n;go_enter Tryz.func91,Tryz.ntmps91
 go_wp2
 all_goals (go_ret;exact⟨J4 (by rw[Bool.eq_iff_iff];simp<;>omega),rfl⟩)
theorem a3u (x:UInt8) (w:World) :
  Cz 97 #[.int .u8 (x.toNat:Int)] w fun e w'=>e=.returned (Bv (Nt.isDig x))/\w'=w:=by
 unfold Nt.isDig;generalize x.toNat=n;go_enter Tryz.func97,Tryz.ntmps97
 go_wp2
 all_goals (go_ret;exact⟨J4 (by rw[Bool.eq_iff_iff];simp<;>omega),rfl⟩)
abbrev lettersB2:jW:=⟨#[65,66,67,68,69,70,71,72,73,74,75,76,77,78,79,80,81,82,83,84,85,86,87,88,89,90,97,98,99,100,101,102,103,104,105,106,107,108,109,110,111,112,113,114,115,116,117,118,119,120,121,122]⟩
theorem b0j (b:UInt8):lettersB2.data.toList.contains b=a2a b:=by
 have h:∀ n:Fin 256,lettersB2.data.toList.contains (UInt8.ofNat n.val)=a2a (UInt8.ofNat n.val):=by decide +kernel
 have:=h ⟨b.toNat,UInt8.toNat_lt b⟩
 rwa [show UInt8.ofNat (⟨b.toNat,UInt8.toNat_lt b⟩:Fin 256).val=b from UInt8.ofNat_toNat] at this
def rest (s:jW):jW:=⟨(s.data.toList.dropWhile a2a).toArray⟩
theorem c1f (s:jW):(rest s).data.toList=s.data.toList.dropWhile a2a:=by unfold rest;simp
theorem c1g (s:jW):(rest s).size<=s.size:=by
 have h1:(rest s).size=(s.data.toList.dropWhile a2a).length:=by unfold rest;show Array.size _=_;simp
 have h2:=(List.dropWhile_sublist a2a (l:=s.data.toList)).length_le;have h3:s.size=s.data.toList.length:=by simp
 omega
theorem a6j (s:jW) (w:World) :
  Ca 129 #[Sg s,Sg lettersB2] w (Sg (rest s)):=by
 refine(Any.strings_TrimLeft_laid Tryz.l161 (by kernel_rfl) s lettersB2 w (by decide) (ascii_of_all (by decide))).mono ?_;rintro e w' ⟨he,hB⟩;refine⟨?_,hB⟩;rw[he];have:(fun b=>(lettersB2.data.toList.contains b))=a2a:=funext b0j;show jV (Sg ⟨(s.data.toList.dropWhile (fun b=>lettersB2.data.toList.contains b)).toArray⟩)=_;rw[this];rfl
theorem c1h (s:jW):a8w s.data.toList=(decide (s.size-(rest s).size<=2)&&decide (1<=(rest s).size)&&decide ((rest s).size<=3)&&(rest s).data.toList.all Nt.isDig):=by
 have h1:(rest s).size=(s.data.toList.dropWhile a2a).length:=by unfold rest;show Array.size _=_;simp
 have h3:s.size=s.data.toList.length:=by simp
 unfold a8w;rw[h1,h3,c1f]
theorem c1i (s:jW) (w:World) (hs:s.size<=maxLen) :
  Ca 93 #[Sg s] w (Bv (a8w s.data.toList)):=by
 have hB:=Below.refl w.heap.size w;have JY:undef=Value.tuple #[]:=rfl;unfold maxLen at hs;have hr:=c1h s;have hz:=c1g s;have HL:=zh (fun w=>a6j s w);have hT:=fun w=>b4p (rest s) w (by omega)
 generalize hbb:a8w s.data.toList=bb at *;generalize rest s=D at *;by_cases h1:s.size-D.size<=2
 ·
  have h1':(s.size:Int)-(D.size:Int)<=2:=by omega
  by_cases h2:1<=D.size
  ·
   by_cases h3:D.size<=3
   ·
    rw[jD h1,jD h2,jD h3,Bool.true_and,Bool.true_and,Bool.true_and] at hr
    cases hall:D.data.toList.all Nt.isDig with
    | true =>
     rw[hall] at hr;rw[c1o hall] at hT;have HR:=zh hr;have HT:=zh hT;clear hr hT hall h1 hbb;go_enter Tryz.func93,Tryz.ntmps93
     go_wp2_with (first
      | (go_at_call 129;with_reducible refine(a2s hB (HL.out _)).mono ?_;clear hB;rintro e w1 ⟨rfl,hB⟩)
      | (go_at_call 130;with_reducible refine(a2s hB (HT.out _)).mono ?_;clear hB;rintro e w1 ⟨rfl,hB⟩))
     all_goals (go_ret;exact⟨J4 HR.out.symm,hB⟩)
    | false =>
     rw[hall] at hr;have hne:=b7j hall;obtain⟨t,ht⟩:∃ t:jW,t=⟨(Lib.trimS D.data.toList digitSet).toArray⟩:=⟨_,rfl⟩;rw[<-ht] at hT
     have htn : ¬ t.toList=[]:=by
      rw[ht,jI];simpa using hne
     have htn2:t.toList.isEmpty=false:=by simpa using htn
     have HR:=zh hr;have HT:=zh hT;clear hr hT hall h1 hbb ht hne;go_enter Tryz.func93,Tryz.ntmps93
     go_wp2_with (first
      | (go_at_call 129;with_reducible refine(a2s hB (HL.out _)).mono ?_;clear hB;rintro e w1 ⟨rfl,hB⟩)
      | (go_at_call 130;with_reducible refine(a2s hB (HT.out _)).mono ?_;clear hB;rintro e w1 ⟨rfl,hB⟩))
     all_goals (go_ret;exact⟨J4 HR.out.symm,hB⟩)
   ·
    rw[jE h3,Bool.and_false,Bool.false_and] at hr;have HR:=zh hr;clear hr hT h1 hbb;go_enter Tryz.func93,Tryz.ntmps93;go_wp2_with (go_at_call 129;with_reducible refine(a2s hB (HL.out _)).mono ?_;clear hB;rintro e w1 ⟨rfl,hB⟩)
    all_goals (go_ret;exact⟨J4 HR.out.symm,hB⟩)
  ·
   rw[jE h2,Bool.and_false,Bool.false_and,Bool.false_and] at hr;have HR:=zh hr;clear hr hT h1 hbb;go_enter Tryz.func93,Tryz.ntmps93;go_wp2_with (go_at_call 129;with_reducible refine(a2s hB (HL.out _)).mono ?_;clear hB;rintro e w1 ⟨rfl,hB⟩)
   all_goals (go_ret;exact⟨J4 HR.out.symm,hB⟩)
 ·
  have h1' : ¬ (s.size:Int)-(D.size:Int)<=2:=by omega
  rw[jE h1,Bool.false_and,Bool.false_and,Bool.false_and] at hr;have HR:=zh hr;clear hr hT h1 hbb;go_enter Tryz.func93,Tryz.ntmps93;go_wp2_with (go_at_call 129;with_reducible refine(a2s hB (HL.out _)).mono ?_;clear hB;rintro e w1 ⟨rfl,hB⟩)
  all_goals (go_ret;exact⟨J4 HR.out.symm,hB⟩)
theorem c3u {p:UInt8->Bool} (l:List UInt8):l.dropWhile p=l.drop (l.takeWhile p).length:=by
 induction l with
 | nil=>rfl
 | cons b l ih =>
  rw[List.dropWhile_cons,List.takeWhile_cons]
  cases h:p b with
  | true=>simpa using ih
  | false=>simp
def c8b (l:List UInt8) (k:Nat) (i:Value):Prop:=∃ n:Nat,i=I6 n/\k<=n/\n<=l.length/\((l.take n).drop k).all Nt.isDig=true
theorem c3v {l:List UInt8} {k n:Nat} (hk:k<=n) (hn:n<l.length) (h:((l.take n).drop k).all Nt.isDig=true) (hx:Nt.isDig l[n]=true):((l.take (n+1)).drop k).all Nt.isDig=true:=by
 rw[List.take_succ_eq_append_getElem hn,List.drop_append_of_le_length (by rw[List.length_take];omega),List.all_append,h];simp[hx]
theorem c3w {l:List UInt8} {k n:Nat} (hk:k<=n) (hn:n<l.length) (hx:Nt.isDig l[n]=false):(l.drop k).all Nt.isDig=false:=by
 rw[List.all_eq_false];refine⟨l[n],?_,by simp[hx]⟩;rw[List.mem_iff_getElem];refine⟨n-k,by rw[List.length_drop];omega,?_⟩;rw[List.getElem_drop]
 congr 1;omega
theorem c6f {l:List UInt8} {k:Nat} (h:(l.takeWhile X1).length=k):c0z l=(decide (1<=k)&&decide (k<=2)&&decide (1<=l.length-k)&&decide (l.length-k<=3)&&(l.drop k).all Nt.isDig):=by
 unfold c0z;rw[c3u (p:=X1) l,h,List.length_drop]
theorem a8x (s:jW) (w:World) (hs:s.size<=maxLen) :
  Cz 95 #[Sg s] w fun e w'=>e=.returned (Bv (c0z s.data.toList))/\w'=w:=by
 have JY:undef=Value.tuple #[]:=rfl;have hl:s.data.toList.length=s.size:=by simp
 have HL:=zh (fun w=>a7p s w hs);unfold maxLen at hs;obtain⟨k,hk⟩:∃ k,(s.data.toList.takeWhile X1).length=k:=⟨_,rfl⟩;have hr:=c6f hk;have hks:k<=s.size:=by rw[<-hk,<-hl];exact(List.takeWhile_sublist _).length_le
 rw[hk] at HL;rw[hl] at hr;clear hk;by_cases h1:1<=k
 ·
  by_cases h2:k<=2
  ·
   by_cases h3:1<=s.size-k
   ·
    by_cases h4:s.size-k<=3
    ·
     rw[jD h1,jD h2,jD h3,jD h4,Bool.true_and,Bool.true_and,Bool.true_and,Bool.true_and] at hr;have HR:=zh hr;have XW:=zh hl;have h3' : ¬ (s.size:Int)-(k:Int)<1:=by omega
     have h4' : ¬ (3:Int)<(s.size:Int)-(k:Int):=by omega
     clear hr hl h3 h4;go_enter Tryz.func95,Tryz.ntmps95;go_wp2_with (go_at_call 121;refine(HL.out _).mono ?_;rintro e w1 ⟨rfl,rfl⟩)
     go_loop [4] (c8b s.data.toList k) (fun i=>s.size-(intOf i).toNat)
     case atStart=>exact⟨k,rfl,by omega,by rw[XW.out];omega,by simp⟩
     case round =>
      obtain⟨n,rfl,hn1,hn2,ha⟩:=hrel;have HA:=zh ha;have hn3:n<=s.size:=by rw[XW.out] at hn2;exact hn2
      clear ha hn2;by_cases hlt:n<s.size
      ·
       have hg:=zh (a4p s n hlt);have HD:=zh (fun w=>a3u s[n] w)
       cases hd:Nt.isDig s[n] with
       | true =>
        rw[hd] at HD;have hd':=zh hd;clear hd;go_wp2_with (go_at_call 97;refine(HD.out _).mono ?_;rintro e w1 ⟨rfl,rfl⟩);refine⟨⟨n+1,by go_num,by omega,by rw[XW.out];omega,?_⟩,by simp[intOf];omega⟩;exact c3v hn1 (by rw[XW.out];exact hlt) HA.out (by rw[hg.out];exact hd'.out)
       | false =>
        rw[hd] at HD;have hd':=zh hd;clear hd;go_wp2_with (go_at_call 97;refine(HD.out _).mono ?_;rintro e w1 ⟨rfl,rfl⟩)
        go_ret
        exact⟨J4 (by rw[HR.out,c3w hn1 (by rw[XW.out];exact hlt) (by rw[hg.out];exact hd'.out)]),rfl⟩
      ·
       have hn':n=s.size:=by omega
       go_wp2
       go_ret
       refine⟨J4 ?_,rfl⟩;have:=HA.out;rw[jS (by rw[XW.out];omega)] at this;rw[HR.out,this]
    ·
     rw[jE h4,Bool.and_false,Bool.false_and] at hr;have HR:=zh hr;have h3' : ¬ (s.size:Int)-(k:Int)<1:=by omega
     have h4':(3:Int)<(s.size:Int)-(k:Int):=by omega
     clear hr hl h3 h4;go_enter Tryz.func95,Tryz.ntmps95;go_wp2_with (go_at_call 121;refine(HL.out _).mono ?_;rintro e w1 ⟨rfl,rfl⟩)
     all_goals (go_ret;exact⟨J4 HR.out.symm,rfl⟩)
   ·
    rw[jE h3,Bool.and_false,Bool.false_and,Bool.false_and] at hr;have HR:=zh hr;have h3':(s.size:Int)-(k:Int)<1:=by omega
    clear hr hl h3;go_enter Tryz.func95,Tryz.ntmps95;go_wp2_with (go_at_call 121;refine(HL.out _).mono ?_;rintro e w1 ⟨rfl,rfl⟩)
    all_goals (go_ret;exact⟨J4 HR.out.symm,rfl⟩)
  ·
   rw[jE h2,Bool.and_false,Bool.false_and,Bool.false_and,Bool.false_and] at hr;have HR:=zh hr;have h2':(2:Int)<(k:Int):=by omega
   clear hr hl;go_enter Tryz.func95,Tryz.ntmps95;go_wp2_with (go_at_call 121;refine(HL.out _).mono ?_;rintro e w1 ⟨rfl,rfl⟩)
   all_goals (go_ret;exact⟨J4 HR.out.symm,rfl⟩)
 ·
  rw[jE h1,Bool.false_and,Bool.false_and,Bool.false_and,Bool.false_and] at hr;have HR:=zh hr;clear hr hl;go_enter Tryz.func95,Tryz.ntmps95;go_wp2_with (go_at_call 121;refine(HL.out _).mono ?_;rintro e w1 ⟨rfl,rfl⟩)
  all_goals (go_ret;exact⟨J4 HR.out.symm,rfl⟩)
def mixU (l:List UInt8) (n:Nat):List UInt8:=(l.take n).map Lib.upperB++l.drop n
theorem b5z (l:List UInt8) (n:Nat) (h:n<=l.length):(mixU l n).length=l.length:=by unfold mixU;simp;omega
theorem c1j (l:List UInt8):mixU l 0=l:=by unfold mixU;simp
theorem d1j (l:List UInt8):mixU l l.length=Lib.toUpperA l:=by unfold mixU Lib.toUpperA;simp
theorem c1k (l:List UInt8) (n:Nat) (h:n<l.length):(mixU l n).getD n 0=l[n]:=by
 unfold mixU;rw[jJ,List.getElem?_append_right (by simp;omega)];simp[Nat.min_eq_left (Nat.le_of_lt h),h]
theorem b2m (l:List UInt8) (n j:Nat) (h:n<l.length):(mixU l (n+1)).getD j 0=if j=n then Lib.upperB l[n] else (mixU l n).getD j 0:=by
 unfold mixU;rw[jJ,jJ];have hn1:(List.map Lib.upperB (l.take (n+1))).length=n+1:=by simp;omega
 have hn0:(List.map Lib.upperB (l.take n)).length=n:=by simp;omega
 rcases Nat.lt_trichotomy j n with hj | hj | hj
 ·
  rw[if_neg (by omega),List.getElem?_append_left (by omega),List.getElem?_append_left (by omega)];simp[List.getElem?_take,hj,Nat.lt_succ_of_lt hj]
 ·
  subst hj;rw[if_pos rfl,List.getElem?_append_left (by omega)];simp[List.getElem?_take,h]
 ·
  rw[if_neg (by omega),List.getElem?_append_right (by omega),List.getElem?_append_right (by omega),hn1,hn0,List.getElem?_drop,List.getElem?_drop]
  congr 2;omega
structure UpAt (l:List UInt8) (g n:Nat) (W:World):Prop where
 c:∀ j,j<l.length->W.cell? ⟨g,j,none⟩=some (.int .u8 (((mixU l n).getD j 0).toNat:Int))
 f:∀ j,j<l.length->W.frozen? ⟨g,j,none⟩=false
theorem UpAt.same {l:List UInt8} {g n:Nat} {W:World} (h:UpAt l g n W) (hn:n<l.length) (hx:Lib.upperB l[n]=l[n]):UpAt l g (n+1) W :=
 ⟨fun j hj=>by
  rw[b2m l n j hn,h.c j hj]
  split
  ·
   rename_i e;subst e;rw[c1k l j hn,hx]
  ·
   rfl,h.f⟩
theorem UpAt.set {l:List UInt8} {g n:Nat} {W:World} (h:UpAt l g n W) (hn:n<l.length) {z:Int} (hz:z=((Lib.upperB l[n]).toNat:Int)):UpAt l g (n+1) (W.setCell ⟨g,n,none⟩ (.int .u8 z)) :=
 ⟨fun j hj=>by
  rw[b2m l n j hn];by_cases e:j=n
  ·
   subst e;rw[if_pos rfl,hz];have h1:=h.c j hn;have h2:=h.f j hn;simp[go_sem,h1,h2]
  ·
   rw[if_neg e,<-h.c j hj];have h1:(⟨g,n,Option.none⟩:Addr)≠⟨g,j,Option.none⟩:=fun h=>e (by injection h with h1 h2;exact h2.symm)
   simp[go_sem,h1,e,Ne.symm e],fun j hj=>by simpa [go_sem] using h.f j hj⟩
theorem a6k (w:World) (e:TypeId) (s:jW) (j:Nat) (hj:j<s.size):(Lib.bytesWorld w e s).frozen? ⟨w.heap.size,j,none⟩=false:=by
 have hc:s.size<=(Lib.bytesCells w e s).size:=by unfold Lib.bytesCells;simp
 simp[World.frozen?,Lib.bytesWorld_at_new];omega
def c8c (s:jW) (w:World) (i:Value) (wr:World):Prop:=∃ n:Nat,i=I6 n/\n<=s.size/\UpAt s.data.toList w.heap.size n wr/\Bl w wr
theorem c1l {x:UInt8} (h1:97<=x.toNat) (h2:x.toNat<=122):IntKind.u8.wrap ((x.toNat:Int)-32)=((Lib.upperB x).toNat:Int):=by
 have h:∀ n:Fin 256,97<=(UInt8.ofNat n.val).toNat->(UInt8.ofNat n.val).toNat<=122->IntKind.u8.wrap (((UInt8.ofNat n.val).toNat:Int)-32)=((Lib.upperB (UInt8.ofNat n.val)).toNat:Int):=by decide +kernel
 have:=h ⟨x.toNat,UInt8.toNat_lt x⟩;rw[show UInt8.ofNat (⟨x.toNat,UInt8.toNat_lt x⟩:Fin 256).val=x from UInt8.ofNat_toNat] at this;exact this h1 h2
theorem b6a {x:UInt8} (h:x.toNat<97\/122<x.toNat):Lib.upperB x=x:=by
 have h2:∀ n:Fin 256,(UInt8.ofNat n.val).toNat<97\/122<(UInt8.ofNat n.val).toNat->Lib.upperB (UInt8.ofNat n.val)=(UInt8.ofNat n.val):=by decide +kernel
 have:=h2 ⟨x.toNat,UInt8.toNat_lt x⟩;rw[show UInt8.ofNat (⟨x.toNat,UInt8.toNat_lt x⟩:Fin 256).val=x from UInt8.ofNat_toNat] at this;exact this h
def upT (s:jW):jW:=⟨(Lib.toUpperA s.data.toList).toArray⟩
theorem b2n (s:jW) (w:World) (hs:s.size<=maxLen) :
  Ca 96 #[Sg s] w (Sg (upT s)):=by
 unfold maxLen at hs;have hl:s.data.toList.length=s.size:=by simp
 have hcv:=Lib.run_convert_string_bytes (P:=Tryz.prog) w 9 130 5 s (u:=.string) Tryz.underlying9 Tryz.underlying130 Tryz.underlying5;have hB0:=a3c w 5 s;have hU0:UpAt s.data.toList w.heap.size 0 (Lib.bytesWorld w 5 s):=⟨fun j hj=>by rw[c1j];exact Lib.bytesWorld_cell w _ s j (by omega),fun j hj=>a6k w _ s j (by omega)⟩;generalize grownCap w s.size 0 5=cap at hcv;generalize Lib.bytesWorld w 5 s=W1 at hcv hB0 hU0;have HU0:=zh hU0;have HB0:=zh hB0;have HL:=zh hl;clear hl hU0 hB0;go_enter Tryz.func96,Tryz.ntmps96
 go_wp2
 go_loopw [4] (c8c s w) (fun i _=>s.size-(intOf i).toNat)
 case atStart=>exact⟨0,rfl,by omega,HU0.out,HB0.out⟩
 case round =>
  obtain⟨n,rfl,hn,hU,hB⟩:=hrel;have HU:=zh hU;have HB:=zh hB;by_cases hlt:n<s.size
  ·
   have hg:=a4p s n hlt;have hc:=hU.c n (by rw[HL.out];exact hlt);have hf:=hU.f n (by rw[HL.out];exact hlt);rw[c1k _ _ (by rw[HL.out];exact hlt)] at hc;obtain⟨x,hx⟩:∃ x:UInt8,x=s.data.toList[n]'(by rw[HL.out];exact hlt):=⟨_,rfl⟩;rw[<-hx] at hc;have HX:=zh hx;clear hg hU hB hx;by_cases h97:97<=x.toNat
   ·
    by_cases h122:x.toNat<=122
    ·
     have hw:=c1l h97 h122;obtain⟨z,hz⟩:∃ z:Int,z=((Lib.upperB x).toNat:Int):=⟨_,rfl⟩;rw[<-hz] at hw;have HZ:=zh hz;clear hz
     go_wp2
     refine⟨⟨n+1,by go_num,by omega,HU.out.set (by rw[HL.out];exact hlt) ?_,HB.out.setCell (jC _) _⟩,by simp[intOf];omega⟩;rw[<-HX.out];exact HZ.out
    ·
     go_wp2
     refine⟨⟨n+1,by go_num,by omega,HU.out.same (by rw[HL.out];exact hlt) ?_,HB.out⟩,by simp[intOf];omega⟩;rw[<-HX.out];exact b6a (by omega)
   ·
    go_wp2
    refine⟨⟨n+1,by go_num,by omega,HU.out.same (by rw[HL.out];exact hlt) ?_,HB.out⟩,by simp[intOf];omega⟩;rw[<-HX.out];exact b6a (by omega)
  ·
   have hn':n=s.size:=by omega
   subst hn'
   have hcb:=run_convert_bytes_back (P:=Tryz.prog) wr 130 9 5 ⟨w.heap.size,0,none⟩ cap (mixU s.data.toList s.size) Tryz.underlying130 Tryz.underlying5 Tryz.underlying9 (fun j hj=>by
    rw[Lib.addr_add,Nat.zero_add,HU.out.c j (by rwa [b5z _ _ (by rw[HL.out];exact jC _)] at hj),jJ,jH hj];rfl)
   rw[b5z _ _ (by rw[HL.out];exact jC _),HL.out] at hcb
   go_wp2
   go_ret
   refine⟨a1l ?_,HB.out⟩;unfold upT;rw[<-d1j,HL.out]
set_option maxHeartbeats 2000000
theorem b6b (s:jW):(upT s).data.toList=Lib.toUpperA s.data.toList:=by unfold upT;simp
theorem b6c (s:jW):(upT s).size=s.size:=by
 have h1:(upT s).size=(Lib.toUpperA s.data.toList).length:=by unfold upT;show Array.size _=_;simp
 rw[h1,a8f];simp
theorem b6d (s:jW) (l:List UInt8):((upT s).toList==l)=(Lib.toUpperA s.data.toList==l):=by rw[jI,b6b]
def c8d (s:jW) (i:Value):Prop:=∃ n:Nat,i=I6 n/\n<=s.size/\(s.data.toList.take n).all a4l=true
theorem b6e {s:jW} {n:Nat} (h:(s.data.toList.take n).all a4l=true) (hn:n=s.size):s.data.toList.all a4l=true:=by
 rwa [jS (by subst hn;simp)] at h
theorem b2o (s:jW) (w:World) (hs:s.size<=maxLen) :
  Ca 51 #[Sg s] w (Bv (b4n s)):=by
 have hB:=Below.refl w.heap.size w;have JY:undef=Value.tuple #[]:=rfl;have hl:s.data.toList.length=s.size:=by simp
 have HU:=zh (fun w=>b2n s w hs);have hA:=fun w=>a8x (upT s) w (by rw[b6c];exact hs)
 rw[b6b] at hA;unfold maxLen at hs;by_cases h0:s.size=0
 ·
  have HR:=zh (a7m (Or.inl h0));go_enter Tryz.func51,Tryz.ntmps51;clear hl hA
  go_wp2
  all_goals (go_ret;exact⟨J4 HR.out.symm,hB⟩)
 by_cases h12:12<s.size
 ·
  have HR:=zh (a7m (Or.inr h12));clear hl hA;go_enter Tryz.func51,Tryz.ntmps51
  go_wp2
  all_goals (go_ret;exact⟨J4 HR.out.symm,hB⟩)
 have hp:0<s.size:=by omega
 have hL:=fun w=>a5v s[0] w
 cases hlet:a2a s[0] with
 | false =>
  have HR:=zh (b5y hp hlet);rw[hlet] at hL;have XW:=zh hL;clear hl hA hL hlet h0;go_enter Tryz.func51,Tryz.ntmps51;go_wp2_with (go_at_call 94;refine(XW.out _).mono ?_;rintro e w1 ⟨rfl,rfl⟩)
  all_goals (go_ret;exact⟨J4 HR.out.symm,hB⟩)
 | true =>
 rw[hlet] at hL;have XW:=zh hL;rw[c1b (by rw[a5l hp];exact hlet) (by omega)] at hA;have HY:=zh (c1e hp (by omega) hlet);have HN:=zh (@c1d s);have q1:=b6d s a7f;have q2:=b6d s a4h;have q3:=b6c s;unfold a7f at q1;unfold a4h at q2;generalize upT s=U at *;rw[show ([84,82,85,69]:List UInt8)=a7f from rfl] at q1;rw[show ([70,65,76,83,69]:List UInt8)=a4h from rfl] at q2;generalize (Lib.toUpperA s.data.toList==a7f)=b1 at *;generalize (Lib.toUpperA s.data.toList==a4h)=b2 at *;generalize a8w s.data.toList=b3 at *;unfold a7f at q1;unfold a4h at q2;have HA:=zh hA;have J6:=zh hl
 have HF:Hid ((b3=true\/b1=true\/b2=true)->b4n s=false):=fun h=>by
  cases ha:s.data.toList.all a4l with
  | false=>exact HN.out ha
  | true =>
   rw[HY.out ha]
   rcases h with h | h | h<;>simp[h]
 clear hl hA hL hlet h0
 cases b3 with
 | true =>
  go_enter Tryz.func51,Tryz.ntmps51
  go_wp2_with (first
   | (go_at_call 94;refine(XW.out _).mono ?_;rintro e w1 ⟨rfl,rfl⟩)
   | (go_at_call 95;refine(HA.out _).mono ?_;rintro e w1 ⟨rfl,rfl⟩)
   | (go_at_call 96;with_reducible refine(a2s hB (HU.out _)).mono ?_;clear hB;rintro e w1 ⟨rfl,hB⟩))
  all_goals (go_ret;exact⟨J4 (HF.out (by simp)).symm,hB⟩)
 | false =>
 cases b1 with
 | true =>
  go_enter Tryz.func51,Tryz.ntmps51
  go_wp2_with (first
   | (go_at_call 94;refine(XW.out _).mono ?_;rintro e w1 ⟨rfl,rfl⟩)
   | (go_at_call 95;refine(HA.out _).mono ?_;rintro e w1 ⟨rfl,rfl⟩)
   | (go_at_call 96;with_reducible refine(a2s hB (HU.out _)).mono ?_;clear hB;rintro e w1 ⟨rfl,hB⟩))
  all_goals (go_ret;exact⟨J4 (HF.out (by simp)).symm,hB⟩)
 | false =>
 cases b2 with
 | true =>
  go_enter Tryz.func51,Tryz.ntmps51
  go_wp2_with (first
   | (go_at_call 94;refine(XW.out _).mono ?_;rintro e w1 ⟨rfl,rfl⟩)
   | (go_at_call 95;refine(HA.out _).mono ?_;rintro e w1 ⟨rfl,rfl⟩)
   | (go_at_call 96;with_reducible refine(a2s hB (HU.out _)).mono ?_;clear hB;rintro e w1 ⟨rfl,hB⟩))
  all_goals (go_ret;exact⟨J4 (HF.out (by simp)).symm,hB⟩)
 | false =>
  go_enter Tryz.func51,Tryz.ntmps51
  go_wp2_with (first
   | (go_at_call 94;refine(XW.out _).mono ?_;rintro e w1 ⟨rfl,rfl⟩)
   | (go_at_call 95;refine(HA.out _).mono ?_;rintro e w1 ⟨rfl,rfl⟩)
   | (go_at_call 96;with_reducible refine(a2s hB (HU.out _)).mono ?_;clear hB;rintro e w1 ⟨rfl,hB⟩))
  go_loop [3] (c8d s) (fun i=>s.size-(intOf i).toNat)
  case atStart=>exact⟨0,rfl,by omega,rfl⟩
  case round =>
   obtain⟨n,rfl,hn,ha⟩:=hrel;have HA2:=zh ha;clear ha;by_cases hlt:n<s.size
   ·
    have hg:=zh (a4p s n hlt);have hL2:=fun w=>a5v s[n] w
    have hD2:=fun w=>a3u s[n] w
    have h95:(s[n]==95)=(((s[n].toNat:Nat):Int)==95):=by
     rw[Bool.eq_iff_iff,beq_iff_eq,beq_iff_eq,<-UInt8.toNat_inj];simp;omega
    cases hx:a4l s[n] with
    | true =>
     have hx':=zh hx;unfold a4l at hx
     cases e1:a2a s[n] with
     | true =>
      rw[e1] at hL2;have HL2:=zh hL2;clear hL2 hD2 hx e1 h95;go_wp2_with (go_at_call 94;refine(HL2.out _).mono ?_;rintro e w1 ⟨rfl,rfl⟩);refine⟨⟨n+1,by go_num,by omega,?_⟩,by simp[intOf];omega⟩;exact a4w (by rw[J6.out];exact hlt) HA2.out (by rw[hg.out];exact hx'.out)
     | false =>
      rw[e1] at hL2 hx
      cases e2:Nt.isDig s[n] with
      | true =>
       rw[e2] at hD2;have HL2:=zh hL2;have HD2:=zh hD2;clear hL2 hD2 hx e1 e2 h95;go_wp2_with (first | (go_at_call 94;refine(HL2.out _).mono ?_;rintro e w1 ⟨rfl,rfl⟩) | (go_at_call 97;refine(HD2.out _).mono ?_;rintro e w1 ⟨rfl,rfl⟩))
       refine⟨⟨n+1,by go_num,by omega,?_⟩,by simp[intOf];omega⟩;exact a4w (by rw[J6.out];exact hlt) HA2.out (by rw[hg.out];exact hx'.out)
      | false =>
       rw[e2] at hD2 hx;rw[Bool.false_or,Bool.false_or,h95] at hx;have HL2:=zh hL2;have HD2:=zh hD2;clear hL2 hD2 e1 e2 h95;go_wp2_with (first | (go_at_call 94;refine(HL2.out _).mono ?_;rintro e w1 ⟨rfl,rfl⟩) | (go_at_call 97;refine(HD2.out _).mono ?_;rintro e w1 ⟨rfl,rfl⟩))
       refine⟨⟨n+1,by go_num,by omega,?_⟩,by simp[intOf];omega⟩;exact a4w (by rw[J6.out];exact hlt) HA2.out (by rw[hg.out];exact hx'.out)
    | false =>
     have hx':=zh hx;unfold a4l at hx;rw[Bool.or_eq_false_iff,Bool.or_eq_false_iff,h95] at hx;obtain⟨⟨e1,e2⟩,e3⟩:=hx;rw[e1] at hL2;rw[e2] at hD2;have HL2:=zh hL2;have HD2:=zh hD2;clear hL2 hD2 e1 e2 h95;go_wp2_with (first | (go_at_call 94;refine(HL2.out _).mono ?_;rintro e w1 ⟨rfl,rfl⟩) | (go_at_call 97;refine(HD2.out _).mono ?_;rintro e w1 ⟨rfl,rfl⟩))
     go_ret
     exact⟨J4 (HN.out (c1c (by rw[J6.out];exact hlt) (by rw[hg.out];exact hx'.out))).symm,hB⟩
   ·
    have hn':n=s.size:=by omega
    go_wp2
    go_ret
    exact⟨J4 (by rw[HY.out (b6e HA2.out hn')];rfl),hB⟩
def c6g (s:jW) (i v:Value):Prop:=∃ n:Nat,i=I6 n/\n<=s.size/\(s.data.toList.take n).all a4l=true
theorem c6h {s:jW} (h:s.data.toList.all a4l=true) (j:Nat) (b:UInt8) (hb:s.data.toList[j]?=some b):b.toNat<128 :=
 c1a (List.all_eq_true.1 h b (List.mem_of_getElem? hb))
theorem c1m (s:jW) (w:World) (hs:s.size<=maxLen) :
  Ca 49 #[Sg s] w (Bv (b4n s)):=by
 have hB:=Below.refl w.heap.size w;have JY:undef=Value.tuple #[]:=rfl;have hl:s.data.toList.length=s.size:=by simp
 have hA:=fun w=>c1i s w hs
 unfold maxLen at hs;by_cases h0:s.size=0
 ·
  have HR:=zh (a7m (Or.inl h0))
  have hn:s.toList=[]:=by
   rw[jI];exact jT (by simpa using h0)
  clear hl hA h0;go_enter Tryz.func49,Tryz.ntmps49
  go_wp2
  all_goals (go_ret;exact⟨J4 HR.out.symm,hB⟩)
 have hne : ¬ s.toList=[]:=by
  rw[jI];intro h;exact h0 (by have:=congrArg List.length h;simpa using this)
 have hne2:s.toList.isEmpty=false:=by simpa using hne
 by_cases h12:12<s.size
 ·
  have HR:=zh (a7m (Or.inr h12));clear hl hA;go_enter Tryz.func49,Tryz.ntmps49
  go_wp2
  all_goals (go_ret;exact⟨J4 HR.out.symm,hB⟩)
 have hp:0<s.size:=by omega
 have hL:=fun w=>a6w s[0] w
 cases hlet:a2a s[0] with
 | false =>
  have HR:=zh (b5y hp hlet);rw[hlet] at hL;have XW:=zh hL;clear hl hA hL hlet h0;go_enter Tryz.func49,Tryz.ntmps49;go_wp2_with (go_at_call 90;refine(XW.out _).mono ?_;rintro e w1 ⟨rfl,rfl⟩)
  all_goals (go_ret;exact⟨J4 HR.out.symm,hB⟩)
 | true =>
 rw[hlet] at hL;have XW:=zh hL;have HY:=zh (c1e hp (by omega) hlet);have HN:=zh (@c1d s);have J6:=zh hl;have HA:=zh hA;have hcv:=Lib.run_convert_string_bytes (P:=Tryz.prog) w 9 130 5 s (u:=.string) Tryz.underlying9 Tryz.underlying130 Tryz.underlying5;have hB0:=a3c w 5 s;have hU0:∀ j,j<s.size->(Lib.bytesWorld w 5 s).cell? ⟨w.heap.size,j,none⟩=some (.int .u8 (s.data.toList.getD j 0).toNat):=fun j hj=>Lib.bytesWorld_cell w _ s j hj
 generalize grownCap w s.size 0 5=cap at hcv;generalize Lib.bytesWorld w 5 s=W1 at hcv hB0 hU0;have HU0:=zh hU0;have HB0:=zh hB0;clear hl hA hL hlet h0 hB hU0 hB0;go_enter Tryz.func49,Tryz.ntmps49;go_wp2_with (go_at_call 90;refine(XW.out _).mono ?_;rintro e w1 ⟨rfl,rfl⟩)
 go_loop [22,4] (c6g s) (fun i _=>s.size-(intOf i).toNat)
 case atStart=>exact⟨0,rfl,by omega,rfl⟩
 case round =>
  obtain⟨n,rfl,hn,ha⟩:=hrel;have HA2:=zh ha;clear ha;by_cases hlt:n<s.size
  ·
   have hc:=HU0.out n hlt;rw[jJ,jH (by rw[J6.out];exact hlt)] at hc;rw[Option.getD_some] at hc;obtain⟨x,hx0⟩:∃ x:UInt8,x=s.data.toList[n]'(by rw[J6.out];exact hlt):=⟨_,rfl⟩;rw[<-hx0] at hc;have HX:=zh hx0;clear hx0;have hL2:=fun w=>a6w x w
   have hD2:=fun w=>b4o x w
   have h95:(x==95)=(((x.toNat:Nat):Int)==95):=by
    rw[Bool.eq_iff_iff,beq_iff_eq,beq_iff_eq,<-UInt8.toNat_inj];simp;omega
   cases hx:a4l x with
   | true =>
    have hx':=zh hx;unfold a4l at hx
    cases e1:a2a x with
    | true =>
     rw[e1] at hL2;have HL2:=zh hL2;clear hL2 hD2 hx e1 h95;go_wp2_with (go_at_call 90;refine(HL2.out _).mono ?_;rintro e w1 ⟨rfl,rfl⟩);refine⟨⟨n+1,by go_num,by omega,?_⟩,by simp[intOf];omega⟩;exact a4w (by rw[J6.out];exact hlt) HA2.out (by rw[<-HX.out];exact hx'.out)
    | false =>
     rw[e1] at hL2 hx
     cases e2:Nt.isDig x with
     | true =>
      rw[e2] at hD2;have HL2:=zh hL2;have HD2:=zh hD2;clear hL2 hD2 hx e1 e2 h95;go_wp2_with (first | (go_at_call 90;refine(HL2.out _).mono ?_;rintro e w1 ⟨rfl,rfl⟩) | (go_at_call 91;refine(HD2.out _).mono ?_;rintro e w1 ⟨rfl,rfl⟩))
      refine⟨⟨n+1,by go_num,by omega,?_⟩,by simp[intOf];omega⟩;exact a4w (by rw[J6.out];exact hlt) HA2.out (by rw[<-HX.out];exact hx'.out)
     | false =>
      rw[e2] at hD2 hx;rw[Bool.false_or,Bool.false_or,h95] at hx;have HL2:=zh hL2;have HD2:=zh hD2;clear hL2 hD2 e1 e2 h95;go_wp2_with (first | (go_at_call 90;refine(HL2.out _).mono ?_;rintro e w1 ⟨rfl,rfl⟩) | (go_at_call 91;refine(HD2.out _).mono ?_;rintro e w1 ⟨rfl,rfl⟩))
      refine⟨⟨n+1,by go_num,by omega,?_⟩,by simp[intOf];omega⟩;exact a4w (by rw[J6.out];exact hlt) HA2.out (by rw[<-HX.out];exact hx'.out)
   | false =>
    have hx':=zh hx;unfold a4l at hx;rw[Bool.or_eq_false_iff,Bool.or_eq_false_iff,h95] at hx;obtain⟨⟨e1,e2⟩,e3⟩:=hx;rw[e1] at hL2;rw[e2] at hD2;have HL2:=zh hL2;have HD2:=zh hD2;clear hL2 hD2 e1 e2 h95;go_wp2_with (first | (go_at_call 90;refine(HL2.out _).mono ?_;rintro e w1 ⟨rfl,rfl⟩) | (go_at_call 91;refine(HD2.out _).mono ?_;rintro e w1 ⟨rfl,rfl⟩))
    go_ret
    exact⟨J4 (HN.out (c1c (by rw[J6.out];exact hlt) (by rw[<-HX.out];exact hx'.out))).symm,HB0.out⟩
  ·
   have hn':n=s.size:=by omega
   have hall:=b6e HA2.out hn';have HU:=zh (fun w=>Tryz.strings_ToUpper_ascii s w (by omega) (c6h hall));have hr:=HY.out hall;have q1:=b6d s a7f;have q2:=b6d s a4h;have q0:(⟨(Lib.toUpperA s.data.toList).toArray⟩:jW)=upT s:=rfl;rw[q0] at HU;unfold a7f at q1;unfold a4h at q2;generalize upT s=U at *;rw[show ([84,82,85,69]:List UInt8)=a7f from rfl] at q1;rw[show ([70,65,76,83,69]:List UInt8)=a4h from rfl] at q2;generalize (Lib.toUpperA s.data.toList==a7f)=b1 at *;generalize (Lib.toUpperA s.data.toList==a4h)=b2 at *;generalize a8w s.data.toList=b3 at *;unfold a7f at q1;unfold a4h at q2;have hB:=HB0.out;have HR:=zh hr;clear hall hr q0
   cases b1 with
   | true =>
    go_wp2_with (go_at_call 92;with_reducible refine(a2s hB (HU.out _)).mono ?_;clear hB;rintro e w1 ⟨rfl,hB⟩)
    all_goals (go_ret;exact⟨J4 (by rw[HR.out];simp),hB⟩)
   | false =>
   cases b2 with
   | true =>
    go_wp2_with (go_at_call 92;with_reducible refine(a2s hB (HU.out _)).mono ?_;clear hB;rintro e w1 ⟨rfl,hB⟩)
    all_goals (go_ret;exact⟨J4 (by rw[HR.out];simp),hB⟩)
   | false =>
    go_wp2_with (first
     | (go_at_call 92;with_reducible refine(a2s hB (HU.out _)).mono ?_;clear hB;rintro e w1 ⟨rfl,hB⟩)
     | (go_at_call 93;with_reducible refine(a2s hB (HA.out _)).mono ?_;clear hB;rintro e w1 ⟨rfl,hB⟩))
    all_goals (go_ret;exact⟨J4 (by rw[HR.out];simp),hB⟩)
set_option maxHeartbeats 1000000
structure Rf where
 sh:jW
 c:Int
 r:Int
 fc:Bool
 fr:Bool
def Jj:Rf:=⟨⟨#[]⟩,0,0,false,false⟩
def a8g (s:jW) (c r:Int):Bool:=(decide (s.size=0) || b4n s)&&YW c r
theorem f0a {s:jW} {c r:Int} (h:a8g s c r=true):1<=c/\c<=52/\1<=r/\r<=99:=by
 unfold a8g at h;rw[Bool.and_eq_true] at h;exact(a9p c r).1 h.2
theorem b2p {s:jW} (h:s.size=0) (c r:Int):a8g s c r=YW c r:=by unfold a8g;simp[h]
theorem b2q {s:jW} (h:s.size≠0) (c r:Int):a8g s c r=(b4n s&&YW c r):=by unfold a8g;simp[h]
theorem c1n {s:jW} (h:s.size=0):s.toList=[]:=by
 rw[jI];exact jT (by simpa using h)
theorem b6f {s:jW} (h:s.size≠0) : ¬ s.toList=[]:=by
 rw[jI];intro h2;exact h (by have:=congrArg List.length h2;simpa using this)
theorem a6l (q:Rf) (b:Bool) (w:World) (hs:q.sh.size<=maxLen) (hb:a8g q.sh q.c q.r=b) :
  Ca 108 #[.agg #[Sg q.sh,I6 q.c,I6 q.r,Bv q.fc,Bv q.fr]] w (Bv b):=by
 have JY:=Qw;have HN:=zh (fun w=>c1m q.sh w hs);have hI:=fun w=>a6b q.c q.r w
 by_cases h0:q.sh.size=0
 ·
  rw[b2p h0] at hb;rw[hb] at hI;have hn:=c1n h0;have HI:=zh hI;clear hI h0 hb;go_enter Tryz.func108,Tryz.ntmps108;go_wp2_with fail;obtain⟨s1,A,j6,jz,j8,zA⟩:=qy w (.cells #[Sg q.sh,I6 q.c,I6 q.r,Bv q.fc,Bv q.fr] 67);have yA:=qZ (b:=A) j6 jz;have j7:=qQ bR j6;rw[<-j6];try rw[<-jz]
  clear j6 j8 jz;refine(HI.out _).mono ?_;rintro e wq ⟨rfl,rfl⟩
  all_goals go_wp2
  all_goals first | go_ret | go_ret2
  all_goals exact⟨rfl,j7⟩
 ·
  rw[b2q h0] at hb;have hn:=b6f h0;have hn2:q.sh.toList.isEmpty=false:=by simpa using hn
  cases hnb:b4n q.sh with
  | false =>
   rw[hnb,Bool.false_and] at hb;subst hb;rw[hnb] at HN;clear hI h0 hnb;go_enter Tryz.func108,Tryz.ntmps108;go_wp2_with fail;obtain⟨s2,A,j6,jz,j8,zA⟩:=qy w (.cells #[Sg q.sh,I6 q.c,I6 q.r,Bv q.fc,Bv q.fr] 67);have j7:=qQ bR j6;rw[<-j6];try rw[<-jz]
   clear j6 j8 jz;refine jy (HN.out _) fun s3 hb=>?_
   replace j7:=bT j7 hb;clear hb
   all_goals go_wp2
   all_goals first | go_ret | go_ret2
   all_goals exact⟨rfl,j7⟩
  | true =>
   rw[hnb,Bool.true_and] at hb;rw[hnb] at HN;rw[hb] at hI;have HI:=zh hI;clear hI h0 hnb hb;go_enter Tryz.func108,Tryz.ntmps108;go_wp2_with fail;obtain⟨s4,A,j6,jz,j8,zA⟩:=qy w (.cells #[Sg q.sh,I6 q.c,I6 q.r,Bv q.fc,Bv q.fr] 67);have yA:=qZ (b:=A) j6 jz;have j7:=qQ bR j6;rw[<-j6];try rw[<-jz]
   clear j6 j8 jz;refine jy (HN.out _) fun s5 hb=>?_
   replace yA:=jv hb yA zA;replace zA:=jw hb zA;replace j7:=bT j7 hb;clear hb;go_wp2_with fail;refine(HI.out _).mono ?_;rintro e wq ⟨rfl,rfl⟩
   all_goals go_wp2
   all_goals first | go_ret | go_ret2
   all_goals exact⟨rfl,j7⟩
theorem a6m (q:Rf) (b:Bool) (w:World) (hs:q.sh.size<=maxLen) (hb:a8g q.sh q.c q.r=b) :
  Ca 63 #[.agg #[Sg q.sh,I6 q.c,I6 q.r,Bv q.fc,Bv q.fr]] w (Bv b):=by
 have JY:=Qw;have HN:=zh (fun w=>b2o q.sh w hs);have hI:=fun w=>a7o q.c q.r w
 by_cases h0:q.sh.size=0
 ·
  rw[b2p h0] at hb;rw[hb] at hI;have hn:=c1n h0;have HI:=zh hI;clear hI h0 hb;go_enter Tryz.func63,Tryz.ntmps63;go_wp2_with fail;obtain⟨s6,A,j6,jz,j8,zA⟩:=qy w (.cells #[Sg q.sh,I6 q.c,I6 q.r,Bv q.fc,Bv q.fr] 67);have yA:=qZ (b:=A) j6 jz;have j7:=qQ bR j6;rw[<-j6];try rw[<-jz]
  clear j6 j8 jz;refine(HI.out _).mono ?_;rintro e wq ⟨rfl,rfl⟩
  all_goals go_wp2
  all_goals first | go_ret | go_ret2
  all_goals exact⟨rfl,j7⟩
 ·
  rw[b2q h0] at hb;have hn:=b6f h0;have hn2:q.sh.toList.isEmpty=false:=by simpa using hn
  cases hnb:b4n q.sh with
  | false =>
   rw[hnb,Bool.false_and] at hb;subst hb;rw[hnb] at HN;clear hI h0 hnb;go_enter Tryz.func63,Tryz.ntmps63;go_wp2_with fail;obtain⟨s7,A,j6,jz,j8,zA⟩:=qy w (.cells #[Sg q.sh,I6 q.c,I6 q.r,Bv q.fc,Bv q.fr] 67);have j7:=qQ bR j6;rw[<-j6];try rw[<-jz]
   clear j6 j8 jz;refine jy (HN.out _) fun s8 hb=>?_
   replace j7:=bT j7 hb;clear hb
   all_goals go_wp2
   all_goals first | go_ret | go_ret2
   all_goals exact⟨rfl,j7⟩
  | true =>
   rw[hnb,Bool.true_and] at hb;rw[hnb] at HN;rw[hb] at hI;have HI:=zh hI;clear hI h0 hnb hb;go_enter Tryz.func63,Tryz.ntmps63;go_wp2_with fail;obtain⟨s9,A,j6,jz,j8,zA⟩:=qy w (.cells #[Sg q.sh,I6 q.c,I6 q.r,Bv q.fc,Bv q.fr] 67);have yA:=qZ (b:=A) j6 jz;have j7:=qQ bR j6;rw[<-j6];try rw[<-jz]
   clear j6 j8 jz;refine jy (HN.out _) fun s10 hb=>?_
   replace yA:=jv hb yA zA;replace zA:=jw hb zA;replace j7:=bT j7 hb;clear hb;go_wp2_with fail;refine(HI.out _).mono ?_;rintro e wq ⟨rfl,rfl⟩
   all_goals go_wp2
   all_goals first | go_ret | go_ret2
   all_goals exact⟨rfl,j7⟩
