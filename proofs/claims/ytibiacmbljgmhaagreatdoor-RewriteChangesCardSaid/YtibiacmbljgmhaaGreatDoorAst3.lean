import Derived.Test.YtibiacmbljgmhaaGreatDoorCel1
import Derived.Test.YtibiacmbljgmhaaGreatDoorAst1
import Derived.Test.YtibiacmbljgmhaaGreatDoorShelf3
import Derived.Lib.IndexAny
set_option maxHeartbeats 4000000
set_option maxRecDepth 100000
namespace Go.Proofs.YtibiacmbljgmhaaGreatDoor
set_option linter.all false
open Go.RowKit Go.Shelf
structure Nd where
 k:Int
 o:Int
 a:Int
 b:Int
 qn:Bool
 qa:jW
 qd:jW
 s:jW
 tr:Bool
 r:Rf
 t:Rf
abbrev Qk (n:Nd):List Value:=[I6 n.k,I6 n.o,I6 n.a,I6 n.b,Bv n.qn,Sg n.qa,Sg n.qd,Sg n.s,Bv n.tr,Sg n.r.sh,I6 n.r.c,I6 n.r.r,Bv n.r.fc,Bv n.r.fr,Sg n.t.sh,I6 n.t.c,I6 n.t.r,Bv n.t.fc,Bv n.t.fr]
abbrev Y2 (n:Nd):Value:=.agg #[I6 n.k,I6 n.o,I6 n.a,I6 n.b,Bv n.qn,Sg n.qa,Sg n.qd,Sg n.s,Bv n.tr,Sg n.r.sh,I6 n.r.c,I6 n.r.r,Bv n.r.fc,Bv n.r.fr,Sg n.t.sh,I6 n.t.c,I6 n.t.r,Bv n.t.fc,Bv n.t.fr]
def Y5 (k o:Int):Int:=if k=7 then (if o=13 then 6 else if o=14 then 7 else 8) else if k=8 then (if 7<=o/\o<=12 then 1 else if o=6 then 2 else if o=1\/o=2 then 3 else if o=3\/o=4 then 4 else if o=5 then 5 else 8) else 8
theorem e6u (k o:Int):1<=Y5 k o/\Y5 k o<=8:=by unfold Y5;split<;>(try split)<;>(try split)<;>(try split)<;>(try split)<;>(try split)<;>omega
theorem a1z (n:Nd) (w:World) :
  Ca 178 #[Y2 n] w (I6 (Y5 n.k n.o)):=by
 obtain⟨v,hv⟩:=nM (Y5 n.k n.o);rw[<-hv];have HV:=zh hv;clear hv;go_enter Tryz.func178,Tryz.ntmps178
 go_wp2
 all_goals go_ret
 all_goals refine⟨a1c ?_,(Below.refl _ _).alloc (jC _) _⟩
 all_goals rw[HV.out]
 all_goals unfold Y5
 all_goals clear HV
 all_goals try simp only[beq_iff_eq,beq_eq_false_iff_ne,bne_iff_ne,bne_eq_false_iff_eq,ne_eq] at *
 all_goals (repeat' split)<;>omega
theorem a3w (n:Nd) (w:World) :
  Ca 106 #[Y2 n] w (I6 (Y5 n.k n.o)):=by
 obtain⟨v,hv⟩:=nM (Y5 n.k n.o);rw[<-hv];have HV:=zh hv;clear hv;go_enter Tryz.func106,Tryz.ntmps106
 go_wp2
 all_goals go_ret
 all_goals refine⟨a1c ?_,(Below.refl _ _).alloc (jC _) _⟩
 all_goals rw[HV.out]
 all_goals unfold Y5
 all_goals clear HV
 all_goals try simp only[beq_iff_eq,beq_eq_false_iff_ne,bne_iff_ne,bne_eq_false_iff_eq,ne_eq] at *
 all_goals (repeat' split)<;>omega
set_option maxHeartbeats 2000000
def b9d (b:UInt8):Bool:=X1 b || Nt.isDig b
def b9e (l:List UInt8):Bool:=decide (1<=l.length)&&decide (l.length<=12)&&X1 (l.headD 0)&&l.all b9d
abbrev upsB:jW:=⟨#[65,66,67,68,69,70,71,72,73,74,75,76,77,78,79,80,81,82,83,84,85,86,87,88,89,90]⟩
abbrev fnsB:jW:=⟨#[65,66,67,68,69,70,71,72,73,74,75,76,77,78,79,80,81,82,83,84,85,86,87,88,89,90,48,49,50,51,52,53,54,55,56,57]⟩
theorem c2v (b:UInt8):upsB.data.toList.contains b=X1 b:=by
 have h:∀ n:Fin 256,upsB.data.toList.contains (UInt8.ofNat n.val)=X1 (UInt8.ofNat n.val):=by decide +kernel
 have:=h ⟨b.toNat,UInt8.toNat_lt b⟩
 rwa [show UInt8.ofNat (⟨b.toNat,UInt8.toNat_lt b⟩:Fin 256).val=b from UInt8.ofNat_toNat] at this
theorem b5n (b:UInt8):fnsB.data.toList.contains b=b9d b:=by
 have h:∀ n:Fin 256,fnsB.data.toList.contains (UInt8.ofNat n.val)=b9d (UInt8.ofNat n.val):=by decide +kernel
 have:=h ⟨b.toNat,UInt8.toNat_lt b⟩
 rwa [show UInt8.ofNat (⟨b.toNat,UInt8.toNat_lt b⟩:Fin 256).val=b from UInt8.ofNat_toNat] at this
theorem b9f {S:List UInt8} {p:UInt8->Bool} (hp:∀ b,S.contains b=p b) {l:List UInt8} (h:l.all p=true):Lib.trimS l S=[]:=by
 have h1:Lib.trimRightS l S=[]:=by
  unfold Lib.trimRightS;rw[List.reverse_eq_nil_iff,a2w];intro x hx;rw[List.mem_reverse] at hx;rw[hp];exact List.all_eq_true.1 h x hx
 unfold Lib.trimS;rw[h1];rfl
theorem b6u {S:List UInt8} {p:UInt8->Bool} (hp:∀ b,S.contains b=p b) {l:List UInt8} (h:l.all p=false):Lib.trimS l S≠[]:=by
 intro hn;rw[List.all_eq_false] at h;obtain⟨x,hx,hb⟩:=h
 have h1:∀ y ∈ Lib.trimRightS l S,S.contains y=true:=by
  unfold Lib.trimS Lib.trimLeftS at hn;exact(a2w _ _).1 hn
 have h2:∀ y ∈ l,S.contains y=true:=by
  intro y hy;have e:=List.takeWhile_append_dropWhile (p:=(S.contains ·)) (l:=l.reverse);have hy2:y ∈ l.reverse:=List.mem_reverse.2 hy;rw[<-e,List.mem_append] at hy2
  rcases hy2 with hy2 | hy2
  ·
   have:=List.all_takeWhile (p:=(S.contains ·)) (l:=l.reverse);exact List.all_eq_true.1 this y hy2
  ·
   exact h1 y (by unfold Lib.trimRightS;exact List.mem_reverse.2 hy2)
 have:=h2 x hx;rw[hp] at this;exact hb this
theorem c2w (s:jW) (w:World) (hs:s.size<=9223372036854775807) :
  Ca 130 #[Sg s,Sg fnsB] w (Sg ⟨(Lib.trimS s.data.toList fnsB.data.toList).toArray⟩) :=
 Any.strings_Trim_laid Tryz.l160 (by kernel_rfl) s fnsB w hs (by decide) (ascii_of_all (by decide))
theorem c5k (c:UInt8) (w:World):Cz 207 #[Sg upsB,Sg ⟨#[c]⟩] w fun e w'=>e=.returned (Bv (X1 c))/\w'=w:=by
 refine(Tryz.strings_Contains_one upsB c w).mono ?_;rintro e w' ⟨he,hw⟩;refine⟨?_,hw⟩;rw[he,<-Lib.contains_iff_indexByte,c2v]
theorem c5l {s:jW} (h:0<s.size):s.extract 0 1=⟨#[s[0]]⟩:=by
 obtain⟨⟨l⟩⟩:=s
 cases l with
 | nil=>exact absurd h (by decide)
 | cons x l=>apply ByteArray.ext;rw[ByteArray.data_extract];simp;rfl
theorem a9y {s:jW} (h:s.size=0\/12<s.size):b9e s.data.toList=false:=by
 have h3:s.data.toList.length=s.size:=by simp
 unfold b9e;rw[h3]
 rcases h with h | h
 ·
  have : ¬ 1<=s.size:=by omega
  simp[this]
 ·
  have : ¬ s.size<=12:=by omega
  simp[this]
theorem c7n {s:jW} (h0:0<s.size) (h:s.size<=12):b9e s.data.toList=(X1 s[0]&&s.data.toList.all b9d):=by
 have h3:s.data.toList.length=s.size:=by simp
 have h1:1<=s.size:=h0;unfold b9e;rw[h3,a5l h0];simp[h1,h]
theorem b6v (s:jW) (w:World) (hs:s.size<=maxLen) :
  Ca 179 #[Sg s] w (Bv (b9e s.data.toList)):=by
 have hB:=Below.refl w.heap.size w;have JY:undef=Value.tuple #[]:=rfl;unfold maxLen at hs;by_cases h0:s.size=0
 ·
  have hr:=zh (a9y (Or.inl h0))
  have hn:s.toList=[]:=by
   rw[jI];exact jT (by simpa using h0)
  clear h0;go_enter Tryz.func179,Tryz.ntmps179
  go_wp2
  all_goals (go_ret;exact⟨J4 hr.out.symm,hB⟩)
 have hn : ¬ s.toList=[]:=by
  rw[jI];intro h;exact h0 (by have:=congrArg List.length h;simpa using this)
 have hn2:s.toList.isEmpty=false:=by simpa using hn
 have hp:0<s.size:=by omega
 by_cases h12:12<s.size
 ·
  have hr:=zh (a9y (Or.inr h12));clear h0;go_enter Tryz.func179,Tryz.ntmps179
  go_wp2
  all_goals (go_ret;exact⟨J4 hr.out.symm,hB⟩)
 have hr:=c7n hp (by omega);have he:=c5l hp;have HC:=fun w=>c5k s[0] w
 have HT:=fun w=>c2w s w (by omega)
 have h1s:1<=s.size:=hp
 cases hu:X1 s[0] with
 | false =>
  rw[hu,Bool.false_and] at hr;rw[hu,<-he] at HC;have HR:=zh hr;have HCC:=zh HC;clear hr HC HT he hu h0;go_enter Tryz.func179,Tryz.ntmps179;go_wp2_with (go_at_call 207;refine(HCC.out _).mono ?_;rintro e w1 ⟨rfl,rfl⟩)
  all_goals (go_ret;exact⟨J4 HR.out.symm,hB⟩)
 | true =>
  rw[hu,Bool.true_and] at hr;rw[hu,<-he] at HC
  cases hall:s.data.toList.all b9d with
  | true =>
   rw[hall] at hr;rw[b9f b5n hall] at HT;have HR:=zh hr;have HCC:=zh HC;have HTT:=zh HT;clear hr HC HT he hu h0 hall;go_enter Tryz.func179,Tryz.ntmps179
   go_wp2_with (first
    | (go_at_call 207;refine(HCC.out _).mono ?_;rintro e w1 ⟨rfl,rfl⟩)
    | (go_at_call 130;with_reducible refine(a2s hB (HTT.out _)).mono ?_;clear hB;rintro e w1 ⟨rfl,hB⟩))
   all_goals (go_ret;exact⟨J4 HR.out.symm,hB⟩)
  | false =>
   rw[hall] at hr;have hne:=b6u b5n hall;obtain⟨t,ht⟩:∃ t:jW,t=⟨(Lib.trimS s.data.toList fnsB.data.toList).toArray⟩:=⟨_,rfl⟩;rw[<-ht] at HT
   have htn : ¬ t.toList=[]:=by
    rw[ht,jI];simpa using hne
   have htn2:t.toList.isEmpty=false:=by simpa using htn
   have HR:=zh hr;have HCC:=zh HC;have HTT:=zh HT;clear hr HC HT he hu h0 hall ht hne;go_enter Tryz.func179,Tryz.ntmps179
   go_wp2_with (first
    | (go_at_call 207;refine(HCC.out _).mono ?_;rintro e w1 ⟨rfl,rfl⟩)
    | (go_at_call 130;with_reducible refine(a2s hB (HTT.out _)).mono ?_;clear hB;rintro e w1 ⟨rfl,hB⟩))
   all_goals (go_ret;exact⟨J4 HR.out.symm,hB⟩)
theorem a9e {p:UInt8->Bool} {l:List UInt8} {n:Nat} (hn:n<l.length) (h:(l.take n).all p=true) (hx:p l[n]=true):(l.take (n+1)).all p=true:=by
 rw[List.take_succ_eq_append_getElem hn,List.all_append,h];simp[hx]
def c9d (s:jW) (i:Value):Prop:=∃ n:Nat,i=I6 n/\n<=s.size/\(s.data.toList.take n).all b9d=true
theorem b1x {s:jW} (h0:0<s.size):((s.data.toList.takeWhile X1).length=0) ↔ X1 s[0]=false:=by
 rw[<-a5l h0];obtain⟨⟨l⟩⟩:=s
 cases l with
 | nil=>exact absurd h0 (by decide)
 | cons x l =>
  show ((x :: l).takeWhile X1).length=0 ↔ X1 x=false;rw[List.takeWhile_cons]
  cases X1 x<;>simp
theorem c5m (b:UInt8):b9d b=(Nt.isDig b || decide (65<=b.toNat)&&decide (b.toNat<=90)):=by
 unfold b9d X1;rw[Bool.or_comm];congr 1;rw[Bool.eq_iff_iff];simp
theorem b4b (s:jW) (w:World) (hs:s.size<=maxLen) :
  Cz 71 #[Sg s] w fun e w'=>e=.returned (Bv (b9e s.data.toList))/\w'=w:=by
 have JY:undef=Value.tuple #[]:=rfl;have hl:s.data.toList.length=s.size:=by simp
 have HA:=fun w=>a7p s w hs
 unfold maxLen at hs;by_cases h0:s.size=0
 ·
  have HR:=zh (a9y (Or.inl h0));clear hl HA;go_enter Tryz.func71,Tryz.ntmps71
  go_wp2
  all_goals (go_ret;exact⟨J4 HR.out.symm,rfl⟩)
 by_cases h12:12<s.size
 ·
  have HR:=zh (a9y (Or.inr h12));clear hl HA;go_enter Tryz.func71,Tryz.ntmps71
  go_wp2
  all_goals (go_ret;exact⟨J4 HR.out.symm,rfl⟩)
 have hp:0<s.size:=by omega
 have hr:=c7n hp (by omega);have hlt:=b1x hp;generalize (s.data.toList.takeWhile X1).length=k at *
 cases hu:X1 s[0] with
 | false =>
  rw[hu,Bool.false_and] at hr;obtain rfl:k=0:=hlt.2 hu;have HR:=zh hr;have HAA:=zh HA;clear hl HA hr hlt hu h0;go_enter Tryz.func71,Tryz.ntmps71;go_wp2_with (go_at_call 121;refine(HAA.out _).mono ?_;rintro e w1 ⟨rfl,rfl⟩)
  all_goals (go_ret;exact⟨J4 HR.out.symm,rfl⟩)
 | true =>
  rw[hu,Bool.true_and] at hr;have hk:k≠0:=fun h=>by rw[hlt.1 h] at hu;cases hu
  have hk2:((k:Int)==0)=false:=by simpa using hk
  have HR:=zh hr;have HAA:=zh HA;have J6:=zh hl;clear hl HA hr hlt hu h0 hk;go_enter Tryz.func71,Tryz.ntmps71;go_wp2_with (go_at_call 121;refine(HAA.out _).mono ?_;rintro e w1 ⟨rfl,rfl⟩)
  go_loop [3] (c9d s) (fun i=>s.size-(intOf i).toNat)
  case atStart=>exact⟨0,rfl,by omega,rfl⟩
  case round =>
   obtain⟨n,rfl,hn,ha⟩:=hrel;have HA2:=zh ha;clear ha;by_cases hlt:n<s.size
   ·
    have hg:=zh (a4p s n hlt);have hD:=fun w=>a3u s[n] w
    have hf:=c5m s[n]
    cases hd:Nt.isDig s[n] with
    | true =>
     rw[hd] at hD hf;have HF:=zh hf;have HDD:=zh hD;clear hf hD hd;go_wp2_with (go_at_call 97;refine(HDD.out _).mono ?_;rintro e w1 ⟨rfl,rfl⟩);refine⟨⟨n+1,by go_num,by omega,?_⟩,by simp[intOf];omega⟩;exact a9e (by rw[J6.out];exact hlt) HA2.out (by rw[hg.out,HF.out];rfl)
    | false =>
     rw[hd,Bool.false_or] at hf;rw[hd] at hD;have HDD:=zh hD;clear hD hd;by_cases c1:65<=s[n].toNat
     ·
      by_cases c2:s[n].toNat<=90
      ·
       have HF:=zh (hf.trans (by simp[c1,c2]):b9d s[n]=true);clear hf;go_wp2_with (go_at_call 97;refine(HDD.out _).mono ?_;rintro e w1 ⟨rfl,rfl⟩);refine⟨⟨n+1,by go_num,by omega,?_⟩,by simp[intOf];omega⟩;exact a9e (by rw[J6.out];exact hlt) HA2.out (by rw[hg.out,HF.out])
      ·
       have HF:=zh (hf.trans (by simp[c1,c2]):b9d s[n]=false);clear hf;go_wp2_with (go_at_call 97;refine(HDD.out _).mono ?_;rintro e w1 ⟨rfl,rfl⟩)
       go_ret
       exact⟨J4 (by rw[HR.out];symm;rw[List.all_eq_false];exact⟨_,List.getElem_mem (by rw[J6.out];exact hlt),by rw[hg.out,HF.out];exact Bool.noConfusion⟩),rfl⟩
     ·
      have HF:=zh (hf.trans (by simp[c1]):b9d s[n]=false);clear hf;go_wp2_with (go_at_call 97;refine(HDD.out _).mono ?_;rintro e w1 ⟨rfl,rfl⟩)
      go_ret
      exact⟨J4 (by rw[HR.out];symm;rw[List.all_eq_false];exact⟨_,List.getElem_mem (by rw[J6.out];exact hlt),by rw[hg.out,HF.out];exact Bool.noConfusion⟩),rfl⟩
   ·
    have hn':n=s.size:=by omega
    go_wp2
    go_ret
    have hx:=HA2.out;rw[jS (by rw[J6.out];omega)] at hx;exact⟨J4 (by rw[HR.out,hx]),rfl⟩
