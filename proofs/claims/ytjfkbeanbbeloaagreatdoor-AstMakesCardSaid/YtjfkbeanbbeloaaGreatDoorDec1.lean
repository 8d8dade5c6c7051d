/-
  
  
  
  
  
  
  
  
  
  
  
  
  
  
-/
import Derived.Test.YtjfkbeanbbeloaaGreatDoorShelf2
import Derived.Test.YtjfkbeanbbeloaaGreatDoorLong1
set_option linter.unusedSimpArgs false
set_option linter.unusedVariables false
namespace Go.Proofs.YtjfkbeanbbeloaaGreatDoor
def Nt.dcs (n:Nat):Nat→List Nat
 | 0 => []
 | m+1 => Nt.dcs (n / 10) m ++ [48+n % 10]
def Nt.decF:Nat→Nat→List Nat
 | 0,_ => []
 | f+1,n => if n < 10 then [48+n] else Nt.decF f (n / 10) ++ [48+n % 10]
def Nt.dec (n:Nat):List Nat:=Nt.decF (n+1) n
def Nt.S (l:List Nat):ByteArray:=⟨(l.map UInt8.ofNat).toArray⟩
def Nt.D (n:Nat):ByteArray:=Nt.S (Nt.dec n)
def Nt.dv (l:List UInt8):Nat:=l.foldl (fun n b => n * 10+(b.toNat - 48)) 0
def Nt.isDig (b:UInt8):Bool:=decide (48≤b.toNat∧b.toNat≤57)
open Go.RowKit Go.Shelf
def digitSet:List UInt8:=[48,49,50,51,52,53,54,55,56,57]
theorem a6x (b:UInt8):digitSet.contains b=Nt.isDig b:=by
 have h:∀ n:Fin 256,digitSet.contains (UInt8.ofNat n.val)=Nt.isDig (UInt8.ofNat n.val):=by decide +kernel
 have:=h ⟨b.toNat,UInt8.toNat_lt b⟩
 rwa [show UInt8.ofNat (⟨b.toNat,UInt8.toNat_lt b⟩:Fin 256).val=b from UInt8.ofNat_toNat] at this
theorem a2w (p:UInt8→Bool):∀ l:List UInt8,l.dropWhile p=[] ↔ ∀ x ∈ l,p x=true
 | [] => by simp
 | b :: r => by
  have ih:=a2w p r;by_cases h:p b=true
  ·
   rw [List.dropWhile_cons_of_pos h,ih];constructor
   ·
    intro hr x hx
    rcases List.mem_cons.1 hx with rfl | hx
    ·
     exact h
    ·
     exact hr x hx
   ·
    exact fun hr x hx => hr x (List.mem_cons_of_mem _ hx)
  ·
   rw [List.dropWhile_cons_of_neg h];constructor
   ·
    intro hr;cases hr
   ·
    intro hr;exact absurd (hr b List.mem_cons_self) h
theorem c1o {l:List UInt8} (h:l.all Nt.isDig=true):Lib.trimS l digitSet=[]:=by
 have h1:Lib.trimRightS l digitSet=[]:=by
  unfold Lib.trimRightS;rw [List.reverse_eq_nil_iff,a2w];intro x hx;rw [List.mem_reverse] at hx;rw [a6x];exact List.all_eq_true.1 h x hx
 unfold Lib.trimS;rw [h1];rfl
theorem b7j {l:List UInt8} (h:l.all Nt.isDig=false):Lib.trimS l digitSet≠[]:=by
 intro hn;rw [List.all_eq_false] at h;obtain ⟨x,hx,hb⟩:=h
 have h1:∀ y ∈ Lib.trimRightS l digitSet,digitSet.contains y=true:=by
  unfold Lib.trimS Lib.trimLeftS at hn;exact (a2w _ _).1 hn
 have h2:∀ y ∈ l,digitSet.contains y=true:=by
  intro y hy;have e:=List.takeWhile_append_dropWhile (p:=(digitSet.contains ·)) (l:=l.reverse);have hy2:y ∈ l.reverse:=List.mem_reverse.2 hy;rw [← e,List.mem_append] at hy2
  rcases hy2 with hy2 | hy2
  ·
   have:=List.all_takeWhile (p:=(digitSet.contains ·)) (l:=l.reverse);exact List.all_eq_true.1 this y hy2
  ·
   exact h1 y (by unfold Lib.trimRightS;exact List.mem_reverse.2 hy2)
 have:=h2 x hx;rw [a6x] at this;exact hb this
theorem a3c (w:World) (e:TypeId) (s:ByteArray):Below w.heap.size w (Lib.bytesWorld w e s):=⟨rfl,rfl,rfl,by rw [Lib.bytesWorld_size];omega,fun j hj => Lib.bytesWorld_at_old w e s j hj⟩
theorem b4p (s:ByteArray) (w:World) (hs:s.size≤9223372036854775807) :
  Calls Tryz.prog 86 #[.string s,.string ⟨#[48,49,50,51,52,53,54,55,56,57]⟩] w fun e w' => e=.returned (.string ⟨(Lib.trimS s.data.toList digitSet).toArray⟩)∧Below w.heap.size w w' :=
 Any.strings_Trim_laid Tryz.l160 (by kernel_rfl) s ⟨#[48,49,50,51,52,53,54,55,56,57]⟩ w hs (by decide) (ascii_of_all (by decide))
def Nt.tail (n m j i:Nat):Nat:=if m≤i+9 * j then 48+n / 10 ^ (m - 1 - i) % 10 else 0
set_option maxHeartbeats 1000000
set_option maxRecDepth 100000
def Nt.IsVl (p n k:Nat):Prop:=p ^ k ∣ n∧¬ p ^ (k+1) ∣ n
theorem Nt.IsVl.le {p n k l:Nat} (h:Nt.IsVl p n k) (h':Nt.IsVl p n l):k≤l:=by
 rcases Nat.lt_or_ge l k with hlt | hge
 ·
  exact absurd (Nat.dvd_trans (Nat.pow_dvd_pow p hlt) h.1) h'.2
 ·
  exact hge
def Nt.Out (n d t r:Nat):Prop:=n=d ^ t * r∧r % d≠0
theorem Nt.Out.vl {n d t r:Nat} (hd:0 < d) (h:Nt.Out n d t r):Nt.IsVl d n t:=by
 obtain ⟨rfl,hr⟩:=h;refine ⟨Nat.dvd_mul_right _ _,fun hh => hr ?_⟩
 rw [Nat.pow_succ] at hh;exact Nat.mod_eq_zero_of_dvd (Nat.dvd_of_mul_dvd_mul_left (Nat.pow_pos hd) hh)
theorem Nt.out_more {n d s r:Nat} (h0:n % d=0) (h:Nt.Out (n / d) (d * d) s r) (hr:r % d=0):Nt.Out n d (1+2 * s+1) (r / d):=by
 obtain ⟨h1,h2⟩:=h;have e1:n=d * (n / d):=(Nat.mul_div_cancel' (Nat.dvd_of_mod_eq_zero h0)).symm;have e2:r=d * (r / d):=(Nat.mul_div_cancel' (Nat.dvd_of_mod_eq_zero hr)).symm;refine ⟨?_,fun h3 => h2 ?_⟩
 ·
  rw [e1,h1,Nat.pow_add,Nat.pow_one,Nat.pow_add,Nat.pow_one,Nat.pow_mul]
  conv => lhs;rw [e2]
  rw [show d ^ 2=d * d from by rw [Nat.pow_succ,Nat.pow_one]];rw [Nat.mul_assoc,Nat.mul_assoc]
 ·
  rw [e2];exact Nat.mod_eq_zero_of_dvd (Nat.mul_dvd_mul_left d (Nat.dvd_of_mod_eq_zero h3))
theorem Nt.out_same {n d s r:Nat} (h0:n % d=0) (h:Nt.Out (n / d) (d * d) s r) (hr:r % d≠0):Nt.Out n d (1+2 * s) r:=by
 obtain ⟨h1,h2⟩:=h;have e1:n=d * (n / d):=(Nat.mul_div_cancel' (Nat.dvd_of_mod_eq_zero h0)).symm;refine ⟨?_,hr⟩;rw [e1,h1,Nat.pow_add,Nat.pow_one,Nat.pow_mul,show d ^ 2=d * d from by rw [Nat.pow_succ,Nat.pow_one],Nat.mul_assoc]
def c1p (n d:Nat) (e:Ending):Prop:=∃ t r:Nat,e=.returned (.tuple #[.int .i64 (t:Int),.string (Nt.E r)])∧Nt.Out n d t r
theorem Nt.out_few {n d t r K:Nat} (hn:0 < n) (hd:2≤d) (hs:n < 2 ^ K) (h:Nt.Out n d t r):t < K∧r≤n∧0 < r:=by
 obtain ⟨h1,h2⟩:=h
 have hr:0 < r:=by
  rcases Nat.eq_zero_or_pos r with h | h
  ·
   rw [h,Nat.mul_zero] at h1;omega
  ·
   exact h
 have hp:0 < d ^ t:=Nat.pow_pos (by omega);have h3:d ^ t≤n:=by rw [h1];exact Nat.le_mul_of_pos_right _ hr
 refine ⟨?_,by rw [h1];exact Nat.le_mul_of_pos_left _ hp,hr⟩;exact (Nat.pow_lt_pow_iff_right (a:=2) (by omega)).1 (Nat.lt_of_le_of_lt (Nat.le_trans (Nat.pow_le_pow_left hd t) h3) hs)
theorem Nt.lt_bits (n:Nat):n < 2 ^ (8 * (Nt.E n).size):=by
 have h1:=Nt.V_lt (Nt.E n)
 rwa [Nt.V_E,Nt.pow256] at h1
theorem b4q (n:Nat):∀ (a:ByteArray) (d:Nat) (w:World),Nt.V a=n→0 < n→2≤d→a.size≤1000→(Nt.E d).size≤2000→a=Nt.E n →
  Calls Tryz.prog 127 #[.string a,.string (Nt.E d)] w fun e w' => c1p n d e∧Below w.heap.size w w':=by
 induction n using Nat.strongRecOn with
 | _ n ih =>
  intro a d w hVa hn hd hs hds hae;subst hae;have hdm:=fun W => a8i (Nt.E n) (Nt.E d) W (by omega) hds
  rw [Nt.V_E,Nt.V_E,a2y,if_neg (by omega)] at hdm;have hB:=Below.refl w.heap.size w;have HB16:=zh (Nt.lt_bits n);by_cases h0:n % d=0
  ·
   have e0:Nt.E 0=⟨#[]⟩:=rfl;rw [h0,e0] at hdm;have hdn:d≤n:=Nat.le_of_dvd hn (Nat.dvd_of_mod_eq_zero h0);have hq0:0 < n / d:=Nat.div_pos hdn (by omega);have hqn:n / d < n:=Nat.div_lt_self hn hd;have hds2:=Nt.E_size_le hdn;have hqs:=Nt.E_size_le (Nat.le_of_lt hqn);have hdd:=Nt.sq_size d;have hml:=fun W => a9l (Nt.E d) (Nt.E d) W (by omega) (by omega)
   rw [Nt.V_E] at hml;have hdd2:2≤d * d:=Nat.le_trans hd (Nat.le_mul_of_pos_left d (by omega));have hrec:=fun W => ih (n / d) hqn (Nt.E (n / d)) (d * d) W (Nt.V_E _) hq0 hdd2 (by omega) (by omega) rfl
   have hq16:=Nat.lt_trans hqn HB16.out;have HDM:=zh hdm;have HML:=zh hml
   have HR:=zh (fun W => (hrec W).mono (fun e w' (h:c1p (n / d) (d * d) e∧Below W.heap.size W w') => (by
    obtain ⟨⟨t,r,he,ho⟩,hb⟩:=h;have hf:=Nt.out_few hq0 hdd2 hq16 ho
    exact ⟨⟨t,r,he,ho,Nat.lt_of_lt_of_le hf.1 (by omega),Nat.le_trans (Nt.E_size_le hf.2.1) hqs⟩,hb⟩:(∃ t r:Nat,e=.returned (.tuple #[.int .i64 (t:Int),.string (Nt.E r)])∧Nt.Out (n / d) (d * d) t r∧t < 8000∧(Nt.E r).size≤(Nt.E n).size)∧Below W.heap.size W w')))
   have H0:=zh h0;have HDS:=zh hds;have HS:=zh hs
   have HDM2:=zh (fun (r:Nat) (hr:(Nt.E r).size≤1000) W => (by
    have h:=a8i (Nt.E r) (Nt.E d) W (by omega) hds;rw [Nt.V_E,Nt.V_E,a2y,if_neg (by omega)] at h
    exact h:Calls Tryz.prog 94 #[.string (Nt.E r),.string (Nt.E d)] W fun e w' => e=.returned (.tuple #[.string (Nt.E (r / d)),.string (Nt.E (r % d)),.int .i64 0])∧Below W.heap.size W w'))
   clear hdm hml hrec h0 ih hq16 hdd hdn hqn hds2 hqs hs hds hq0 hdd2;go_enter Tryz.func127,Tryz.ntmps127
   go_wp2_with (first
    | (go_at_call 94;with_reducible refine (a2s hB (HDM.out _)).mono ?_;clear hB;rintro e w1 ⟨rfl,hB⟩)
    | (go_at_call 157;with_reducible refine (a2s hB (HML.out _)).mono ?_;clear hB;rintro e w1 ⟨rfl,hB⟩)
    | (go_at_call 127;with_reducible refine (HR.out _).mono ?_;rintro e w2 ⟨⟨t,r,rfl,ho,ht,hrs⟩,hb2⟩;have HO:=zh ho;have hB2:=hB.trans (hb2.mono hB.size);clear ho hB hb2))
   have hd2:=HDM2.out r (by have:=HS.out;omega);by_cases hr0:r % d=0
   ·
    have hout:=Nt.out_more H0.out HO.out hr0;have e0:Nt.E 0=⟨#[]⟩:=rfl;rw [hr0,e0] at hd2;have HD2:=zh hd2;have HOUT:=zh hout;clear hd2 hout hr0 e0;refine (a2s hB2 (HD2.out _)).mono ?_;clear hB2;rintro e w3 ⟨rfl,hB3⟩
    go_wp2
    go_ret2
    exact ⟨⟨1+2 * t+1,r / d,by rw [show ((1+2 * t+1:Nat):Int)=1+2 * (t:Int)+1 from by omega];rfl,HOUT.out⟩,hB3⟩
   ·
    have hout:=Nt.out_same H0.out HO.out hr0;have hne : ¬ (Nt.E (r % d)).toList=[]:=a2h _ hr0;have hne2:(Nt.E (r % d)).toList.isEmpty=false:=by simpa using hne
    generalize Nt.E (r % d)=R at *;have HD2:=zh hd2;have HOUT:=zh hout;clear hd2 hout hr0;refine (a2s hB2 (HD2.out _)).mono ?_;clear hB2;rintro e w3 ⟨rfl,hB3⟩
    go_wp2
    go_ret2
    exact ⟨⟨1+2 * t,r,by rw [show ((1+2 * t:Nat):Int)=1+2 * (t:Int) from by omega];rfl,HOUT.out⟩,hB3⟩
  ·
   have hne : ¬ (Nt.E (n % d)).toList=[]:=a2h _ h0;have hne2:(Nt.E (n % d)).toList.isEmpty=false:=by simpa using hne
   have hr:Hid (Nt.Out n d 0 n):=⟨by rw [Nat.pow_zero,Nat.one_mul],h0⟩;generalize Nt.E (n % d)=R at *;have HDM:=zh hdm;clear hdm h0 ih;go_enter Tryz.func127,Tryz.ntmps127;go_wp2_with (go_at_call 94;with_reducible refine (a2s hB (HDM.out _)).mono ?_;clear hB;rintro e w1 ⟨rfl,hB⟩)
   go_ret2
   exact ⟨⟨0,n,rfl,hr.out⟩,hB⟩
theorem a8h (l:List UInt8):∃ z,l=Lib.trimRightB l 0 ++ List.replicate z 0∧(Lib.trimRightB l 0=[] ∨ ∃ q b,Lib.trimRightB l 0=q ++ [b]∧b≠0):=by
 unfold Lib.trimRightB;have e:=List.takeWhile_append_dropWhile (p:=(· == (0:UInt8))) (l:=l.reverse);have ha:=List.all_takeWhile (p:=(· == (0:UInt8))) (l:=l.reverse);obtain ⟨tw,htw⟩:∃ tw,tw=l.reverse.takeWhile (· == 0):=⟨_,rfl⟩;obtain ⟨d,hd⟩:∃ d,d=l.reverse.dropWhile (· == 0):=⟨_,rfl⟩;rw [← htw] at ha;rw [← htw,← hd] at e;rw [← hd]
 have h1:tw=List.replicate tw.length 0:=by
  rw [List.eq_replicate_iff];exact ⟨rfl,fun b hb => by simpa using List.all_eq_true.1 ha b hb⟩
 refine ⟨tw.length,?_,?_⟩
 ·
  have e2:=congrArg List.reverse e;rw [List.reverse_reverse,List.reverse_append] at e2
  conv => lhs;rw [← e2]
  congr 1
  rw [h1,List.reverse_replicate,List.length_replicate]
 ·
  cases hdd:d with
  | nil => exact Or.inl rfl
  | cons b q =>
   refine Or.inr ⟨q.reverse,b,by rw [List.reverse_cons],fun hb => ?_⟩
   have h2:=List.head?_dropWhile_not (p:=(· == (0:UInt8))) (l:=l.reverse);rw [← hd,hdd] at h2;simp [hb] at h2
theorem a5b (l:List UInt8) (z:Nat):Nt.val (l ++ List.replicate z 0)=Nt.val l * 256 ^ z:=by
 induction z with
 | zero => simp
 | succ z ih =>
  rw [List.replicate_succ',← List.append_assoc,Nt.val_snoc,ih,Nat.pow_succ,Nat.mul_assoc];rfl
theorem b7k:∀ b:Fin 256,b.val≠0→b.val % 2 ^ Lib.trailingZeros8 b.val=0∧b.val / 2 ^ Lib.trailingZeros8 b.val % 2=1∧Lib.trailingZeros8 b.val < 8:=by decide +kernel
theorem c6i (x b z s:Nat) (h1:b % 2 ^ s=0) (h2:b / 2 ^ s % 2=1) (h3:s < 8):Nt.Out ((x * 256+b) * 256 ^ z) 2 (8 * z+s) (x * 2 ^ (8 - s)+b / 2 ^ s):=by
 refine ⟨?_,?_⟩
 ·
  have e1:b=2 ^ s * (b / 2 ^ s):=(Nat.mul_div_cancel' (Nat.dvd_of_mod_eq_zero h1)).symm;have e2:(256:Nat)=2 ^ s * 2 ^ (8 - s):=by rw [← Nat.pow_add,show s+(8 - s)=8 from by omega]
  have e3:x * 256+b=2 ^ s * (x * 2 ^ (8 - s)+b / 2 ^ s):=by
   rw [Nat.mul_add,← e1]
   congr 1
   rw [← Nat.mul_assoc,Nat.mul_comm (2 ^ s) x,Nat.mul_assoc,← e2]
  rw [e3,Nt.pow256,Nat.pow_add,Nat.mul_comm _ (2 ^ (8 * z)),Nat.mul_assoc]
 ·
  obtain ⟨t,ht⟩:∃ t,8 - s=t+1:=⟨7 - s,by omega⟩;rw [ht,Nat.pow_succ];generalize b / 2 ^ s=y at *;have:x * (2 ^ t * 2)=2 * (x * 2 ^ t):=by rw [← Nat.mul_assoc,Nat.mul_comm]
  omega
theorem c3y {n t o f:Nat} (h:n=2 ^ t * o) (hf:Nt.IsVl 5 o f):Nt.IsVl 5 n f:=by
 refine ⟨by rw [h];exact Nat.dvd_trans hf.1 (Nat.dvd_mul_left _ _),fun hd => hf.2 ?_⟩
 rw [h] at hd;exact Nat.Coprime.dvd_of_dvd_mul_left (Nat.Coprime.pow _ _ (by decide)) hd
def c1q (n:Nat) (e:Ending):Prop:=(n=0∧e=.returned (.tuple #[.int .i64 0,.int .i64 0])) ∨
 (n≠0∧∃ t f:Nat,e=.returned (.tuple #[.int .i64 (t:Int),.int .i64 (f:Int)])∧Nt.IsVl 2 n t∧Nt.IsVl 5 n f)
theorem b4r (a:ByteArray) (w:World) (ha:a.size≤1000) :
  Calls Tryz.prog 93 #[.string a] w fun e w' => c1q (Nt.V a) e∧Below w.heap.size w w':=by
 have HB:=zh (fun w => a4f a w (by omega));have hB:=Below.refl w.heap.size w;by_cases h0:Nt.V a=0
 ·
  rw [h0,Nt.blen_zero] at HB;have H0:=zh h0;clear h0;go_enter Tryz.func93,Tryz.ntmps93;go_wp2_with (go_at_call 90;with_reducible refine (HB.out _).mono ?_;rintro e w1 ⟨rfl,rfl⟩)
  go_ret2
  exact ⟨Or.inl ⟨H0.out,rfl⟩,hB⟩
 ·
  have hbb:=(Nt.blen_bounds (Nt.V a) h0).2.2;have hb0:((Nt.blen (Nt.V a):Int) == 0)=false:=by simp;omega
  obtain ⟨z,hz,hr⟩:=a8h a.data.toList;have htr:=fun W => Tryz.strings_TrimRight_one a 0 (by decide) W (by omega)
  obtain ⟨T,hT⟩:∃ T:ByteArray,T=⟨(Lib.trimRightB a.data.toList 0).toArray⟩:=⟨_,rfl⟩;rw [← hT] at htr
  rcases hr with hr | ⟨q,b,hqb,hbz⟩
  ·
   exfalso;apply h0;show Nt.val a.data.toList=0;rw [hz,hr,a5b];simp [Nt.val_nil]
  ·
   have hTl:T.data.toList=q ++ [b]:=by rw [hT,hqb]
   have hTs:T.size=q.length+1:=by
    have:=congrArg List.length hTl;rw [List.length_append] at this;simpa using this
   have has:a.size=T.size+z:=by
    have h1:=congrArg List.length hz;rw [List.length_append,List.length_replicate,hqb,← hTl] at h1;simpa using h1
   have hk:q.length < T.size:=by omega
   have hTb:T[q.length]'hk=b:=by
    have:T.data.toList[q.length]'(by rw [hTl];simp)=b:=by simp [hTl]
    simpa [ByteArray.getElem_eq_getElem_data] using this
   have hVn:Nt.V a=(Nt.val q * 256+b.toNat) * 256 ^ z:=by
    show Nt.val a.data.toList=_;rw [hz,hqb,a5b,Nt.val_snoc]
   have hb1:b.toNat≠0:=fun h => hbz (by apply UInt8.toNat_inj.1;rw [h];rfl)
   have hf8:=b7k ⟨b.toNat,UInt8.toNat_lt b⟩ hb1;obtain ⟨s,hs⟩:∃ s,s=Lib.trailingZeros8 b.toNat:=⟨_,rfl⟩;have hout:=c6i (Nt.val q) b.toNat z s (by rw [hs];exact hf8.1) (by rw [hs];exact hf8.2.1) (by rw [hs];exact hf8.2.2);have hs8:s < 8:=by rw [hs];exact hf8.2.2
   rw [← hVn] at hout;have htz:=fun W => Tryz.bits_TrailingZeros8 (b.toNat:Int) W (by omega) (by have:=UInt8.toNat_lt b;omega)
   rw [Int.toNat_natCast,← hs] at htz;obtain ⟨o,ho⟩:∃ o,o=Nt.val q * 2 ^ (8 - s)+b.toNat / 2 ^ s:=⟨_,rfl⟩;rw [← ho] at hout;obtain ⟨t,ht⟩:∃ t,t=8 * z+s:=⟨_,rfl⟩;rw [← ht] at hout
   have hop:0 < o:=by
    have:=hout.2
    rcases Nat.eq_zero_or_pos o with h | h
    ·
     rw [h] at this;exact absurd rfl this
    ·
     exact h
   have hes:=Nt.E_size_V a;have hol:o≤Nt.V a:=by rw [hout.1];exact Nat.le_mul_of_pos_left _ (Nat.two_pow_pos _)
   have hos:=Nat.le_trans (Nt.E_size_le hol) hes;have hsh:=fun W => b8b a (t:Int) W (by omega) (by omega)
   have hshn:a5d (Nt.V a) (t:Int)=o:=by
    rw [a5d,if_neg (by omega),Int.toNat_natCast,hout.1,Nat.mul_div_cancel_left _ (Nat.two_pow_pos _)]
   rw [hshn] at hsh;have hof:=fun W => a8o 5 W (by omega)
   have hto:=fun W => b4q o (Nt.E o) 5 W (Nt.V_E _) hop (by omega) (by omega) (by decide) rfl
   have HTR:=zh htr;have HTZ:=zh htz;have HSH:=zh hsh;have HOF:=zh hof;have HTO:=zh hto;have HOUT:=zh hout;have H0:=zh h0;have g1:(a.size:Int) - (T.size:Int)=(z:Int):=by omega
   have g2:(T.size:Int) - 1=(q.length:Int):=by omega
   have g3:(8:Int) * (z:Int)+(s:Int)=(t:Int):=by omega
   have g4:((T[q.length]'hk).toNat:Int)=(b.toNat:Int):=by rw [hTb]
   have hTs2:T.size≤a.size:=by omega
   have hz2:z≤1000:=by omega
   clear has hTs htr htz hsh hof hto hout h0 hz hT hqb hTl hVn hf8 hs ho ht hop hes hol hos hshn hTb hbb hbz hb1;go_enter Tryz.func93,Tryz.ntmps93
   go_wp2_with (first
    | (go_at_call 90;with_reducible refine (HB.out _).mono ?_;rintro e w1 ⟨rfl,rfl⟩)
    | (go_at_call 125;refine (HTR.out _).mono ?_;rintro e w1 ⟨rfl,rfl⟩)
    | (go_at_call 126;refine (HTZ.out _).mono ?_;rintro e w1 ⟨rfl,rfl⟩)
    | (go_at_call 128;with_reducible refine (a2s hB (HSH.out _)).mono ?_;clear hB;rintro e w1 ⟨rfl,hB⟩)
    | (go_at_call 129;refine (a2s hB (HOF.out _)).mono ?_;clear hB;rintro e w1 ⟨rfl,hB⟩)
    | (go_at_call 127;(with_reducible refine (HTO.out _).mono ?_);rintro e w2 ⟨⟨f,r,rfl,hf⟩,hb2⟩;have HF:=zh hf;have hB2:=hB.trans (hb2.mono hB.size);clear hf hB hb2))
   go_ret2
   exact ⟨Or.inr ⟨H0.out,t,f,rfl,HOUT.out.vl (by omega),c3y HOUT.out.1 (HF.out.vl (by omega))⟩,hB2⟩
set_option maxHeartbeats 2000000
def c8e (w:World) (p n:Nat) (a k i:Value) (wr:World):Prop:=∃ j:Nat,i=.int .i64 (j:Int)∧k=.int .i64 (j:Int)∧a=.string (Nt.E (n / p ^ j))∧p ^ j ∣ n∧Below w.heap.size w wr
theorem a6y (P:ByteArray) (p n:Nat) (w:World) (hP:Nt.V P=p) (hPs:P.size≤8) (hp:2≤p) (hs:(Nt.E n).size≤1000) (hn:0 < n) :
  Calls Tryz.prog 102 #[.string (Nt.E n),.string P] w fun e w' => (∃ k:Nat,e=.returned (.int .i64 (k:Int))∧Nt.IsVl p n k)∧Below w.heap.size w w':=by
 have hbt:=Nt.lt_bits n;have HBT:=zh hbt;have HP:=zh hP;have HPS:=zh hPs;have HS:=zh hs;clear hbt hP hPs hs;go_enter Tryz.func102,Tryz.ntmps102
 go_wp2
 go_loopw [0,5,6] (c8e w p n) (fun _ _ i _ => 20000 - (intOf i).toNat)
 case atStart => exact ⟨0,rfl,rfl,by rw [Nat.pow_zero,Nat.div_one],by rw [Nat.pow_zero];exact Nat.one_dvd _,Below.refl _ _⟩
 case round =>
  obtain ⟨j,rfl,rfl,rfl,hd,hW⟩:=hrel;have hpj:0 < p ^ j:=Nat.pow_pos (by omega);have hle:p ^ j≤n:=Nat.le_of_dvd hn hd
  have hj:j < 20000:=by
   have h1:2 ^ j≤n:=Nat.le_trans (Nat.pow_le_pow_left hp j) hle;have h2:=(Nat.pow_lt_pow_iff_right (a:=2) (by omega)).1 (Nat.lt_of_le_of_lt h1 HBT.out);have:=HS.out;omega
  have hm0:n / p ^ j≠0:=by have:=Nat.div_pos hle hpj;omega
  have hne:=a2h _ hm0;have hne2:(Nt.E (n / p ^ j)).toList.isEmpty=false:=by simpa using hne
  have hms:=Nat.le_trans (Nt.E_size_le (Nat.div_le_self n (p ^ j))) HS.out;have hdm:=fun W => a4g (Nt.E (n / p ^ j)) P W (by omega) (by have:=HPS.out;omega)
  rw [Nt.V_E,HP.out,a2y,if_neg (by omega)] at hdm;by_cases h0:n / p ^ j % p=0
  ·
   have hq:n / p ^ j / p=n / p ^ (j+1):=by rw [Nat.div_div_eq_div_mul,Nat.pow_succ]
   have e0:Nt.E 0=⟨#[]⟩:=rfl;rw [hq,h0,e0] at hdm
   have hd2:Hid (p ^ (j+1) ∣ n):=by
    rw [Hid,Nat.pow_succ];exact (Nat.dvd_div_iff_mul_dvd hd).1 (Nat.dvd_of_mod_eq_zero h0)
   have HDM:=zh hdm;have HW:=zh hW;generalize Nt.E (n / p ^ j)=m at *;clear hdm hW hd hpj hle hm0 hms h0 hq e0;go_wp2_with (go_at_call 83;refine (HDM.out _).mono ?_;rintro e w1 ⟨rfl,hb1⟩);exact ⟨⟨j+1,by go_num,by go_num,rfl,hd2.out,HW.out.trans (hb1.mono HW.out.size)⟩,by simp [intOf];omega⟩
  ·
   have hv:Hid (Nt.IsVl p n j):=⟨hd,fun hh => h0 (by
    rw [Nat.pow_succ] at hh
    exact Nat.mod_eq_zero_of_dvd ((Nat.dvd_div_iff_mul_dvd hd).2 hh))⟩
   have hr1:=a2h _ h0;have hr2:(Nt.E (n / p ^ j % p)).toList.isEmpty=false:=by simpa using hr1
   have HDM:=zh hdm;have HW:=zh hW;generalize Nt.E (n / p ^ j % p)=r at *;generalize Nt.E (n / p ^ j)=m at *;clear hdm hW hd hpj hle hm0 hms h0;go_wp2_with (go_at_call 83;refine (HDM.out _).mono ?_;rintro e w1 ⟨rfl,hb1⟩)
   go_ret
   exact ⟨⟨j,rfl,hv.out⟩,HW.out.trans (hb1.mono HW.out.size)⟩
theorem b0k (P:ByteArray) (w:World) :
  Calls Tryz.prog 102 #[.string ⟨#[]⟩,.string P] w fun e w' => e=.returned (.int .i64 0)∧w=w':=by
 go_enter Tryz.func102,Tryz.ntmps102
 go_wp2
 go_loop [0,5,6] (fun a k i => a=.string ⟨#[]⟩∧k=.int .i64 0∧i=.int .i64 0) (fun _ _ _ => 0)
 case atStart => exact ⟨rfl,rfl,rfl⟩
 case round =>
  obtain ⟨rfl,rfl,rfl⟩:=hrel
  go_wp2
  go_ret
  exact ⟨rfl,rfl⟩
theorem b4s (a:ByteArray) (w:World) (ha:a.size≤1000) :
  Calls Tryz.prog 74 #[.string a] w fun e w' => c1q (Nt.V a) e∧Below w.heap.size w w':=by
 have HT:=zh (fun w => a0t a w);have hes:=Nat.le_trans (Nt.E_size_V a) ha;have hB:=Below.refl w.heap.size w;by_cases h0:Nt.V a=0
 ·
  have e0:Nt.E 0=⟨#[]⟩:=rfl;rw [h0,e0] at HT;have H0:=zh h0;clear h0 e0;go_enter Tryz.func74,Tryz.ntmps74
  go_wp2_with (first
   | (go_at_call 77;refine (HT.out _).mono ?_;rintro e w1 ⟨rfl,rfl⟩)
   | (go_at_call 102;refine (b0k _ _).mono ?_;rintro e w1 ⟨rfl,rfl⟩))
  go_ret2
  exact ⟨Or.inl ⟨H0.out,rfl⟩,hB⟩
 ·
  have HO2:=zh (fun w => a6y ⟨#[2]⟩ 2 (Nt.V a) w (by decide) (by decide) (by decide) hes (by omega));have HO5:=zh (fun w => a6y ⟨#[5]⟩ 5 (Nt.V a) w (by decide) (by decide) (by decide) hes (by omega));have H0:=zh h0;clear h0;go_enter Tryz.func74,Tryz.ntmps74;go_wp2_with (go_at_call 77;refine (HT.out _).mono ?_;rintro e w1 ⟨rfl,rfl⟩);refine (HO2.out _).mono ?_;rintro e w1 ⟨⟨t,rfl,ht⟩,hb1⟩;have HT2:=zh ht;clear ht;go_wp2_with fail;refine (HO5.out _).mono ?_;rintro e w2 ⟨⟨f,rfl,hf⟩,hb2⟩;have HF:=zh hf;clear hf
  go_wp2
  go_ret2
  exact ⟨Or.inr ⟨H0.out,t,f,rfl,HT2.out,HF.out⟩,hb1.trans (hb2.mono hb1.size)⟩
def inG (c r:Int):Bool:=decide (1≤c) && decide (c≤52) && decide (1≤r) && decide (r≤99)
theorem a9p (c r:Int):inG c r=true ↔ 1≤c∧c≤52∧1≤r∧r≤99:=by
 unfold inG;simp only [Bool.and_eq_true,decide_eq_true_eq,and_assoc]
def a2u (b:UInt8):Bool:=decide (65≤b.toNat∧b.toNat≤90)
theorem a6b (c r:Int) (w:World) :
  Calls Tryz.prog 71 #[.int .i64 c,.int .i64 r] w fun e w' => e=.returned (.bool (inG c r))∧w'=w:=by
 go_enter Tryz.func71,Tryz.ntmps71
 go_wp2
 all_goals (go_ret;exact ⟨a0d (by unfold inG;simp;try omega),rfl⟩)
theorem a7o (c r:Int) (w:World) :
  Calls Tryz.prog 79 #[.int .i64 c,.int .i64 r] w fun e w' => e=.returned (.bool (inG c r))∧w'=w:=by
 go_enter Tryz.func79,Tryz.ntmps79
 go_wp2
 all_goals (go_ret;exact ⟨a0d (by unfold inG;simp;try omega),rfl⟩)
set_option maxHeartbeats 1000000
theorem a5l {s:ByteArray} (h:0 < s.size):s.data.toList.headD 0=s[0]:=by
 obtain ⟨⟨l⟩⟩:=s
 cases l with
 | nil => exact absurd h (by decide)
 | cons x l => rfl
def c6y (s:ByteArray) (i:Value):Prop:=∃ n:Nat,i=.int .i64 n∧n≤s.size∧(s.data.toList.take n).all a2u=true
theorem a6c {l:List UInt8} {n:Nat} (h:(l.take n).all a2u=true) (he:n=l.length ∨ ∃ h:n < l.length,a2u l[n]=false):(l.takeWhile a2u).length=n∧l.takeWhile a2u=l.take n∧l.dropWhile a2u=l.drop n:=by
 have hs:=List.take_append_drop n l
 have hd:∀ d,d=l.drop n→d.takeWhile a2u=[]∧d.dropWhile a2u=d:=by
  intro d hd
  rcases he with rfl | ⟨hn,hx⟩
  ·
   rw [List.drop_length] at hd;subst hd;exact ⟨rfl,rfl⟩
  ·
   subst hd;rw [List.drop_eq_getElem_cons hn];exact ⟨List.takeWhile_cons_of_neg (by rw [hx];decide),List.dropWhile_cons_of_neg (by rw [hx];decide)⟩
 obtain ⟨d1,d2⟩:=hd _ rfl
 have e:l.takeWhile a2u=l.take n∧l.dropWhile a2u=l.drop n:=by
  have h1:∀ x ∈ l.take n,a2u x=true:=List.all_eq_true.1 h;constructor
  ·
   rw [← hs,List.takeWhile_append_of_pos h1,d1,List.append_nil,hs]
  ·
   rw [← hs,List.dropWhile_append_of_pos h1,d2,hs]
 refine ⟨?_,e⟩;rw [e.1,List.length_take]
 rcases he with h | ⟨h,_⟩ <;> omega
theorem b8j {l:List UInt8} {n:Nat} (hn:n < l.length) (h:(l.take n).all a2u=true) (hx:a2u l[n]=true):(l.take (n+1)).all a2u=true:=by
 rw [List.take_succ_eq_append_getElem hn,List.all_append,h];simp [hx]
theorem a4p (s:ByteArray) (n:Nat) (h:n < s.size):s.data.toList[n]'(by simpa using h)=s[n]:=by
 obtain ⟨⟨l⟩⟩:=s;rfl
theorem a7p (s:ByteArray) (w:World) (hs:s.size≤maxLen) :
  Calls Tryz.prog 38 #[.string s] w fun e w' => e=.returned (.int .i64 ((s.data.toList.takeWhile a2u).length:Nat))∧w'=w:=by
 unfold maxLen at hs;have hud:undef=Value.tuple #[]:=rfl;have hl:s.data.toList.length=s.size:=by simp
 have HL:=zh hl;clear hl;go_enter Tryz.func38,Tryz.ntmps38
 go_wp2
 go_loop [3] (c6y s) (fun i => s.size - (intOf i).toNat)
 case atStart => exact ⟨0,rfl,by omega,rfl⟩
 case round =>
  obtain ⟨n,rfl,hn,ha⟩:=hrel;have HA:=zh ha;clear ha;by_cases hlt:n < s.size
  ·
   have hg:=zh (a4p s n hlt);by_cases h1:65≤s[n].toNat
   ·
    by_cases h2:s[n].toNat≤90
    ·
     have hu:Hid (a2u s[n]=true):=by show a2u s[n]=true;unfold a2u;simp;omega
     go_wp2
     refine ⟨⟨n+1,by go_num,by omega,?_⟩,by simp [intOf];omega⟩;exact b8j (by rw [HL.out];exact hlt) HA.out (by rw [hg.out];exact hu.out)
    ·
     have hu:Hid (a2u s[n]=false):=by show a2u s[n]=false;unfold a2u;simp;omega
     go_wp2
     go_ret
     have:=a6c HA.out (Or.inr ⟨by rw [HL.out];exact hlt,by rw [hg.out];exact hu.out⟩);exact ⟨a1c (by rw [this.1]),rfl⟩
   ·
    have hu:Hid (a2u s[n]=false):=by show a2u s[n]=false;unfold a2u;simp;omega
    go_wp2
    go_ret
    have:=a6c HA.out (Or.inr ⟨by rw [HL.out];exact hlt,by rw [hg.out];exact hu.out⟩);exact ⟨a1c (by rw [this.1]),rfl⟩
  ·
   have hn':n=s.size:=by omega
   go_wp2
   go_ret
   have:=a6c HA.out (Or.inl (by rw [HL.out];exact hn'));exact ⟨a1c (by rw [this.1,hn']),rfl⟩
def c9p (s:ByteArray):ByteArray:=⟨(s.data.toList.takeWhile a2u).toArray⟩
def c9o (s:ByteArray):ByteArray:=⟨(s.data.toList.dropWhile a2u).toArray⟩
end Go.Proofs.YtjfkbeanbbeloaaGreatDoor
