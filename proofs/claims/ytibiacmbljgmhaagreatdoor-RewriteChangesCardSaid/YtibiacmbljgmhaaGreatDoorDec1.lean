import Derived.Test.YtibiacmbljgmhaaGreatDoorShelf2
import Derived.Test.YtibiacmbljgmhaaGreatDoorLong1
set_option linter.all false
namespace Go.Proofs.YtibiacmbljgmhaaGreatDoor
def Nt.dcs (n:Nat):Nat->List Nat
 | 0=>[]
 | m+1=>Nt.dcs (n/10) m ++ [48+n%10]
def Nt.decF:Nat->Nat->List Nat
 | 0,_=>[]
 | f+1,n=>if n<10 then [48+n] else Nt.decF f (n/10) ++ [48+n%10]
def Nt.dec (n:Nat):List Nat:=Nt.decF (n+1) n
theorem Nt.decF_eq (n:Nat):∀ f g:Nat,n<f->n<g->Nt.decF f n=Nt.decF g n:=by
 induction n using Nat.strongRecOn with
 | _ n ih =>
  intro f g hf hg;obtain⟨f,rfl⟩:∃ k,f=k+1:=⟨f-1,by omega⟩;obtain⟨g,rfl⟩:∃ k,g=k+1:=⟨g-1,by omega⟩;unfold Nt.decF;by_cases h:n<10
  ·
   rw[if_pos h,if_pos h]
  ·
   rw[if_neg h,if_neg h,ih (n/10) (by omega) f g (by omega) (by omega)]
theorem Nt.dec_small {n:Nat} (h:n<10):Nt.dec n=[48+n]:=by
 unfold Nt.dec Nt.decF;rw[if_pos h]
theorem Nt.dec_big {n:Nat} (h : ¬ n<10):Nt.dec n=Nt.dec (n/10) ++ [48+n%10]:=by
 have e:Nt.dec n=Nt.decF (n+1) n:=rfl;rw[e,Nt.decF,if_neg h,Nt.decF_eq (n/10) n (n/10+1) (by omega) (by omega)];rfl
theorem Nt.dcs_length (n m:Nat):(Nt.dcs n m).length=m:=by
 induction m generalizing n with
 | zero=>rfl
 | succ m ih=>rw[Nt.dcs,jM,ih];rfl
theorem Nt.dcs_add (n a b:Nat):Nt.dcs n (a+b)=Nt.dcs (n/10^b) a++Nt.dcs n b:=by
 induction b generalizing n with
 | zero=>simp[Nt.dcs]
 | succ b ih =>
  have e:Nt.dcs n (a+(b+1))=Nt.dcs (n/10) (a+b) ++ [48+n%10]:=rfl;rw[e,ih,jR,jN,jK 10,List.append_assoc];rfl
theorem Nt.dcs_one (n i:Nat):Nt.dcs n (i+1)=(48+n/10^i%10) :: Nt.dcs n i:=by
 rw[Nat.add_comm,Nt.dcs_add];rfl
theorem Nt.dcs_dec {n i:Nat} (hn:n<10^(i+1)) (h:i=0\/10^i<=n):Nt.dcs n (i+1)=Nt.dec n:=by
 induction i generalizing n with
 | zero =>
  have h1:n<10:=by simpa using hn
  rw[Nt.dec_small h1,Nt.dcs,Nt.dcs,jQ h1];rfl
 | succ i ih =>
  have h1:10^(i+1)<=n:=by
   rcases h with h | h
   ·
    omega
   ·
    exact h
  have hp:0<10^i:=jO (by omega);have h2:10*10^i<=n:=by rw[jK,<-jN];exact h1
  have h3 : ¬ n<10:=by
   have:=Nat.mul_le_mul_left 10 hp;omega
  have h4:n/10<10^(i+1):=by rw[Nat.div_lt_iff_lt_mul (by omega),<-jN];exact hn
  have h5:10^i<=n/10:=by rw[Nat.le_div_iff_mul_le (by omega),<-jN];exact h1
  rw[Nt.dec_big h3,Nt.dcs,ih h4 (Or.inr h5)]
theorem Nt.dec_length_le {n m:Nat} (h:n<10^(m+1)):(Nt.dec n).length<=m+1:=by
 induction m generalizing n with
 | zero =>
  have:n<10:=by simpa using h
  rw[Nt.dec_small this];simp
 | succ m ih =>
  by_cases h1:n<10
  ·
   rw[Nt.dec_small h1];simp
  ·
   have h4:n/10<10^(m+1):=by rw[Nat.div_lt_iff_lt_mul (by omega),<-jN];exact h
   rw[Nt.dec_big h1,jM];have:=ih h4;simp;omega
def Nt.S (l:List Nat):jW:=⟨(l.map UInt8.ofNat).toArray⟩
def Nt.D (n:Nat):jW:=Nt.S (Nt.dec n)
theorem Nt.S_size (l:List Nat):(Nt.S l).size=l.length:=by show (l.map UInt8.ofNat).toArray.size=_;simp
theorem Nt.S_append (a b:List Nat):Nt.S a++Nt.S b=Nt.S (a++b):=by
 unfold Nt.S;rw[b7t,List.map_append]
def Nt.dv (l:List UInt8):Nat:=l.foldl (fun n b=>n*10+(b.toNat-48)) 0
theorem Nt.dv_foldl (l:List UInt8) (a:Nat):l.foldl (fun n b=>n*10+(b.toNat-48)) a=a*10^l.length+Nt.dv l:=by
 induction l generalizing a with
 | nil=>simp[Nt.dv]
 | cons b l ih =>
  have e:Nt.dv (b :: l)=l.foldl (fun n b=>n*10+(b.toNat-48)) (0*10+(b.toNat-48)):=rfl;rw[List.foldl_cons,ih,e,ih,List.length_cons,jN,Nat.add_mul,Nat.zero_mul,Nat.zero_add,jL,jK (10^l.length) 10];omega
theorem Nt.dv_append (a b:List UInt8):Nt.dv (a++b)=Nt.dv a*10^b.length+Nt.dv b:=by
 rw[Nt.dv,List.foldl_append,Nt.dv_foldl];rfl
theorem Nt.dv_snoc (a:List UInt8) (b:UInt8):Nt.dv (a ++ [b])=Nt.dv a*10+(b.toNat-48):=by
 rw[Nt.dv_append];simp[Nt.dv]
def Nt.isDig (b:UInt8):Bool:=decide (48<=b.toNat/\b.toNat<=57)
theorem Nt.dv_lt (l:List UInt8) (h:∀ b ∈ l,Nt.isDig b=true):Nt.dv l<10^l.length:=by
 induction l with
 | nil=>simp[Nt.dv]
 | cons b l ih =>
  have hb:48<=b.toNat/\b.toNat<=57:=by simpa [Nt.isDig] using h b List.mem_cons_self
  have hl:=ih fun x hx=>h x (List.mem_cons_of_mem _ hx)
  rw[show b :: l=[b]++l from rfl,Nt.dv_append,jM,List.length_singleton,Nat.pow_add,Nat.pow_one];have e:Nt.dv [b]=b.toNat-48:=by simp[Nt.dv]
  rw[e];have h1:(b.toNat-48+1)*10^l.length<=10*10^l.length:=Nat.mul_le_mul_right _ (by omega);rw[Nat.add_mul,Nat.one_mul] at h1;omega
theorem Nt.ten_le (k:Nat):(256:Nat)^(2*k)<=10^(5*k):=by
 rw[Nat.pow_mul,Nat.pow_mul];exact Nat.pow_le_pow_left (by decide) k
theorem Nt.lt_ten {n s k:Nat} (h:(Nt.E n).size<=s) (hk:s<=2*k):n<10^(5*k):=by
 have h1:=Nt.V_lt (Nt.E n);rw[Nt.V_E] at h1;exact jF h1 (jG (jP (by omega) (jG h hk)) (Nt.ten_le k))
set_option maxHeartbeats 1000000
set_option maxRecDepth 100000
open Go.RowKit Go.Shelf
def d7n (s:jW):Value :=
 if s.data.toList.all Nt.isDig=false\/s.size=0 then .tuple #[S0,I6 3]
 else if 400<s.size then .tuple #[S0,I6 9]
 else .tuple #[Sg (Nt.E (Nt.dv s.data.toList)),I6 0]
theorem e2d (s:jW) (h:s.data.toList.all Nt.isDig=false\/s.size=0):d7n s=.tuple #[S0,I6 3]:=if_pos h
theorem e1l (s:jW) (h:s.data.toList.all Nt.isDig=true) (h4:400<s.size):d7n s=.tuple #[S0,I6 9]:=by
 rw[d7n,if_neg (by rw[h];exact fun h1=>h1.elim (fun h2=>by cases h2) (fun h2=>by omega)),if_pos h4]
theorem d9x (s:jW) (h:s.data.toList.all Nt.isDig=true) (h0:0<s.size) (h4:s.size<=400):d7n s=.tuple #[Sg (Nt.E (Nt.dv s.data.toList)),I6 0]:=by
 rw[d7n,if_neg (by rw[h];exact fun h1=>h1.elim (fun h2=>by cases h2) (fun h2=>by omega)),if_neg (by omega)]
theorem Nt.all_false (s:jW) (k:Nat) (h:k<s.size) (hb:Nt.isDig (s[k]'h)=false):s.data.toList.all Nt.isDig=false:=by
 rw[List.all_eq_false];exact⟨s[k],by simp[ByteArray.getElem_eq_getElem_data],by simp[hb]⟩
theorem Nt.all_true (s:jW) (h:∀ k (hk:k<s.size),Nt.isDig (s[k]'hk)=true):s.data.toList.all Nt.isDig=true:=by
 rw[List.all_eq_true];intro b hb;obtain⟨i,hi,rfl⟩:=List.getElem_of_mem hb;have:=h i (by simpa using hi);simpa [ByteArray.getElem_eq_getElem_data] using this
theorem Nt.dv_take (s:jW) (k:Nat) (h:k<s.size):Nt.dv (s.data.toList.take (k+1))=Nt.dv (s.data.toList.take k)*10+((s[k]'h).toNat-48):=by
 rw[List.take_succ_eq_append_getElem (by simpa using h),Nt.dv_snoc];rfl
theorem Nt.dv_size {l:List UInt8} (h:∀ b ∈ l,Nt.isDig b=true) (hl:l.length<=400):(Nt.E (Nt.dv l)).size<=170:=by
 refine Nt.E_size_lt (jF (Nt.dv_lt l h) (jG (jP (by omega) hl) ?_));have h1:(10:Nat)^400<=256^170:=by decide +kernel
 exact h1
theorem Nt.dv_mul_size {n:Nat} (h:(Nt.E n).size<=170) (m:Nat) (hm:m<256^4):(Nt.E (n*m)).size<=174:=by
 have h1:=Nt.V_lt (Nt.E n);rw[Nt.V_E] at h1;exact f4f (f2e (jF h1 (jP (by omega) h)) hm)
def f0h (w:World) (s:jW) (a i:Value) (wr:World):Prop:=∃ k:Nat,k<=s.size/\i=I6 (k:Int)/\a=Sg (Nt.E (Nt.dv (s.data.toList.take k)))/\Bl w wr
theorem e2e (s:jW) (w:World) (hs:s.size<=maxLen) :
  Ca 173 #[Sg s] w (d7n s):=by
 unfold maxLen at hs;have PB:=zh (e2d s);have PL:=zh (e1l s);have PO:=zh (d9x s);go_enter Tryz.func173,Tryz.ntmps173
 go_wp2
 go_loop [4] (fun i=>∃ k:Nat,k<=s.size/\i=I6 (k:Int)/\∀ j (_:j<k) (h:j<s.size),Nt.isDig (s[j]'h)=true) (fun i=>s.size-(intOf i).toNat)
 case atStart=>exact⟨0,by omega,rfl,fun j hj=>by omega⟩
 case round =>
  obtain⟨k,hk,rfl,hall⟩:=hrel;by_cases hlt:k<s.size
  ·
   have HA:=zh hall;clear hall;by_cases hd:Nt.isDig (s[k]'hlt)=true
   ·
    have h1 : ¬ ((s[k]'hlt).toNat:Int)<48:=by simp[Nt.isDig] at hd;omega
    have h2 : ¬ (57:Int)<((s[k]'hlt).toNat:Int):=by simp[Nt.isDig] at hd;omega
    have HD:=zh hd;clear hd
    go_wp2
    go_round
    case rel =>
     refine⟨k+1,by omega,by go_num,fun j hj h=>?_⟩
     by_cases e:j=k
     ·
      subst e;exact HD.out
     ·
      exact HA.out j (by omega) h
    case measure=>simp[intOf];omega
   ·
    have hd':Nt.isDig (s[k]'hlt)=false:=by simpa using hd
    have hr:=zh (PB.out (Or.inl (Nt.all_false s k hlt hd')));have h12:((s[k]'hlt).toNat:Int)<48\/(¬ ((s[k]'hlt).toNat:Int)<48/\(57:Int)<((s[k]'hlt).toNat:Int)):=by simp[Nt.isDig] at hd;omega
    clear hd hd'
    rcases h12 with h12 | ⟨h12,h13⟩
    all_goals
     go_wp2
     go_ret2
     exact⟨congrArg jV hr.out.symm,Below.refl _ _⟩
  ·
   obtain rfl:k=s.size:=by omega
   have hda:=Nt.all_true s fun j hj=>hall j hj hj
   have hdl:∀ b ∈ s.data.toList,Nt.isDig b=true:=fun b hb=>List.all_eq_true.1 hda b hb
   have HDA:=zh hda;have HDL:=zh hdl;clear hall hda hdl;by_cases h0:s.size=0
   ·
    have hr:=zh (PB.out (Or.inr h0))
    have hn:s.toList=[]:=by
     rw[jI];exact jT (by simpa using h0)
    have h0' : ¬ (s.size:Int)<(s.size:Int):=by omega
    clear h0
    go_wp2
    go_ret2
    exact⟨congrArg jV hr.out.symm,Below.refl _ _⟩
   ·
    have hn : ¬ s.toList=[]:=by
     rw[jI];intro h;exact h0 (by have:=congrArg List.length h;simpa using this)
    have hn2:s.toList.isEmpty=false:=by simpa using hn
    by_cases h4:400<s.size
    ·
     have hr:=zh (PL.out HDA.out h4)
     go_wp2
     go_ret2
     exact⟨congrArg jV hr.out.symm,Below.refl _ _⟩
    ·
     have hr:=zh (PO.out HDA.out (by omega) (by omega));have H0:=zh h0;clear h0
     go_wp2
     go_loopw [5,6] (f0h w s) (fun _ i _=>s.size-(intOf i).toNat)
     case atStart=>exact⟨0,by omega,rfl,rfl,Below.refl _ _⟩
     case round =>
      obtain⟨k,hk,rfl,rfl,hW⟩:=hrel;by_cases hlt:k<s.size
      ·
       have hd:=HDL.out (s[k]'hlt) (by simp[ByteArray.getElem_eq_getElem_data]);have hs1:=Nt.dv_take s k hlt;have j8:=Nt.dv_size (l:=s.data.toList.take k) (fun b hb=>HDL.out b (List.mem_of_mem_take hb)) (by rw[List.length_take];omega);have hms:=Nt.dv_mul_size j8 10 (by decide);generalize Nt.dv (s.data.toList.take k)=x at *;have e1:Nt.V ⟨#[10]⟩=10:=by decide
       have hm:=fun W=>a6o (Nt.E x) ⟨#[10]⟩ W (by omega) (by decide)
       rw[Nt.V_E,e1] at hm;obtain⟨c,hc⟩:=nM ((s[k]'hlt).toNat);have hcd:48<=c/\c<=57:=by rw[hc];simpa [Nt.isDig] using hd
       have hos:=jG (Nt.E_size_lt (n:=c-48) (m:=1) (by omega)) (show 1<=100000 by omega);have ha:=fun W=>e5z (Nt.E (x*10)) (Nt.E (c-48)) W (by omega) hos
       rw[Nt.V_E,Nt.V_E,hc,<-hs1] at ha;rw[<-hc] at ha
       have q1:IntKind.u8.wrap (((s[k]'hlt).toNat:Int)-48)=((c-48:Nat):Int):=by
        rw[<-hc];show (_:Int)%256=_;omega
       have q0:((s[k]'hlt).toNat:Int)-48=((c-48:Nat):Int):=by rw[<-hc];omega
       have q2:(((s[k]'hlt).toNat:Int)-48)%256=((c-48:Nat):Int):=by rw[<-hc];omega
       have q3:IntKind.u8.wrap ((c-48:Nat):Int)=((c-48:Nat):Int):=by show (_:Int)%256=_;omega
       have q4:IntKind.u64.wrap ((c-48:Nat):Int)=((c-48:Nat):Int):=c4x (by omega) (by omega);have ho:=fun W=>c1z (c-48) W (by omega)
       have HM:=zh hm;have HO:=zh ho;have HAd:=zh ha;clear hm ho ha j8 hms hs1 hd hos hcd;have hB:=hW.drew;have HC:=zh hc;generalize c-48=d at *;clear hc hW
       go_wp2
       go_region_with (first
        | (go_at_call 150;with_reducible refine(a2s hB (HM.out _)).mono ?_;clear hB;rintro e w1 ⟨rfl,hB⟩)
        | (go_at_call 203;with_reducible refine(a2s hB (HO.out _)).mono ?_;clear hB;rintro e w1 ⟨rfl,hB⟩)
        | (go_at_call 202;with_reducible refine(a2s hB (HAd.out _)).mono ?_;clear hB;rintro e w1 ⟨rfl,hB⟩))
       all_goals go_wp2
       all_goals exact⟨⟨k+1,by omega,by go_num,rfl,hB⟩,by simp[intOf];omega⟩
      ·
       have hk':k=s.size:=by omega
       subst hk';have hf:Hid (s.data.toList.take s.size=s.data.toList):=jS (by simp);have hr2:Hid (d7n s=.tuple #[Sg (Nt.E (Nt.dv (s.data.toList.take s.size))),I6 0]):=by rw[Hid,hf.out];exact hr.out
       go_wp2
       go_ret2
       first
        | exact⟨congrArg jV hr2.out.symm,hW⟩
        | exact⟨congrArg jV hr.out.symm,hW⟩
def digitSet:List UInt8:=[48,49,50,51,52,53,54,55,56,57]
theorem a6x (b:UInt8):digitSet.contains b=Nt.isDig b:=by
 have h:∀ n:Fin 256,digitSet.contains (UInt8.ofNat n.val)=Nt.isDig (UInt8.ofNat n.val):=by decide +kernel
 have:=h ⟨b.toNat,UInt8.toNat_lt b⟩
 rwa [show UInt8.ofNat (⟨b.toNat,UInt8.toNat_lt b⟩:Fin 256).val=b from UInt8.ofNat_toNat] at this
theorem a2w (p:UInt8->Bool):∀ l:List UInt8,l.dropWhile p=[] ↔ ∀ x ∈ l,p x=true
 | []=>by simp
 | b :: r=>by
  have ih:=a2w p r;by_cases h:p b=true
  ·
   rw[List.dropWhile_cons_of_pos h,ih];constructor
   ·
    intro hr x hx
    rcases List.mem_cons.1 hx with rfl | hx
    ·
     exact h
    ·
     exact hr x hx
   ·
    exact fun hr x hx=>hr x (List.mem_cons_of_mem _ hx)
  ·
   rw[List.dropWhile_cons_of_neg h];constructor
   ·
    intro hr;cases hr
   ·
    intro hr;exact absurd (hr b List.mem_cons_self) h
theorem c1o {l:List UInt8} (h:l.all Nt.isDig=true):Lib.trimS l digitSet=[]:=by
 have h1:Lib.trimRightS l digitSet=[]:=by
  unfold Lib.trimRightS;rw[List.reverse_eq_nil_iff,a2w];intro x hx;rw[List.mem_reverse] at hx;rw[a6x];exact List.all_eq_true.1 h x hx
 unfold Lib.trimS;rw[h1];rfl
theorem b7j {l:List UInt8} (h:l.all Nt.isDig=false):Lib.trimS l digitSet≠[]:=by
 intro hn;rw[List.all_eq_false] at h;obtain⟨x,hx,hb⟩:=h
 have h1:∀ y ∈ Lib.trimRightS l digitSet,digitSet.contains y=true:=by
  unfold Lib.trimS Lib.trimLeftS at hn;exact(a2w _ _).1 hn
 have h2:∀ y ∈ l,digitSet.contains y=true:=by
  intro y hy;have e:=List.takeWhile_append_dropWhile (p:=(digitSet.contains ·)) (l:=l.reverse);have hy2:y ∈ l.reverse:=List.mem_reverse.2 hy;rw[<-e,List.mem_append] at hy2
  rcases hy2 with hy2 | hy2
  ·
   have:=List.all_takeWhile (p:=(digitSet.contains ·)) (l:=l.reverse);exact List.all_eq_true.1 this y hy2
  ·
   exact h1 y (by unfold Lib.trimRightS;exact List.mem_reverse.2 hy2)
 have:=h2 x hx;rw[a6x] at this;exact hb this
theorem a3c (w:World) (e:TypeId) (s:jW):Bl w (Lib.bytesWorld w e s):=⟨rfl,rfl,rfl,by rw[Lib.bytesWorld_size];omega,fun j hj=>Lib.bytesWorld_at_old w e s j hj⟩
theorem b4p (s:jW) (w:World) (hs:s.size<=9223372036854775807) :
  Ca 130 #[Sg s,Sg ⟨#[48,49,50,51,52,53,54,55,56,57]⟩] w (Sg ⟨(Lib.trimS s.data.toList digitSet).toArray⟩) :=
 Any.strings_Trim_laid Tryz.l160 (by kernel_rfl) s ⟨#[48,49,50,51,52,53,54,55,56,57]⟩ w hs (by decide) (ascii_of_all (by decide))
def Nt.tail (n m j i:Nat):Nat:=if m<=i+9*j then 48+n/10^(m-1-i)%10 else 0
def Nt.IsVl (p n k:Nat):Prop:=p^k ∣ n/\¬ p^(k+1) ∣ n
theorem Nt.IsVl.le {p n k l:Nat} (h:Nt.IsVl p n k) (h':Nt.IsVl p n l):k<=l:=by
 rcases Nat.lt_or_ge l k with hlt | hge
 ·
  exact absurd (Nat.dvd_trans (Nat.pow_dvd_pow p hlt) h.1) h'.2
 ·
  exact hge
def Nt.Out (n d t r:Nat):Prop:=n=d^t*r/\r%d≠0
theorem Nt.Out.vl {n d t r:Nat} (hd:0<d) (h:Nt.Out n d t r):Nt.IsVl d n t:=by
 obtain⟨rfl,hr⟩:=h;refine⟨Nat.dvd_mul_right _ _,fun hh=>hr ?_⟩
 rw[jN] at hh;exact Nat.mod_eq_zero_of_dvd (Nat.dvd_of_mul_dvd_mul_left (jO hd) hh)
theorem Nt.out_more {n d s r:Nat} (h0:n%d=0) (h:Nt.Out (n/d) (d*d) s r) (hr:r%d=0):Nt.Out n d (1+2*s+1) (r/d):=by
 obtain⟨h1,h2⟩:=h;have e1:n=d*(n/d):=(Nat.mul_div_cancel' (Nat.dvd_of_mod_eq_zero h0)).symm;have e2:r=d*(r/d):=(Nat.mul_div_cancel' (Nat.dvd_of_mod_eq_zero hr)).symm;refine⟨?_,fun h3=>h2 ?_⟩
 ·
  rw[e1,h1,Nat.pow_add,Nat.pow_one,Nat.pow_add,Nat.pow_one,Nat.pow_mul]
  conv=>lhs;rw[e2]
  rw[show d^2=d*d from by rw[jN,Nat.pow_one]];rw[jL,jL]
 ·
  rw[e2];exact Nat.mod_eq_zero_of_dvd (Nat.mul_dvd_mul_left d (Nat.dvd_of_mod_eq_zero h3))
theorem Nt.out_same {n d s r:Nat} (h0:n%d=0) (h:Nt.Out (n/d) (d*d) s r) (hr:r%d≠0):Nt.Out n d (1+2*s) r:=by
 obtain⟨h1,h2⟩:=h;have e1:n=d*(n/d):=(Nat.mul_div_cancel' (Nat.dvd_of_mod_eq_zero h0)).symm;refine⟨?_,hr⟩;rw[e1,h1,Nat.pow_add,Nat.pow_one,Nat.pow_mul,show d^2=d*d from by rw[jN,Nat.pow_one],jL]
def c1p (n d:Nat) (e:Ending):Prop:=∃ t r:Nat,e=.returned (.tuple #[I6 (t:Int),Sg (Nt.E r)])/\Nt.Out n d t r
theorem Nt.out_few {n d t r K:Nat} (hn:0<n) (hd:2<=d) (hs:n<2^K) (h:Nt.Out n d t r):t<K/\r<=n/\0<r:=by
 obtain⟨h1,h2⟩:=h
 have hr:0<r:=by
  rcases Nat.eq_zero_or_pos r with h | h
  ·
   rw[h,Nat.mul_zero] at h1;omega
  ·
   exact h
 have hp:0<d^t:=jO (by omega);have h3:d^t<=n:=by rw[h1];exact Nat.le_mul_of_pos_right _ hr
 refine⟨?_,by rw[h1];exact Nat.le_mul_of_pos_left _ hp,hr⟩;exact(Nat.pow_lt_pow_iff_right (a:=2) (by omega)).1 (Nat.lt_of_le_of_lt (jG (Nat.pow_le_pow_left hd t) h3) hs)
theorem Nt.lt_bits (n:Nat):n<2^(8*(Nt.E n).size):=by
 have h1:=Nt.V_lt (Nt.E n)
 rwa [Nt.V_E,Nt.pow256] at h1
theorem b4q (n:Nat):∀ (a:jW) (d:Nat) (w:World),Nt.V a=n->0<n->2<=d->a.size<=1000->(Nt.E d).size<=2000->a=Nt.E n ->
  Cz 251 #[Sg a,Sg (Nt.E d)] w fun e w'=>c1p n d e/\Bl w w':=by
 induction n using Nat.strongRecOn with
 | _ n ih =>
  intro a d w hVa hn hd hs hds hae;subst hae;have hdm:=fun W=>a8i (Nt.E n) (Nt.E d) W (by omega) hds
  rw[Nt.V_E,Nt.V_E,a2y,if_neg (by omega)] at hdm;have hB:=Below.refl w.heap.size w;have HB16:=zh (Nt.lt_bits n);by_cases h0:n%d=0
  ·
   have e0:Nt.E 0=⟨#[]⟩:=rfl;rw[h0,e0] at hdm;have hdn:d<=n:=Nat.le_of_dvd hn (Nat.dvd_of_mod_eq_zero h0);have hq0:0<n/d:=Nat.div_pos hdn (by omega);have hqn:n/d<n:=Nat.div_lt_self hn hd;have hds2:=Nt.E_size_le hdn;have hqs:=Nt.E_size_le (Nat.le_of_lt hqn);have hdd:=Nt.sq_size d;have hml:=fun W=>a9l (Nt.E d) (Nt.E d) W (by omega) (by omega)
   rw[Nt.V_E] at hml;have hdd2:2<=d*d:=jG hd (Nat.le_mul_of_pos_left d (by omega));have hrec:=fun W=>ih (n/d) hqn (Nt.E (n/d)) (d*d) W (Nt.V_E _) hq0 hdd2 (by omega) (by omega) rfl
   have hq16:=Nat.lt_trans hqn HB16.out;have HDM:=zh hdm;have HML:=zh hml
   have HR:=zh (fun W=>(hrec W).mono (fun e w' (h:c1p (n/d) (d*d) e/\Bl W w')=>(by
    obtain⟨⟨t,r,he,ho⟩,hb⟩:=h;have hf:=Nt.out_few hq0 hdd2 hq16 ho
    exact⟨⟨t,r,he,ho,jF hf.1 (by omega),jG (Nt.E_size_le hf.2.1) hqs⟩,hb⟩:(∃ t r:Nat,e=.returned (.tuple #[I6 (t:Int),Sg (Nt.E r)])/\Nt.Out (n/d) (d*d) t r/\t<8000/\(Nt.E r).size<=(Nt.E n).size)/\Bl W w')))
   have H0:=zh h0;have HDS:=zh hds;have HS:=zh hs
   have HDM2:=zh (fun (r:Nat) (hr:(Nt.E r).size<=1000) W=>(by
    have h:=a8i (Nt.E r) (Nt.E d) W (by omega) hds;rw[Nt.V_E,Nt.V_E,a2y,if_neg (by omega)] at h
    exact h:Ca 240 #[Sg (Nt.E r),Sg (Nt.E d)] W (.tuple #[Sg (Nt.E (r/d)),Sg (Nt.E (r%d)),I6 0])))
   clear hdm hml hrec h0 ih hq16 hdd hdn hqn hds2 hqs hs hds hq0 hdd2;go_enter Tryz.func251,Tryz.ntmps251
   go_wp2_with (first
    | (go_at_call 240;with_reducible refine(a2s hB (HDM.out _)).mono ?_;clear hB;rintro e w1 ⟨rfl,hB⟩)
    | (go_at_call 267;with_reducible refine(a2s hB (HML.out _)).mono ?_;clear hB;rintro e w1 ⟨rfl,hB⟩)
    | (go_at_call 251;with_reducible refine(HR.out _).mono ?_;rintro e w2 ⟨⟨t,r,rfl,ho,ht,hrs⟩,hb2⟩;have HO:=zh ho;have hB2:=bT hB hb2;clear ho hB hb2))
   have hd2:=HDM2.out r (by have:=HS.out;omega);by_cases hr0:r%d=0
   ·
    have hout:=Nt.out_more H0.out HO.out hr0;have e0:Nt.E 0=⟨#[]⟩:=rfl;rw[hr0,e0] at hd2;have HD2:=zh hd2;have HOUT:=zh hout;clear hd2 hout hr0 e0;refine(a2s hB2 (HD2.out _)).mono ?_;clear hB2;rintro e w3 ⟨rfl,hB3⟩
    go_wp2
    go_ret2
    exact⟨⟨1+2*t+1,r/d,by rw[show ((1+2*t+1:Nat):Int)=1+2*(t:Int)+1 from by omega];rfl,HOUT.out⟩,hB3⟩
   ·
    have hout:=Nt.out_same H0.out HO.out hr0;have hne : ¬ (Nt.E (r%d)).toList=[]:=a2h _ hr0;have hne2:(Nt.E (r%d)).toList.isEmpty=false:=by simpa using hne
    generalize Nt.E (r%d)=R at *;have HD2:=zh hd2;have HOUT:=zh hout;clear hd2 hout hr0;refine(a2s hB2 (HD2.out _)).mono ?_;clear hB2;rintro e w3 ⟨rfl,hB3⟩
    go_wp2
    go_ret2
    exact⟨⟨1+2*t,r,by rw[show ((1+2*t:Nat):Int)=1+2*(t:Int) from by omega];rfl,HOUT.out⟩,hB3⟩
  ·
   have hne : ¬ (Nt.E (n%d)).toList=[]:=a2h _ h0;have hne2:(Nt.E (n%d)).toList.isEmpty=false:=by simpa using hne
   have hr:Hid (Nt.Out n d 0 n):=⟨by rw[Nat.pow_zero,Nat.one_mul],h0⟩;generalize Nt.E (n%d)=R at *;have HDM:=zh hdm;clear hdm h0 ih;go_enter Tryz.func251,Tryz.ntmps251;go_wp2_with (go_at_call 240;with_reducible refine(a2s hB (HDM.out _)).mono ?_;clear hB;rintro e w1 ⟨rfl,hB⟩)
   go_ret2
   exact⟨⟨0,n,rfl,hr.out⟩,hB⟩
theorem a8h (l:List UInt8):∃ z,l=Lib.trimRightB l 0++List.replicate z 0/\(Lib.trimRightB l 0=[]\/∃ q b,Lib.trimRightB l 0=q ++ [b]/\b≠0):=by
 unfold Lib.trimRightB;have e:=List.takeWhile_append_dropWhile (p:=(· == (0:UInt8))) (l:=l.reverse);have ha:=List.all_takeWhile (p:=(· == (0:UInt8))) (l:=l.reverse);obtain⟨tw,htw⟩:=nM (l.reverse.takeWhile (· == 0));obtain⟨d,hd⟩:=nM (l.reverse.dropWhile (· == 0));rw[<-htw] at ha;rw[<-htw,<-hd] at e;rw[<-hd]
 have h1:tw=List.replicate tw.length 0:=by
  rw[List.eq_replicate_iff];exact⟨rfl,fun b hb=>by simpa using List.all_eq_true.1 ha b hb⟩
 refine⟨tw.length,?_,?_⟩
 ·
  have e2:=congrArg List.reverse e;rw[List.reverse_reverse,List.reverse_append] at e2
  conv=>lhs;rw[<-e2]
  congr 1
  rw[h1,List.reverse_replicate,List.length_replicate]
 ·
  cases hdd:d with
  | nil=>exact Or.inl rfl
  | cons b q =>
   refine Or.inr ⟨q.reverse,b,by rw[List.reverse_cons],fun hb=>?_⟩
   have h2:=List.head?_dropWhile_not (p:=(· == (0:UInt8))) (l:=l.reverse);rw[<-hd,hdd] at h2;simp[hb] at h2
theorem a5b (l:List UInt8) (z:Nat):Nt.val (l++List.replicate z 0)=Nt.val l*256^z:=by
 induction z with
 | zero=>simp
 | succ z ih =>
  rw[List.replicate_succ',<-List.append_assoc,Nt.val_snoc,ih,jN,jL];rfl
theorem b7k:∀ b:Fin 256,b.val≠0->b.val%2^Lib.trailingZeros8 b.val=0/\b.val/2^Lib.trailingZeros8 b.val%2=1/\Lib.trailingZeros8 b.val<8:=by decide +kernel
theorem c6i (x b z s:Nat) (h1:b%2^s=0) (h2:b/2^s%2=1) (h3:s<8):Nt.Out ((x*256+b)*256^z) 2 (8*z+s) (x*2^(8-s)+b/2^s):=by
 refine⟨?_,?_⟩
 ·
  have e1:b=2^s*(b/2^s):=(Nat.mul_div_cancel' (Nat.dvd_of_mod_eq_zero h1)).symm;have e2:(256:Nat)=2^s*2^(8-s):=by rw[<-Nat.pow_add,show s+(8-s)=8 from by omega]
  have e3:x*256+b=2^s*(x*2^(8-s)+b/2^s):=by
   rw[Nat.mul_add,<-e1]
   congr 1
   rw[<-jL,jK (2^s) x,jL,<-e2]
  rw[e3,Nt.pow256,Nat.pow_add,jK _ (2^(8*z)),jL]
 ·
  obtain⟨t,ht⟩:∃ t,8-s=t+1:=⟨7-s,by omega⟩;rw[ht,jN];generalize b/2^s=y at *;have:x*(2^t*2)=2*(x*2^t):=by rw[<-jL,jK]
  omega
theorem c3y {n t o f:Nat} (h:n=2^t*o) (hf:Nt.IsVl 5 o f):Nt.IsVl 5 n f:=by
 refine⟨by rw[h];exact Nat.dvd_trans hf.1 (Nat.dvd_mul_left _ _),fun hd=>hf.2 ?_⟩
 rw[h] at hd;exact Nat.Coprime.dvd_of_dvd_mul_left (Nat.Coprime.pow _ _ (by decide)) hd
def c1q (n:Nat) (e:Ending):Prop:=(n=0/\e=.returned (.tuple #[I6 0,I6 0])) \/
 (n≠0/\∃ t f:Nat,e=.returned (.tuple #[I6 (t:Int),I6 (f:Int)])/\Nt.IsVl 2 n t/\Nt.IsVl 5 n f)
theorem b4r (a:jW) (w:World) (ha:a.size<=1000) :
  Cz 239 #[Sg a] w fun e w'=>c1q (Nt.V a) e/\Bl w w':=by
 have HB:=zh (fun w=>a4f a w (by omega));have hB:=Below.refl w.heap.size w;by_cases h0:Nt.V a=0
 ·
  rw[h0,Nt.blen_zero] at HB;have H0:=zh h0;clear h0;go_enter Tryz.func239,Tryz.ntmps239;go_wp2_with (go_at_call 236;with_reducible refine(HB.out _).mono ?_;rintro e w1 ⟨rfl,rfl⟩)
  go_ret2
  exact⟨Or.inl ⟨H0.out,rfl⟩,hB⟩
 ·
  have hbb:=(Nt.blen_bounds (Nt.V a) h0).2.2;have hb0:((Nt.blen (Nt.V a):Int)==0)=false:=by simp;omega
  obtain⟨z,hz,hr⟩:=a8h a.data.toList;have htr:=fun W=>Tryz.strings_TrimRight_one a 0 (by decide) W (by omega)
  obtain⟨T,hT⟩:∃ T:jW,T=⟨(Lib.trimRightB a.data.toList 0).toArray⟩:=⟨_,rfl⟩;rw[<-hT] at htr
  rcases hr with hr | ⟨q,b,hqb,hbz⟩
  ·
   exfalso;apply h0;show Nt.val a.data.toList=0;rw[hz,hr,a5b];simp[Nt.val_nil]
  ·
   have hTl:T.data.toList=q ++ [b]:=by rw[hT,hqb]
   have hTs:T.size=q.length+1:=by
    have:=congrArg List.length hTl;rw[jM] at this;simpa using this
   have has:a.size=T.size+z:=by
    have h1:=congrArg List.length hz;rw[jM,List.length_replicate,hqb,<-hTl] at h1;simpa using h1
   have hk:q.length<T.size:=by omega
   have hTb:T[q.length]'hk=b:=by
    have:T.data.toList[q.length]'(by rw[hTl];simp)=b:=by simp[hTl]
    simpa [ByteArray.getElem_eq_getElem_data] using this
   have hVn:Nt.V a=(Nt.val q*256+b.toNat)*256^z:=by
    show Nt.val a.data.toList=_;rw[hz,hqb,a5b,Nt.val_snoc]
   have hb1:b.toNat≠0:=fun h=>hbz (by apply UInt8.toNat_inj.1;rw[h];rfl)
   have hf8:=b7k ⟨b.toNat,UInt8.toNat_lt b⟩ hb1;obtain⟨s,hs⟩:=nM (Lib.trailingZeros8 b.toNat);have hout:=c6i (Nt.val q) b.toNat z s (by rw[hs];exact hf8.1) (by rw[hs];exact hf8.2.1) (by rw[hs];exact hf8.2.2);have hs8:s<8:=by rw[hs];exact hf8.2.2
   rw[<-hVn] at hout;have htz:=fun W=>Tryz.bits_TrailingZeros8 (b.toNat:Int) W (by omega) (by have:=UInt8.toNat_lt b;omega)
   rw[Int.toNat_natCast,<-hs] at htz;obtain⟨o,ho⟩:=nM (Nt.val q*2^(8-s)+b.toNat/2^s);rw[<-ho] at hout;obtain⟨t,ht⟩:=nM (8*z+s);rw[<-ht] at hout
   have hop:0<o:=by
    have:=hout.2
    rcases Nat.eq_zero_or_pos o with h | h
    ·
     rw[h] at this;exact absurd rfl this
    ·
     exact h
   have hes:=Nt.E_size_V a;have hol:o<=Nt.V a:=by rw[hout.1];exact Nat.le_mul_of_pos_left _ (Nat.two_pow_pos _)
   have hos:=jG (Nt.E_size_le hol) hes;have hsh:=fun W=>b8b a (t:Int) W (by omega) (by omega)
   have hshn:a5d (Nt.V a) (t:Int)=o:=by
    rw[a5d,if_neg (by omega),Int.toNat_natCast,hout.1,Nat.mul_div_cancel_left _ (Nat.two_pow_pos _)]
   rw[hshn] at hsh;have hof:=fun W=>a8o 5 W (by omega)
   have hto:=fun W=>b4q o (Nt.E o) 5 W (Nt.V_E _) hop (by omega) (by omega) (by decide) rfl
   have HTR:=zh htr;have HTZ:=zh htz;have HSH:=zh hsh;have HOF:=zh hof;have HTO:=zh hto;have HOUT:=zh hout;have H0:=zh h0;have g1:(a.size:Int)-(T.size:Int)=(z:Int):=by omega
   have g2:(T.size:Int)-1=(q.length:Int):=by omega
   have g3:(8:Int)*(z:Int)+(s:Int)=(t:Int):=by omega
   have g4:((T[q.length]'hk).toNat:Int)=(b.toNat:Int):=by rw[hTb]
   have hTs2:T.size<=a.size:=by omega
   have hz2:z<=1000:=by omega
   clear has hTs htr htz hsh hof hto hout h0 hz hT hqb hTl hVn hf8 hs ho ht hop hes hol hos hshn hTb hbb hbz hb1;go_enter Tryz.func239,Tryz.ntmps239
   go_wp2_with (first
    | (go_at_call 236;with_reducible refine(HB.out _).mono ?_;rintro e w1 ⟨rfl,rfl⟩)
    | (go_at_call 249;refine(HTR.out _).mono ?_;rintro e w1 ⟨rfl,rfl⟩)
    | (go_at_call 250;refine(HTZ.out _).mono ?_;rintro e w1 ⟨rfl,rfl⟩)
    | (go_at_call 252;with_reducible refine(a2s hB (HSH.out _)).mono ?_;clear hB;rintro e w1 ⟨rfl,hB⟩)
    | (go_at_call 253;refine(a2s hB (HOF.out _)).mono ?_;clear hB;rintro e w1 ⟨rfl,hB⟩)
    | (go_at_call 251;(with_reducible refine(HTO.out _).mono ?_);rintro e w2 ⟨⟨f,r,rfl,hf⟩,hb2⟩;have HF:=zh hf;have hB2:=bT hB hb2;clear hf hB hb2))
   go_ret2
   exact⟨Or.inr ⟨H0.out,t,f,rfl,HOUT.out.vl (by omega),c3y HOUT.out.1 (HF.out.vl (by omega))⟩,hB2⟩
set_option maxHeartbeats 2000000
def e8q (w:World) (n:Nat) (a s i:Value) (wr:World):Prop:=∃ k:Nat,i=I6 (k:Int)/\a=Sg (Nt.E (n/10^k))/\s=Sg (Nt.S (Nt.dcs n k))/\(k=0\/k=1\/10^(k-1)<=n)/\Bl w wr
theorem e5k (d:Nat) (h:d<10):(⟨#[48,49,50,51,52,53,54,55,56,57]⟩:jW).extract d (d+1)=Nt.S [48+d]:=by
 have:∀ d:Fin 10,(⟨#[48,49,50,51,52,53,54,55,56,57]⟩:jW).extract d.val (d.val+1)=Nt.S [48+d.val]:=by decide
 exact this ⟨d,h⟩
theorem Nt.lt_ten_few {n k K:Nat} (h:n<10^K) (hk:10^k<=n):k<K:=(Nat.pow_lt_pow_iff_right (a:=10) (by omega)).1 (Nat.lt_of_le_of_lt hk h)
theorem e5l (a:jW) (w:World) (ha:a.size<=2000) :
  Ca 183 #[Sg a] w (Sg (Nt.D (Nt.V a))):=by
 have HT:=zh (fun w=>a0t a w);have hes:=jG (Nt.E_size_V a) ha;obtain⟨n,hn⟩:=nM (Nt.V a);rw[<-hn] at HT hes |-
 obtain⟨k0,hk0⟩:=nM 1000;obtain⟨K,hK⟩:=nM (5*k0);have h10:n<10^K:=by rw[hK];exact Nt.lt_ten hes (by omega)
 have hK5:K<=5000:=by omega
 have H10:=zh h10;obtain⟨R,hR⟩:=nM (Nt.D n);rw[<-hR];have HR:=zh hR;clear h10 hn hK hR hk0;go_enter Tryz.func183,Tryz.ntmps183;go_wp2_with (go_at_call 119;refine(HT.out _).mono ?_;rintro e w1 ⟨rfl,rfl⟩)
 go_loopw [0,3,4] (e8q w n) (fun _ _ i _=>5000-(intOf i).toNat)
 case atStart=>exact⟨0,rfl,by rw[Nat.pow_zero,Nat.div_one],rfl,Or.inl rfl,Below.refl _ _⟩
 case round =>
  obtain⟨k,rfl,rfl,rfl,hk,hW⟩:=hrel;by_cases hgo:k=0\/n/10^k≠0
  ·
   have hk5:k<5000:=by
    rcases hgo with h | h
    ·
     omega
    ·
     have hp:0<10^k:=jO (by omega)
     have:10^k<=n:=by
      rcases Nat.lt_or_ge n (10^k) with h2 | h2
      ·
       exact absurd (Nat.div_eq_of_lt h2) h
      ·
       exact h2
     exact jF (Nt.lt_ten_few H10.out this) hK5
   have hk2:Hid (k+1=0\/k+1=1\/10^(k+1-1)<=n):=by
    rcases hgo with h | h
    ·
     exact Or.inr (Or.inl (by omega))
    ·
     right;right;rw[Nat.add_sub_cancel]
     rcases Nat.lt_or_ge n (10^k) with h2 | h2
     ·
      exact absurd (Nat.div_eq_of_lt h2) h
     ·
      exact h2
   have hcond:(((k:Int)==0)=true)\/((((k:Int)==0)=false)/\¬ (Nt.E (n/10^k)).toList=[]/\(Nt.E (n/10^k)).toList.isEmpty=false):=by
    by_cases h0:k=0
    ·
     left;simp[h0]
    ·
     right;have h1:n/10^k≠0:=by rcases hgo with h | h;exact absurd h h0;exact h
     exact⟨by simp;omega,a2h _ h1,by rw[a8q];simpa using h1⟩
   have hms:=jG (Nt.E_size_le (Nat.div_le_self n (10^k))) hes;have hdm:=fun W=>a4g (Nt.E (n/10^k)) ⟨#[10]⟩ W (by omega) (by decide)
   have e1:Nt.V ⟨#[10]⟩=10:=by decide
   rw[Nt.V_E,e1,a2y,if_neg (by decide)] at hdm;have hq:n/10^k/10=n/10^(k+1):=by rw[jR,jN]
   rw[hq] at hdm;have hdc:=Nt.dcs_one n k;obtain⟨d,hd⟩:=nM (n/10^k%10);have hd10:d<10:=by omega
   rw[<-hd] at hdm hdc;have hsm:=fun W=>e2n (Nt.E d) W
   rw[Nt.V_E,show Nt.sm d=d from by rw[Nt.sm,if_pos (by omega)],show Nt.smB d=true from by rw[Nt.smB];simp;omega] at hsm;have hdt:=e5k d hd10;have happ:Hid (Nt.S [48+d]++Nt.S (Nt.dcs n k)=Nt.S (Nt.dcs n (k+1))):=by rw[Hid,Nt.S_append,hdc];rfl
   have hss:(Nt.S [48+d]).size=1:=by rw[Nt.S_size];rfl
   have hss2:(Nt.S (Nt.dcs n k)).size=k:=by rw[Nt.S_size,Nt.dcs_length]
   have HDM:=zh hdm;have HSM:=zh hsm;have HW:=zh hW;generalize Nt.S [48+d]=D1 at *;generalize Nt.S (Nt.dcs n k)=Sk at *;have hD1:D1.size<=1:=by omega
   have hSk:Sk.size<=5000:=by omega
   generalize Nt.E (n/10^k)=m at *;clear hdm hsm hW hd hdc hq e1 hms hk hgo hss hss2
   rcases hcond with hc1 | ⟨hc1,hc2,hc3⟩
   all_goals
    go_wp2_with (first
     | (go_at_call 191;refine(HDM.out _).mono ?_;rintro e w1 ⟨rfl,hb1⟩)
     | (go_at_call 212;refine(HSM.out _).mono ?_;rintro e w2 ⟨rfl,rfl⟩))
    refine⟨⟨k+1,by go_num,rfl,by rw[<-happ.out],hk2.out,?_⟩,by simp[intOf];omega⟩;exact HW.out.trans (hb1.mono HW.out.size)
  ·
   have hk0:k≠0:=fun h=>hgo (Or.inl h)
   have hz:n/10^k=0:=by
    rcases Nat.eq_zero_or_pos (n/10^k) with h | h
    ·
     exact h
    ·
     exact absurd (Or.inr (by omega)) hgo
   have hp:0<10^k:=jO (by omega)
   have hnk:n<10^k:=by
    rcases Nat.lt_or_ge n (10^k) with h | h
    ·
     exact h
    ·
     have:=Nat.div_pos h hp;omega
   have hde:Nt.dcs n k=Nt.dec n:=by
    obtain⟨j,rfl⟩:∃ j,k=j+1:=⟨k-1,by omega⟩;exact Nt.dcs_dec hnk (by rw[Nat.add_sub_cancel] at hk;omega)
   have hSR:Nt.S (Nt.dcs n k)=R:=by rw[hde,HR.out];rfl
   have hze:(Nt.E (n/10^k)).toList=[]:=by rw[hz,jI];rfl
   have hc1:((k:Int)==0)=false:=by simp;omega
   generalize Nt.S (Nt.dcs n k)=Sk at *;generalize Nt.E (n/10^k)=m at *;subst hSR;clear hk hgo hz hp hnk hde
   go_wp2
   all_goals first
    | (go_ret;exact⟨rfl,hW⟩)
    | (exfalso;omega)
def c8e (w:World) (p n:Nat) (a k i:Value) (wr:World):Prop:=∃ j:Nat,i=I6 (j:Int)/\k=I6 (j:Int)/\a=Sg (Nt.E (n/p^j))/\p^j ∣ n/\Bl w wr
theorem a6y (P:jW) (p n:Nat) (w:World) (hP:Nt.V P=p) (hPs:P.size<=8) (hp:2<=p) (hs:(Nt.E n).size<=1000) (hn:0<n) :
  Cz 148 #[Sg (Nt.E n),Sg P] w fun e w'=>(∃ k:Nat,e=.returned (I6 (k:Int))/\Nt.IsVl p n k)/\Bl w w':=by
 have hbt:=Nt.lt_bits n;have HBT:=zh hbt;have HP:=zh hP;have HPS:=zh hPs;have HS:=zh hs;clear hbt hP hPs hs;go_enter Tryz.func148,Tryz.ntmps148
 go_wp2
 go_loopw [0,5,6] (c8e w p n) (fun _ _ i _=>20000-(intOf i).toNat)
 case atStart=>exact⟨0,rfl,rfl,by rw[Nat.pow_zero,Nat.div_one],by rw[Nat.pow_zero];exact Nat.one_dvd _,Below.refl _ _⟩
 case round =>
  obtain⟨j,rfl,rfl,rfl,hd,hW⟩:=hrel;have hpj:0<p^j:=jO (by omega);have hle:p^j<=n:=Nat.le_of_dvd hn hd
  have hj:j<20000:=by
   have h1:2^j<=n:=jG (Nat.pow_le_pow_left hp j) hle;have h2:=(Nat.pow_lt_pow_iff_right (a:=2) (by omega)).1 (Nat.lt_of_le_of_lt h1 HBT.out);have:=HS.out;omega
  have hm0:n/p^j≠0:=by have:=Nat.div_pos hle hpj;omega
  have hne:=a2h _ hm0;have hne2:(Nt.E (n/p^j)).toList.isEmpty=false:=by simpa using hne
  have hms:=jG (Nt.E_size_le (Nat.div_le_self n (p^j))) HS.out;have hdm:=fun W=>a4g (Nt.E (n/p^j)) P W (by omega) (by have:=HPS.out;omega)
  rw[Nt.V_E,HP.out,a2y,if_neg (by omega)] at hdm;by_cases h0:n/p^j%p=0
  ·
   have hq:n/p^j/p=n/p^(j+1):=by rw[jR,jN]
   have e0:Nt.E 0=⟨#[]⟩:=rfl;rw[hq,h0,e0] at hdm
   have hd2:Hid (p^(j+1) ∣ n):=by
    rw[Hid,jN];exact(Nat.dvd_div_iff_mul_dvd hd).1 (Nat.dvd_of_mod_eq_zero h0)
   have HDM:=zh hdm;have HW:=zh hW;generalize Nt.E (n/p^j)=m at *;clear hdm hW hd hpj hle hm0 hms h0 hq e0;go_wp2_with (go_at_call 191;refine(HDM.out _).mono ?_;rintro e w1 ⟨rfl,hb1⟩);exact⟨⟨j+1,by go_num,by go_num,rfl,hd2.out,HW.out.trans (hb1.mono HW.out.size)⟩,by simp[intOf];omega⟩
  ·
   have hv:Hid (Nt.IsVl p n j):=⟨hd,fun hh=>h0 (by
    rw[jN] at hh
    exact Nat.mod_eq_zero_of_dvd ((Nat.dvd_div_iff_mul_dvd hd).2 hh))⟩
   have hr1:=a2h _ h0;have hr2:(Nt.E (n/p^j%p)).toList.isEmpty=false:=by simpa using hr1
   have HDM:=zh hdm;have HW:=zh hW;generalize Nt.E (n/p^j%p)=r at *;generalize Nt.E (n/p^j)=m at *;clear hdm hW hd hpj hle hm0 hms h0;go_wp2_with (go_at_call 191;refine(HDM.out _).mono ?_;rintro e w1 ⟨rfl,hb1⟩)
   go_ret
   exact⟨⟨j,rfl,hv.out⟩,HW.out.trans (hb1.mono HW.out.size)⟩
theorem b0k (P:jW) (w:World) :
  Cw 148 #[S0,Sg P] w (I6 0):=by
 go_enter Tryz.func148,Tryz.ntmps148
 go_wp2
 go_loop [0,5,6] (fun a k i=>a=S0/\k=I6 0/\i=I6 0) (fun _ _ _=>0)
 case atStart=>exact⟨rfl,rfl,rfl⟩
 case round =>
  obtain⟨rfl,rfl,rfl⟩:=hrel
  go_wp2
  go_ret
  exact⟨rfl,rfl⟩
theorem b4s (a:jW) (w:World) (ha:a.size<=1000) :
  Cz 115 #[Sg a] w fun e w'=>c1q (Nt.V a) e/\Bl w w':=by
 have HT:=zh (fun w=>a0t a w);have hes:=jG (Nt.E_size_V a) ha;have hB:=Below.refl w.heap.size w;by_cases h0:Nt.V a=0
 ·
  have e0:Nt.E 0=⟨#[]⟩:=rfl;rw[h0,e0] at HT;have H0:=zh h0;clear h0 e0;go_enter Tryz.func115,Tryz.ntmps115
  go_wp2_with (first
   | (go_at_call 119;refine(HT.out _).mono ?_;rintro e w1 ⟨rfl,rfl⟩)
   | (go_at_call 148;refine(b0k _ _).mono ?_;rintro e w1 ⟨rfl,rfl⟩))
  go_ret2
  exact⟨Or.inl ⟨H0.out,rfl⟩,hB⟩
 ·
  have HO2:=zh (fun w=>a6y ⟨#[2]⟩ 2 (Nt.V a) w (by decide) (by decide) (by decide) hes (by omega));have HO5:=zh (fun w=>a6y ⟨#[5]⟩ 5 (Nt.V a) w (by decide) (by decide) (by decide) hes (by omega));have H0:=zh h0;clear h0;go_enter Tryz.func115,Tryz.ntmps115;go_wp2_with (go_at_call 119;refine(HT.out _).mono ?_;rintro e w1 ⟨rfl,rfl⟩);refine(HO2.out _).mono ?_;rintro e w1 ⟨⟨t,rfl,ht⟩,hb1⟩;have HT2:=zh ht;clear ht;go_wp2_with fail;refine(HO5.out _).mono ?_;rintro e w2 ⟨⟨f,rfl,hf⟩,hb2⟩;have HF:=zh hf;clear hf
  go_wp2
  go_ret2
  exact⟨Or.inr ⟨H0.out,t,f,rfl,HT2.out,HF.out⟩,bT hb1 hb2⟩
def YW (c r:Int):Bool:=decide (1<=c)&&decide (c<=52)&&decide (1<=r)&&decide (r<=99)
theorem a9p (c r:Int):YW c r=true ↔ 1<=c/\c<=52/\1<=r/\r<=99:=by
 unfold YW;simp only[Bool.and_eq_true,decide_eq_true_eq,and_assoc]
def f3n (n:Nat):List UInt8:=if n=0\/52<n then [] else if n<=26 then [UInt8.ofNat (64+n)] else [65,UInt8.ofNat (38+n)]
def e3k (n:Nat):jW:=⟨(f3n n).toArray⟩
def d8d (s:jW):Nat->Nat->Nat
 | 0,_=>0
 | f+1,n=>if e3k n=s then n else d8d s f (n+1)
def e8r (s:jW):Nat:=d8d s 52 1
def X1 (b:UInt8):Bool:=decide (65<=b.toNat/\b.toNat<=90)
def d9y (l:List UInt8):Bool:=decide (1<=l.length)&&decide (l.length<=3) && !(l.headD 0==48)&&l.all Nt.isDig
def e2f (s:jW):Nat × Nat × Nat :=
 let a:=s.data.toList.takeWhile X1
 let d:=s.data.toList.dropWhile X1
 if 1<=a.length/\a.length<=2/\d9y d=true then (if YW (e8r ⟨a.toArray⟩:Nat) (Nt.dv d:Nat) then (e8r ⟨a.toArray⟩,Nt.dv d,0) else (0,0,6)) else (0,0,10)
theorem e8s {n:Nat} (h:n=0\/52<n):e3k n=⟨#[]⟩:=by unfold e3k f3n;rw[if_pos h]
set_option maxHeartbeats 1000000
theorem a6b (c r:Int) (w:World) :
  Cz 140 #[I6 c,I6 r] w fun e w'=>e=.returned (Bv (YW c r))/\w'=w:=by
 go_enter Tryz.func140,Tryz.ntmps140
 go_wp2
 all_goals (go_ret;exact⟨J4 (by unfold YW;simp;try omega),rfl⟩)
theorem a7o (c r:Int) (w:World) :
  Cz 113 #[I6 c,I6 r] w fun e w'=>e=.returned (Bv (YW c r))/\w'=w:=by
 go_enter Tryz.func113,Tryz.ntmps113
 go_wp2
 all_goals (go_ret;exact⟨J4 (by unfold YW;simp;try omega),rfl⟩)
theorem e5m:∀ n:Fin 53,n.val≠0->n.val<=26->(⟨#[UInt8.ofNat (64+n.val)]⟩:jW)=e3k n.val:=by decide +kernel
theorem e5n:∀ n:Fin 53,26<n.val->(⟨#[65]⟩:jW)++⟨#[UInt8.ofNat (38+n.val)]⟩=e3k n.val:=by decide +kernel
theorem e0t (n:Int) (w:World) :
  Ca 188 #[I6 n] w (Sg (e3k n.toNat)):=by
 by_cases hg:1<=n/\n<=52
 ·
  obtain⟨h1,h2⟩:=hg;obtain⟨k,rfl⟩:∃ k:Nat,n=(k:Int):=⟨n.toNat,by omega⟩;rw[Int.toNat_natCast];have d1:=fun h:k<=26=>e5m ⟨k,by omega⟩ (by simp;omega) h
  have d2:=fun h:26<k=>e5n ⟨k,by omega⟩ h
  dsimp only at d1 d2;have e1:(65+(k:Int)-1).toNat=64+k:=by omega
  have e2:26<k->(65+(k:Int)-27).toNat=38+k:=by omega
  have H1:=fun (h:k<=26) w=>a4e (65+k-1) w (by omega) (by omega)
  have H2:=fun (h:26<k) w=>a4e (65+k-27) w (by omega) (by omega)
  rw[e1] at H1;have H2'':=(fun (h:26<k) w=>(e2 h ▸ H2 h w:Ca 214 #[I6 (65+k-27)] w (Sg ⟨#[UInt8.ofNat (38+k)]⟩)));clear H2;generalize (⟨#[UInt8.ofNat (64+k)]⟩:jW)=t1 at d1 H1;have z2:(⟨#[UInt8.ofNat (38+k)]⟩:jW).size=1:=rfl;generalize (⟨#[UInt8.ofNat (38+k)]⟩:jW)=t2 at d2 H2'' z2;have H1':=zh H1;have H2':=zh H2'';have c1:=zh d1;have c2:=zh d2;clear H1 H2'' e1 e2 d1 d2;go_enter Tryz.func188,Tryz.ntmps188
  go_wp2_with (first
   | (go_at_call 214;refine(H1'.out (by omega) _).mono ?_;rintro e w1 ⟨rfl,hB⟩)
   | (go_at_call 214;refine(H2'.out (by omega) _).mono ?_;rintro e w1 ⟨rfl,hB⟩))
  all_goals first
   | (go_ret;exact⟨a1l (c1.out (by omega)),hB⟩)
   | (go_ret;exact⟨a1l (c2.out (by omega)),hB⟩)
 ·
  have hz:n.toNat=0\/52<n.toNat:=by omega
  have hr:=zh (e8s hz);clear hz;go_enter Tryz.func188,Tryz.ntmps188
  go_wp2
  all_goals first
   | (exfalso;omega)
   | (go_ret;exact⟨a1l hr.out.symm,Below.refl _ _⟩)
def f1s (s:jW) (w:World) (i:Value) (wr:World):Prop:=∃ n:Nat,1<=n/\n<=53/\i=I6 n/\d8d s (53-n) n=e8r s/\Bl w wr
theorem e3l {s:jW} {n:Nat} (h:n<=52) (he:e3k n=s):d8d s (53-n) n=n:=by
 obtain⟨f,hf⟩:∃ f,53-n=f+1:=⟨52-n,by omega⟩;rw[hf,d8d,if_pos he]
theorem e5o {s:jW} {n:Nat} (h:n<=52) (he : ¬ e3k n=s):d8d s (53-n) n=d8d s (53-(n+1)) (n+1):=by
 obtain⟨f,hf⟩:∃ f,53-n=f+1:=⟨52-n,by omega⟩;rw[hf,d8d,if_neg he,show 53-(n+1)=f from by omega]
def d9z (n:Nat):Value:=.tuple #[I6 n,Bv (n != 0)]
theorem e2g (s:jW) (w:World) :
  Ca 233 #[Sg s] w (d9z (e8r s)):=by
 go_enter Tryz.func233,Tryz.ntmps233
 go_wp2
 go_loopw [4] (f1s s w) (fun i _=>53-(intOf i).toNat)
 case atStart=>exact⟨1,by omega,by omega,rfl,rfl,Below.refl _ _⟩
 case round =>
  obtain⟨n,h1,h2,rfl,hc,hW⟩:=hrel;by_cases hlt:n<=52
  ·
   have HC:=zh (fun W=>e0t (n:Int) W);rw[Int.toNat_natCast] at HC;by_cases he:e3k n=s
   ·
    rw[e3l hlt he] at hc;have hr:Hid (d9z n=d9z (e8r s)):=by rw[hc];rfl
    have h0:Hid (d9z n=.tuple #[I6 n,Bv true]):=by
     have h:(n != 0)=true:=by simp;omega
     show Value.tuple #[I6 n,Bv (n != 0)]=_;rw[h]
    rw[he] at HC;clear he hc;go_wp2_with (go_at_call 188;refine(a2s hW (HC.out _)).mono ?_;clear hW;rintro e w1 ⟨rfl,hW⟩)
    go_ret2
    exact⟨congrArg jV (h0.out.symm.trans hr.out),hW⟩
   ·
    have hs:=zh (e5o hlt he);have HS:=zh hc;generalize e3k n=t at *
    have hne:(t.toList==s.toList)=false:=by
     rw[beq_eq_false_iff_ne];intro h;apply he;rw[jI,jI] at h;obtain⟨⟨x⟩⟩:=t;obtain⟨⟨y⟩⟩:=s;simpa using h
    clear hc he;go_wp2_with (go_at_call 188;refine(a2s hW (HC.out _)).mono ?_;clear hW;rintro e w1 ⟨rfl,hW⟩);exact⟨⟨n+1,by omega,by omega,by go_num,hs.out.symm.trans HS.out,hW⟩,by simp[intOf];omega⟩
  ·
   have hn:n=53:=by omega
   subst hn;have hr:Hid (d9z 0=d9z (e8r s)):=by rw[<-hc];rfl
   clear hc
   go_wp2
   go_ret2
   exact⟨congrArg jV hr.out,hW⟩
theorem e6y (n:Nat):(e3k n).size<=2:=by
 show (f3n n).toArray.size<=2;unfold f3n
 split
 ·
  simp
 ·
  split<;>simp
theorem f1t {n:Nat} (h:n<100):(Nt.D n).size<=2:=by
 unfold Nt.D;rw[Nt.S_size];exact Nt.dec_length_le (m:=1) (by omega)
theorem e5p (r:Int) (h0:0<=r) (h1:r<100) (w:World) :
  Ca 189 #[I6 r] w (Sg (Nt.D r.toNat)):=by
 obtain⟨k,rfl⟩:∃ k:Nat,r=(k:Int):=⟨r.toNat,by omega⟩;rw[Int.toNat_natCast];have h2:=fun w=>e5l (Nt.E k) w (jG (Nt.E_size_lt (m:=1) (by omega)) (by omega))
 rw[Nt.V_E] at h2;have H1:=zh (fun w=>c1z k w (by omega));have H2:=zh h2;have hB:=Below.refl w.heap.size w;have q1:max (k:Int) 0=k:=by omega
 have q2:IntKind.u64.wrap (k:Int)=(k:Int):=c4x (by omega) (by omega);clear h2;go_enter Tryz.func189,Tryz.ntmps189
 go_wp2_with (first
  | (go_at_call 203;with_reducible refine(a2s hB (H1.out _)).mono ?_;clear hB;rintro e w1 ⟨rfl,hB⟩)
  | (go_at_call 183;with_reducible refine(a2s hB (H2.out _)).mono ?_;clear hB;rintro e w1 ⟨rfl,hB⟩))
 go_ret
 exact⟨rfl,hB⟩
theorem a5l {s:jW} (h:0<s.size):s.data.toList.headD 0=s[0]:=by
 obtain⟨⟨l⟩⟩:=s
 cases l with
 | nil=>exact absurd h (by decide)
 | cons x l=>rfl
theorem e5q {s:jW} (h:s.size=0):d9y s.data.toList=false:=by
 unfold d9y;simp[h]
theorem e5r {s:jW} (h:3<s.size):d9y s.data.toList=false:=by
 have : ¬ s.size<=3:=by omega
 unfold d9y;simp[this]
theorem e5s {s:jW} (h0:0<s.size) (h:s[0].toNat=48):d9y s.data.toList=false:=by
 have:s[0]=48:=UInt8.toNat_inj.1 h;unfold d9y;rw[a5l h0,this];simp
theorem e5t {s:jW} (h0:0<s.size) (h3:s.size<=3) (h:s[0].toNat≠48):d9y s.data.toList=s.data.toList.all Nt.isDig:=by
 have h1:(s[0]==48)=false:=by
  rw[beq_eq_false_iff_ne];intro he;rw[he] at h;exact h rfl
 have h2:1<=s.size:=h0;unfold d9y;rw[a5l h0,h1];simp[h2,h3]
def c6y (s:jW) (i:Value):Prop:=∃ n:Nat,i=I6 n/\n<=s.size/\(s.data.toList.take n).all X1=true
theorem a6c {l:List UInt8} {n:Nat} (h:(l.take n).all X1=true) (he:n=l.length\/∃ h:n<l.length,X1 l[n]=false):(l.takeWhile X1).length=n/\l.takeWhile X1=l.take n/\l.dropWhile X1=l.drop n:=by
 have hs:=List.take_append_drop n l
 have hd:∀ d,d=l.drop n->d.takeWhile X1=[]/\d.dropWhile X1=d:=by
  intro d hd
  rcases he with rfl | ⟨hn,hx⟩
  ·
   rw[List.drop_length] at hd;subst hd;exact⟨rfl,rfl⟩
  ·
   subst hd;rw[List.drop_eq_getElem_cons hn];exact⟨List.takeWhile_cons_of_neg (by rw[hx];decide),List.dropWhile_cons_of_neg (by rw[hx];decide)⟩
 obtain⟨d1,d2⟩:=hd _ rfl
 have e:l.takeWhile X1=l.take n/\l.dropWhile X1=l.drop n:=by
  have h1:∀ x ∈ l.take n,X1 x=true:=List.all_eq_true.1 h;constructor
  ·
   rw[<-hs,List.takeWhile_append_of_pos h1,d1,List.append_nil,hs]
  ·
   rw[<-hs,List.dropWhile_append_of_pos h1,d2,hs]
 refine⟨?_,e⟩;rw[e.1,List.length_take]
 rcases he with h | ⟨h,_⟩<;>omega
theorem b8j {l:List UInt8} {n:Nat} (hn:n<l.length) (h:(l.take n).all X1=true) (hx:X1 l[n]=true):(l.take (n+1)).all X1=true:=by
 rw[List.take_succ_eq_append_getElem hn,List.all_append,h];simp[hx]
theorem a4p (s:jW) (n:Nat) (h:n<s.size):s.data.toList[n]'(by simpa using h)=s[n]:=by
 obtain⟨⟨l⟩⟩:=s;rfl
theorem a7p (s:jW) (w:World) (hs:s.size<=maxLen) :
  Cz 121 #[Sg s] w fun e w'=>e=.returned (I6 ((s.data.toList.takeWhile X1).length:Nat))/\w'=w:=by
 unfold maxLen at hs;have JY:undef=Value.tuple #[]:=rfl;have hl:s.data.toList.length=s.size:=by simp
 have HL:=zh hl;clear hl;go_enter Tryz.func121,Tryz.ntmps121
 go_wp2
 go_loop [3] (c6y s) (fun i=>s.size-(intOf i).toNat)
 case atStart=>exact⟨0,rfl,by omega,rfl⟩
 case round =>
  obtain⟨n,rfl,hn,ha⟩:=hrel;have HA:=zh ha;clear ha;by_cases hlt:n<s.size
  ·
   have hg:=zh (a4p s n hlt);by_cases h1:65<=s[n].toNat
   ·
    by_cases h2:s[n].toNat<=90
    ·
     have hu:Hid (X1 s[n]=true):=by show X1 s[n]=true;unfold X1;simp;omega
     go_wp2
     refine⟨⟨n+1,by go_num,by omega,?_⟩,by simp[intOf];omega⟩;exact b8j (by rw[HL.out];exact hlt) HA.out (by rw[hg.out];exact hu.out)
    ·
     have hu:Hid (X1 s[n]=false):=by show X1 s[n]=false;unfold X1;simp;omega
     go_wp2
     go_ret
     have:=a6c HA.out (Or.inr ⟨by rw[HL.out];exact hlt,by rw[hg.out];exact hu.out⟩);exact⟨a1c (by rw[this.1]),rfl⟩
   ·
    have hu:Hid (X1 s[n]=false):=by show X1 s[n]=false;unfold X1;simp;omega
    go_wp2
    go_ret
    have:=a6c HA.out (Or.inr ⟨by rw[HL.out];exact hlt,by rw[hg.out];exact hu.out⟩);exact⟨a1c (by rw[this.1]),rfl⟩
  ·
   have hn':n=s.size:=by omega
   go_wp2
   go_ret
   have:=a6c HA.out (Or.inl (by rw[HL.out];exact hn'));exact⟨a1c (by rw[this.1,hn']),rfl⟩
def c9p (s:jW):jW:=⟨(s.data.toList.takeWhile X1).toArray⟩
def c9o (s:jW):jW:=⟨(s.data.toList.dropWhile X1).toArray⟩
theorem e5u (s:jW):(c9p s).data.toList=s.data.toList.takeWhile X1:=by unfold c9p;simp
theorem d8k (s:jW):(c9o s).data.toList=s.data.toList.dropWhile X1:=by unfold c9o;simp
theorem e5v (s:jW):(c9p s).size+(c9o s).size=s.size:=by
 have h:=congrArg List.length (List.takeWhile_append_dropWhile (p:=X1) (l:=s.data.toList));rw[jM] at h;have h1:(c9p s).size=(s.data.toList.takeWhile X1).length:=by unfold c9p;show Array.size _=_;simp
 have h2:(c9o s).size=(s.data.toList.dropWhile X1).length:=by unfold c9o;show Array.size _=_;simp
 have h3:s.size=s.data.toList.length:=by simp
 omega
theorem d8e (s:jW):(s.data.toList.takeWhile X1).length=(c9p s).size:=by unfold c9p;show _=Array.size _;simp
def e2h (p:Nat × Nat × Nat):Value:=.tuple #[I6 p.1,I6 p.2.1,I6 p.2.2]
theorem f0i {s:jW} (h:(c9p s).size=0\/2<(c9p s).size\/d9y (c9o s).data.toList=false):e2f s=(0,0,10):=by
 unfold e2f;dsimp only;rw[d8e,<-d8k];apply if_neg;rintro ⟨h1,h2,h3⟩
 rcases h with h | h | h
 ·
  omega
 ·
  omega
 ·
  rw[h3] at h;cases h
theorem e8t {s:jW} (h1:0<(c9p s).size) (h2:(c9p s).size<=2) (h3:d9y (c9o s).data.toList=true) :
  e2f s=if YW (e8r (c9p s):Nat) (Nt.dv (c9o s).data.toList:Nat) then (e8r (c9p s),Nt.dv (c9o s).data.toList,0) else (0,0,6):=by
 unfold e2f;dsimp only;rw[d8e,<-d8k,if_pos ⟨h1,h2,h3⟩];rfl
