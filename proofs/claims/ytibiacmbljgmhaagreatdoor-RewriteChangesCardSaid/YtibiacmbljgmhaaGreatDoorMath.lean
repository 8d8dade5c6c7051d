import Derived.Test.YtibiacmbljgmhaaGreatDoorRows
import Derived.WalkKit
import Derived.WalkSpells
import Derived.WalkLawsBesides
import Derived.BigQuiet
import Derived.Deep.QuietTactic
import Derived.Lib.Hide
import Derived.RangeFuncNested
import Derived.StillTailTactics
import Derived.Shelf.Abstract
import Derived.OwnWalkIn
import Derived.TacticsInMore
import Derived.RangeFuncBound
import Derived.RangeFuncCalls
import Derived.RangeFuncLeaves
import Derived.RangeFuncBox
import Derived.Shelf.RegionOpen
import Derived.LoopNIn
import Derived.LoopIn
import Derived.Below
import Derived.Laws.OwnMore
import Derived.Deep.Draws
import Derived.Deep.OwnRows
import Derived.Laws.Rows
import Derived.Laws.BytesArg
import Derived.Maps.AppendAt
import Derived.Deep.AppendLies
import Derived.IntWalk
import Derived.Deep.RegionWith
import Derived.Lib.Small
import Derived.Lib.BitFns
namespace Go.Proofs.YtibiacmbljgmhaaGreatDoor.Nt
def val:List UInt8->Nat:=List.foldl (fun n b=>n*256+b.toNat) 0
def c3z:Nat->Nat->List UInt8
 | 0,_=>[]
 | f+1,n=>if n=0 then [] else c3z f (n/256) ++ [UInt8.ofNat n]
def enc (n:Nat):List UInt8:=c3z n n
def trim:List UInt8->List UInt8
 | []=>[]
 | b :: l=>if b=0 then trim l else b :: l
def V (s:ByteArray):Nat:=val s.data.toList
def E (n:Nat):ByteArray:=⟨(enc n).toArray⟩
theorem b2t (l:List UInt8) (a:Nat):l.foldl (fun n b=>n*256+b.toNat) a=a*256^l.length+val l:=by
 induction l generalizing a with
 | nil=>simp[val]
 | cons b l ih =>
  have h1:=ih (a*256+b.toNat);have h2:=ih (0*256+b.toNat);simp only[List.foldl_cons,val,List.length_cons] at *;rw[h1,h2,Nat.pow_succ];simp only[Nat.add_mul,Nat.zero_mul,Nat.zero_add,Nat.mul_assoc,Nat.mul_comm 256];omega
theorem val_nil:val []=0:=rfl
theorem val_cons (b:UInt8) (l:List UInt8):val (b :: l)=b.toNat*256^l.length+val l:=by
 have:=b2t l (0*256+b.toNat);simpa [val] using this
theorem val_append (l k:List UInt8):val (l++k)=val l*256^k.length+val k:=by
 have:=b2t k (val l);rw[<-this];simp[val,List.foldl_append]
theorem val_snoc (l:List UInt8) (b:UInt8):val (l ++ [b])=val l*256+b.toNat:=by
 rw[val_append];simp[val]
theorem val_lt (l:List UInt8):val l<256^l.length:=by
 induction l with
 | nil=>simp[val]
 | cons b l ih =>
  rw[val_cons,List.length_cons,Nat.pow_succ];have hb:b.toNat<256:=b.toNat_lt;have:b.toNat*256^l.length<=255*256^l.length:=Nat.mul_le_mul_right _ (by omega);omega
theorem c6k (n:Nat):∀ f g:Nat,n<=f->n<=g->c3z f n=c3z g n:=by
 induction n using Nat.strongRecOn with
 | ind n ih =>
  intro f g hf hg;by_cases h0:n=0
  ·
   subst h0
   cases f<;>cases g<;>simp[c3z]
  ·
   obtain⟨f',rfl⟩:∃ f',f=f'+1:=⟨f-1,by omega⟩;obtain⟨g',rfl⟩:∃ g',g=g'+1:=⟨g-1,by omega⟩;simp only[c3z,if_neg h0];rw[ih (n/256) (by omega) f' g' (by omega) (by omega)]
theorem b0n:enc 0=[]:=rfl
theorem a8j {n:Nat} (h:n≠0):enc n=enc (n/256) ++ [UInt8.ofNat n]:=by
 obtain⟨m,rfl⟩:∃ m,n=m+1:=⟨n-1,by omega⟩;unfold enc;rw[show c3z (m+1) (m+1)=c3z m ((m+1)/256) ++ [UInt8.ofNat (m+1)] from by simp[c3z]];rw[c6k ((m+1)/256) m ((m+1)/256) (by omega) (by omega)]
theorem a5i (n:Nat):val (enc n)=n:=by
 induction n using Nat.strongRecOn with
 | ind n ih =>
  by_cases h0:n=0
  ·
   subst h0;rfl
  ·
   rw[a8j h0,val_snoc,ih (n/256) (by omega)];have:(UInt8.ofNat n).toNat=n%256:=by simp
   rw[this];omega
theorem c1s (l:List UInt8) (b:UInt8):trim (l ++ [b])=if trim l=[] then (if b=0 then [] else [b]) else trim l ++ [b]:=by
 induction l with
 | nil=>simp[trim]
 | cons c l ih =>
  simp only[List.cons_append,trim];by_cases hc:c=0
  ·
   simp only[hc,if_true];exact ih
  ·
   simp[hc]
theorem a4m (l:List UInt8):trim l=[] ↔ val l=0:=by
 induction l with
 | nil=>simp[trim,val]
 | cons c l ih =>
  rw[val_cons];simp only[trim];by_cases hc:c=0
  ·
   simp[hc,ih]
  ·
   have h1:c.toNat≠0:=fun h=>hc (UInt8.toNat_inj.1 (by simpa using h))
   have h2:0<256^l.length:=Nat.pow_pos (by omega);have h3:0<c.toNat*256^l.length:=Nat.mul_pos (by omega) h2;simp[hc];omega
theorem c4a (r:List UInt8):trim r.reverse=enc (val r.reverse):=by
 induction r with
 | nil=>rfl
 | cons b r ih =>
  rw[List.reverse_cons,c1s,val_snoc];by_cases h0:val r.reverse=0
  ·
   have ht:=(a4m _).2 h0;rw[if_pos ht,h0];by_cases hb:b=0
   ·
    subst hb;rfl
   ·
    have h1:b.toNat≠0:=fun h=>hb (UInt8.toNat_inj.1 (by simpa using h))
    rw[if_neg hb,a8j (by omega)];have hlt:=b.toNat_lt;rw[show (0*256+b.toNat)/256=0 from by omega,b0n,Nat.zero_mul,Nat.zero_add];simp
  ·
   have ht : ¬ trim r.reverse=[]:=fun h=>h0 ((a4m _).1 h)
   rw[if_neg ht,a8j (by omega),ih];have hlt:=b.toNat_lt;rw[show (val r.reverse*256+b.toNat)/256=val r.reverse from by omega]
   congr 2
   apply UInt8.toNat_inj.1;simp
theorem c1t (l:List UInt8):trim l=enc (val l):=by
 have:=c4a l.reverse;simpa using this
theorem V_E (n:Nat):V (E n)=n:=a5i n
theorem E_inj {n m:Nat} (h:E n=E m):n=m:=by rw[<-V_E n,h,V_E]
theorem c4b (n:Nat):trim (enc n)=enc n:=by rw[c1t,a5i]
theorem c4c (n:Nat) (l:List UInt8):enc n≠0 :: l:=by
 intro h;have h1:=c4b n;rw[h] at h1;simp only[trim,if_true] at h1
 have h2:(trim l).length<=l.length:=by
  clear h h1
  induction l with
  | nil=>simp[trim]
  | cons c l ih =>
   simp only[trim]
   split
   ·
    simp;omega
   ·
    simp
 rw[h1] at h2;simp at h2;omega
theorem enc_length_le {n m:Nat} (h:n<256^m):(enc n).length<=m:=by
 induction m generalizing n with
 | zero=>simp at h;subst h;simp[b0n]
 | succ m ih =>
  by_cases h0:n=0
  ·
   subst h0;simp[b0n]
  ·
   rw[a8j h0];rw[Nat.pow_succ] at h;have:=ih (n:=n/256) (by omega);simp;omega
theorem c4u (n:Nat):n<256^(enc n).length:=by
 have:=val_lt (enc n)
 rwa [a5i] at this
theorem enc_ge {n:Nat} (h:n≠0):256^((enc n).length-1)<=n:=by
 rcases Nat.lt_or_ge n (256^((enc n).length-1)) with hlt | hge
 ·
  have h1:=enc_length_le hlt;have h2:0<(enc n).length:=by rw[a8j h];simp
  omega
 ·
  exact hge
theorem enc_length_mono {n m:Nat} (h:n<=m):(enc n).length<=(enc m).length:=enc_length_le (Nat.lt_of_le_of_lt h (c4u m))
theorem E_size (n:Nat):(E n).size=(enc n).length:=rfl
theorem E_toList (n:Nat):(E n).data.toList=enc n:=by simp[E]
theorem V_lt (s:ByteArray):V s<256^s.size:=by
 exact val_lt s.data.toList
theorem E_size_V (s:ByteArray):(E (V s)).size<=s.size:=by
 rw[E_size];exact enc_length_le (V_lt s)
def dig (n i:Nat):Nat:=n/256^i%256
theorem dig_lt (n i:Nat):dig n i<256:=Nat.mod_lt _ (by omega)
def digs (n:Nat):Nat->List Nat
 | 0=>[]
 | m+1=>dig n m :: digs n m
def be (n:Nat):Nat->List UInt8
 | 0=>[]
 | m+1=>UInt8.ofNat (dig n m) :: be n m
theorem be_length (n m:Nat):(be n m).length=m:=by
 induction m with
 | zero=>rfl
 | succ m ih=>simp[be,ih]
theorem val_be (n m:Nat):val (be n m)=n%256^m:=by
 induction m with
 | zero=>simp[be,val_nil,Nat.mod_one]
 | succ m ih =>
  rw[be,val_cons,ih,be_length]
  have h1:(UInt8.ofNat (dig n m)).toNat=dig n m:=by
   have:=dig_lt n m;simp;omega
  rw[h1,dig,Nat.pow_succ,Nat.mod_mul,Nat.mul_comm,Nat.add_comm]
theorem c6l (n m:Nat):(digs n m).map UInt8.ofNat=be n m:=by
 induction m with
 | zero=>rfl
 | succ m ih=>simp[digs,be,ih]
theorem digs_length (n m:Nat):(digs n m).length=m:=by
 induction m with
 | zero=>rfl
 | succ m ih=>simp[digs,ih]
theorem c8f (n m:Nat):V ⟨((digs n m).map UInt8.ofNat).toArray⟩=n%256^m:=by
 rw[c6l];exact val_be n m
theorem V_digs_lt {n m:Nat} (h:n<256^m):V ⟨((digs n m).map UInt8.ofNat).toArray⟩=n:=by
 rw[c8f];exact Nat.mod_eq_of_lt h
theorem zeros_set (n k m d:Nat) (h:k<m) (hd:d=dig n k):(List.replicate (m-k) 0++digs n k).set (m-1-k) d=List.replicate (m-(k+1)) 0++digs n (k+1):=by
 obtain⟨j,rfl⟩:∃ j,m=k+1+j:=⟨m-(k+1),by omega⟩;have e1:k+1+j-k=j+1:=by omega
 have e2:k+1+j-1-k=j:=by omega
 have e3:k+1+j-(k+1)=j:=by omega
 rw[e1,e2,e3,List.replicate_succ',List.append_assoc,List.set_append_right _ _ (by simp)];simp[digs,hd]
theorem c6m (l:List UInt8) (i:Nat) (h:i<l.length):(l[l.length-1-i]'(by omega)).toNat=dig (val l) i:=by
 induction l generalizing i with
 | nil=>simp at h
 | cons b l ih =>
  rw[val_cons];by_cases hi:i=l.length
  ·
   subst hi;have:(b :: l).length-1-l.length=0:=by simp
   simp only[this,List.getElem_cons_zero,dig];have h1:=val_lt l;rw[Nat.add_comm,Nat.add_mul_div_right _ _ (Nat.pow_pos (by omega)),Nat.div_eq_of_lt h1,Nat.zero_add];have:=b.toNat_lt;omega
  ·
   simp only[List.length_cons] at h |-
   have h2:l.length+1-1-i=(l.length-1-i)+1:=by omega
   simp only[h2,List.getElem_cons_succ];rw[ih i (by omega)];unfold dig;obtain⟨d,hd⟩:∃ d,l.length=i+1+d:=⟨l.length-i-1,by omega⟩;rw[hd,Nat.pow_add,Nat.pow_succ]
   rw[show b.toNat*(256^i*256*256^d)=256^i*(256*(b.toNat*256^d)) from by
    simp only[Nat.mul_assoc,Nat.mul_left_comm,Nat.mul_comm]]
   rw[Nat.mul_add_div (Nat.pow_pos (by omega)),Nat.mul_add_mod]
theorem mod_full {n m:Nat} (h:n<256^m):n%256^m=n:=Nat.mod_eq_of_lt h
theorem c4d {n i:Nat} (h:n<256^i):dig n i=0:=by simp[dig,Nat.div_eq_of_lt h]
theorem dig_zero_le {n i m:Nat} (h:n<256^m) (hm:m<=i):dig n i=0:=c4d (Nat.lt_of_lt_of_le h (Nat.pow_le_pow_right (by omega) hm))
theorem mod_succ (n k:Nat):n%256^(k+1)=n%256^k+256^k*dig n k:=by
 rw[Nat.pow_succ,Nat.mod_mul,dig]
theorem c4v (s:ByteArray) (h:0<s.size):V s=(s[0]'h).toNat*256^(s.size-1)+V (s.extract 1 s.size):=by
 obtain⟨⟨l⟩⟩:=s
 cases l with
 | nil=>exact absurd h (by decide)
 | cons b l =>
  have e:(ByteArray.extract ⟨⟨b :: l⟩⟩ 1 (ByteArray.size ⟨⟨b :: l⟩⟩)).data.toList=l:=by
   rw[ByteArray.data_extract];show (Array.extract (⟨b :: l⟩:Array UInt8) 1 (l.length+1)).toList=l;rw[Array.toList_extract];simp[List.extract]
  unfold V;rw[e];show val (b :: l)=b.toNat*256^(l.length+1-1)+val l;rw[val_cons];rfl
theorem V_tail (s:ByteArray) (h:0<s.size) (h0:(s[0]'h).toNat=0):V (s.extract 1 s.size)=V s:=by
 rw[c4v s h,h0];simp
theorem V_dig (s:ByteArray) (i:Nat) (h:i<s.size):(s[s.size-1-i]'(by omega)).toNat=dig (V s) i:=c6m s.data.toList i h
theorem E_V_nil (s:ByteArray) (h : ¬ 0<s.size):E (V s)=s:=by
 obtain⟨⟨l⟩⟩:=s
 cases l with
 | nil=>rfl
 | cons b l=>exact absurd (show 0<l.length+1 by omega) h
theorem E_V_head (s:ByteArray) (h:0<s.size) (h0:(s[0]'h).toNat≠0):E (V s)=s:=by
 obtain⟨⟨l⟩⟩:=s
 cases l with
 | nil=>exact absurd h (by decide)
 | cons b l =>
  have hb : ¬ b=0:=fun e=>h0 (by subst e;rfl)
  unfold E V;have:=c1t (b :: l);rw[trim,if_neg hb] at this;rw[<-this]
def sm (n:Nat):Nat:=if n<18446744073709551616 then n else 0
def smB (n:Nat):Bool:=decide (n<18446744073709551616)
theorem pow8:(256:Nat)^8=18446744073709551616:=by decide
theorem E_small {n:Nat} (h:(E n).size<=8):n<18446744073709551616:=by
 have h1:=c4u n;have h2:256^(enc n).length<=256^8:=Nat.pow_le_pow_right (by omega) h;rw[pow8] at h2;omega
theorem E_big {n:Nat} (h : ¬ (E n).size<=8) : ¬ n<18446744073709551616:=by
 intro hn;rw[<-pow8] at hn;exact h (enc_length_le hn)
def top (s:ByteArray) (k:Nat):Nat:=V s/256^(s.size-k)
theorem top_step (s:ByteArray) (k:Nat) (h:k<s.size):top s (k+1)=top s k*256+(s[k]'h).toNat:=by
 have h1:=V_dig s (s.size-1-k) (by omega);have e:s.size-1-(s.size-1-k)=k:=by omega
 simp only[e] at h1;unfold top;rw[h1,dig,show s.size-k=(s.size-1-k)+1 from by omega,show s.size-(k+1)=s.size-1-k from by omega,Nat.pow_succ,<-Nat.div_div_eq_div_mul];omega
theorem top_zero (s:ByteArray):top s 0=0:=Nat.div_eq_of_lt (V_lt s)
theorem top_all (s:ByteArray):top s s.size=V s:=by simp[top]
theorem top_lt (s:ByteArray) (k:Nat) (h:k<=s.size):top s k<256^k:=by
 unfold top;rw[Nat.div_lt_iff_lt_mul (Nat.pow_pos (by omega)),<-Nat.pow_add,show k+(s.size-k)=s.size from by omega];exact V_lt s
def sh (n k:Nat):Nat:=n/256^k
theorem sh_zero (n:Nat):sh n 0=n:=by simp[sh]
theorem sh_succ (n k:Nat):sh n (k+1)=sh n k/256:=by unfold sh;rw[Nat.pow_succ,<-Nat.div_div_eq_div_mul]
theorem sh_le (n k:Nat):sh n k<=n:=Nat.div_le_self _ _
theorem sh_dig (n k:Nat):sh n k%256=dig n k:=rfl
def blen (n:Nat):Nat:=if n=0 then 0 else Nat.log2 n+1
theorem c1u (d m r:Nat) (hd:d≠0) (hr:r<256^m):blen (d*256^m+r)=8*m+blen d:=by
 have hp:(256:Nat)^m=2^(8*m):=by rw[Nat.pow_mul]
 rw[hp] at hr |-
 have h1:d*2^(8*m)≠0:=Nat.mul_ne_zero hd (Nat.pos_iff_ne_zero.1 (Nat.two_pow_pos _));have h2:d*2^(8*m)+r≠0:=by omega
 unfold blen;rw[if_neg h2,if_neg hd]
 have hlo:8*m+Nat.log2 d<=Nat.log2 (d*2^(8*m)+r):=by
  rw[Nat.le_log2 h2,Nat.pow_add,Nat.mul_comm];exact Nat.le_trans (Nat.mul_le_mul_right _ (Nat.log2_self_le hd)) (Nat.le_add_right _ _)
 have hhi:Nat.log2 (d*2^(8*m)+r)<8*m+Nat.log2 d+1:=by
  rw[Nat.log2_lt h2];have h3:d<2^(Nat.log2 d+1):=Nat.lt_log2_self;have h4:(d+1)*2^(8*m)<=2^(Nat.log2 d+1)*2^(8*m):=Nat.mul_le_mul_right _ h3;rw[show 8*m+Nat.log2 d+1=(Nat.log2 d+1)+8*m from by omega,Nat.pow_add];rw[Nat.add_mul] at h4;omega
 omega
theorem E_head (n:Nat) (h:0<(E n).size):((E n)[0]'h).toNat≠0:=by
 intro h0
 have h1:enc n=0 :: (enc n).tail:=by
  have h2:0<(enc n).length:=h
  cases he:enc n with
  | nil=>rw[he] at h2;simp at h2
  | cons b l =>
   have h3:((E n)[0]'h)=b:=by
    show (E n).data[0]'h=b;have:(E n).data=(b :: l).toArray:=by unfold E;rw[he]
    simp[this]
   rw[h3] at h0;have:b=0:=UInt8.toNat_inj.1 (by simpa using h0);simp[this]
 exact c4c n _ h1
theorem blen_top (n:Nat) (h:0<(E n).size):blen n=8*((E n).size-1)+blen ((E n)[0]'h).toNat:=by
 have h1:=c4v (E n) h;rw[V_E] at h1;have h2:=V_lt ((E n).extract 1 (E n).size);have h3:((E n).extract 1 (E n).size).size=(E n).size-1:=by simp
 rw[h3] at h2
 conv=>lhs;rw[h1]
 exact c1u _ _ _ (E_head n h) h2
theorem blen_zero:blen 0=0:=rfl
theorem E_nil (n:Nat) (h : ¬ 0<(E n).size):n=0:=by
 have h1:=V_lt (E n);rw[V_E,show (E n).size=0 from by omega] at h1;simpa using h1
theorem blen_half {n:Nat} (h:n≠0):blen n=blen (n/2)+1:=by
 unfold blen;rw[if_neg h];by_cases h2:n/2=0
 ·
  have:n=1:=by omega
  subst this;decide
 ·
  rw[if_neg h2,Nat.log2_def,if_pos (by omega)]
def lw:List Nat->Nat
 | []=>0
 | x :: l=>x+4294967296*lw l
theorem b2u (a b:List Nat):lw (a++b)=lw a+4294967296^a.length*lw b:=by
 induction a with
 | nil=>simp[lw]
 | cons x a ih=>simp only[List.cons_append,lw,ih,List.length_cons,Nat.pow_succ,Nat.mul_add,Nat.mul_assoc,Nat.mul_left_comm 4294967296];omega
theorem lw_lt (l:List Nat) (h:∀ x ∈ l,x<4294967296):lw l<4294967296^l.length:=by
 induction l with
 | nil=>simp[lw]
 | cons x l ih =>
  have h1:=h x (by simp);have h2:=ih (fun y hy=>h y (by simp[hy]));rw[List.length_cons,Nat.pow_succ,lw];omega
theorem pow4:(256:Nat)^4=4294967296:=by decide
theorem lw_dig (l:List Nat) (h:∀ x ∈ l,x<4294967296) (p:Nat) (hp:p/4<l.length):dig (lw l) p=l[p/4]/256^(p%4)%256:=by
 induction l generalizing p with
 | nil=>simp at hp
 | cons x l ih =>
  have h1:=h x (by simp);by_cases h4:p<4
  ·
   have e1:p/4=0:=by omega
   have e2:p%4=p:=by omega
   simp only[e1,e2,List.getElem_cons_zero,lw,dig]
   have e3:(4294967296:Nat)=256^p*(256*256^(3-p)):=by
    rw[<-pow4,show (4:Nat)=p+(1+(3-p)) from by omega,Nat.pow_add,Nat.pow_add]
   rw[e3,Nat.mul_assoc,Nat.add_mul_div_left _ _ (Nat.pow_pos (by omega)),Nat.mul_assoc,Nat.add_mul_mod_self_left]
  ·
   obtain⟨q,rfl⟩:∃ q,p=q+4:=⟨p-4,by omega⟩;have e1:(q+4)/4=q/4+1:=by omega
   have e2:(q+4)%4=q%4:=by omega
   simp only[e1,e2,List.getElem_cons_succ,List.length_cons] at hp |-
   rw[<-ih (fun y hy=>h y (by simp[hy])) q (by omega)];simp only[dig,lw];rw[Nat.pow_add,pow4,Nat.mul_comm (256^q),<-Nat.div_div_eq_div_mul];rw[show (x+4294967296*lw l)/4294967296=lw l from by omega]
def upTo (n m k:Nat):List Nat:=(digs n m).take k++List.replicate (m-k) 0
theorem upTo_zero (n m:Nat):upTo n m 0=List.replicate m 0:=by simp[upTo]
theorem upTo_all (n m:Nat):upTo n m m=digs n m:=by simp[upTo,List.take_of_length_le,digs_length]
theorem upTo_length (n m k:Nat) (h:k<=m):(upTo n m k).length=m:=by simp[upTo,digs_length];omega
theorem c4e (n m i:Nat) (h:i<m):(digs n m)[i]'(by rw[digs_length];exact h)=dig n (m-1-i):=by
 induction m generalizing i with
 | zero=>omega
 | succ m ih =>
  cases i with
  | zero=>simp[digs]
  | succ i =>
   simp only[digs,List.getElem_cons_succ];rw[ih i (by omega)]
   congr 1
   omega
theorem upTo_set (n m k d:Nat) (h:k<m) (hd:d=dig n (m-1-k)):(upTo n m k).set k d=upTo n m (k+1):=by
 unfold upTo;have hl:((digs n m).take k).length=k:=by rw[List.length_take,digs_length];omega
 rw[List.set_append_right _ _ (by omega),hl,Nat.sub_self,show m-k=(m-(k+1))+1 from by omega,List.replicate_succ];simp only[List.set_cons_zero];rw[List.take_succ_eq_append_getElem (by rw[digs_length];exact h),c4e n m k h,hd];simp
def lb:List Nat->Nat
 | []=>0
 | x :: l=>x+256*lb l
theorem c1v (a b:List Nat):lb (a++b)=lb a+256^a.length*lb b:=by
 induction a with
 | nil=>simp[lb]
 | cons x a ih=>simp only[List.cons_append,lb,ih,List.length_cons,Nat.pow_succ,Nat.mul_add,Nat.mul_assoc,Nat.mul_left_comm 256];omega
theorem lb_lt (l:List Nat) (h:∀ x ∈ l,x<256):lb l<256^l.length:=by
 induction l with
 | nil=>simp[lb]
 | cons x l ih =>
  have h1:=h x (by simp);have h2:=ih (fun y hy=>h y (by simp[hy]));rw[List.length_cons,Nat.pow_succ,lb];omega
theorem lb_dig (l:List Nat) (h:∀ x ∈ l,x<256) (p:Nat) (hp:p<l.length):dig (lb l) p=l[p]:=by
 induction l generalizing p with
 | nil=>simp at hp
 | cons x l ih =>
  have h1:=h x (by simp)
  cases p with
  | zero=>simp[dig,lb];omega
  | succ p =>
   simp only[List.getElem_cons_succ,List.length_cons] at hp |-
   rw[<-ih (fun y hy=>h y (by simp[hy])) p (by omega)];simp only[dig,lb];rw[Nat.pow_succ,Nat.mul_comm (256^p),<-Nat.div_div_eq_div_mul,show (x+256*lb l)/256=lb l from by omega]
def low (n k:Nat):List Nat:=(List.range k).map (dig n)
theorem low_succ (n k:Nat):low n (k+1)=low n k ++ [dig n k]:=by simp[low,List.range_succ]
theorem low_length (n k:Nat):(low n k).length=k:=by simp[low]
theorem low_lt (n k:Nat):∀ x ∈ low n k,x<256:=by
 intro x hx;simp only[low,List.mem_map] at hx;obtain⟨i,_,rfl⟩:=hx;exact dig_lt _ _
theorem lb_low (n k:Nat):lb (low n k)=n%256^k:=by
 induction k with
 | zero=>simp[low,lb,Nat.mod_one]
 | succ k ih=>rw[low_succ,c1v,ih,low_length,mod_succ];simp[lb]
def cy (a b k:Nat):Nat:=(a%256^k+b%256^k)/256^k
theorem cy_zero (a b:Nat):cy a b 0=0:=by simp[cy,Nat.mod_one]
theorem cy_step (a b k:Nat):dig a k+dig b k+cy a b k=dig (a+b) k+256*cy a b (k+1):=by
 have hp:0<256^k:=Nat.pow_pos (by omega);have ha:=mod_succ a k;have hb:=mod_succ b k;have hA:=dig_lt a k;have hB:=dig_lt b k;unfold cy
 -- everything over 256 ^ k
 have e1:(a%256^(k+1)+b%256^(k+1))/256^(k+1)=((a%256^k+b%256^k)/256^k+(dig a k+dig b k))/256:=by
  rw[ha,hb,Nat.pow_succ,<-Nat.div_div_eq_div_mul];rw[show a%256^k+256^k*dig a k+(b%256^k+256^k*dig b k)=a%256^k+b%256^k+256^k*(dig a k+dig b k) from by rw[Nat.mul_add];omega];rw[Nat.add_mul_div_left _ _ hp]
 have e2:dig (a+b) k=((a%256^k+b%256^k)/256^k+(dig a k+dig b k))%256:=by
  unfold dig;have h1:a=a%256^k+256^k*(a/256^k):=(Nat.mod_add_div a (256^k)).symm;have h2:b=b%256^k+256^k*(b/256^k):=(Nat.mod_add_div b (256^k)).symm
  have h3:(a+b)/256^k=(a%256^k+b%256^k)/256^k+(a/256^k+b/256^k):=by
   conv=>lhs;rw[h1,h2]
   rw[show a%256^k+256^k*(a/256^k)+(b%256^k+256^k*(b/256^k))=a%256^k+b%256^k+256^k*(a/256^k+b/256^k) from by rw[Nat.mul_add];omega];rw[Nat.add_mul_div_left _ _ hp]
  rw[h3];omega
 rw[e1,e2];omega
theorem cy_le (a b k:Nat):cy a b k<=1:=by
 have hp:0<256^k:=Nat.pow_pos (by omega);have h1:=Nat.mod_lt a hp;have h2:=Nat.mod_lt b hp;unfold cy
 have:(a%256^k+b%256^k)/256^k<2:=by
  rw[Nat.div_lt_iff_lt_mul hp];omega
 omega
theorem e7j {a b k:Nat} (ha:a<256^k) (hb:b<256^k):cy a b k=(a+b)/256^k:=by
 unfold cy;rw[Nat.mod_eq_of_lt ha,Nat.mod_eq_of_lt hb]
theorem cy_end {a b k:Nat} (ha:a<256^k) (hb:b<256^k) (h0:cy a b k=0):a+b<256^k:=by
 rw[e7j ha hb] at h0;have hp:0<256^k:=Nat.pow_pos (by omega)
 rcases Nat.lt_or_ge (a+b) (256^k) with h | h
 ·
  exact h
 ·
  have:=Nat.div_pos h hp;omega
theorem cy_beyond {a b k:Nat} (ha:a<256^k) (hb:b<256^k):cy a b (k+1)=0:=by
 have ha':a<256^(k+1):=Nat.lt_of_lt_of_le ha (Nat.pow_le_pow_right (by omega) (by omega));have hb':b<256^(k+1):=Nat.lt_of_lt_of_le hb (Nat.pow_le_pow_right (by omega) (by omega));rw[e7j ha' hb'];apply Nat.div_eq_of_lt;rw[Nat.pow_succ];omega
def bw (a b k:Nat):Nat:=if a%256^k<b%256^k then 1 else 0
theorem bw_zero (a b:Nat):bw a b 0=0:=by simp[bw,Nat.mod_one]
theorem bw_le (a b k:Nat):bw a b k<=1:=by unfold bw;split<;>omega
theorem bw_step {a b:Nat} (h:b<=a) (k:Nat):dig a k+256*bw a b (k+1)=dig (a-b) k+dig b k+bw a b k:=by
 obtain⟨c,rfl⟩:∃ c,a=b+c:=⟨a-b,by omega⟩;rw[Nat.add_sub_cancel_left];have hs:=cy_step b c k
 have hk:∀ j,bw (b+c) b j=cy b c j:=fun j=>by
  have hp:0<256^j:=Nat.pow_pos (by omega);have h1:=Nat.mod_lt b hp;have h2:=Nat.mod_lt c hp;unfold bw cy;rw[Nat.add_mod];by_cases hlt:b%256^j+c%256^j<256^j
  ·
   rw[Nat.mod_eq_of_lt hlt,if_neg (by omega),Nat.div_eq_of_lt hlt]
  ·
   have e:(b%256^j+c%256^j)%256^j=b%256^j+c%256^j-256^j:=by
    rw[Nat.mod_eq_sub_mod (by omega),Nat.mod_eq_of_lt (by omega)]
   have e2:(b%256^j+c%256^j)/256^j=1:=by
    rw[Nat.div_eq_iff hp];omega
   rw[e,e2,if_pos (by omega)]
 rw[hk,hk];have:=dig_lt c k;omega
theorem lw_take_succ (l:List Nat) (k:Nat) (h:k<l.length):lw (l.take (k+1))=lw (l.take k)+l[k]*4294967296^k:=by
 rw[List.take_succ_eq_append_getElem h,b2u];simp only[lw,List.length_take,Nat.min_eq_left (Nat.le_of_lt h),Nat.mul_zero,Nat.add_zero];rw[Nat.mul_comm]
theorem b7l (L L' p t c P d e b:Nat) (h:L'+p*P=L+t%b*P) (ht:t=d*e+p+c):L'+t/b*(P*b)=L+(d*e+c)*P:=by
 have h1:t%b+b*(t/b)=t:=Nat.mod_add_div t b;have h2:t/b*(P*b)=b*(t/b)*P:=by rw[Nat.mul_comm P b,<-Nat.mul_assoc,Nat.mul_comm (t/b) b]
 have h3:t%b*P+b*(t/b)*P=t*P:=by rw[<-Nat.add_mul,h1]
 have h4:t*P=d*e*P+p*P+c*P:=by rw[ht,Nat.add_mul,Nat.add_mul]
 rw[h2,Nat.add_mul];omega
def wd (n j:Nat):Nat:=n/4294967296^j%4294967296
def wds (n m:Nat):List Nat:=(List.range m).map (wd n)
theorem wds_length (n m:Nat):(wds n m).length=m:=by simp[wds]
theorem wds_get (n m j:Nat) (h:j<(wds n m).length):(wds n m)[j]=wd n j:=by simp[wds]
theorem wd_lt (n j:Nat):wd n j<4294967296:=Nat.mod_lt _ (by omega)
theorem wds_lt (n m:Nat):∀ x ∈ wds n m,x<4294967296:=by
 intro x hx;simp only[wds,List.mem_map] at hx;obtain⟨i,_,rfl⟩:=hx;exact wd_lt _ _
theorem wds_zero (m:Nat):wds 0 m=List.replicate m 0:=by
 apply List.ext_getElem
 ·
  simp[wds]
 ·
  intro i h1 h2;simp[wds,wd]
theorem lw_wds (n m:Nat):lw (wds n m)=n%4294967296^m:=by
 induction m with
 | zero=>simp[wds,lw,Nat.mod_one]
 | succ m ih =>
  have e:wds n (m+1)=wds n m ++ [wd n m]:=by simp[wds,List.range_succ]
  rw[e,b2u,ih,wds_length];simp only[lw,Nat.mul_zero,Nat.add_zero];rw[Nat.pow_succ,Nat.mod_mul,wd]
theorem pow32 (j:Nat):(4294967296:Nat)^j=256^(4*j):=by rw[Nat.pow_mul,pow4]
theorem wds_step (n k m:Nat) (hm:k/4<m) :
  (wds (n%256^k) m).set (k/4) (wd (n%256^k) (k/4) ||| dig n k*2^(k%4*8))=wds (n%256^(k+1)) m:=by
 have hd:=dig_lt n k;obtain⟨q,r,hk,hr⟩:∃ q r,k=4*q+r/\r<4:=⟨k/4,k%4,by omega,by omega⟩;have hq:k/4=q:=by omega
 have hr':k%4=r:=by omega
 rw[hq] at hm |-
 rw[hr'];have hP:(256:Nat)^k=4294967296^q*256^r:=by rw[hk,Nat.pow_add,pow32]
 have hlt:n%256^k<256^k:=Nat.mod_lt _ (Nat.pow_pos (by omega));have hQ:0<4294967296^q:=Nat.pow_pos (by omega)
 have hR:(256:Nat)^r*256<=4294967296:=by
  rw[<-Nat.pow_succ,<-pow4];exact Nat.pow_le_pow_right (by omega) (by omega)
 have hRp:0<(256:Nat)^r:=Nat.pow_pos (by omega);generalize hM:n%256^k=M at *;have hS:=mod_succ n k;rw[hM] at hS;rw[hS]
 have hdiv:M/4294967296^q<256^r:=by
  rw[Nat.div_lt_iff_lt_mul hQ,Nat.mul_comm,<-hP];exact hlt
 have hsum:(M+256^k*dig n k)/4294967296^q=M/4294967296^q+256^r*dig n k:=by
  rw[hP,Nat.mul_assoc,Nat.add_mul_div_left _ _ hQ]
 have hdr:256^r*dig n k<=256^r*255:=Nat.mul_le_mul_left _ (by omega);apply List.ext_getElem
 ·
  simp[wds]
 ·
  intro j h1 h2;rw[wds_get];by_cases hj:j=q
  ·
   subst hj;rw[List.getElem_set_self];unfold wd;rw[hsum,Nat.mod_eq_of_lt (by omega),Nat.mod_eq_of_lt (by omega)];have e2:(256:Nat)^r=2^(r*8):=by rw[Nat.mul_comm,Nat.pow_mul]
   rw[e2] at hdiv |-
   rw[Nat.or_comm,Nat.mul_comm (dig n k),<-Nat.two_pow_add_eq_or_of_lt hdiv,Nat.add_comm]
  ·
   rw[List.getElem_set_ne (by omega)];rw[wds_get];unfold wd
   rcases Nat.lt_or_ge j q with hlt' | hge
   ·
    obtain⟨t,rfl⟩:∃ t,q=j+1+t:=⟨q-(j+1),by omega⟩;have hJ:0<4294967296^j:=Nat.pow_pos (by omega)
    have e3:256^k*dig n k=4294967296^j*(4294967296*(4294967296^t*256^r*dig n k)):=by
     rw[hP,Nat.pow_add,Nat.pow_succ];simp only[Nat.mul_assoc]
    rw[e3,Nat.add_mul_div_left _ _ hJ,Nat.add_mul_mod_self_left]
   ·
    obtain⟨t,rfl⟩:∃ t,j=q+1+t:=⟨j-(q+1),by omega⟩
    have e4:(4294967296:Nat)^(q+1+t)=4294967296^q*(4294967296*4294967296^t):=by
     rw[Nat.pow_add,Nat.pow_succ,Nat.mul_assoc]
    have hT:0<4294967296^t:=Nat.pow_pos (by omega);have hT2:4294967296*1<=4294967296*4294967296^t:=Nat.mul_le_mul_left _ hT;rw[e4];simp only[<-Nat.div_div_eq_div_mul,hsum];rw[Nat.div_eq_of_lt (show M/4294967296^q<4294967296 by omega),Nat.div_eq_of_lt (show M/4294967296^q+256^r*dig n k<4294967296 by omega)]
def le (b:Nat):List Nat->Nat
 | []=>0
 | x :: l=>x+b*le b l
theorem le_lw (l:List Nat):le 4294967296 l=lw l:=by
 induction l with
 | nil=>rfl
 | cons x l ih=>simp only[le,lw,ih]
theorem le_lb (l:List Nat):le 256 l=lb l:=by
 induction l with
 | nil=>rfl
 | cons x l ih=>simp only[le,lb,ih]
theorem c1w (b:Nat) (x y:List Nat):le b (x++y)=le b x+b^x.length*le b y:=by
 induction x with
 | nil=>simp[le]
 | cons a x ih=>simp only[List.cons_append,le,ih,List.length_cons,Nat.pow_succ,Nat.mul_add,Nat.mul_assoc,Nat.mul_left_comm b];omega
theorem c4f (b n:Nat):le b (List.replicate n 0)=0:=by
 induction n with
 | zero=>rfl
 | succ n ih=>simp[List.replicate_succ,le,ih]
theorem c4w (b:Nat) (l:List Nat) (p v:Nat) (h:p<l.length):le b (l.set p v)+l[p]*b^p=le b l+v*b^p:=by
 induction l generalizing p with
 | nil=>simp at h
 | cons x l ih =>
  cases p with
  | zero=>simp[le];omega
  | succ p =>
   have hp:p<l.length:=by simpa using h
   have:=ih p hp;simp only[List.set_cons_succ,le,List.getElem_cons_succ,Nat.pow_succ];have e1:l[p]'hp*(b^p*b)=b*(l[p]'hp*b^p):=by rw[<-Nat.mul_assoc,Nat.mul_comm]
   have e2:v*(b^p*b)=b*(v*b^p):=by rw[<-Nat.mul_assoc,Nat.mul_comm]
   have e3:b*(le b (l.set p v))+b*(l[p]'hp*b^p)=b*le b l+b*(v*b^p):=by rw[<-Nat.mul_add,this,Nat.mul_add]
   rw[e1,e2];omega
theorem a6z (b:Nat) (l:List Nat) (k:Nat) (h:k<l.length):le b (l.take (k+1))=le b (l.take k)+l[k]*b^k:=by
 rw[List.take_succ_eq_append_getElem h,c1w];simp only[le,List.length_take,Nat.min_eq_left (Nat.le_of_lt h),Nat.mul_zero,Nat.add_zero];rw[Nat.mul_comm]
structure MulOut (b:Nat) (xs ys:List Nat) (i:Nat) (ls:List Nat):Prop where
 len:ls.length=xs.length+ys.length
 lt:∀ x ∈ ls,x<b
 zero:∀ p (h:p<ls.length),i+ys.length<=p->ls[p]=0
 val:le b ls=le b (xs.take i)*le b ys
structure MulIn (b:Nat) (xs ys:List Nat) (i d j c:Nat) (ls:List Nat):Prop where
 len:ls.length=xs.length+ys.length
 lt:∀ x ∈ ls,x<b
 zero:∀ p (h:p<ls.length),i+ys.length<=p->ls[p]=0
 cb:c<b
 val:le b ls+c*b^(i+j)=le b (xs.take i)*le b ys+d*le b (ys.take j)*b^i
theorem mul_start (b:Nat) (hb:0<b) (xs ys:List Nat):MulOut b xs ys 0 (List.replicate (xs.length+ys.length) 0) :=
 ⟨by simp,fun x hx=>by simp at hx;omega,fun p h _=>by simp,by rw[c4f];simp[le]⟩
theorem mul_in {b:Nat} (hb:0<b) {xs ys ls:List Nat} {i:Nat} (d:Nat) (h:MulOut b xs ys i ls):MulIn b xs ys i d 0 0 ls :=
 ⟨h.len,h.lt,h.zero,hb,by simp[le,h.val]⟩
theorem mul_step {b:Nat} {xs ys ls:List Nat} {i d j c t:Nat} (h:MulIn b xs ys i d j c ls) (hd:d<b) (hi:i<xs.length) (hj:j<ys.length) (hy:ys[j]<b)
  (ht:t=d*ys[j]+ls[i+j]'(by rw[h.len];omega)+c):MulIn b xs ys i d (j+1) (t/b) (ls.set (i+j) (t%b)):=by
 have hb:0<b:=by omega
 have hp:i+j<ls.length:=by rw[h.len];omega
 have hl:=h.lt _ (List.getElem_mem hp);have hc:=h.cb;refine⟨by simp[h.len],fun x hx=>?_,fun p hp' hge=>?_,?_,?_⟩
 ·
  rcases List.mem_or_eq_of_mem_set hx with hx | rfl
  ·
   exact h.lt x hx
  ·
   exact Nat.mod_lt _ hb
 ·
  rw[List.getElem_set_ne (by omega)];exact h.zero p (by simpa using hp') hge
 ·
  rw[Nat.div_lt_iff_lt_mul hb,ht];have h1:d*ys[j]<=(b-1)*(b-1):=Nat.mul_le_mul (by omega) (by omega);obtain⟨m,rfl⟩:∃ m,b=m+1:=⟨b-1,by omega⟩;simp only[Nat.add_sub_cancel] at h1;have h2:(m+1)*(m+1)=m*m+m+m+1:=by rw[Nat.add_mul,Nat.mul_add];omega
  omega
 ·
  have h1:=c4w b ls (i+j) (t%b) hp;have h2:=b7l (le b ls) (le b (ls.set (i+j) (t%b))) (ls[i+j]'hp) t c (b^(i+j)) d ys[j] b h1 ht;rw[show i+(j+1)=(i+j)+1 from rfl,Nat.pow_succ,h2,a6z b ys j hj];have h3:=h.val;have h4:(d*ys[j]+c)*b^(i+j)=d*ys[j]*b^(i+j)+c*b^(i+j):=Nat.add_mul _ _ _
  have h5:d*(le b (ys.take j)+ys[j]*b^j)*b^i=d*le b (ys.take j)*b^i+d*ys[j]*b^(i+j):=by
   rw[Nat.mul_add,Nat.add_mul,Nat.pow_add]
   congr 1
   rw[Nat.mul_comm (b^i),<-Nat.mul_assoc,<-Nat.mul_assoc]
  omega
theorem mul_sum {b:Nat} {d e l c:Nat} (hd:d<b) (he:e<b) (hl:l<b) (hc:c<b):d*e+l+c<b*b:=by
 have h1:d*e<=(b-1)*(b-1):=Nat.mul_le_mul (by omega) (by omega);obtain⟨m,rfl⟩:∃ m,b=m+1:=⟨b-1,by omega⟩;simp only[Nat.add_sub_cancel] at h1;have h2:(m+1)*(m+1)=m*m+m+m+1:=by rw[Nat.add_mul,Nat.mul_add];omega
 omega
theorem mul_out {b:Nat} {xs ys ls:List Nat} {i d c:Nat} (h:MulIn b xs ys i d ys.length c ls) (hi:i<xs.length) (hd:d=xs[i]):MulOut b xs ys (i+1) (ls.set (i+ys.length) c):=by
 have hp:i+ys.length<ls.length:=by rw[h.len];omega
 have h0:=h.zero _ hp (Nat.le_refl _);refine⟨by simp[h.len],fun x hx=>?_,fun p hp' hge=>?_,?_⟩
 ·
  rcases List.mem_or_eq_of_mem_set hx with hx | rfl
  ·
   exact h.lt x hx
  ·
   exact h.cb
 ·
  rw[List.getElem_set_ne (by omega)];exact h.zero p (by simpa using hp') (by omega)
 ·
  have h1:=c4w b ls (i+ys.length) c hp;rw[h0,Nat.zero_mul,Nat.add_zero] at h1;rw[h1,h.val,List.take_length,a6z b xs i hi,Nat.add_mul,<-hd]
  congr 1
  rw[Nat.mul_assoc,Nat.mul_assoc,Nat.mul_comm (b^i)]
theorem mul_end {b:Nat} {xs ys ls:List Nat} (h:MulOut b xs ys xs.length ls):le b ls=le b xs*le b ys:=by
 rw[h.val,List.take_length]
end Go.Proofs.YtibiacmbljgmhaaGreatDoor.Nt
set_option maxHeartbeats 2000000
set_option maxRecDepth 100000
set_option linter.unusedSimpArgs false
set_option linter.unusedVariables false
namespace Go.Proofs.YtibiacmbljgmhaaGreatDoor
open Go.RowKit
abbrev Bl (w v:Go.World):Prop:=Below w.heap.size w v
theorem nM {α:Sort _} (x:α):∃ z,z=x:=⟨_,rfl⟩
theorem bT {w s x:Go.World} (h:Bl w s) (b:Bl s x):Bl w x:=h.trans (b.mono h.size)
theorem bR {w:Go.World}:Bl w w:=Below.refl _ _
abbrev I6 (n:Int):Go.Value:=.int .i64 n
abbrev S0:Go.Value:=.string ⟨#[]⟩
abbrev Sg (s:ByteArray):Go.Value:=.string s
abbrev Bv (b:Bool):Go.Value:=.bool b
theorem jA {α:Type _} {a b:α} (h:some a=some b):a=b:=Option.some.inj h
theorem jB {p:Prop} [Decidable p] (h:decide p=true):p:=of_decide_eq_true h
theorem jC (n:Nat):n<=n:=Nat.le_refl n
theorem jD {p:Prop} [Decidable p] (h:p):decide p=true:=decide_eq_true h
theorem jE {p:Prop} [Decidable p] (h:¬p):decide p=false:=decide_eq_false h
theorem jF {n m k:Nat} (h:n<m) (i:m<=k):n<k:=Nat.lt_of_lt_of_le h i
theorem jG {n m k:Nat} (h:n<=m) (i:m<=k):n<=k:=Nat.le_trans h i
theorem jH {α:Type _} {l:List α} {i:Nat} (h:i<l.length):l[i]?=some l[i]:=List.getElem?_eq_getElem h
theorem jI (b:ByteArray):b.toList=b.data.toList:=ByteArray.toList_eq b
theorem jJ {α:Type _} {l:List α} {i:Nat} {a:α}:l.getD i a=l[i]?.getD a:=List.getD_eq_getElem?_getD
theorem jK (n m:Nat):n*m=m*n:=Nat.mul_comm n m
theorem jL (n m k:Nat):n*m*k=n*(m*k):=Nat.mul_assoc n m k
theorem jM {α:Type _} {a b:List α}:(a++b).length=a.length+b.length:=List.length_append
theorem jN (n m:Nat):n^(m+1)=n^m*n:=Nat.pow_succ n m
theorem jO {a n:Nat} (h:0<a):0<a^n:=Nat.pow_pos h
theorem jP {n:Nat} (h:n>0) {i j:Nat} (k:i<=j):n^i<=n^j:=Nat.pow_le_pow_right h k
theorem jQ {a b:Nat} (h:a<b):a%b=a:=Nat.mod_eq_of_lt h
theorem jR (m n k:Nat):m/n/k=m/(n*k):=Nat.div_div_eq_div_mul m n k
theorem jS {α:Type _} {i:Nat} {l:List α} (h:l.length<=i):List.take i l=l:=List.take_of_length_le h
theorem jT {α:Type _} {l:List α} (h:l.length=0):l=[]:=List.eq_nil_of_length_eq_zero h
abbrev jU:=@Go.bodyPost_ret
abbrev jV:=@Go.Ending.returned
abbrev jW:=ByteArray
abbrev Cz:=@Go.Calls Tryz.prog
abbrev Ca (f:Go.FuncId) (a:Array Go.Value) (w:Go.World) (r:Go.Value):Prop:=Go.Calls Tryz.prog f a w fun e w'=>e=.returned r/\Below w.heap.size w w'
abbrev Cw (f:Go.FuncId) (a:Array Go.Value) (w:Go.World) (r:Go.Value):Prop:=Go.Calls Tryz.prog f a w fun e w'=>e=.returned r/\w=w'
theorem a1l {a b:jW} (h:a=b):jV (.string a)=.returned (.string b):=by rw[h]
theorem a1c {k:IntKind} {a b:Int} (h:a=b):jV (.int k a)=.returned (.int k b):=by rw[h]
theorem J4 {a b:Bool} (h:a=b):jV (.bool a)=.returned (.bool b):=by rw[h]
theorem a0t (s:jW) (w:World) :
  Cw 119 #[.string s] w (.string (Nt.E (Nt.V s))):=by
 go_enter Tryz.func119,Tryz.ntmps119
 go_wp2
 go_loop [0] (fun v=>∃ t:jW,v=.string t/\t.size<=s.size/\Nt.V t=Nt.V s) (fun v=>match v with | .string t=>t.size | _=>0)
 case atStart=>exact⟨s,rfl,jC _,rfl⟩
 case round =>
  obtain⟨t,rfl,ht,hv⟩:=hrel;have hV:=Lib.hid hv;clear hv;by_cases h:0<t.size
  ·
   by_cases h0:(t[0]'h).toNat=0
   ·
    have hb:(((t[0]'h).toNat:Int)==0)=true:=by simp[h0]
    have hx:=Lib.hid (Nt.V_tail t h h0);clear h0
    go_wp2
    refine⟨⟨_,rfl,?_,?_⟩,?_⟩
    ·
     simp;omega
    ·
     rw[hx.out,hV.out]
    ·
     simp;omega
   ·
    have hb:(((t[0]'h).toNat:Int)==0)=false:=by simp[h0]
    have hx:=Lib.hid (Nt.E_V_head t h h0);clear h0
    go_wp2
    go_ret
    exact⟨a1l (by rw[<-hV.out,hx.out]),rfl⟩
  ·
   have hx:=Lib.hid (Nt.E_V_nil t h)
   go_wp2
   go_ret
   exact⟨a1l (by rw[<-hV.out,hx.out]),rfl⟩
theorem a7g (s:jW) (w:World) :
  Cw 164 #[.string s,.int .u8 0] w (.string (Nt.E (Nt.V s))):=by
 go_enter Tryz.func164,Tryz.ntmps164
 go_wp2
 go_loop [0] (fun v=>∃ t:jW,v=.string t/\t.size<=s.size/\Nt.V t=Nt.V s) (fun v=>match v with | .string t=>t.size | _=>0)
 case atStart=>exact⟨s,rfl,jC _,rfl⟩
 case round =>
  obtain⟨t,rfl,ht,hv⟩:=hrel;have hV:=Lib.hid hv;clear hv;by_cases h:0<t.size
  ·
   by_cases h0:(t[0]'h).toNat=0
   ·
    have hb:(((t[0]'h).toNat:Int)==0)=true:=by simp[h0]
    have hx:=Lib.hid (Nt.V_tail t h h0);clear h0
    go_wp2
    refine⟨⟨_,rfl,?_,?_⟩,?_⟩
    ·
     simp;omega
    ·
     rw[hx.out,hV.out]
    ·
     simp;omega
   ·
    have hb:(((t[0]'h).toNat:Int)==0)=false:=by simp[h0]
    have hx:=Lib.hid (Nt.E_V_head t h h0);clear h0
    go_wp2
    go_ret
    exact⟨a1l (by rw[<-hV.out,hx.out]),rfl⟩
  ·
   have hx:=Lib.hid (Nt.E_V_nil t h)
   go_wp2
   go_ret
   exact⟨a1l (by rw[<-hV.out,hx.out]),rfl⟩
theorem b0o {s:jW} (h:s.toList=[]):s=Nt.E (Nt.V s):=by
 rw[jI] at h;exact(Nt.E_V_nil s (by show ¬ 0<s.data.size;rw[<-Array.length_toList,h];simp)).symm
theorem b2v (s:jW) (w:World) :
  Cw 129 #[.string s,.string ⟨#[0]⟩] w (.string (Nt.E (Nt.V s))):=by
 go_enter Tryz.func129,Tryz.ntmps129;go_wp2_with (go_at_call 164;refine(a7g _ _).mono ?_;rintro e w' ⟨rfl,rfl⟩)
 ·
  have hn:s.toList=[]:=by assumption
  go_ret
  exact⟨a1l (b0o hn),rfl⟩
 ·
  have h1 : ¬ s.toList=[]:=by assumption
  have h2:s.toList.isEmpty=true:=by assumption
  exact absurd (by simpa using h2) h1
 ·
  go_ret
  exact⟨rfl,rfl⟩
theorem a0v (s:jW) (w:World) :
  Cw 235 #[.string s] w (.string (Nt.E (Nt.V s))):=by
 go_enter Tryz.func235,Tryz.ntmps235;go_wp2_with (go_at_call 129;refine(b2v _ _).mono ?_;rintro e w' ⟨rfl,rfl⟩)
 go_ret
 exact⟨rfl,rfl⟩
section
variable {P:Program} {md:Region.Mode} {ops:Array Oper} {Q:Exit->Act->World->Prop} {lr m:Nat}
def b0p (l:List Oper):Bool:=l.all fun o=>match o.op with | .defer _=>false | _=>true
theorem b2w {l:List Oper} (h:b0p l=true) {o:Oper} (ho:o ∈ l):∀ c,o.op≠.defer c:=fun c e=>by
 have:=List.all_eq_true.1 h o ho;rw[e] at this
 cases this
theorem b7m {row:String} {args:Array Value} {w:World} {R:Value->World->Prop} (h:Rows P row args w R):RowsIn (Fence.wide.inRound lr) m P row args w R :=
 fun c cs _=>let ⟨v,w',r,s⟩:=h c cs;⟨v,w',r,stepsIn_wide.2 s⟩
theorem b7n {o:Oper} {a:Act} {w:World} {K:Act->World->Prop} (hnd:∀ c,o.op≠.defer c) (h:o.wp P a w K Q):o.wpIn (Fence.wide.inRound lr) m P a w K Q:=by
 unfold Oper.wpIn;refine⟨fun _ _=>trivial,?_⟩
 rw[Oper.semAt_eq _ _ _ hnd];unfold Oper.wp at h;generalize (execOp a.eval o).run P w=r at *
 cases r with
 | ok x w' =>
  cases x<;>simp only[Oper.uponIn,Oper.upon] at h |-
  case value=>exact h
  case skip=>exact h
  case defer=>exact h
  case enter f args=>exact⟨fun hd=>(absurd (show (false:Bool)=true from hd) (by simp)),CallsIn.inRound lr (callsIn_wide.2 h)⟩
  case row row args=>exact⟨fun hd=>(absurd (show (false:Bool)=true from hd) (by simp)),b7m h⟩
 | halt x w'=>cases x<;>simp only[Oper.uponIn,Oper.upon] at h |-;exact h
theorem b7o {i:Nat} {K K':Act->World->Prop} {a:Act} {w:World} (hnd:b0p ops.toList=true) (hno : ¬ LetsOut Q) (hk:∀ a w,K a w->K' a w) (h:wpOp P ops Q i K a w) :
  wpOpIn (Fence.wide.inRound lr) m P ops Q i K' a w:=by
 unfold wpOp at h;unfold wpOpIn
 split
 ·
  exact hk _ _ (by simpa [*] using h)
 ·
  rename_i o ho
  simp only[ho] at h
  split
  ·
   rename_i hw
   simp only[hw,if_true] at h
   rcases h with h | h
   ·
    exact Oper.wpIn_mono hk (b7n (b2w hnd (Array.mem_toList_iff.2 (Array.mem_of_getElem? ho))) h)
   ·
    exact absurd h.2 hno
  ·
   rename_i hw
   simp only[hw] at h;exact⟨fun _ _=>trivial,hk _ _ h⟩
theorem a8k (hnd:b0p ops.toList=true) (hno : ¬ LetsOut Q):∀ (fuel:Nat) (listed:Array Bool) (a:Act) (w:World),wpAny P md ops Q fuel listed a w->wpAnyIn (Fence.wide.inRound lr) m P md ops Q fuel listed a w
 | 0,_,_,_,h=>h
 | fuel+1,_,_,_,h=>⟨h.1,fun i hi=>b7o hnd hno (a8k hnd hno fuel _) (h.2 i hi)⟩
theorem a8l {id:Nat} {a:Act} {w:World} {l:List Oper} (n:Nat) (hm:P.follows .mixedOrders=true) (hB:Region.lexTailB .any l.toArray n=true) (hnd:b0p l=true) (hno : ¬ LetsOut Q)
  (h:wpStill P l.toArray w.drew (fun a'=>wpList P l.toArray Q (l.drop n) a' w.drew) (l.take n) a):(Code.region id l.toArray true).wpIn (Fence.wide.inRound lr) m P Q a w:=by
 simp only[Region.lexTailB,Bool.and_eq_true,decide_eq_true_eq] at hB;obtain⟨⟨⟨⟨hsel,hn⟩,hs⟩,hc⟩,hlex⟩:=hB;have hn':n<l.length:=by simpa using hn
 have htl:(l.take n).length=n:=by simp;omega
 have hdl:(l.drop n).length=l.toArray.size-n:=by simp
 have inv0:HeadInv .any l.toArray n (Array.replicate l.toArray.size false) :=
  ⟨by simp,fun j oj _ hl=>(by rw[getD_replicate_false] at hl;cases hl),fun t _ ht=>getD_in (by simpa using ht) (getD_replicate_false _ _)⟩
 have H:=wpAnyL_lex (md:=.any) (g:=l.toArray.size-n) hsel hs hc hn (l.take n) 0 _ a (fun j hj=>by
  have hj':j<n:=by rw[htl] at hj;exact hj
  simp[hj']) (by simpa using htl) inv0 (by rw[htl];exact hlex) h
 have H2:=wpAny_of_head (Q':=Q) (g:=l.toArray.size-n) (fun listed a' hL=>by
  have:=wpAny_of_seq (md:=.any) (Q':=Q) (l.drop n) n listed a' w.drew (fun j=>by simp[List.getElem?_drop]) (by rw[hdl];exact hL.1) hL.2
  rwa [hdl] at this) _ _ _ H
 rw[htl,show n+(l.toArray.size-n)=l.toArray.size by omega] at H2;exact wpIn_region_any hm (a8k (by simpa using hnd) hno _ _ _ _ H2)
end
open Go.Shelf
attribute [local go_sem] Oper.semAt_some
def dgs (s:jW) (i:Fin s.size):Array Value:=#[.int .i64 (i.1:Int),.int .u8 ((s[s.size-1-i.1]'(by omega)).toNat:Int)]
theorem b0q {N k:Nat} (h:k<N):(List.finRange N).take (k+1)=(List.finRange N).take k ++ [⟨k,h⟩]:=by
 rw[List.take_succ_eq_append_getElem (by simpa using h)];simp
theorem a7a (N:Nat):(List.finRange N).take N=List.finRange N:=jS (by simp)
theorem b7p {σ:Type} (N:Nat) (f:σ->Fin N->σ) (st:Nat->σ) (h:∀ i:Fin N,st (i.1+1)=f (st i.1) i) (k:Nat) (hk:k<=N) :
  ((List.finRange N).take k).foldl f (st 0)=st k:=by
 induction k with
 | zero=>rfl
 | succ k ih=>rw[b0q (by omega),List.foldl_append,ih (by omega)];exact(h ⟨k,by omega⟩).symm
theorem b2x {σ:Type} (N:Nat) (f:σ->Fin N->σ) (st:Nat->σ) (h:∀ i:Fin N,st (i.1+1)=f (st i.1) i) :
  (List.finRange N).foldl f (st 0)=st N:=by
 have:=b7p N f st h N (jC _)
 rwa [a7a] at this
theorem a5w (F:Fence) (n:Nat) (hf:F.fn 270) (hro:F.round=none) (s:jW) (w:World) :
  CallsIn F n Tryz.prog 270 #[.string s] w fun e w'=>e=.returned (.func (.func 277) #[] #[.pointer (some ⟨w.heap.size,0,none⟩)])/\w'=w.alloc (.cells #[.string s] 9):=by
 refine callsIn_of_wp Tryz.func270 rfl hf ?_ hro;simp only[Tryz.ntmps270,List.size_toArray,List.length_cons,List.length_nil,Nat.reduceAdd,Nat.reduceSub,Array.replicate_succ,Array.replicate_zero,List.push_toArray,List.append_toArray,List.nil_append,List.cons_append]
 gi_wp2
 go_ret
 exact⟨rfl,rfl⟩
def KeepsBox (Bs:Nat) (A B:World):Prop:=∀ v,A.cell? ⟨Bs,0,none⟩=some v->B.cell? ⟨Bs,0,none⟩=some v
theorem KeepsBox.refl (Bs:Nat) (A:World):KeepsBox Bs A A:=fun _ h=>h
theorem KeepsBox.trans {Bs:Nat} {A B C:World} (h:KeepsBox Bs A B) (k:KeepsBox Bs B C):KeepsBox Bs A C:=fun v hv=>k v (h v hv)
theorem KeepsBox.drew {Bs:Nat} {A B:World} (h:KeepsBox Bs A B):KeepsBox Bs A B.drew:=h
theorem KeepsBox.setCell {Bs:Nat} {A B:World} (h:KeepsBox Bs A B) {p:Addr} (hp:p.block≠Bs) (u:Value):KeepsBox Bs A (B.setCell p u) :=
 fun v hv=>(World.cell?_setCell_other B p ⟨Bs,0,none⟩ u (fun e=>hp (by rw[e]))).trans (h v hv)
theorem a9j {Bs:Nat} {w:World} (W:World) (l:Nat) (o o':Obj) (_:w.heap.size<=l) (h:W.heap[l]?=some o) (ho:o.isCells=false) (_:o.isWalk=false):KeepsBox Bs W (W.putObj l o') :=
 fun v hv=>cell_kept hv (grownBy_putObj' W l o') (fun r e=>by cases e;exact⟨o,h,ho⟩)
theorem b7q (F:Fence) (n:Nat) (hf:F.fn 277) (hro:F.round=none) (hn:1<=n) (l Bs:Nat) (s:jW) (hreach:s.size<=maxLen) (J Jx:List (Fin s.size)->World->Prop)
  (hY:∀ pre x W,J pre W->pre.length<s.size->YieldAt F (n-1) Tryz.prog l (dgs s x) W fun e W' =>
   (e=.returned (.bool true)/\J (pre ++ [x]) W'/\KeepsBox Bs W W')\/(e=.returned (.bool false)/\Jx (pre ++ [x]) W'))
  (W:World) (qJ:W.cell? ⟨Bs,0,none⟩=some (.string s)) (h0:J [] W) :
  CallsIn F n Tryz.prog 277 #[.func (.yield l) #[] #[],.pointer (some ⟨Bs,0,none⟩)] W fun e W'=>(∃ v,e=.returned v) /\
   ((∃ ys,ys=List.finRange s.size/\J ys W')\/(∃ pre,(∃ k,k<=s.size/\pre=(List.finRange s.size).take k)/\Jx pre W')):=by
 unfold maxLen at hreach;refine callsIn_of_wp Tryz.func277 rfl hf ?_ hro;simp only[Tryz.ntmps277,List.size_toArray,List.length_cons,List.length_nil,Nat.reduceAdd,Nat.reduceSub,Array.replicate_succ,Array.replicate_zero,List.push_toArray,List.append_toArray,List.nil_append,List.cons_append]
 gi_wp2
 gi_loopw [6] (fun i wr=>∃ k:Nat,k<=s.size/\i=.int .i64 k/\J ((List.finRange s.size).take k) wr/\KeepsBox Bs W wr)
  (fun i _=>s.size-(intOf i).toNat)
 case atStart=>exact⟨0,Nat.zero_le _,rfl,h0,KeepsBox.refl _ _⟩
 case round =>
  obtain⟨k,hk,rfl,hJs,hnx⟩:=hrel;have jk:wr.cell? ⟨Bs,0,none⟩=some (.string s):=hnx _ qJ;by_cases hlt:k<s.size
  ·
   obtain⟨fn,tmps,assign,body,hy,hR⟩:=hY _ ⟨k,hlt⟩ wr hJs (by simp;omega);unfold dgs at hy;dsimp only at hy;have hix:((s.size:Int)-1-(k:Int)).toNat=s.size-1-k:=by omega
   gi_wp2
   refine hR.mono ?_;rintro e W3 (⟨rfl,hJ3,hk3⟩ | ⟨rfl,hJx3⟩)
   ·
    gi_wp2
    go_roundw
    case rel=>exact⟨k+1,by omega,by simp,by rw[b0q hlt];exact hJ3,hnx.trans hk3⟩
    case measure=>simp[intOf];omega
   ·
    gi_wp2
    refine jU (results_none rfl _ _ _) rfl ?_;exact⟨⟨_,rfl⟩,.inr ⟨_,⟨k+1,by omega,(b0q hlt).symm⟩,hJx3⟩⟩
  ·
   obtain rfl:k=s.size:=by omega
   gi_wp2
   go_end0
   exact⟨⟨_,rfl⟩,.inl ⟨_,rfl,by rw[a7a] at hJs;exact hJs⟩⟩
theorem a7b (F:Fence) (n:Nat) (hf:F.fn 277) (hro:F.round=none) (hn:1<=n) (Bs:Nat) (s:jW) (hreach:s.size<=maxLen) (w:World) (qJ:Bs<w.heap.size)
  (hc:w.cell? ⟨Bs,0,none⟩=some (.string s)) :
  SeqStopsK F n Tryz.prog 277 #[.pointer (some ⟨Bs,0,none⟩)] (dgs s) (KeepsBox Bs) (fun ys=>ys=List.finRange s.size)
   (fun pre=>∃ k,k<=s.size/\pre=(List.finRange s.size).take k) s.size w:=fun l J Jx W hW _ _ hY h0=>by
 have hc':=(hW.cell (p:=⟨Bs,0,none⟩) qJ).trans hc;exact b7q F n hf hro hn l Bs s hreach J Jx hY W hc' h0
def Jz (w:World) (g:Nat) (t:TypeId) (cs:Array Value):Prop:=w.heap[g]?=some (.cells cs t (0,0))
def kV (k:IntKind) (l:List Nat):Array Value:=(l.map fun n:Nat=>Value.int k (n:Int)).toArray
section
variable {w w':World} {g:Nat} {t:TypeId} {cs:Array Value}
theorem Jz.lt (h:Jz w g t cs):g<w.heap.size:=by
 rcases Nat.lt_or_ge g w.heap.size with hlt | hge
 ·
  exact hlt
 ·
  unfold Jz at h;rw[Array.getElem?_eq_none hge] at h;cases h
theorem Jz.cell (h:Jz w g t cs) (i:Nat):w.cell? ⟨g,i,none⟩=cs[i]?:=cell_of_row w g i cs t (0,0) h
theorem Jz.frozen (h:Jz w g t cs) (i:Nat):w.frozen? ⟨g,i,none⟩=false:=by
 unfold Jz at h;simp[World.frozen?,h]
theorem Jz.new (w:World) (t:TypeId) (cs:Array Value):Jz (w.alloc (.cells cs t)) w.heap.size t cs:=by
 show (w.heap.push _)[w.heap.size]?=_;simp
theorem Jz.drew (h:Jz w g t cs):Jz w.drew g t cs:=h
theorem Jz.drewN (h:Jz w g t cs) (n:Nat):Jz (w.drewN n) g t cs:=h
theorem Jz.alloc (h:Jz w g t cs) (o:Obj):Jz (w.alloc o) g t cs:=(Below.heap_alloc w o g h.lt).trans h
theorem Jz.put (h:Jz w g t cs) (i:Nat) (u:Value):Jz (w.setCell ⟨g,i,none⟩ u) g t (cs.setIfInBounds i u):=by
 unfold Jz at h |-
 simp[World.setCell,Array.getElem?_modify,h]
theorem Jz.far (h:Jz w g t cs) {p:Addr} (hp:g≠p.block) (u:Value):Jz (w.setCell p u) g t cs:=(Below.heap_setCell w p u g hp).trans h
theorem Jz.below {B:Nat} (h:Jz w g t cs) (hb:Below B w w') (hg:g<B):Jz w' g t cs:=(hb.block g hg).trans h
theorem Jz.grown {row:Option Nat} (h:Jz w g t cs) (hb:w.grownBy w' row) (hg:some g≠row):Jz w' g t cs:=(hb.block g h.lt hg).trans h
theorem Jz.turned (h:Jz w g t cs) {row:Option Nat} (hg:w.grownBy w' row) (hr:∀ r,row=some r->∃ o:Obj,w.heap[r]?=some o/\o.isCells=false):Jz w' g t cs :=
 h.grown hg (fun e=>by
  obtain⟨o,ho,hc⟩:=hr g e.symm;unfold Jz at h
  rw[h] at ho;cases ho;cases hc)
end
theorem c8g (k:IntKind) (l:List Nat) (i:Nat):(kV k l)[i]?=l[i]?.map fun n:Nat=>Value.int k (n:Int):=by simp[kV]
theorem a0r (k:IntKind) (l:List Nat) (i:Nat) (h:i<l.length):(kV k l)[i]?=some (.int k ((l[i]'h:Nat):Int)):=by
 rw[c8g,jH h];rfl
theorem a2p (k:IntKind) (l:List Nat) (i n:Nat):(kV k l).setIfInBounds i (.int k (n:Int))=kV k (l.set i n):=by
 simp[kV,List.map_set]
theorem c4g (k:IntKind) (n:Nat):madeCells #[Value.int k 0] n=kV k (List.replicate n 0):=by
 apply Array.ext
 ·
  simp[madeCells,kV]
 ·
  intro i h1 h2;simp[madeCells,kV,Nat.mod_one]
theorem a1n {P:Program} (t e:TypeId) (k:IntKind) (bytes:Nat) (ht:P.underlying t=some (.slice e)) (hinfo:(P.info? e).map (fun i=>(i.zero,i.size,i.bytes))=some (some (.int k 0),1,bytes))
  (n:Nat) (hbytes:bytes*n<=281474976710656) (h63:n<=9223372036854775807) (w:World) :
  (Instr.makeSlice t (.int .i64 (n:Int)) (.int .i64 (n:Int))).run P w=.ok (.slice (some ⟨w.heap.size,0,none⟩) n n) (w.alloc (.cells (kV k (List.replicate n 0)) e)):=by
 rw[<-c4g];exact run_make_row' t e (.int k 0) bytes ht hinfo rfl .i64 .i64 n hbytes h63 w
theorem a4x {P:Program} (src dst e:TypeId) (hs:P.underlying src=some (.slice e)) (he:P.underlying e=some (.int .u8)) (hd:P.underlying dst=some .string)
  (g n cap:Nat) (l:List Nat) (hl:l.length=n) (w:World) (h:Jz w g e (kV .u8 l)) :
  (convert src dst (.slice (some ⟨g,0,none⟩) n cap)).run P w=.ok (.string ⟨(l.map UInt8.ofNat).toArray⟩) w:=by
 have hx:=run_convert_bytes_arg (P:=P) w src e hs he g 0 n cap (l.map fun m:Nat=>(m:Int)) (by simpa using hl) (fun i hi=>by
  rw[Nat.zero_add,h.cell,a0r _ _ _ (by omega)]
  simp[List.getD,jH (show i<l.length by omega)]) dst hd
 rw[hx]
 have e2:strOfNums (l.map fun m:Nat=>(m:Int))=⟨(l.map UInt8.ofNat).toArray⟩:=by
  have:=strOfNums_data (l.map fun m:Nat=>(m:Int))
  have e3:∀ (a b:jW),a.data.toList=b.data.toList->a=b:=fun a b hab=>by
   obtain⟨⟨x⟩⟩:=a;obtain⟨⟨y⟩⟩:=b;simpa using hab
  apply e3;rw[this];simp
 rw[e2]
theorem Tryz.infoU8:(Tryz.prog.info? 5).map (fun i=>(i.zero,i.size,i.bytes))=some (some (.int .u8 0),1,1):=by kernel_rfl
theorem Tryz.infoU32:(Tryz.prog.info? 239).map (fun i=>(i.zero,i.size,i.bytes))=some (some (.int .u32 0),1,4):=by kernel_rfl
theorem Tryz.infoInt:(Tryz.prog.info? 3).map (fun i=>(i.zero,i.size,i.bytes))=some (some (.int .i64 0),1,8):=by kernel_rfl
attribute [local go_sem] Oper.semAt_some
theorem c4x {n:Int} (h0:0<=n) (h1:n<18446744073709551616):IntKind.u64.wrap n=n:=by
 rw[IntKind.wrap_u64];omega
theorem b7r {i:Nat} (hi:i<8) (d:Nat) (hd:d<256):d*256^i<18446744073709551616/\256^i<=18446744073709551616:=by
 have h1:256^(i+1)<=256^8:=jP (by omega) (by omega);rw[jN] at h1;have h2:d*256^i<=255*256^i:=Nat.mul_le_mul_right _ (by omega);have h3:0<256^i:=jO (by omega);have h4:(256:Nat)^8=18446744073709551616:=by decide
 omega
theorem c1x {a b:Int} (h:a=b):jV (.tuple #[.int .u64 a,.bool true])=.returned (.tuple #[.int .u64 b,.bool true]):=by rw[h]
theorem c6o (a d i:Nat) (hi:i<8) (hd:d<256) (ha:a<256^i) :
  bits .or .u64 (a:Int) (IntKind.u64.wrap ((d:Int)*2^(8*(i:Int)).toNat))=((a+256^i*d:Nat):Int):=by
 obtain⟨h1,h2⟩:=b7r hi d hd
 have e:((d:Int)*2^(8*(i:Int)).toNat)=((d*256^i:Nat):Int):=by
  have:(8*(i:Int)).toNat=8*i:=by omega
  rw[this,show (256:Nat)^i=2^(8*i) from by rw[Nat.pow_mul]];simp
 rw[e,c4x (by omega) (by omega),u64_or_nat _ _ (by omega) (by omega)];have e2:(256:Nat)^i=2^(8*i):=by rw[Nat.pow_mul]
 rw[e2] at ha |-
 rw[Nat.or_comm,jK d,Nat.add_comm,Nat.two_pow_add_eq_or_of_lt ha]
theorem c8h (n d:Nat) (hn:n<72057594037927936) (hd:d<256) :
  bits .or .u64 (IntKind.u64.wrap ((n:Int)*256)) (d:Int)=((n*256+d:Nat):Int):=by
 rw[c4x (by omega) (by omega)];have e:((n:Int)*256)=((n*256:Nat):Int):=by omega
 rw[e,u64_or_nat _ _ (by omega) (by omega)];have h:=Nat.two_pow_add_eq_or_of_lt (b:=d) (i:=8) (by omega) n;rw[show n*256=2^8*n from by omega,h]
def a2x (t:jW) (c:Int) (i:Fin t.size):Int:=bits .or .u64 c (IntKind.u64.wrap (((t[t.size-1-i.1]'(by omega)).toNat:Int)*2^(8*(i.1:Int)).toNat))
theorem b7s (t:jW) (h8:t.size<=8):(List.finRange t.size).foldl (a2x t) 0=(Nt.V t:Int):=by
 have h:=b2x t.size (a2x t) (fun k=>((Nt.V t%256^k:Nat):Int)) (fun i=>by
  have hi:=i.2;unfold a2x
  rw[Nt.V_dig t i.1 hi,c6o _ _ _ (by omega) (Nt.dig_lt _ _) (Nat.mod_lt _ (jO (by omega))),Nt.mod_succ])
 simp only[Nat.pow_zero,Nat.mod_one] at h;rw[Nt.mod_full (Nt.V_lt t)] at h;exact h
theorem b0r (s t:jW) (w:World) (ht:Nt.E (Nt.V s)=t) (h8:t.size<=8) :
  Ca 257 #[.string s] w (.tuple #[.int .u64 (Nt.V s:Int),.bool true]):=by
 have hm:t.size<=maxLen:=by unfold maxLen;omega
 have hT:∀ w,Cw 235 #[.string s] w (.string t):=fun w=>by rw[<-ht];exact a0v s w
 have HT:=Lib.hid hT;have Ht:=Lib.hid ht;clear hT ht;refine(callsIn_wide (n:=3)).1 ?_;refine callsIn_of_wp_marks Tryz.func257 rfl trivial ?_ rfl;simp only[Tryz.ntmps257,List.size_toArray,List.length_cons,List.length_nil,Nat.reduceAdd,Nat.reduceSub,Array.replicate_succ,Array.replicate_zero,List.push_toArray,List.append_toArray,List.nil_append,List.cons_append]
 gi_wp2_with (first
  | (refine⟨trivial,?_⟩;gi_at_call 235;refine(callsIn_wide.2 (HT.out _)).mono ?_;rintro e w' ⟨rfl,rfl⟩)
  | (refine⟨trivial,?_⟩;gi_at_call 270;refine(a5w Fence.wide _ trivial rfl _ _).mono ?_;rintro e w' ⟨rfl,rfl⟩))
 have bC:=Boxed.new w 225 (.int .u64 0);have bN:=Boxed.new (w.alloc (.cells #[.int .u64 0] 225)) 9 (.string t);rw[World.size_alloc] at bN;have hB0:Bl w ((w.alloc (.cells #[.int .u64 0] 225)).alloc (.cells #[.string t] 9)):=((Below.refl _ w).alloc (jC _) _).alloc (by simp) _
 refine wpIn_rangeFunc_ownF rfl (by omega) (gf:=277) (lb:=#[.pointer (some ⟨w.heap.size+1,0,none⟩)]) rfl trivial (enters_of Tryz.func277 (by kernel_rfl) rfl)
  (a7b Fence.wide _ trivial rfl (by omega) (w.heap.size+1) t hm _ (by simp) bN.cell) KeepsBox.trans a9j (Below.refl _ _) (fun _=>rfl)
  (fun pre W=>(W.cell? ⟨w.heap.size,0,none⟩=some (.int .u64 (pre.foldl (a2x t) 0))/\W.frozen? ⟨w.heap.size,0,none⟩=false)/\Bl w W)
  (fun _ _ _=>False)
  (OwnFrom.and (Own.from (fun s A B row hs hg hr=>⟨cell_kept hs.1 hg hr,(frozen_kept hs.1 hg hr).trans hs.2⟩) _) (ownFrom_below (jC _) (by simp;omega)))
  (fun _ _ _ _ _ hs _ _=>hs)
  ⟨⟨(bC.alloc _).cell,(bC.alloc _).frozen⟩,hB0⟩
  (fun i=>{ tmps:=#[Value.string t,undef,Value.int IntKind.u64 0,Value.bool false,Value.pointer (some { block:=w.heap.size,off:=0 }),.int .i64 (i.1:Int),.int .u8 ((t[t.size-1-i.1]'(by omega)).toNat:Int),Value.string s,Value.string t,Value.string t,Value.int IntKind.i64 t.size,Value.bool (decide (8<(t.size:Int))),Value.string t,Value.func (Fn.func 277) #[] #[Value.pointer (some { block:=w.heap.size+1,off:=0 })],.int .i64 (i.1:Int),.int .u8 ((t[t.size-1-i.1]'(by omega)).toNat:Int),undef,undef,undef,undef,undef,undef,undef,undef],defers:=[] }) ?assign ?body ?done ?stop
 case assign =>
  intro l x W K hK;unfold dgs;dsimp only
  gi_wp2
  exact hK
 case body =>
  rintro l pre x W ⟨⟨hc,hf⟩,hB⟩ _;obtain⟨i,hi⟩:=x;obtain⟨d,hd⟩:=nM ((t[t.size-1-i]'(by omega)).toNat);have hd256:d<256:=by rw[hd];exact UInt8.toNat_lt _
  have hs1:(pre ++ [(⟨i,hi⟩:Fin t.size)]).foldl (a2x t) 0=bits .or .u64 (pre.foldl (a2x t) 0) (IntKind.u64.wrap ((d:Int)*2^(8*(i:Int)).toNat)):=by
   rw[List.foldl_append,hd];rfl
  generalize pre.foldl (a2x t) 0=c at hc hs1;dsimp only;rw[<-hd];have Hs:=Lib.hid hs1;clear hd hs1;have hw8:IntKind.i64.wrap (8*(i:Int))=8*(i:Int):=IntWalk.i64_in _ (by omega);have hw0:0<=8*(i:Int):=by omega
  have hwd:IntKind.u64.wrap (d:Int)=(d:Int):=by simp[IntKind.wrap,IntKind.bits,IntKind.signed];omega
  have hmx : Tryz.prog.follows .mixedOrders=true:=by kernel_rfl
  gi_wp2
  gi_region_with_o (fail)
  all_goals exact⟨(KeepsOthers.setCell _ _ _).trans (KeepsOthers.drew _),((KeepsBox.refl _ W).setCell (p:=⟨w.heap.size,0,none⟩) (by simp) _).drew,⟨by rw[Hs.out];exact World.cell?_setCell_same' _ _ _ (by rw[hc];rfl),by rw[frozen_drew_own,World.frozen?_setCell];exact hf⟩,(hB.setCell (p:=⟨w.heap.size,0,none⟩) (jC _) _).drew⟩
 case done =>
  rintro D xs W hD rfl ⟨⟨hc,_⟩,hB⟩ hK;have hF:=Lib.hid (b7s t h8);generalize (List.finRange t.size).foldl (a2x t) 0=c at hc hF
  gi_wp2
  refine⟨by simp,.inl ⟨_,_,rfl,run_takeDeferred hK,?_⟩⟩;exact⟨_,results_tmp2 (t:=2) (u:=3) rfl _ _ _,c1x (a:=c) (b:=((Nt.V s:Nat):Int)) (by rw[hF.out,<-Ht.out,Nt.V_E]),hB.trans (belowK_b (w:=w) (jC _) W D _ _ (by simp at hD;omega) hK rfl rfl)⟩
 case stop =>
  rintro D c pre W _ _ h _;exact h.elim
theorem a9k {a b:Int} {c d:Bool} (h:a=b) (h':c=d):jV (.tuple #[.int .u64 a,.bool c])=.returned (.tuple #[.int .u64 b,.bool d]):=by rw[h,h']
theorem b2y (s:jW) (w:World) :
  Ca 257 #[.string s] w (.tuple #[.int .u64 (Nt.sm (Nt.V s):Int),.bool (Nt.smB (Nt.V s))]):=by
 by_cases h8:(Nt.E (Nt.V s)).size<=8
 ·
  have h1:=Nt.E_small h8;refine(b0r s _ w rfl h8).mono fun e w' h=>⟨?_,h.2⟩
  rw[h.1];exact a9k (by rw[Nt.sm,if_pos h1]) (by rw[Nt.smB];simp[h1])
 ·
  have h1:=Nt.E_big h8;have hr:=Lib.hid (show jV (.tuple #[.int .u64 0,.bool false])=.returned (.tuple #[.int .u64 (Nt.sm (Nt.V s):Int),.bool (Nt.smB (Nt.V s))]) from a9k (by rw[Nt.sm,if_neg h1];rfl) (by rw[Nt.smB];simp[h1]));go_enter Tryz.func257,Tryz.ntmps257;go_wp2_with (go_at_call 235;refine(a0v _ _).mono ?_;rintro e w' ⟨rfl,rfl⟩)
  go_ret2
  exact⟨hr.out,Below.refl _ _⟩
set_option maxHeartbeats 4000000
theorem e2n (s:jW) (w:World) :
  Cw 212 #[.string s] w (.tuple #[.int .u64 (Nt.sm (Nt.V s):Int),.bool (Nt.smB (Nt.V s))]):=by
 obtain⟨t,ht⟩:=nM (Nt.E (Nt.V s));have hV:Nt.V t=Nt.V s:=by rw[ht,Nt.V_E]
 have HT:=Lib.hid (fun w=>(ht ▸ a0t s w:Cw 119 #[.string s] w (.string t)));by_cases h8:t.size<=8
 ·
  have h1:=Nt.E_small (ht ▸ h8)
  have hr:Hid (jV (.tuple #[.int .u64 ((Nt.top t t.size:Nat):Int),.bool true])=.returned (.tuple #[.int .u64 (Nt.sm (Nt.V s):Int),.bool (Nt.smB (Nt.V s))])) :=
   a9k (by rw[Nt.sm,if_pos h1,Nt.top_all,hV]) (by rw[Nt.smB];simp[h1])
  clear ht hV;go_enter Tryz.func212,Tryz.ntmps212;go_wp2_with (go_at_call 119;refine(HT.out _).mono ?_;rintro e w' ⟨rfl,rfl⟩)
  go_loop [4,5] (fun n i=>∃ k:Nat,k<=t.size/\i=.int .i64 k/\n=.int .u64 ((Nt.top t k:Nat):Int)) (fun _ i=>t.size-(intOf i).toNat)
  case atStart=>exact⟨0,Nat.zero_le _,rfl,by rw[Nt.top_zero];rfl⟩
  case round =>
   obtain⟨k,hk,rfl,rfl⟩:=hrel;by_cases hlt:k<t.size
   ·
    have hs1:=Lib.hid (Nt.top_step t k hlt);have hl1:=Nt.top_lt t k hk;generalize Nt.top t k=n at hs1 hl1;have hd:=UInt8.toNat_lt (t[k]'hlt)
    have hn:n<72057594037927936:=by
     have:256^k<=256^7:=jP (by omega) (by omega);have h7:(256:Nat)^7=72057594037927936:=by decide
     omega
    have ho:=Lib.hid (c8h n (t[k]'hlt).toNat hn hd);clear hn hl1
    go_wp2
    go_round
    case rel=>exact⟨k+1,by omega,by go_num,by rw[ho.out,hs1.out]⟩
    case measure=>simp[intOf];omega
   ·
    obtain rfl:k=t.size:=by omega
    go_wp2
    go_ret2
    exact⟨hr,rfl⟩
 ·
  have h1:=Nt.E_big (ht ▸ h8);have hr:=Lib.hid (show jV (.tuple #[.int .u64 0,.bool false])=.returned (.tuple #[.int .u64 (Nt.sm (Nt.V s):Int),.bool (Nt.smB (Nt.V s))]) from a9k (by rw[Nt.sm,if_neg h1];rfl) (by rw[Nt.smB];simp[h1]));clear ht hV;go_enter Tryz.func212,Tryz.ntmps212;go_wp2_with (go_at_call 119;refine(HT.out _).mono ?_;rintro e w' ⟨rfl,rfl⟩)
  go_ret2
  exact⟨hr.out,rfl⟩
theorem a4e (c:Int) (w:World) (h0:0<=c) (h1:c<256) :
  Ca 214 #[.int .i64 c] w (.string ⟨#[UInt8.ofNat c.toNat]⟩):=by
 have hx:=a4x (P:=Tryz.prog) 130 9 5 Tryz.underlying130 Tryz.underlying5 Tryz.underlying9 w.heap.size 1 1 [c.toNat] rfl (w.alloc (.cells #[.int .u8 c] 5)) (by
  have e:kV .u8 [c.toNat]=#[.int .u8 c]:=by simp[kV];omega
  rw[e];exact Jz.new _ _ _)
 simp only[List.map_cons,List.map_nil] at hx;go_enter Tryz.func214,Tryz.ntmps214
 go_wp2
 go_ret
 exact⟨rfl,(Below.refl _ _).alloc (jC _) _⟩
theorem c4h (x:Int) (w:World) (h0:0<=x) (h1:x<=255) :
  Cw 244 #[.int .u8 x] w (.int .i64 (Lib.bitLen x.toNat)):=by
 go_enter Tryz.func244,Tryz.ntmps244
 go_wp2
 go_ret
 exact⟨a1c (a:=wrap64 (Lib.len8 x)) (by unfold wrap64;exact Lib.len8_int x h0 h1),rfl⟩
theorem c1y (n:Nat) (hn:n<18446744073709551616):bits .and .u64 (n:Int) 255=((n%256:Nat):Int):=by
 rw[show (255:Int)=((255:Nat):Int) from rfl,u64_and_nat _ _ (by omega) (by omega)];rw[show 255=2^8-1 from rfl,Nat.and_two_pow_sub_one_eq_mod]
theorem b7t (a b:List UInt8):(⟨a.toArray⟩:jW)++⟨b.toArray⟩=⟨(a++b).toArray⟩:=by
 apply ByteArray.ext;simp
theorem c1z (n:Nat) (w:World) (hn:n<18446744073709551616) :
  Ca 203 #[.int .u64 (n:Int)] w (.string (Nt.E n)):=by
 have HN:=Lib.hid hn;have hV:Hid (Nt.V ⟨(Nt.be n 8).toArray⟩=n):=by show Nt.val _=n;rw[Nt.val_be,Nt.pow8];exact jQ hn
 clear hn;go_enter Tryz.func203,Tryz.ntmps203
 go_wp2
 go_loopw [0,3,4] (fun x s i wr=>∃ k:Nat,k<=8/\i=.int .i64 k/\x=.int .u64 (Nt.sh n k:Int)/\s=.string ⟨(Nt.be n k).toArray⟩/\Bl w wr) (fun _ _ i _=>8-(intOf i).toNat)
 case atStart=>exact⟨0,by omega,rfl,by rw[Nt.sh_zero],rfl,Below.refl _ _⟩
 case round =>
  obtain⟨k,hk,rfl,rfl,rfl,hB⟩:=hrel;by_cases hlt:k<8
  ·
   have hA:=c1y (Nt.sh n k) (by have:=HN.out;have:=Nt.sh_le n k;omega);rw[Nt.sh_dig] at hA;have hd:=Nt.dig_lt n k;have HS:=Lib.hid (Nt.sh_succ n k);have HB:Hid (Nt.be n (k+1)=UInt8.ofNat (Nt.dig n k) :: Nt.be n k):=rfl;generalize Nt.dig n k=d at hd hA HB;generalize Nt.sh n k=x at hA HS;have hL:(Nt.be n k).length<=8:=by rw[Nt.be_length];omega
   go_wp2_with (go_at_call 214;refine(a4e _ _ (by omega) (by omega)).mono ?_;rintro e w' ⟨rfl,hb1⟩);refine⟨⟨k+1,by omega,by go_num,by rw[HS.out];go_num,?_,bT hB hb1⟩,by simp[intOf];omega⟩;rw[HB.out,show (⟨#[UInt8.ofNat d]⟩:jW)=⟨[UInt8.ofNat d].toArray⟩ from rfl,b7t];rfl
  ·
   obtain rfl:k=8:=by omega
   go_wp2_with (go_at_call 119;refine(a0t _ _).mono ?_;rintro e w' ⟨rfl,rfl⟩)
   go_ret
   exact⟨a1l (by rw[hV.out]),hB⟩
theorem a8m:∀ n:Fin 256,Lib.bitLen n.1=Nt.blen n.1:=by decide +kernel
theorem a3e {t:jW} (h:0<t.size):t.toList.isEmpty=false:=by
 rw[jI];obtain⟨⟨l⟩⟩:=t
 cases l with
 | nil=>exact absurd h (by decide)
 | cons b l=>rfl
theorem a3r {t:jW} (h : ¬ 0<t.size):t.toList.isEmpty=true:=by
 rw[jI];obtain⟨⟨l⟩⟩:=t
 cases l with
 | nil=>rfl
 | cons b l=>exact absurd (show 0<l.length+1 by omega) h
theorem a4f (s:jW) (w:World) (hs:s.size<=140737488351232) :
  Cw 236 #[.string s] w (.int .i64 (Nt.blen (Nt.V s):Int)):=by
 obtain⟨t,ht⟩:=nM (Nt.E (Nt.V s));have HT:=Lib.hid (fun w=>(ht ▸ a0v s w:Cw 235 #[.string s] w (.string t)));have hts:t.size<=140737488351232:=by rw[ht];exact jG (Nt.E_size_V s) hs
 by_cases h0:0<t.size
 ·
  have hd:=UInt8.toNat_lt (t[0]'h0)
  have hr:Hid ((wrap64 (8*((t.size:Int)-1)+(Lib.bitLen (t[0]'h0).toNat:Int)))=(Nt.blen (Nt.V s):Int)):=by
   subst ht;have hb:=Lib.bitLen_le8 ⟨_,hd⟩;have he:=a8m ⟨_,hd⟩;have ht:=Nt.blen_top _ h0;dsimp only at hb he;show wrap64 _=_;unfold wrap64;omega
  have hE:=a3e h0;clear ht;go_enter Tryz.func236,Tryz.ntmps236
  go_wp2_with (first
   | (go_at_call 235;refine(HT.out _).mono ?_;rintro e w' ⟨rfl,rfl⟩)
   | (go_at_call 244;refine(c4h _ _ (by omega) (by omega)).mono ?_;rintro e w' ⟨rfl,rfl⟩))
  go_ret
  exact⟨a1c hr.out,rfl⟩
 ·
  have hr:Hid (Nt.V s=0):=Nt.E_nil _ (ht ▸ h0);have hE:=a3r h0;clear ht;go_enter Tryz.func236,Tryz.ntmps236;go_wp2_with (go_at_call 235;refine(HT.out _).mono ?_;rintro e w' ⟨rfl,rfl⟩)
  go_ret
  exact⟨a1c (a:=0) (by rw[hr.out];rfl),rfl⟩
theorem b4v (s:jW) (w:World) (hs:s.size<=140737488351232) :
  Cw 204 #[.string s] w (.int .i64 (Nt.blen (Nt.V s):Int)):=by
 obtain⟨t,ht⟩:=nM (Nt.E (Nt.V s));have HT:=Lib.hid (fun w=>(ht ▸ a0t s w:Cw 119 #[.string s] w (.string t)));have hts:t.size<=140737488351232:=by rw[ht];exact jG (Nt.E_size_V s) hs
 by_cases h0:0<t.size
 ·
  have hd:=UInt8.toNat_lt (t[0]'h0);obtain⟨d,hdd⟩:=nM ((t[0]'h0).toNat)
  have hr:Hid (8*(t.size-1)+Nt.blen d=Nt.blen (Nt.V s)):=by
   subst ht;rw[hdd];exact(Nt.blen_top _ h0).symm
  have hb:Nt.blen d<=8:=by rw[hdd];exact(a8m ⟨_,hd⟩) ▸ Lib.bitLen_le8 ⟨_,hd⟩
  rw[<-hdd] at hd;have hE:=a3e h0;have Hd:=Lib.hid hdd;clear ht hdd;go_enter Tryz.func204,Tryz.ntmps204;go_wp2_with (go_at_call 119;refine(HT.out _).mono ?_;rintro e w' ⟨rfl,rfl⟩);rw[<-Hd.out]
  go_loop [3,4] (fun n c=>∃ (x k:Nat),c=.int .u8 (x:Int)/\n=.int .i64 (k:Int)/\k+Nt.blen x=8*(t.size-1)+Nt.blen d/\x<=d) (fun _ c=>(intOf c).toNat)
  case atStart=>exact⟨d,8*(t.size-1),rfl,by go_num,rfl,jC _⟩
  case round =>
   obtain⟨x,k,rfl,rfl,hk,hx⟩:=hrel;by_cases hz:x=0
   ·
    subst hz;have hf:Hid (k=Nt.blen (Nt.V s)):=by rw[<-hr.out,<-hk];rfl
    clear hk
    go_wp2
    go_ret
    exact⟨a1c (by rw[hf.out]),rfl⟩
   ·
    have hh:=Nt.blen_half hz;have hpos:0<x:=by omega
    have hk':Hid (k+1+Nt.blen (x/2)=8*(t.size-1)+Nt.blen d):=by show _=_;omega
    have hkb:k<=8*t.size+8:=by omega
    clear hh hk hz
    go_wp2
    go_round
    case rel=>exact⟨x/2,k+1,by go_num,by go_num,hk'.out,by omega⟩
    case measure=>simp[intOf];omega
 ·
  have hr:Hid (Nt.V s=0):=Nt.E_nil _ (ht ▸ h0);have hE:=a3r h0;clear ht;go_enter Tryz.func204,Tryz.ntmps204;go_wp2_with (go_at_call 119;refine(HT.out _).mono ?_;rintro e w' ⟨rfl,rfl⟩)
  go_ret
  exact⟨a1c (a:=0) (by rw[hr.out];rfl),rfl⟩
theorem a8n (g n cap:Nat) (l:List Nat) (w:World) (hl:l.length=n) (hn:n<=1000000) (hx:∀ x ∈ l,x<4294967296) (hb:Jz w g 239 (kV .u32 l)) :
  Ca 268 #[.slice (some ⟨g,0,none⟩) n cap] w (.string ⟨((Nt.digs (Nt.lw l) (4*n)).map UInt8.ofNat).toArray⟩):=by
 obtain⟨m,hm⟩:=nM (4*n);have hmk:=fun W=>a1n (P:=Tryz.prog) 130 5 .u8 1 Tryz.underlying130 Tryz.infoU8 m (by omega) (by omega) W
 have hm':(4*(n:Int))=(m:Int):=by omega
 rw[<-hm];have hM:=Lib.hid hm;have hmn:m<=4*n:=by omega
 have XK:4*n<=m:=by omega
 have HL:=Lib.hid hl;clear hm hl;have hw0:=hb.lt;obtain⟨N,hN⟩:=nM (Nt.lw l);rw[<-hN];have HN:=Lib.hid hN;clear hN;go_enter Tryz.func268,Tryz.ntmps268
 go_wp2
 go_loopw [12] (fun i wr=>∃ k:Nat,k<=m/\i=.int .i64 k/\Jz wr w.heap.size 5 (kV .u8 (Nt.upTo N m k))/\Bl w wr) (fun i _=>m-(intOf i).toNat)
 case atStart=>exact⟨0,by omega,rfl,by rw[Nt.upTo_zero];exact Jz.new _ _ _,(Below.refl _ _).alloc (jC _) _⟩
 case round =>
  obtain⟨k,hk,rfl,hB,hW⟩:=hrel;by_cases hlt:k<m
  ·
   have hp4:(m-1-k)/4<l.length:=by have:=HL.out;omega
   have hc1:wr.cell? ⟨g,(m-1-k)/4,none⟩=some (.int .u32 ((l[(m-1-k)/4]'hp4:Nat):Int)):=(hW.cell (p:=⟨g,_,none⟩) hw0).trans ((hb.cell _).trans (a0r _ _ _ hp4));have hxb:=hx _ (List.getElem_mem hp4);have hD:=Lib.hid (Nt.lw_dig l hx (m-1-k) hp4);generalize l[(m-1-k)/4]'hp4=x at hc1 hxb hD;have hlen:k<(Nt.upTo N m k).length:=by rw[Nt.upTo_length _ _ _ hk];exact hlt
   have hc2:wr.cell? ⟨w.heap.size,k,none⟩=some (.int .u8 (((Nt.upTo N m k)[k]'hlen:Nat):Int)):=(hB.cell _).trans (a0r _ _ _ hlen);have hf2:wr.frozen? ⟨w.heap.size,k,none⟩=false:=hB.frozen _
   have hE:((x:Int)/2^((m-1-k)%4*8)%256)=((Nt.dig N (m-1-k):Nat):Int):=by
    rw[HN.out,hD.out,show (256:Nat)^((m-1-k)%4)=2^((m-1-k)%4*8) from by rw[jK,Nat.pow_mul]];simp
   have HE:=Lib.hid hE;clear hE
   go_wp2
   refine⟨⟨k+1,by omega,by go_num,?_,hW.setCell (p:=⟨w.heap.size,k,none⟩) (jC _) _⟩,by simp[intOf];omega⟩;rw[HE.out,<-Nt.upTo_set N m k _ hlt rfl,<-a2p];exact hB.put _ _
  ·
   obtain rfl:k=m:=by omega
   have hT:=a4x (P:=Tryz.prog) 130 9 5 Tryz.underlying130 Tryz.underlying5 Tryz.underlying9 w.heap.size k k _ (Nt.upTo_length N k k hk) wr hB;rw[Nt.upTo_all] at hT
   go_wp2
   go_ret
   exact⟨rfl,hW⟩
theorem c8i (n:Nat):Nt.lw [n%4294967296,n/4294967296]=n:=by
 simp[Nt.lw];omega
theorem a8o (n:Nat) (w:World) (hn:n<18446744073709551616) :
  Ca 253 #[.int .u64 (n:Int)] w (.string (Nt.E n)):=by
 have hlw:=c8i n;have hV:Hid (Nt.V ⟨((Nt.digs n 8).map UInt8.ofNat).toArray⟩=n):=Nt.V_digs_lt (by rw[Nt.pow8];exact hn);have hbk:Jz (w.alloc (.cells #[.int .u32 ((n:Int)%4294967296),.int .u32 ((n:Int)/4294967296)] 239)) w.heap.size 239 (kV .u32 [n%4294967296,n/4294967296]):=Jz.new _ _ _;have hT:=a8n w.heap.size 2 2 _ _ rfl (by omega) (by simp;omega) hbk;rw[hlw] at hT;have HT:=Lib.hid hT;clear hT hlw hbk;go_enter Tryz.func253,Tryz.ntmps253
 go_wp2_with (first
  | (go_at_call 268;refine HT.out.mono ?_;rintro e w1 ⟨rfl,hb1⟩)
  | (go_at_call 235;refine(a0v _ _).mono ?_;rintro e w' ⟨rfl,rfl⟩))
 go_ret
 exact⟨a1l (by rw[hV.out]),((Below.refl _ _).alloc (jC _) _).trans (hb1.mono (by simp))⟩
theorem a5x (s:jW) (i:Nat) (w:World) (hs:s.size<=maxLen) :
  Cw 192 #[.string s,.int .i64 (i:Int)] w (.int .i64 (Nt.dig (Nt.V s) i:Int)):=by
 unfold maxLen at hs;by_cases h:i<s.size
 ·
  have hd:=Lib.hid (Nt.V_dig s i h);go_enter Tryz.func192,Tryz.ntmps192
  go_wp2
  go_ret
  exact⟨a1c (a:=wrap64 ((s[s.size-1-i]'(by omega)).toNat:Int)) (by
   rw[<-hd.out];have:=UInt8.toNat_lt (s[s.size-1-i]'(by omega))
   unfold wrap64;omega),rfl⟩
 ·
  have hd:=Lib.hid (Nt.dig_zero_le (Nt.V_lt s) (show s.size<=i by omega));go_enter Tryz.func192,Tryz.ntmps192
  go_wp2
  go_ret
  exact⟨a1c (a:=0) (by rw[hd.out];rfl),rfl⟩
theorem c4i (n:Nat) (hn:n<9223372036854775808):bits .and .i64 (n:Int) 255=((n%256:Nat):Int):=by
 have h:=bits_mask .i64 63 (by decide) (fun m h0 h1=>by rw[IntKind.wrap_i64];omega) 8 (by decide) (n:Int) (by omega) (by omega);have e:((2:Int)^8-1)=255:=by decide
 rw[e] at h;rw[h];omega
theorem a5c (g n cap:Nat) (l:List Nat) (w:World) (hl:l.length=n) (hn:n<=1000000) (hx:∀ x ∈ l,x<256) (hg:g<w.heap.size) (hc:∀ k (h:k<l.length),w.cell? ⟨g,k,none⟩=some (.int .i64 ((l[k]'h:Nat):Int))) :
  Ca 193 #[.slice (some ⟨g,0,none⟩) n cap] w (.string (Nt.E (Nt.lb l))):=by
 have hmk:=fun W=>a1n (P:=Tryz.prog) 130 5 .u8 1 Tryz.underlying130 Tryz.infoU8 n (by omega) (by omega) W
 have HL:=Lib.hid hl;obtain⟨N,hN⟩:=nM (Nt.lb l);have hV:Hid (Nt.V ⟨((Nt.digs N n).map UInt8.ofNat).toArray⟩=N):=Nt.V_digs_lt (by rw[hN,<-hl];exact Nt.lb_lt l hx);rw[<-hN];have HN:=Lib.hid hN;have HX:=Lib.hid hx;have HC:=Lib.hid hc;clear hN hl hx hc;go_enter Tryz.func193,Tryz.ntmps193
 go_wp2
 go_loopw [4] (fun i wr=>∃ k:Nat,k<=n/\i=.int .i64 k/\Jz wr w.heap.size 5 (kV .u8 (List.replicate (n-k) 0++Nt.digs N k))/\Bl w wr) (fun i _=>n-(intOf i).toNat)
 case atStart=>exact⟨0,by omega,rfl,by simp only[Nat.sub_zero,Nt.digs,List.append_nil];exact Jz.new _ _ _,(Below.refl _ _).alloc (jC _) _⟩
 case round =>
  obtain⟨k,hk,rfl,hB,hW⟩:=hrel;by_cases hlt:k<n
  ·
   have hkl:k<l.length:=by have:=HL.out;omega
   have hc1:wr.cell? ⟨g,k,none⟩=some (.int .i64 ((l[k]'hkl:Nat):Int)):=(hW.cell (p:=⟨g,_,none⟩) hg).trans (HC.out k hkl);have hxb:=HX.out _ (List.getElem_mem hkl);have hD:=Lib.hid (Nt.lb_dig l HX.out k hkl);generalize l[k]'hkl=x at hc1 hxb hD;have hlen:n-1-k<(List.replicate (n-k) 0++Nt.digs N k).length:=by simp[Nt.digs_length];omega
   have hc2:wr.cell? ⟨w.heap.size,n-1-k,none⟩=some (.int .u8 (((List.replicate (n-k) 0++Nt.digs N k)[n-1-k]'hlen:Nat):Int)):=(hB.cell _).trans (a0r _ _ _ hlen);have hf2:wr.frozen? ⟨w.heap.size,n-1-k,none⟩=false:=hB.frozen _
   go_wp2
   refine⟨⟨k+1,by omega,by go_num,?_,hW.setCell (p:=⟨w.heap.size,n-1-k,none⟩) (jC _) _⟩,by simp[intOf];omega⟩;rw[<-Nt.zeros_set N k n x hlt (by rw[<-hD.out,HN.out]),<-a2p];exact hB.put _ _
  ·
   obtain rfl:k=n:=by omega
   rw[Nat.sub_self,List.replicate_zero,List.nil_append] at hB;have hT:=a4x (P:=Tryz.prog) 130 9 5 Tryz.underlying130 Tryz.underlying5 Tryz.underlying9 w.heap.size k k _ (Nt.digs_length N k) wr hB;go_wp2_with (go_at_call 119;refine(a0t _ _).mono ?_;rintro e w' ⟨rfl,rfl⟩)
   go_ret
   exact⟨a1l (by rw[hV.out]),hW⟩
theorem b0s (w:World) :
  Ca 193 #[.slice none 0 0] w (.string (Nt.E 0)):=by
 have hmk:∀ W:World,(Instr.makeSlice 130 (.int .i64 0) (.int .i64 0)).run Tryz.prog W=.ok (.slice (some ⟨W.heap.size,0,none⟩) 0 0) (W.alloc (.cells (kV .u8 []) 5)) :=
  fun W=>a1n (P:=Tryz.prog) 130 5 .u8 1 Tryz.underlying130 Tryz.infoU8 0 (by omega) (by omega) W
 have hT:=a4x (P:=Tryz.prog) 130 9 5 Tryz.underlying130 Tryz.underlying5 Tryz.underlying9 w.heap.size 0 0 [] rfl (w.alloc (.cells (kV .u8 []) 5)) (Jz.new _ _ _);go_enter Tryz.func193,Tryz.ntmps193
 go_wp2
 go_loop [4] (fun i=>i=.int .i64 0) (fun _=>0)
 case atStart=>rfl
 case round =>
  subst hrel;go_wp2_with (go_at_call 119;refine(a0t _ _).mono ?_;rintro e w' ⟨rfl,rfl⟩)
  go_ret
  exact⟨rfl,(Below.refl _ _).alloc (jC _) _⟩
theorem e7k (z:Nat):∀ u ∈ [Value.int .i64 (z:Int)],u.oneCell'=true:=by simp[Value.oneCell']
def d1k (l:List Nat):List Value:=l.map fun n:Nat=>Value.int .i64 (n:Int)
theorem b2z (l:List Nat) (n:Nat):d1k l ++ [.int .i64 (n:Int)]=d1k (l ++ [n]):=by simp[d1k]
theorem b0t (l:List Nat) (base n:Nat) (v:Value) (w:World) (hl:l.length=n) (hn:n<=1000000) (hx:∀ x ∈ l,x<256) (ho:w.ownsRow base 3 1 v n (d1k l)) :
  Ca 193 #[v] w (.string (Nt.E (Nt.lb l))):=by
 rcases ho.2 with ⟨rfl,rfl⟩ | ⟨g,cap,cur,rfl,_,hg,_⟩
 ·
  obtain rfl:l=[]:=jT hl;exact b0s w
 ·
  refine a5c g n cap l w hl hn hx (Array.getElem?_eq_some_iff.1 hg).1 (fun k h=>?_);have hcell:=ho.cells (g:=g) rfl k (.int .i64 ((l[k]'h:Nat):Int)) (by unfold d1k;rw[List.getElem?_map,jH h];rfl);have hadd:(⟨g,0,none⟩:Addr).add k=⟨g,k,none⟩:=by unfold Addr.add;split<;>simp_all
  rwa [hadd] at hcell
theorem e5z (a b:jW) (w:World) (ha:a.size<=100000) (hb:b.size<=100000) :
  Ca 202 #[.string a,.string b] w (.string (Nt.E (Nt.V a+Nt.V b))):=by
 obtain⟨i0,hi,hz0,hz1,hz2⟩:=info_parts Tryz.infoInt;have ha':a.size<=maxLen:=by unfold maxLen;omega
 have hb':b.size<=maxLen:=by unfold maxLen;omega
 have hVa:=Nt.V_lt a;have hVb:=Nt.V_lt b;have HA:=Lib.hid hVa;have HBb:=Lib.hid hVb;clear hVa hVb;go_enter Tryz.func202,Tryz.ntmps202
 go_wp2
 go_loopw [5,6,7] (fun v c i wr=>∃ k:Nat,k<=max a.size b.size+1/\i=.int .i64 k/\c=.int .i64 (Nt.cy (Nt.V a) (Nt.V b) k:Int)/\wr.ownsRow w.heap.size 3 1 v k (d1k (Nt.low (Nt.V a+Nt.V b) k))/\Bl w wr) (fun _ _ i _=>max a.size b.size+1-(intOf i).toNat)
 case atStart=>exact⟨0,by omega,rfl,by rw[Nt.cy_zero];rfl,World.ownsRow_nil _ _ _ _,Below.refl _ _⟩
 case round =>
  obtain⟨k,hk,rfl,rfl,hO,hW⟩:=hrel;have hcy:=Nt.cy_le (Nt.V a) (Nt.V b) k;by_cases hgo:k<a.size\/k<b.size\/0<Nt.cy (Nt.V a) (Nt.V b) k
  ·
   have hkM:k<=max a.size b.size:=by
    rcases Nat.lt_or_ge (max a.size b.size) k with hlt | hge
    ·
     exfalso;obtain rfl:k=max a.size b.size+1:=by omega
     have h1:Nt.V a<256^max a.size b.size:=jF HA.out (jP (by omega) (by omega));have h2:Nt.V b<256^max a.size b.size:=jF HBb.out (jP (by omega) (by omega));have:=Nt.cy_beyond h1 h2;omega
    ·
     exact hge
   have hst:=Nt.cy_step (Nt.V a) (Nt.V b) k;have hda:=Nt.dig_lt (Nt.V a) k;have hdb:=Nt.dig_lt (Nt.V b) k;have hds:=Nt.dig_lt (Nt.V a+Nt.V b) k;have jq:=Lib.hid (fun W=>a5x a k W ha');have hRB:=Lib.hid (fun W=>a5x b k W hb');have HL:=Lib.hid (Nt.low_succ (Nt.V a+Nt.V b) k);have hc1:=Nt.cy_le (Nt.V a) (Nt.V b) (k+1);generalize Nt.cy (Nt.V a) (Nt.V b) k=c at hcy hgo hst;obtain⟨c',hc'⟩:∃ c',c'=Nt.cy (Nt.V a) (Nt.V b) (k+1):=⟨_,rfl⟩;rw[<-hc'] at hst hc1;have HC':=Lib.hid hc';clear hc';generalize Nt.dig (Nt.V a) k=x at hst hda jq;generalize Nt.dig (Nt.V b) k=y at hst hdb hRB;generalize Nt.dig (Nt.V a+Nt.V b) k=z at hst hds HL;have hand:=c4i (x+y+c) (by omega);rw[show (x+y+c)%256=z from by omega] at hand;rw[show ((x+y+c:Nat):Int)=(x:Int)+(y:Int)+(c:Int) from by omega] at hand;have Hst:=Lib.hid hst;clear hst;have hk1:k+1<=maxLen:=by unfold maxLen;omega
   have hk2:(k+1)*8<=140737488355328:=by omega
   have HWS:=Lib.hid (fun o:Obj=>show w.heap.size<=(wr.alloc o).heap.size by simp;have:=hW.size;omega)
   go_wp2_with (first
    | (go_at_call_of 192 a;refine(jq.out _).mono ?_;rintro e w1 ⟨rfl,rfl⟩)
    | (go_at_call_of 192 b;refine(hRB.out _).mono ?_;rintro e w1 ⟨rfl,rfl⟩)
    | (at_builtin;refine wpList_append_own _ rfl _ _ 23 rfl w.heap.size 3 i0 (.int .i64 0) 1 8 Tryz.underlying23 hi hz0 hz1 hz2 rfl (by decide) _ _ _ rfl (hO.alloc _) ⟨wr.heap.size,0,none⟩ 1 1 [.int .i64 (z:Int)] rfl rfl (cell_one_new _ _ _) (e7k z) hk1 hk2 (HWS.out _) ?_;intro v1 w2 hown1 hgrow1 _))
   all_goals first
    | (exfalso;omega)
    | (
      refine⟨⟨k+1,by omega,by go_num,?_,?_,?_⟩,by simp[intOf];omega⟩
      ·
       have:=Hst.out;rw[<-HC'.out];exact congrArg (Value.int .i64) (by omega)
      ·
       rw[HL.out,<-b2z];exact hown1
      ·
       exact(hW.alloc hW.size _).grown hgrow1 (HWS.out _) (fun j hj=>(hO.lt j hj).1))
  ·
   have hend:Hid (Nt.lb (Nt.low (Nt.V a+Nt.V b) k)=Nt.V a+Nt.V b):=by
    rw[Hid,Nt.lb_low];have h1:Nt.V a<256^k:=jF HA.out (jP (by omega) (by omega));have h2:Nt.V b<256^k:=jF HBb.out (jP (by omega) (by omega));exact jQ (Nt.cy_end h1 h2 (by omega))
   have hT:=Lib.hid (b0t (Nt.low (Nt.V a+Nt.V b) k) _ k _ wr (Nt.low_length _ _) (by omega) (Nt.low_lt _ _) hO);have hc0:Nt.cy (Nt.V a) (Nt.V b) k<=0:=by omega
   generalize Nt.cy (Nt.V a) (Nt.V b) k=c at hcy hgo hc0;go_wp2_with (go_at_call 193;refine hT.out.mono ?_;rintro e w1 ⟨rfl,hb1⟩)
   go_ret
   exact⟨a1l (by rw[hend.out]),bT hW hb1⟩
set_option maxHeartbeats 2000000
namespace Nt
def cmpZ (n m:Nat):Int:=if n<m then -1 else if n=m then 0 else 1
theorem less_val:∀ (l k:List UInt8),l.length=k.length->Op.bytesLess l k=decide (val l<val k)
 | [],[],_=>by simp[Op.bytesLess]
 | a :: l,b :: k,h=>by
  have hl:l.length=k.length:=by simpa using h
  have h1:=val_lt l;have h2:=val_lt k;have h3:a<b ↔ a.toNat<b.toNat:=UInt8.lt_iff_toNat_lt;rw[Op.bytesLess,less_val l k hl,val_cons,val_cons,hl];rw[hl] at h1;rw[Bool.eq_iff_iff];simp only[Bool.or_eq_true,Bool.and_eq_true,decide_eq_true_eq,beq_iff_eq];constructor
  ·
   rintro (hab | ⟨rfl,hlk⟩)
   ·
    have:(a.toNat+1)*256^k.length<=b.toNat*256^k.length:=Nat.mul_le_mul_right _ (h3.1 hab);rw[Nat.add_mul,Nat.one_mul] at this;generalize 256^k.length=P at *;omega
   ·
    omega
  ·
   intro hlt;by_cases hab:a<b
   ·
    exact .inl hab
   ·
    right;have hba:b.toNat<=a.toNat:=Nat.le_of_not_lt (fun h=>hab (h3.2 h));by_cases he:a.toNat=b.toNat
    ·
     rw[he] at hlt;exact⟨UInt8.toNat_inj.1 he,by omega⟩
    ·
     have:(b.toNat+1)*256^k.length<=a.toNat*256^k.length:=Nat.mul_le_mul_right _ (by omega);rw[Nat.add_mul,Nat.one_mul] at this;generalize 256^k.length=P at *;omega
theorem enc_inj {n m:Nat} (h:enc n=enc m):n=m:=by rw[<-a5i n,h,a5i]
theorem enc_less {n m:Nat} (h:(enc n).length=(enc m).length):Op.bytesLess (enc n) (enc m)=decide (n<m):=by
 rw[less_val _ _ h,a5i,a5i]
end Nt
theorem c2a (l:List UInt8):Op.bytesLess l l=false:=by rw[Nt.less_val l l rfl];simp
theorem c8j (n:Nat):(Nt.E n).toList=Nt.enc n:=by rw[jI];exact Nt.E_toList n
theorem c4j (n m:Nat) :
  (Nt.cmpZ n m=-1/\n<m/\((Nt.E n).size<(Nt.E m).size\/((Nt.E n).size=(Nt.E m).size/\Op.bytesLess (Nt.E n).toList (Nt.E m).toList=true))) \/
  (Nt.cmpZ n m=0/\n=m) \/
  (Nt.cmpZ n m=1/\m<n/\((Nt.E n).toList==(Nt.E m).toList)=false/\((Nt.E m).size<(Nt.E n).size\/((Nt.E n).size=(Nt.E m).size/\Op.bytesLess (Nt.E n).toList (Nt.E m).toList=false))):=by
 simp only[c8j,Nt.E_size]
 rcases Nat.lt_trichotomy n m with h | h | h
 ·
  left;refine⟨by simp[Nt.cmpZ,h],h,?_⟩;have:=Nt.enc_length_mono (Nat.le_of_lt h);by_cases hl:(Nt.enc n).length<(Nt.enc m).length
  ·
   exact .inl hl
  ·
   exact .inr ⟨by omega,by rw[Nt.enc_less (by omega)];simpa using h⟩
 ·
  exact .inr (.inl ⟨by simp[Nt.cmpZ,h],h⟩)
 ·
  right;right;refine⟨by unfold Nt.cmpZ;rw[if_neg (by omega),if_neg (by omega)],h,?_,?_⟩
  ·
   rw[beq_eq_false_iff_ne];intro he;have:=Nt.enc_inj he;omega
  ·
   have:=Nt.enc_length_mono (Nat.le_of_lt h);by_cases hl:(Nt.enc m).length<(Nt.enc n).length
   ·
    exact .inl hl
   ·
    exact .inr ⟨by omega,by rw[Nt.enc_less (by omega)];simp;omega⟩
theorem a6n (a b:jW) (w:World) (ha:a.size<=140737488351232) (hb:b.size<=140737488351232) :
  Cw 227 #[.string a,.string b] w (.int .i64 (Nt.cmpZ (Nt.V a) (Nt.V b))):=by
 have hw:=c4j (Nt.V a) (Nt.V b);have hta:=jG (Nt.E_size_V a) ha;have htb:=jG (Nt.E_size_V b) hb;have HTA:=Lib.hid (fun w=>a0t a w);have HTB:=Lib.hid (fun w=>a0t b w);generalize Nt.V a=n at *;generalize Nt.V b=m at *
 rcases hw with ⟨h1,_,h3⟩ | ⟨h1,rfl⟩ | ⟨h1,_,h3,h4⟩
 ·
  have H1:=Lib.hid h1;generalize Nt.cmpZ n m=z at *;clear h1;generalize Nt.E n=t at *;generalize Nt.E m=u at *
  rcases h3 with h3 | ⟨h3,h4⟩
  ·
   go_enter Tryz.func227,Tryz.ntmps227
   go_wp2_with (first
    | (go_at_call_of 119 a;refine(HTA.out _).mono ?_;rintro e w1 ⟨rfl,rfl⟩)
    | (go_at_call_of 119 b;refine(HTB.out _).mono ?_;rintro e w1 ⟨rfl,rfl⟩))
   go_ret
   exact⟨a1c H1.out.symm,rfl⟩
  ·
   have h5:t.size<=u.size:=by omega
   have h6:u.size<=t.size:=by omega
   clear h3;go_enter Tryz.func227,Tryz.ntmps227
   go_wp2_with (first
    | (go_at_call_of 119 a;refine(HTA.out _).mono ?_;rintro e w1 ⟨rfl,rfl⟩)
    | (go_at_call_of 119 b;refine(HTB.out _).mono ?_;rintro e w1 ⟨rfl,rfl⟩))
   go_ret
   exact⟨a1c H1.out.symm,rfl⟩
 ·
  have H1:=Lib.hid h1;generalize Nt.cmpZ n n=z at *;clear h1;have hbl:=c2a (Nt.E n).toList;generalize Nt.E n=t at *
  all_goals
   go_enter Tryz.func227,Tryz.ntmps227
   go_wp2_with (first
    | (go_at_call_of 119 a;refine(HTA.out _).mono ?_;rintro e w1 ⟨rfl,rfl⟩)
    | (go_at_call_of 119 b;refine(HTB.out _).mono ?_;rintro e w1 ⟨rfl,rfl⟩))
   go_ret
   exact⟨a1c H1.out.symm,rfl⟩
 ·
  have H1:=Lib.hid h1;generalize Nt.cmpZ n m=z at *;clear h1;generalize Nt.E n=t at *;generalize Nt.E m=u at *
  rcases h4 with h4 | ⟨h4,h5⟩
  ·
   go_enter Tryz.func227,Tryz.ntmps227
   go_wp2_with (first
    | (go_at_call_of 119 a;refine(HTA.out _).mono ?_;rintro e w1 ⟨rfl,rfl⟩)
    | (go_at_call_of 119 b;refine(HTB.out _).mono ?_;rintro e w1 ⟨rfl,rfl⟩))
   go_ret
   exact⟨a1c H1.out.symm,rfl⟩
  ·
   have h6:t.size<=u.size:=by omega
   have h7:u.size<=t.size:=by omega
   clear h4;go_enter Tryz.func227,Tryz.ntmps227
   go_wp2_with (first
    | (go_at_call_of 119 a;refine(HTA.out _).mono ?_;rintro e w1 ⟨rfl,rfl⟩)
    | (go_at_call_of 119 b;refine(HTB.out _).mono ?_;rintro e w1 ⟨rfl,rfl⟩))
   go_ret
   exact⟨a1c H1.out.symm,rfl⟩
theorem b7u (a b:jW) (w:World) (ha:a.size<=100000) (hb:b.size<=100000) (hle:Nt.V b<=Nt.V a) :
  Ca 228 #[.string a,.string b] w (.string (Nt.E (Nt.V a-Nt.V b))):=by
 obtain⟨i0,hi,hz0,hz1,hz2⟩:=info_parts Tryz.infoInt;have ha':a.size<=maxLen:=by unfold maxLen;omega
 have hb':b.size<=maxLen:=by unfold maxLen;omega
 have HA:=Lib.hid (Nt.V_lt a);have HBb:=Lib.hid (Nt.V_lt b);have HLE:=Lib.hid hle;have HC:=Lib.hid (fun w=>a6n a b w (by omega) (by omega));have hz:0<=Nt.cmpZ (Nt.V a) (Nt.V b):=by unfold Nt.cmpZ;rw[if_neg (by omega)];split<;>omega
 generalize Nt.cmpZ (Nt.V a) (Nt.V b)=z at *;clear hle;go_enter Tryz.func228,Tryz.ntmps228;go_wp2_with (go_at_call 227;refine(HC.out _).mono ?_;rintro e w1 ⟨rfl,rfl⟩)
 go_loopw [5,6,7] (fun v c i wr=>∃ k:Nat,k<=max a.size b.size/\i=.int .i64 k/\c=.int .i64 (Nt.bw (Nt.V a) (Nt.V b) k:Int)/\wr.ownsRow w.heap.size 3 1 v k (d1k (Nt.low (Nt.V a-Nt.V b) k))/\Bl w wr) (fun _ _ i _=>max a.size b.size-(intOf i).toNat)
 case atStart=>exact⟨0,by omega,rfl,by rw[Nt.bw_zero];rfl,World.ownsRow_nil _ _ _ _,Below.refl _ _⟩
 case round =>
  obtain⟨k,hk,rfl,rfl,hO,hW⟩:=hrel;have hbw:=Nt.bw_le (Nt.V a) (Nt.V b) k;by_cases hgo:k<a.size\/k<b.size
  ·
   have hkM:k<max a.size b.size:=by omega
   have hst:=Nt.bw_step HLE.out k;have hda:=Nt.dig_lt (Nt.V a) k;have hdb:=Nt.dig_lt (Nt.V b) k;have hds:=Nt.dig_lt (Nt.V a-Nt.V b) k;have jq:=Lib.hid (fun W=>a5x a k W ha');have hRB:=Lib.hid (fun W=>a5x b k W hb');have HL:=Lib.hid (Nt.low_succ (Nt.V a-Nt.V b) k);have hc1:=Nt.bw_le (Nt.V a) (Nt.V b) (k+1);generalize Nt.bw (Nt.V a) (Nt.V b) k=c at hbw hst;obtain⟨c',hc'⟩:∃ c',c'=Nt.bw (Nt.V a) (Nt.V b) (k+1):=⟨_,rfl⟩;rw[<-hc'] at hst hc1;have HC':=Lib.hid hc';clear hc';generalize Nt.dig (Nt.V a) k=x at hst hda jq;generalize Nt.dig (Nt.V b) k=y at hst hdb hRB;generalize Nt.dig (Nt.V a-Nt.V b) k=d at hst hds HL;have Hst:=Lib.hid hst;have hk1:k+1<=maxLen:=by unfold maxLen;omega
   have hk2:(k+1)*8<=140737488355328:=by omega
   have HWS:=Lib.hid (fun o:Obj=>show w.heap.size<=(wr.alloc o).heap.size by simp;have:=hW.size;omega);by_cases hneg:(x:Int)-y-c<0
   ·
    have e1:c'=1:=by omega
    have hd:Hid ((x:Int)-y-c+256=(d:Int)):=by show _=_;omega
    subst e1;clear hst
    go_wp2_with (first
     | (go_at_call_of 192 a;refine(jq.out _).mono ?_;rintro e w1 ⟨rfl,rfl⟩)
     | (go_at_call_of 192 b;refine(hRB.out _).mono ?_;rintro e w1 ⟨rfl,rfl⟩)
     | (at_builtin;refine wpList_append_own _ rfl _ _ 23 rfl w.heap.size 3 i0 (.int .i64 0) 1 8 Tryz.underlying23 hi hz0 hz1 hz2 rfl (by decide) _ _ _ rfl (hO.alloc _) ⟨wr.heap.size,0,none⟩ 1 1 [.int .i64 ((x:Int)-y-c+256)] rfl rfl (cell_one_new _ _ _) (by simp[Value.oneCell']) hk1 hk2 (HWS.out _) ?_;intro v1 w2 hown1 hgrow1 _))
    all_goals first
     | (exfalso;omega)
     | (
       refine⟨⟨k+1,by omega,by go_num,?_,?_,?_⟩,by simp[intOf];omega⟩
       ·
        rw[<-HC'.out];rfl
       ·
        rw[hd.out] at hown1;rw[HL.out,<-b2z];exact hown1
       ·
        exact(hW.alloc hW.size _).grown hgrow1 (HWS.out _) (fun j hj=>(hO.lt j hj).1))
   ·
    have e1:c'=0:=by omega
    have hd:Hid ((x:Int)-y-c=(d:Int)):=by show _=_;omega
    subst e1;clear hst
    go_wp2_with (first
     | (go_at_call_of 192 a;refine(jq.out _).mono ?_;rintro e w1 ⟨rfl,rfl⟩)
     | (go_at_call_of 192 b;refine(hRB.out _).mono ?_;rintro e w1 ⟨rfl,rfl⟩)
     | (at_builtin;refine wpList_append_own _ rfl _ _ 23 rfl w.heap.size 3 i0 (.int .i64 0) 1 8 Tryz.underlying23 hi hz0 hz1 hz2 rfl (by decide) _ _ _ rfl (hO.alloc _) ⟨wr.heap.size,0,none⟩ 1 1 [.int .i64 ((x:Int)-y-c)] rfl rfl (cell_one_new _ _ _) (by simp[Value.oneCell']) hk1 hk2 (HWS.out _) ?_;intro v1 w2 hown1 hgrow1 _))
    all_goals first
     | (exfalso;omega)
     | (
       refine⟨⟨k+1,by omega,by go_num,?_,?_,?_⟩,by simp[intOf];omega⟩
       ·
        rw[<-HC'.out];rfl
       ·
        rw[hd.out] at hown1;rw[HL.out,<-b2z];exact hown1
       ·
        exact(hW.alloc hW.size _).grown hgrow1 (HWS.out _) (fun j hj=>(hO.lt j hj).1))
  ·
   have hend:Hid (Nt.lb (Nt.low (Nt.V a-Nt.V b) k)=Nt.V a-Nt.V b):=by
    rw[Hid,Nt.lb_low];have h1:Nt.V a<256^k:=jF HA.out (jP (by omega) (by omega));exact jQ (by omega)
   have hT:=Lib.hid (b0t (Nt.low (Nt.V a-Nt.V b) k) _ k _ wr (Nt.low_length _ _) (by omega) (Nt.low_lt _ _) hO);generalize Nt.bw (Nt.V a) (Nt.V b) k=c at hbw;go_wp2_with (go_at_call 193;refine hT.out.mono ?_;rintro e w1 ⟨rfl,hb1⟩)
   go_ret
   exact⟨a1l (by rw[hend.out]),bT hW hb1⟩
theorem b7v (a b:jW) (w:World) (ha:a.size<=100000) (hb:b.size<=100000) :
  Ca 228 #[.string a,.string b] w (.string (Nt.E (Nt.V a-Nt.V b))):=by
 by_cases hle:Nt.V b<=Nt.V a
 ·
  exact b7u a b w ha hb hle
 ·
  have hr:Hid (Nt.E (Nt.V a-Nt.V b)=⟨#[]⟩):=by rw[Hid,show Nt.V a-Nt.V b=0 from by omega];rfl
  have HC:=Lib.hid (fun w=>a6n a b w (by omega) (by omega));have hz:Nt.cmpZ (Nt.V a) (Nt.V b)<0:=by unfold Nt.cmpZ;rw[if_pos (by omega)];omega
  generalize Nt.cmpZ (Nt.V a) (Nt.V b)=z at *;clear hle;go_enter Tryz.func228,Tryz.ntmps228;go_wp2_with (go_at_call 227;refine(HC.out _).mono ?_;rintro e w1 ⟨rfl,rfl⟩)
  go_ret
  exact⟨a1l hr.out.symm,Below.refl _ _⟩
set_option maxHeartbeats 4000000
theorem c2b {g:Operand} {ps:Array Tmp} {assign body:Code} {Q:Exit->Act->World->Prop} {a:Act} {w:World} (s:jW) (Bs:Nat)
  (hg:a.eval g=.func (.func 277) #[] #[.pointer (some ⟨Bs,0,none⟩)]) (hs:s.size<=maxLen) (qJ:Bs<w.heap.size) (hc:w.cell? ⟨Bs,0,none⟩=some (.string s)) (hps:ps.size=2)
  (I:List (Fin s.size)->World->Prop) (hI:OwnFrom w.heap.size I) (h0:I [] w)
  (h:∃ a₁:Fin s.size->Act,(∀ (l:Nat) (x:Fin s.size) (W:World) (K:Act->World->Prop),K (a₁ x) W ->
    assign.wpIn (Fence.wide.inRound l) 1 Tryz.prog (Exit.then K (fun _ _ _=>False)) { tmps:=(ps.zip (dgs s x)).foldl (fun t (p,v)=>t.setIfInBounds p v) a.tmps,defers:=[] } W) /\
   (∀ (l:Nat) (pre:List (Fin s.size)) (x:Fin s.size) (W:World),I pre W->body.wpIn (Fence.wide.inRound l) 1 Tryz.prog (ownPostK (KeepsBox Bs) I (fun _ _ _=>False) (pre ++ [x]) W) (a₁ x) W))
  (hdone:∀ (D:Nat) (W:World),w.heap.size<=D->I (List.finRange s.size) W->W.heap[D]?=some (.deferred (some []))->Q .normal { a with defers:={ target:=.collected D,args:=#[] } :: a.defers } W) :
  (Code.rangeFunc g ps assign body).wpIn Fence.wide 3 Tryz.prog Q a w:=by
 obtain⟨a₁,h1,h2⟩:=h
 refine wpIn_rangeFunc_ownF rfl (by omega) (gf:=277) (lb:=#[.pointer (some ⟨Bs,0,none⟩)]) hg trivial (enters_of Tryz.func277 (by kernel_rfl) rfl)
  (a7b Fence.wide _ trivial rfl (by omega) Bs s hs w qJ hc) KeepsBox.trans a9j (Below.refl _ _) (fun _=>by rw[hps];rfl)
  I (fun _ _ _=>False) hI (fun _ _ _ _ _ hs _ _=>hs) h0 a₁ h1 (fun l pre x W hi _=>h2 l pre x W hi) ?_ ?_
 ·
  rintro D xs W hD rfl hi hK;exact hdone D W hD hi hK
 ·
  rintro D c pre W _ _ hf _;exact hf.elim
attribute [local go_sem] Oper.semAt_some
theorem b7w (a b:Nat) (ha:a<4294967296) (hb:b<4294967296):bits .or .u32 (a:Int) (b:Int)=((a ||| b:Nat):Int) :=
 (bits_nat .u32 32 (by decide) (fun m h0 h1=>by rw[IntKind.wrap_u32];omega) a b (by omega) (by omega)).2
def a1t (s:jW) (ls:List Nat) (i:Fin s.size):List Nat :=
 ls.set (i.1/4) (ls.getD (i.1/4) 0 ||| (s[s.size-1-i.1]'(by omega)).toNat*2^(i.1%4*8))
theorem b6g {d r:Nat} (hd:d<256) (hr:r<4):d*2^(r*8)<4294967296:=by
 have h1:2^(r*8)<=2^24:=jP (by omega) (by omega);have h2:d*2^(r*8)<=255*2^(r*8):=Nat.mul_le_mul_right _ (by omega);have h3:(2:Nat)^24=16777216:=by decide
 omega
theorem b4w (s:jW) (m:Nat) (pre:List (Fin s.size)):(∀ x ∈ pre.foldl (a1t s) (List.replicate m 0),x<4294967296)/\(pre.foldl (a1t s) (List.replicate m 0)).length=m:=by
 have h:∀ (p:List (Fin s.size)) (l:List Nat),(∀ x ∈ l,x<4294967296)->l.length=m->(∀ x ∈ p.foldl (a1t s) l,x<4294967296)/\(p.foldl (a1t s) l).length=m:=by
  intro p
  induction p with
  | nil=>intro s h1 h2;exact⟨h1,h2⟩
  | cons i p ih =>
   intro l h1 h2;refine ih _ ?_ (by simp[a1t,h2]);intro x hx;unfold a1t at hx
   rcases List.mem_or_eq_of_mem_set hx with hx | rfl
   ·
    exact h1 x hx
   ·
    have h3:l.getD (i.1/4) 0<2^32:=by
     rw[jJ]
     cases hg:l[i.1/4]? with
     | none=>simp
     | some v=>exact h1 v (List.mem_of_getElem? hg)
    exact Nat.or_lt_two_pow h3 (b6g (UInt8.toNat_lt _) (Nat.mod_lt _ (by omega)))
 exact h pre _ (by intro x hx;simp at hx;omega) (by simp)
theorem b3a (s:jW) (m:Nat) (hm:s.size<=4*m):(List.finRange s.size).foldl (a1t s) (List.replicate m 0)=Nt.wds (Nt.V s) m:=by
 have h:=b2x s.size (a1t s) (fun k=>Nt.wds (Nt.V s%256^k) m) (fun i=>by
  have hi:=i.2;have hj:i.1/4<m:=by omega
  unfold a1t;rw[Nt.V_dig s i.1 hi]
  have e:(Nt.wds (Nt.V s%256^i.1) m).getD (i.1/4) 0=Nt.wd (Nt.V s%256^i.1) (i.1/4):=by
   rw[jJ,jH (by rw[Nt.wds_length];exact hj),Nt.wds_get];rfl
  rw[e]
  exact(Nt.wds_step (Nt.V s) i.1 m hj).symm)
 simp only[Nat.pow_zero,Nat.mod_one] at h;rw[Nt.wds_zero,Nt.mod_full (Nt.V_lt s)] at h;exact h
structure WordMem (m B:Nat) (ls:List Nat) (W:World):Prop where
 dat:Jz W B 239 (kV .u32 ls)
 sl:Jz W (B+1) 253 #[.slice (some ⟨B,0,none⟩) m m]
theorem WordMem.own {α:Type} (m B:Nat) (f:List α->List Nat):Own (fun pre W=>WordMem m B (f pre) W) :=
 fun _ _ _ _ hs hg hr=>⟨hs.dat.turned hg hr,hs.sl.turned hg hr⟩
theorem a7c (s:jW) (m:Nat) (w:World) (hs:s.size<=1000000) (hm:m=(s.size+3)/4) :
  Cz 275 #[.string s] w fun e w'=>e=.returned (.slice (some ⟨w.heap.size,0,none⟩) m m)/\Jz w' w.heap.size 239 (kV .u32 (Nt.wds (Nt.V s) m))/\Bl w w':=by
 have hmk:=fun W=>a1n (P:=Tryz.prog) 253 239 .u32 4 Tryz.underlying253 Tryz.infoU32 m (by omega) (by omega) W
 have e1:(((s.size:Int)+3)/4)=(m:Int):=by omega
 rw[<-e1] at hmk;have hsm:s.size<=maxLen:=by unfold maxLen;omega
 have h4:s.size<=4*m:=by omega
 have h5:4*m<=s.size+3:=by omega
 clear e1 hm;refine(callsIn_wide (n:=3)).1 ?_;refine callsIn_of_wp_marks Tryz.func275 rfl trivial ?_ rfl;simp only[Tryz.ntmps275,List.size_toArray,List.length_cons,List.length_nil,Nat.reduceAdd,Nat.reduceSub,Array.replicate_succ,Array.replicate_zero,List.push_toArray,List.append_toArray,List.nil_append,List.cons_append]
 gi_wp2_with (refine⟨trivial,?_⟩;gi_at_call 270;refine(a5w Fence.wide _ trivial rfl _ _).mono ?_;rintro e w' ⟨rfl,rfl⟩)
 obtain⟨wC,hwC⟩:=nM (w.alloc (.cells (kV .u32 (List.replicate m 0)) 239));obtain⟨wD,hwD⟩:∃ wD,wD=wC.alloc (.cells #[.slice (some ⟨w.heap.size,0,none⟩) m m] 253):=⟨_,rfl⟩;have sC:wC.heap.size=w.heap.size+1:=by rw[hwC,World.size_alloc]
 have sD:wD.heap.size=w.heap.size+1+1:=by rw[hwD,World.size_alloc,sC]
 have kC:=Jz.new w 239 (kV .u32 (List.replicate m 0));rw[<-hwC] at kC;have kD:=Jz.new wC 253 #[.slice (some ⟨w.heap.size,0,none⟩) m m];rw[<-hwD,sC] at kD;have kF:=Jz.new wD 9 #[.string s];rw[sD] at kF;have bC:Bl w wC:=by rw[hwC];exact(Below.refl _ w).alloc (jC _) _
 have bD:Bl w wD:=by rw[hwD];exact bC.alloc bC.size _
 have m0:WordMem m w.heap.size (List.replicate m 0) (wD.alloc (.cells #[.string s] 9)) :=
  ⟨by rw[hwD];exact(kC.alloc _).alloc _,kD.alloc _⟩
 rw[<-hwC,<-hwD]
 refine c2b s (w.heap.size+1+1) rfl hsm (by simp;omega) (kF.cell 0) rfl
  (fun pre W=>WordMem m w.heap.size (pre.foldl (a1t s) (List.replicate m 0)) W/\Bl w W)
  (OwnFrom.and (Own.from (WordMem.own _ _ _) _) (ownFrom_below (jC _) (by simp;omega)))
  ⟨m0,bD.alloc bD.size _⟩ ?h ?done
 case h =>
  clear m0 kF kD kC bC bD sC sD hwC hwD;apply Exists.intro;constructor
  ·
   intro l i W K hK;unfold dgs;dsimp only
   gi_wp2
   exact hK
  ·
   rintro l pre i W ⟨hM,hB⟩;obtain⟨k,hk⟩:=i;obtain⟨d,hd⟩:=nM ((s[s.size-1-k]'(by omega)).toNat);have hd256:d<256:=by rw[hd];exact UInt8.toNat_lt _
   have hs1:(pre ++ [(⟨k,hk⟩:Fin s.size)]).foldl (a1t s) (List.replicate m 0) =
     (pre.foldl (a1t s) (List.replicate m 0)).set (k/4) ((pre.foldl (a1t s) (List.replicate m 0)).getD (k/4) 0 ||| d*2^(k%4*8)):=by
    rw[List.foldl_append,hd];rfl
   obtain⟨hl0,hl1⟩:=b4w s m pre;generalize pre.foldl (a1t s) (List.replicate m 0)=ls at hM hl0 hl1 hs1;dsimp only at hs1 hl1 |-
   rw[<-hd];have hlen:k/4<ls.length:=by omega
   have hgd:ls.getD (k/4) 0=ls[k/4]'hlen:=by rw[jJ,jH hlen];rfl
   rw[hgd] at hs1;have hxb:=hl0 _ (List.getElem_mem hlen);have b3:=(hM.sl.cell 0);have b5:=(hM.dat.cell (k/4)).trans (a0r _ _ _ hlen);have f5:=hM.dat.frozen (k/4);generalize ls[k/4]'hlen=x at hs1 hxb b5;have HS:=Lib.hid hs1;clear hd hs1 hgd hl0;simp only[List.getElem?_toArray,List.getElem?_cons_zero] at b3;have hss:=b6g hd256 (Nat.mod_lt k (show 0<4 by omega));obtain⟨q,hq⟩:=nM (k/4);obtain⟨r,hr⟩:=nM (k%4);obtain⟨t,ht⟩:=nM (r*8);rw[<-hr,<-ht] at hss;have g1:(k:Int)/4=(q:Int):=by omega
   have g2:(k:Int)%4=(r:Int):=by omega
   have g2':(k:Int).tmod 4=(r:Int):=by rw[Int.tmod_eq_emod_of_nonneg (by omega)];omega
   have g1':(k:Int).tdiv 4=(q:Int):=by rw[Int.tdiv_eq_ediv_of_nonneg (by omega)];omega
   have g3:IntKind.i64.wrap (q:Int)=(q:Int):=IntWalk.i64_in _ (by omega);have g4:IntKind.i64.wrap (r:Int)=(r:Int):=IntWalk.i64_in _ (by omega);have g5:IntKind.i64.wrap ((r:Int)*8)=(t:Int):=by rw[IntWalk.i64_in _ (by omega)];omega
   have g6:IntKind.u32.wrap (d:Int)=(d:Int):=by rw[IntKind.wrap_u32];omega
   have g7:q<m:=by omega
   have g8:t<=24:=by omega
   have HT:=Lib.hid (show k%4*8=t by omega);rw[<-hq] at b5 f5;have HQ:=Lib.hid hq;clear hq hr ht;have hmx : Tryz.prog.follows .mixedOrders=true:=by kernel_rfl
   gi_wp2
   refine a8l 13 hmx (by kernel_rfl) (by kernel_rfl) (fun⟨_,_,hf⟩=>hf) ?_;simp only[List.take_succ_cons,List.take_zero,List.drop_succ_cons,List.drop_zero]
   repeat still_step
   refine wpStill_nil ?_
   go_wp2
   gi_wp2
   have hv:bits .or .u32 (x:Int) ((d:Int)*2^t%4294967296)=((x ||| d*2^t:Nat):Int):=by
    rw[show ((d:Int)*2^t%4294967296)=((d*2^t:Nat):Int) from by
     have e2:((d:Int)*2^t)=((d*2^t:Nat):Int):=by simp
     rw[e2];omega]
    exact b7w x _ hxb hss
   refine⟨(KeepsOthers.setCell _ _ _).trans (KeepsOthers.drew _),((KeepsBox.refl _ W).setCell (by simp<;>omega) _).drew,?_,(hB.setCell (by simp<;>omega) _).drew⟩;rw[HS.out,HT.out,<-HQ.out,hv];refine⟨?_,(hM.sl.far (by simp<;>omega) _).drew⟩;have:=(hM.dat.put q (.int .u32 ((x ||| d*2^t:Nat):Int))).drew
   rwa [a2p] at this
 case done =>
  rintro D W hD ⟨hM,hB⟩ hK;rw[b3a s m h4] at hM;have hD':w.heap.size+2<=D:=by simp at hD;omega
  clear m0 kF kD kC bC bD sC sD hwC hwD hD;have b3:=(hM.sl.cell 0);simp only[List.getElem?_toArray,List.getElem?_cons_zero] at b3
  gi_wp2
  refine⟨by simp,.inl ⟨_,_,rfl,run_takeDeferred hK,?_⟩⟩;exact⟨_,results_tmp (t:=2) rfl _ _ _,rfl,hM.dat.grown (grownBy_putObj' W D _) (fun e=>by cases e;omega),hB.trans (belowK_b (w:=w) (jC _) _ D _ _ (by omega) hK rfl rfl)⟩
attribute [local go_sem] Oper.semAt_some
structure AddMem (x y:jW) (B:Nat) (s:Nat × List Nat) (W:World):Prop where
 bx:Jz W B 9 #[.string x]
 by_:Jz W (B+1) 9 #[.string y]
 dat:Jz W (B+1+1) 5 (kV .u8 s.2)
 sl:Jz W (B+1+1+1) 130 #[.slice (some ⟨B+1+1,0,none⟩) (x.size+1) (x.size+1)]
 cr:Jz W (B+1+1+1+1) 214 #[.int .u64 (s.1:Int)]
theorem AddMem.own (x y:jW) (B:Nat) (f:List (Fin x.size)->Nat × List Nat):Own (fun pre W=>AddMem x y B (f pre) W) :=
 fun _ _ _ _ hs hg hr=>⟨hs.bx.turned hg hr,hs.by_.turned hg hr,hs.dat.turned hg hr,hs.sl.turned hg hr,hs.cr.turned hg hr⟩
attribute [local go_sem] Oper.semAt_some
structure SubMem (x y:jW) (A B:Nat) (s:Nat × List Nat) (W:World):Prop where
 bx:Jz W A 9 #[.string x]
 by_:Jz W (A+1) 9 #[.string y]
 dat:Jz W B 5 (kV .u8 s.2)
 sl:Jz W (B+1) 130 #[.slice (some ⟨B,0,none⟩) x.size x.size]
 br:Jz W (B+1+1) 3 #[.int .i64 (s.1:Int)]
theorem SubMem.own (x y:jW) (A B:Nat) (f:List (Fin x.size)->Nat × List Nat):Own (fun pre W=>SubMem x y A B (f pre) W) :=
 fun _ _ _ _ hs hg hr=>⟨hs.bx.turned hg hr,hs.by_.turned hg hr,hs.dat.turned hg hr,hs.sl.turned hg hr,hs.br.turned hg hr⟩
theorem zh {p:Prop} (h:p):Hid p:=Lib.hid h
