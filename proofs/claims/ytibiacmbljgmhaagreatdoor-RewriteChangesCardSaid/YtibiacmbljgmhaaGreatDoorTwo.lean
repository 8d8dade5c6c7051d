import Derived.Test.YtibiacmbljgmhaaGreatDoorShelf
import Derived.Test.YtibiacmbljgmhaaGreatDoorMul
import Derived.Laws.MakeOwn
import Derived.Laws.BitsAllLaws
set_option linter.all false
namespace Go.Proofs.YtibiacmbljgmhaaGreatDoor
open Go.RowKit Go.Shelf
def b6i:Prop:=∀ (a b:jW) (w:World),a.size<=2000->b.size<=2000->Ca 240 #[Sg a,Sg b] w (a2y (Nt.V a) (Nt.V b))
set_option maxHeartbeats 4000000
set_option maxRecDepth 100000
def Lm (w:World) (g:Nat) (l:List Nat):Prop:=∀ i (h:i<l.length),w.cell? ⟨g,i,none⟩=some (.int .u32 ((l[i]'h:Nat):Int))
theorem Lm.take {w:World} {g:Nat} {l:List Nat} (h:Lm w g l) (k:Nat):Lm w g (l.take k):=fun i hi=>by
 have hi':i<l.length:=by rw[List.length_take] at hi;omega
 rw[h i hi',List.getElem_take]
theorem Lm.of_blk {w:World} {g:Nat} {t:TypeId} {l:List Nat} (h:Jz w g t (kV .u32 l)):Lm w g l:=fun i hi=>(h.cell i).trans (a0r _ _ _ hi)
theorem b0v (g n cap:Nat) (l:List Nat) (w:World) (hl:l.length=n) (hcap:n<=cap) (hn:n<=1000000) (hc:Lm w g l) (hx:∀ x ∈ l,x<4294967296) :
  Cz 264 #[.slice (some ⟨g,0,none⟩) n cap] w fun e w'=>(∃ k,k<=n/\e=.returned (.slice (some ⟨g,0,none⟩) k cap)/\Nt.lw (l.take k)=Nt.lw l/\∀ h:k-1<l.length,k=0\/l[k-1]'h≠0)/\w=w':=by
 have HL:=zh hl;have HC:=zh hc;have HX:=zh hx;have hst:Hid (Nt.lw (l.take n)=Nt.lw l):=by rw[Hid,<-hl,List.take_length]
 clear hl hc hx;go_enter Tryz.func264,Tryz.ntmps264
 go_wp2
 go_loop [0] (fun v=>∃ k:Nat,k<=n/\v=.slice (some ⟨g,0,none⟩) k cap/\Nt.lw (l.take k)=Nt.lw l) (fun v=>match v with | .slice _ k _=>k | _=>0)
 case atStart=>exact⟨n,jC _,rfl,hst.out⟩
 case round =>
  obtain⟨k,hk,rfl,hlw⟩:=hrel;have HLW:=zh hlw;clear hlw
  rcases k with _ | k
  ·
   go_wp2
   go_ret
   exact⟨⟨0,by omega,rfl,HLW.out,fun _=>Or.inl rfl⟩,rfl⟩
  ·
   have hkl:k<l.length:=by have:=HL.out;omega
   have c1:=HC.out k hkl;have hxb:=HX.out _ (List.getElem_mem hkl);have hstep:=zh (Nt.lw_take_succ l k hkl);obtain⟨x,hxx⟩:=nM (l[k]'hkl);rw[<-hxx] at c1 hxb hstep;have HXX:=zh hxx;clear hxx;by_cases h0:x=0
   ·
    subst h0
    go_wp2
    go_round
    case rel=>exact⟨k,by omega,rfl,by have:=hstep.out;have:=HLW.out;omega⟩
    case measure=>simp
   ·
    have h0':((x:Int)==0)=false:=by simp;omega
    go_wp2
    go_ret
    exact⟨⟨k+1,by omega,rfl,HLW.out,fun _=>Or.inr (by show l[k]≠0;rw[<-HXX.out];exact h0)⟩,rfl⟩
def Nt.qs (N j n:Nat):List Nat:=(List.range n).map (fun i=>if i<j then 0 else Nt.wd N i)
theorem Nt.qs_length (N j n:Nat):(Nt.qs N j n).length=n:=by simp[Nt.qs]
theorem Nt.qs_none (N n:Nat):Nt.qs N n n=List.replicate n 0:=by
 apply List.ext_getElem (by simp[Nt.qs]);intro i h1 h2;rw[Nt.qs_length] at h1;simp[Nt.qs,h1]
theorem Nt.qs_all (N n:Nat):Nt.qs N 0 n=Nt.wds N n:=by simp[Nt.qs,Nt.wds]
theorem Nt.qs_set (N i n:Nat):(Nt.qs N (i+1) n).set i (Nt.wd N i)=Nt.qs N i n:=by
 apply List.ext_getElem (by simp[Nt.qs]);intro k h1 h2;rw[List.getElem_set];by_cases h:i=k
 ·
  subst h;simp[Nt.qs]
 ·
  rw[if_neg h];simp only[Nt.qs,List.getElem_map,List.getElem_range];by_cases hk:k<i
  ·
   rw[if_pos (by omega),if_pos hk]
  ·
   rw[if_neg (by omega),if_neg hk]
theorem Nt.qs_lt (N j n:Nat):∀ x ∈ Nt.qs N j n,x<4294967296:=by
 intro x hx;simp only[Nt.qs,List.mem_map] at hx;obtain⟨i,_,rfl⟩:=hx
 split
 ·
  omega
 ·
  exact Nt.wd_lt _ _
theorem Nt.step_base (B n d c:Nat) (hd:0<d):(n*B+c)/d=n/d*B+(n%d*B+c)/d/\(n*B+c)%d=(n%d*B+c)%d:=by
 have h:n*B+c=(n%d*B+c)+d*(n/d*B):=by
  have:=Nat.mod_add_div n d
  conv=>lhs;rw[<-this]
  rw[Nat.add_mul,jL];omega
 rw[h];exact⟨by rw[Nat.add_mul_div_left _ _ hd];omega,by rw[Nat.add_mul_mod_self_left]⟩
theorem Nt.wd_join (U i:Nat):U/4294967296^i=U/4294967296^(i+1)*4294967296+Nt.wd U i:=by
 unfold Nt.wd;rw[jN,<-jR];omega
theorem Nt.limb_round (U i d:Nat) (hd:0<d) :
  (U/4294967296^(i+1)%d*4294967296+Nt.wd U i)/d=Nt.wd (U/d) i/\(U/4294967296^(i+1)%d*4294967296+Nt.wd U i)%d=U/4294967296^i%d/\U/4294967296^(i+1)%d*4294967296+Nt.wd U i<d*4294967296:=by
 have hlt:=Nat.mod_lt (U/4294967296^(i+1)) hd;have hw:=Nt.wd_lt U i;have hst:=Nt.step_base 4294967296 (U/4294967296^(i+1)) d (Nt.wd U i) hd;have hj:=Nt.wd_join U i;rw[<-hj] at hst;have ht:U/4294967296^(i+1)%d*4294967296+Nt.wd U i<d*4294967296:=by omega
 refine⟨?_,hst.2.symm,ht⟩;have hq:=Nat.div_lt_of_lt_mul ht
 have e:Nt.wd (U/d) i=U/4294967296^i/d%4294967296:=by
  unfold Nt.wd;rw[jR,jK,<-jR]
 rw[e,hst.1];generalize (U/4294967296^(i+1)%d*4294967296+Nt.wd U i)/d=t at *;omega
theorem a7n (n d:Nat) (hn:n<4294967296) (hd:d<4294967296) :
  bits .or .u64 ((n:Int)*4294967296) (d:Int)=((n*4294967296+d:Nat):Int):=by
 have e:((n:Int)*4294967296)=((n*4294967296:Nat):Int):=by omega
 rw[e,u64_or_nat _ _ (by omega) (by omega)];have h:=Nat.two_pow_add_eq_or_of_lt (b:=d) (i:=32) (by omega) n;rw[show n*4294967296=2^32*n from by omega,h]
theorem Nt.wds_lw:∀ l:List Nat,(∀ x ∈ l,x<4294967296)->Nt.wds (Nt.lw l) l.length=l
 | [],_=>rfl
 | x :: r,h=>by
  have ih:=Nt.wds_lw r (fun y hy=>h y (List.mem_cons_of_mem _ hy));have hx:=h x List.mem_cons_self;have e:Nt.lw (x :: r)=x+4294967296*Nt.lw r:=rfl;apply List.ext_getElem (by simp[Nt.wds]);intro i h1 h2;rw[Nt.wds_get,e]
  rcases i with _ | i
  ·
   simp only[Nt.wd,Nat.pow_zero,Nat.div_one,List.getElem_cons_zero];omega
  ·
   have h3:i<r.length:=by simpa using h2
   have h4:Nt.wd (Nt.lw r) i=r[i]:=by
    have:(Nt.wds (Nt.lw r) r.length)[i]'(by rw[Nt.wds_length];exact h3)=r[i]:=by simp only[ih]
    rwa [Nt.wds_get] at this
   rw[List.getElem_cons_succ,<-h4];unfold Nt.wd;rw[jN,jK (4294967296^i),<-jR,show (x+4294967296*Nt.lw r)/4294967296=Nt.lw r from by omega]
def YZ (w:World) (v:Value) (N:Nat):Prop:=(v=.slice none 0 0/\N=0) \/
 ∃ g k cap,v=.slice (some ⟨g,0,none⟩) k cap/\k<=cap/\g<w.heap.size/\Lm w g (Nt.wds N k)/\N<4294967296^k/\(k=0\/4294967296^(k-1)<=N)
theorem Lm.below {w w':World} {B g:Nat} {l:List Nat} (h:Lm w g l) (hb:Below B w w') (hg:g<B):Lm w' g l:=fun i hi=>(hb.cell (p:=⟨g,i,none⟩) hg).trans (h i hi)
theorem YZ.below {w w':World} {B:Nat} {v:Value} {N:Nat} (h:YZ w v N) (hb:Below B w w') (hB:w.heap.size<=B):YZ w' v N:=by
 rcases h with h | ⟨g,k,cap,h1,h2,h3,h4,h5⟩
 ·
  exact Or.inl h
 ·
  exact Or.inr ⟨g,k,cap,h1,h2,by have:=hb.size;omega,h4.below hb (by omega),h5⟩
theorem a3f (g n cap:Nat) (l:List Nat) (w:World) (hl:l.length=n) (hcap:n<=cap) (hn:n<=1000000) (hg:g<w.heap.size) (hc:Lm w g l) (hx:∀ x ∈ l,x<4294967296) :
  Cz 264 #[.slice (some ⟨g,0,none⟩) n cap] w fun e w'=>(∃ v,e=.returned v/\YZ w v (Nt.lw l))/\w=w':=by
 refine(b0v g n cap l w hl hcap hn hc hx).mono ?_;rintro e w' ⟨⟨k,hk,rfl,hlw,hlast⟩,rfl⟩;have hkl:(l.take k).length=k:=by rw[List.length_take];omega
 have hx':∀ x ∈ l.take k,x<4294967296:=fun x hx1=>hx x (List.mem_of_mem_take hx1)
 have hw:=Nt.wds_lw (l.take k) hx';have hlt:=Nt.lw_lt (l.take k) hx';rw[hkl,hlw] at hw hlt;refine⟨⟨_,rfl,Or.inr ⟨g,k,cap,rfl,by omega,hg,by rw[hw];exact hc.take k,hlt,?_⟩⟩,rfl⟩
 rcases Nat.eq_zero_or_pos k with h0 | h0
 ·
  exact Or.inl h0
 ·
  right;have hk1:k-1<l.length:=by omega
  rcases hlast hk1 with h | h
  ·
   omega
  ·
   have hs:=Nt.lw_take_succ l (k-1) hk1;rw[show k-1+1=k from by omega,hlw] at hs;have:1*4294967296^(k-1)<=l[k-1]*4294967296^(k-1):=Nat.mul_le_mul (by omega) (jC _);omega
theorem b8e (g n cap U d:Nat) (w:World) (hn:n<=100000) (hU:U<4294967296^n) (hd0:0<d) (hd1:d<4294967296) (hg:g<w.heap.size) (hc:Lm w g (Nt.wds U n)) :
  Cz 258 #[.slice (some ⟨g,0,none⟩) n cap,.int .u32 (d:Int)] w fun e w'=>(∃ q r,e=.returned (.tuple #[q,r])/\YZ w' q (U/d)/\YZ w' r (U%d))/\Bl w w':=by
 have hmk:=fun W=>a1n (P:=Tryz.prog) 254 239 .u32 4 Tryz.underlying254 Tryz.infoU32 n (by omega) (by omega) W
 have HC:=zh hc;have HU:=zh hU;have hd00:((d:Int)==0)=false:=by simp;omega
 clear hc hU;go_enter Tryz.func258,Tryz.ntmps258
 go_wp2
 go_loopw [6,7] (fun c i wr=>∃ j:Nat,j<=n/\i=I6 ((j:Int)-1)/\c=.int .u64 ((U/4294967296^j%d:Nat):Int)/\Jz wr w.heap.size 239 (kV .u32 (Nt.qs (U/d) j n))/\Bl w wr) (fun _ i _=>(intOf i+1).toNat)
 case atStart=>exact⟨n,by omega,by go_num,by rw[Nat.div_eq_of_lt HU.out,Nat.zero_mod];rfl,by rw[Nt.qs_none];exact Jz.new _ _ _,(Below.refl _ _).alloc (jC _) _⟩
 case round =>
  obtain⟨j,hj,rfl,rfl,hB,hW⟩:=hrel
  rcases j with _ | i
  ·
   have e0:((0:Nat):Int)-1=-1:=rfl;rw[e0];rw[Nat.pow_zero,Nat.div_one];have hm:U%d<4294967296:=Nat.lt_trans (Nat.mod_lt _ hd0) hd1;have hmm:((U%d:Nat):Int)%4294967296=((U%d:Nat):Int):=by omega
   have hq:=fun W (hB:Jz W w.heap.size 239 (kV .u32 (Nt.qs (U/d) 0 n)))=>a3f w.heap.size n n (Nt.qs (U/d) 0 n) W (Nt.qs_length _ _ _) (jC _) (by omega) hB.lt (Lm.of_blk hB) (Nt.qs_lt _ _ _)
   have hqv:Nt.lw (Nt.qs (U/d) 0 n)=U/d:=by
    rw[Nt.qs_all,Nt.lw_wds];exact jQ (Nat.lt_of_le_of_lt (Nat.div_le_self _ _) HU.out)
   rw[hqv] at hq;have hr:=fun W G (hB:Jz W G 239 (kV .u32 [U%d]))=>a3f G 1 1 [U%d] W rfl (jC _) (by omega) hB.lt (Lm.of_blk hB) (by intro x hx;simp at hx;omega)
   have hrv:Nt.lw [U%d]=U%d:=by simp[Nt.lw]
   rw[hrv] at hr;have HQ:=zh hq;have HR:=zh hr;obtain⟨m,hm'⟩:∃ m,m=U%d:=⟨_,rfl⟩;rw[<-hm'] at HR hmm |-
   have HM:=zh hm';clear hq hr hm hqv hrv hm'
   go_wp2_with (first
    | (go_at_call_of 264 (w.heap.size);refine(HQ.out _ (by assumption)).mono ?_;rintro e w1 ⟨⟨v1,rfl,hl1⟩,rfl⟩)
    | (go_at_call 264;refine(HR.out _ wr.heap.size (Jz.new wr _ _)).mono ?_;rintro e w2 ⟨⟨v2,rfl,hl2⟩,rfl⟩))
   go_ret2
   exact⟨⟨v1,v2,rfl,hl1.below ((Below.refl _ _).alloc (jC _) _) (jC _),by rw[<-HM.out];exact hl2⟩,hW.alloc hW.size _⟩
  ·
   rw[show ((i+1:Nat):Int)-1=(i:Int) from by omega];have hr:=Nt.limb_round U i d hd0;have hlt:=Nat.mod_lt (U/4294967296^(i+1)) hd0;have hil:i<(Nt.wds U n).length:=by rw[Nt.wds_length];omega
   have c1:wr.cell? ⟨g,i,none⟩=some (.int .u32 ((Nt.wd U i:Nat):Int)):=(hW.cell (p:=⟨g,i,none⟩) hg).trans (by have:=HC.out i hil;rwa [Nt.wds_get] at this);have hil2:i<(Nt.qs (U/d) (i+1) n).length:=by rw[Nt.qs_length];omega
   have c2:wr.cell? ⟨w.heap.size,i,none⟩=some (.int .u32 (((Nt.qs (U/d) (i+1) n)[i]'hil2:Nat):Int)):=(hB.cell _).trans (a0r _ _ _ hil2);have f2:wr.frozen? ⟨w.heap.size,i,none⟩=false:=hB.frozen _;have hwd:=Nt.wd_lt U i;have hqw:=Nt.wd_lt (U/d) i;obtain⟨x,hx⟩:=nM (Nt.wd U i);obtain⟨y,hy⟩:=nM (U/4294967296^(i+1)%d);rw[<-hx] at hr c1 hwd;rw[<-hy] at hr hlt |-
   have ho:=a7n y x (by omega) hwd;obtain⟨t,ht⟩:=nM (y*4294967296+x);rw[<-ht] at hr ho;have htb:t<18446744073709551616:=by rw[ht];omega
   have HR:=zh hr;have HO:=zh ho;have hdq:(t:Int)/(d:Int)=((t/d:Nat):Int):=by simp
   have hqt:t/d<4294967296:=by rw[hr.1];exact hqw
   have hmt:t%d<d:=Nat.mod_lt _ hd0;clear hr ho hx hy ht hqw
   go_wp2
   rw[HO.out]
   have e1:(t:Int).tmod (d:Int)=((U/4294967296^i%d:Nat):Int):=by
    rw[<-HR.out.2.1,Int.tmod_eq_emod_of_nonneg (by omega)];simp
   have e2:IntKind.u64.wrap ((t:Int).tdiv (d:Int))%4294967296=((Nt.wd (U/d) i:Nat):Int):=by
    rw[<-HR.out.1,Int.tdiv_eq_ediv_of_nonneg (by omega),hdq];generalize t/d=z at *;rw[c4x (by omega) (by omega)];omega
   rw[e1,e2];refine⟨⟨i,by omega,by go_num,rfl,?_,hW.setCell (p:=⟨w.heap.size,i,none⟩) (jC _) _⟩,by simp[intOf]⟩;rw[<-Nt.qs_set,<-a2p];exact hB.put _ _
set_option maxHeartbeats 2000000
structure LimbsOk:Prop where
 of:∀ (a:jW) (w:World),a.size<=2000->Cz 245 #[Sg a] w fun e w'=>(∃ v,e=.returned v/\YZ w' v (Nt.V a))/\Bl w w'
 text:∀ (v:Value) (N:Nat) (w:World),YZ w v N->(Nt.E N).size<=2000->Ca 247 #[v] w (Sg (Nt.E N))
 divided:∀ (u v:Value) (U V:Nat) (w:World),YZ w u U->YZ w v V->0<V->(Nt.E U).size<=2000->(Nt.E V).size<=2000->Cz 246 #[u,v] w fun e w'=>(∃ q r,e=.returned (.tuple #[q,r])/\YZ w' q (U/V)/\YZ w' r (U%V))/\Bl w w'
theorem YZ.zero {w:World} {v:Value} (h:YZ w v 0):∃ A cap,v=.slice A 0 cap:=by
 rcases h with ⟨rfl,_⟩ | ⟨g,k,cap,rfl,h2,h3,h4,h5,h6⟩
 ·
  exact⟨_,_,rfl⟩
 ·
  rcases h6 with rfl | h6
  ·
   exact⟨_,_,rfl⟩
  ·
   have:0<4294967296^(k-1):=jO (by omega);omega
theorem YZ.pos {w:World} {v:Value} {N:Nat} (h:YZ w v N) (h0:0<N):∃ A k cap,0<k/\v=.slice A k cap:=by
 rcases h with ⟨rfl,_⟩ | ⟨g,k,cap,rfl,h2,h3,h4,h5,h6⟩
 ·
  omega
 ·
  refine⟨_,k,_,?_,rfl⟩
  rcases Nat.eq_zero_or_pos k with rfl | h
  ·
   rw[Nat.pow_zero] at h5;omega
  ·
   exact h
theorem c2i (H:LimbsOk):b6i:=by
 intro a b w ha hb;have hsa:=jG (Nt.E_size_V a) ha;have hsb:=jG (Nt.E_size_V b) hb;have HA:=zh (fun w=>H.of a w ha);have HB:=H.of b;have HT:=zh H.text;have HD:=zh H.divided;clear H;generalize Nt.V a=U at *;generalize Nt.V b=V at *;by_cases h0:V=0
 ·
  subst h0
  have HZ:=zh (fun w=>(HB w hb).mono (fun e w' (h:(∃ v,e=.returned v/\YZ w' v 0)/\Bl w w')=>(by
   obtain⟨⟨v,rfl,hl⟩,hb⟩:=h;obtain⟨A,cap,rfl⟩:=hl.zero
   exact⟨⟨A,cap,rfl⟩,hb⟩:(∃ A cap,e=.returned (.slice A 0 cap))/\Bl w w')))
  have hr:Hid (a2y U 0=.tuple #[S0,S0,I6 5]):=by rw[Hid,a2y,if_pos rfl]
  clear HB;go_enter Tryz.func240,Tryz.ntmps240;go_wp2_with (go_at_call_of 245 b;refine(HZ.out _).mono ?_;rintro e w1 ⟨⟨A,cap,rfl⟩,hb1⟩)
  go_ret3
  exact⟨congrArg jV hr.out.symm,hb1⟩
 ·
  have hV:0<V:=by omega
  have HP:=zh (fun w=>(HB w hb).mono (fun e w' (h:(∃ v,e=.returned v/\YZ w' v V)/\Bl w w')=>(by
   obtain⟨⟨v,rfl,hl⟩,hb⟩:=h;obtain⟨A,k,cap,hk,rfl⟩:=hl.pos hV
   exact⟨⟨A,k,cap,hk,rfl,hl⟩,hb⟩:(∃ A k cap,0<k/\e=.returned (.slice A k cap)/\YZ w' (.slice A k cap) V)/\Bl w w')))
  have hr:Hid (a2y U V=.tuple #[Sg (Nt.E (U/V)),Sg (Nt.E (U%V)),I6 0]):=by rw[Hid,a2y,if_neg h0]
  have hq1:=jG (Nt.E_size_le (Nat.div_le_self U V)) hsa;have hm1:=jG (Nt.E_size_le (Nat.mod_le U V)) hsa;clear HB h0;go_enter Tryz.func240,Tryz.ntmps240
  go_wp2_with (first
   | (go_at_call_of 245 b;refine(HP.out _).mono ?_;rintro e w1 ⟨⟨A,k,cap,hk,rfl,hl1⟩,hb1⟩;have hk0:((k:Int)==0)=false:=by simp;omega)
   | (go_at_call_of 245 a;refine(HA.out _).mono ?_;rintro e w2 ⟨⟨u,rfl,hl2⟩,hb2⟩)
   | (go_at_call 246;refine(HD.out _ _ U V _ hl2 (hl1.below hb2 (jC _)) hV hsa hsb).mono ?_;rintro e w3 ⟨⟨q,r,rfl,hq,hr3⟩,hb3⟩)
   | (go_at_call_of 247 q;refine(HT.out q (U/V) _ hq hq1).mono ?_;rintro e w4 ⟨rfl,hb4⟩)
   | (go_at_call_of 247 r;refine(HT.out r (U%V) _ (hr3.below hb4 (jC _)) hm1).mono ?_;rintro e w5 ⟨rfl,hb5⟩))
  go_ret3
  have h2:=bT hb1 hb2;have h3:=bT h2 hb3;have h4:=bT h3 hb4;exact⟨congrArg jV hr.out.symm,bT h4 hb5⟩
theorem YZ.uniq {w:World} {v:Value} {N M:Nat} (h:YZ w v N) (h':YZ w v M):N=M:=by
 rcases h with ⟨rfl,rfl⟩ | ⟨g,k,cap,rfl,_,_,h4,h5,_⟩
 ·
  rcases h' with ⟨_,rfl⟩ | ⟨g,k,cap,e,_⟩
  ·
   rfl
  ·
   simp at e
 ·
  rcases h' with ⟨e,_⟩ | ⟨g',k',cap',e,_,_,h4',h5',_⟩
  ·
   simp at e
  ·
   simp only[Value.slice.injEq,Option.some.injEq,Addr.mk.injEq,and_true] at e;obtain⟨rfl,rfl,_⟩:=e
   have hw:Nt.wds N k=Nt.wds M k:=by
    apply List.ext_getElem (by simp[Nt.wds]);intro i h1 h2;have a1:=h4 i h1;have a2:=h4' i h2;rw[a1] at a2;simp only[Option.some.injEq,Value.int.injEq,true_and] at a2
    exact_mod_cast a2
   have e1:=Nt.lw_wds N k;have e2:=Nt.lw_wds M k;rw[hw,e2,jQ h5,jQ h5'] at e1;exact e1.symm
open Classical in
noncomputable def numOf (w:World) (v:Value):Nat:=if h:∃ N,YZ w v N then Classical.choose h else 0
theorem b0w {w:World} {v:Value} {N:Nat} (h:YZ w v N):numOf w v=N:=by
 have hx:∃ N,YZ w v N:=⟨N,h⟩;rw[numOf,dif_pos hx];exact(Classical.choose_spec hx).uniq h
theorem c8r (H:LimbsOk) (a b:jW) (w:World) (ha:a.size<=2000) (hb:b.size<=2000) :
  Ca 237 #[Sg a,Sg b] w (Sg (Nt.E (Nat.gcd (Nt.V a) (Nt.V b)))):=by
 have hsa:=jG (Nt.E_size_V a) ha;have hsb:=jG (Nt.E_size_V b) hb;have HA:=zh (fun w=>H.of a w ha);have HB:=zh (fun w=>H.of b w hb);have HT:=zh H.text;have HD:=zh H.divided;clear H;generalize Nt.V a=U at *;generalize Nt.V b=V at *;obtain⟨g,hg⟩:=nM (Nat.gcd U V);rw[<-hg];have HG:=zh hg;clear hg;go_enter Tryz.func237,Tryz.ntmps237
 go_wp2_with (first
  | (go_at_call_of 245 a;refine(HA.out _).mono ?_;rintro e w1 ⟨⟨u,rfl,hl1⟩,hb1⟩)
  | (go_at_call_of 245 b;refine(HB.out _).mono ?_;rintro e w2 ⟨⟨v,rfl,hl2⟩,hb2⟩))
 go_loopw [5,6] (fun x y wr=>∃ X Y:Nat,YZ wr x X/\YZ wr y Y/\Nat.gcd X Y=g/\(Nt.E X).size<=2000/\(Nt.E Y).size<=2000/\Bl w wr) (fun _ y wr=>numOf wr y)
 case atStart=>exact⟨U,V,hl1.below hb2 (jC _),hl2,HG.out.symm,hsa,hsb,bT hb1 hb2⟩
 case round =>
  obtain⟨X,Y,hx,hy,hgg,hxs,hys,hW⟩:=hrel;by_cases h0:Y=0
  ·
   subst h0;obtain⟨A,cap,e⟩:=hy.zero;subst e;have hf:Hid (g=X):=by rw[Hid,<-hgg,Nat.gcd_zero_right]
   clear hgg;go_wp2_with (go_at_call 247;refine(HT.out _ X _ hx hxs).mono ?_;rintro e w4 ⟨rfl,hb4⟩)
   go_ret
   exact⟨a1l (by rw[hf.out]),bT hW hb4⟩
  ·
   have hY:0<Y:=by omega
   have hm:Hid (numOf wr _=Y):=b0w hy;obtain⟨A,k,cap,hk,e⟩:=hy.pos hY;subst e;have hg2:Hid (Nat.gcd Y (X%Y)=g):=by rw[Hid,Nat.gcd_comm Y,<-Nat.gcd_rec,Nat.gcd_comm];exact hgg
   have hlt:=Nat.mod_lt X hY;have hms:=jG (Nt.E_size_le (Nat.mod_le X Y)) hxs;have hk0:(0:Int)<k:=by omega
   clear hgg h0;go_wp2_with (go_at_call 246;refine(HD.out _ _ X Y _ hx hy hY hxs hys).mono ?_;rintro e w3 ⟨⟨q,r,rfl,hq,hr3⟩,hb3⟩);refine⟨⟨Y,X%Y,hy.below hb3 (jC _),hr3,hg2.out,hys,hms,bT hW hb3⟩,?_⟩;rw[b0w hy,b0w hr3];exact hlt
theorem Nt.V_drop (s:jW) (i:Nat) (h:i<=s.size):Nt.V (s.extract i s.size)=Nt.V s%256^(s.size-i):=by
 have e:(s.extract i s.size).data.toList=s.data.toList.drop i:=by
  rw[ByteArray.data_extract,Array.toList_extract];have:s.data.toList.length=s.size:=rfl;simp only[List.extract];rw[jS (by rw[List.length_drop];omega)]
 have hl:(s.data.toList.drop i).length=s.size-i:=by rw[List.length_drop];rfl
 show Nt.val (s.extract i s.size).data.toList=Nt.val s.data.toList%256^(s.size-i);rw[e]
 conv=>rhs;rw[<-List.take_append_drop i s.data.toList]
 rw[Nt.val_append,hl,Nat.add_comm,Nat.add_mul_mod_self_right];have hlt:=Nt.val_lt (s.data.toList.drop i);rw[hl] at hlt;exact(jQ hlt).symm
theorem Nt.V_mid (s:jW) (i j:Nat) (h:i<=j) (hj:j<=s.size):Nt.V (s.extract i j)=Nt.V s/256^(s.size-j)%256^(j-i):=by
 have e:s.extract i j=(s.extract 0 j).extract i (s.extract 0 j).size:=by
  have j8:(s.extract 0 j).size=j:=by simp;omega
  rw[j8];apply ByteArray.ext;simp only[ByteArray.data_extract];apply Array.ext_getElem?;intro k;simp only[Array.getElem?_extract];simp
  split
  ·
   rw[if_pos (by omega)]
  ·
   rfl
 have j8:(s.extract 0 j).size=j:=by simp;omega
 rw[e,Nt.V_drop _ _ (by omega),Nt.V_take,j8]
theorem Nt.wds_snoc (N k:Nat):Nt.wds N (k+1)=Nt.wds N k ++ [Nt.wd N k]:=by simp[Nt.wds,List.range_succ]
theorem Nt.V_word (s:jW) (k:Nat) (hk:4*k<s.size):Nt.V (s.extract (s.size-4*(k+1)) (s.size-4*k))=Nt.wd (Nt.V s) k:=by
 rw[Nt.V_mid s _ _ (by omega) (by omega),show s.size-(s.size-4*k)=4*k from by omega];unfold Nt.wd;rw[Nt.pow32,<-Nt.pow4];by_cases h:4*(k+1)<=s.size
 ·
  rw[show s.size-4*k-(s.size-4*(k+1))=4 from by omega]
 ·
  have hlt:Nt.V s/256^(4*k)<256^(s.size-4*k):=by
   apply Nat.div_lt_of_lt_mul;rw[<-Nat.pow_add,show 4*k+(s.size-4*k)=s.size from by omega];exact Nt.V_lt s
  rw[show s.size-4*k-(s.size-4*(k+1))=s.size-4*k from by omega,jQ hlt,jQ (jF hlt (jP (by omega) (by omega)))]
theorem a5z {w w':World} {base:Nat} {e:TypeId} {size n:Nat} {v:Value} {xs:List Value} (h:w.ownsRow base e size v n xs) (hb:Bl w w'):w'.ownsRow base e size v n xs:=by
 refine⟨h.1,?_⟩
 rcases h.2 with h2 | ⟨g,cap,cur,h1,h2,h3,h4⟩
 ·
  exact Or.inl h2
 ·
  exact Or.inr ⟨g,cap,cur,h1,h2,(hb.block g (Array.getElem?_eq_some_iff.1 h3).1).trans h3,h4⟩
def c6x (l:List Nat):List Value:=l.map fun n:Nat=>Value.int .u32 (n:Int)
theorem c2j (l:List Nat) (n:Nat):c6x l ++ [.int .u32 (n:Int)]=c6x (l ++ [n]):=by simp[c6x]
theorem b5a (a:jW) (w:World) (ha:a.size<=2000) :
  Cz 245 #[Sg a] w fun e w'=>(∃ v,e=.returned v/\YZ w' v (Nt.V a))/\Bl w w':=by
 obtain⟨i0,hi,hz0,hz1,hz2⟩:=info_parts Tryz.infoU32;obtain⟨t,ht⟩:=nM (Nt.E (Nt.V a));have HT:=zh (fun w=>(ht ▸ a0v a w:Cw 235 #[Sg a] w (Sg t)));have hts:t.size<=2000:=by rw[ht];exact jG (Nt.E_size_V a) ha
 have hV:Hid (Nt.V t=Nt.V a):=by rw[ht,Hid,Nt.V_E]
 have HTE:=zh ht;obtain⟨c,hc⟩:=nM ((t.size+3)/4);have g1:((t.size:Int)+3)/4=(c:Int):=by omega
 have hc2:c<=1000:=by omega
 obtain⟨Z,hZ⟩:=nM (madeCells (Value.int .u32 0).cells (c*i0.size));have hZs:Z.size=c*1:=by rw[hZ,<-hz1];exact size_madeCells _ _
 have hmk:∀ W:World,(Instr.makeSlice 254 (I6 0) (I6 (c:Int))).run Tryz.prog W=.ok (.slice (some ⟨W.heap.size,0,none⟩) 0 c) (W.alloc (.cells Z 239)):=fun W=>by
  have h:=run_make (P:=Tryz.prog) W 254 239 i0 (.int .u32 0) Tryz.underlying254 hi hz0 .i64 .i64 0 c (by omega) (by omega) (by rw[hz2];omega) (by omega);simp only[Int.toNat_zero,Int.toNat_natCast] at h;rw[hZ];exact h
 have HZs:=zh hZs;clear ht hc hZ hZs;go_enter Tryz.func245,Tryz.ntmps245;go_wp2_with (go_at_call 235;refine(HT.out _).mono ?_;rintro e w1 ⟨rfl,rfl⟩);clear g1
 go_loopw [3,4] (fun v i wr=>∃ k:Nat,4*k<=t.size+3/\i=I6 ((t.size:Int)-4*(k:Int))/\wr.ownsRow w.heap.size 239 1 v k (c6x (Nt.wds (Nt.V t) k))/\Bl w wr) (fun _ i _=>(intOf i).toNat)
 case atStart=>exact⟨0,by omega,by go_num,World.ownsRow_made w Z c (jC _) (by unfold maxLen;omega) HZs.out,(Below.refl _ _).alloc (jC _) _⟩
 case round =>
  obtain⟨k,hk,rfl,hO,hW⟩:=hrel;by_cases hlt:4*k<t.size
  ·
   have hmax:max (0:Int) ((t.size:Int)-4*(k:Int)-4)=((t.size-4*(k+1):Nat):Int):=by omega
   have hsm:=fun W=>b2y (t.extract (t.size-4*(k+1)) (t.size-4*k)) W
   rw[Nt.V_word t k hlt] at hsm;have hxb:=Nt.wd_lt (Nt.V t) k;obtain⟨x,hx⟩:=nM (Nt.wd (Nt.V t) k);rw[<-hx] at hsm hxb;rw[show Nt.sm x=x from by rw[Nt.sm,if_pos (by omega)],show Nt.smB x=true from by rw[Nt.smB];simp;omega] at hsm;have HSM:=zh hsm;have HX:=zh hx;have hxm:(x:Int)%4294967296=(x:Int):=by omega
   have hk1:k+1<=maxLen:=by unfold maxLen;omega
   have hk2:(k+1)*4<=140737488355328:=by omega
   clear hsm hx
   go_wp2_with (first
    | (go_at_call 257;refine(HSM.out _).mono ?_;rintro e w2 ⟨rfl,hb2⟩)
    | (at_builtin;refine wpList_append_own _ rfl _ _ 254 rfl w.heap.size 239 i0 (.int .u32 0) 1 4 Tryz.underlying254 hi hz0 hz1 hz2 rfl (by decide) _ _ _ rfl ((a5z hO hb2).alloc _) ⟨w2.heap.size,0,none⟩ 1 1 [.int .u32 (x:Int)] rfl rfl (cell_one_new _ _ _) (by simp[Value.oneCell']) hk1 hk2 (by have:=hW.size;have:=hb2.size;simp;omega) ?_;intro v1 w3 hown1 hgrow1 _))
   have h2:=bT hW hb2;refine⟨⟨k+1,by omega,congrArg _ (by omega),?_,(h2.alloc h2.size _).grown hgrow1 (by have:=h2.size;simp;omega) (fun j hj=>((a5z hO hb2).lt j hj).1)⟩,by simp[intOf];omega⟩;rw[Nt.wds_snoc,<-c2j,<-HX.out];exact hown1
  ·
   have hl:Hid (∀ wr v,wr.ownsRow w.heap.size 239 1 v k (c6x (Nt.wds (Nt.V t) k))->YZ wr v (Nt.V a)):=by
    intro wr v hO;rw[<-hV.out]
    have hlt2:Nt.V t<4294967296^k:=by
     rw[Nt.pow32];exact jF (Nt.V_lt t) (jP (by omega) (by omega))
    rcases hO.2 with ⟨rfl,rfl⟩ | ⟨g,cap,cur,rfl,_,hg,hkc,_⟩
    ·
     exact Or.inl ⟨rfl,by rw[Nat.pow_zero] at hlt2;omega⟩
    ·
     refine Or.inr ⟨g,k,cap,rfl,hkc,(Array.getElem?_eq_some_iff.1 hg).1,?_,hlt2,?_⟩
     ·
      intro i hi';have hcell:=hO.cells (g:=g) rfl i (.int .u32 (((Nt.wds (Nt.V t) k)[i]'hi':Nat):Int)) (by unfold c6x;rw[List.getElem?_map,jH hi'];rfl);have hadd:(⟨g,0,none⟩:Addr).add i=⟨g,i,none⟩:=by unfold Addr.add;split<;>simp_all
      rwa [hadd] at hcell
     ·
      rcases Nat.eq_zero_or_pos k with h0 | h0
      ·
       exact Or.inl h0
      ·
       right
       have hne:Nt.V a≠0:=fun h=>by
        have:t.size=0:=by rw[HTE.out,h];rfl
        omega
       have h4:=Nt.enc_ge hne;have h5:(Nt.enc (Nt.V a)).length=t.size:=by rw[HTE.out];rfl
       rw[h5] at h4;rw[Nt.pow32,hV.out];exact jG (jP (by omega) (by omega)) h4
   go_wp2
   go_ret
   exact⟨⟨_,rfl,hl.out _ _ hO⟩,hW⟩
theorem Nt.dig_high (n m q:Nat):Nt.dig n (m+q)=Nt.dig (n/256^q) m:=by
 unfold Nt.dig;rw[Nat.add_comm m q,Nat.pow_add,jR]
theorem Nt.digs_four (n m:Nat):Nt.digs n (m+4)=Nt.digs (n/4294967296) m ++ [Nt.dig n 3,Nt.dig n 2,Nt.dig n 1,Nt.dig n 0]:=by
 induction m with
 | zero=>rfl
 | succ m ih =>
  have e:Nt.digs n (m+1+4)=Nt.dig n (m+4) :: Nt.digs n (m+4):=rfl;have e2:Nt.digs (n/4294967296) (m+1)=Nt.dig (n/4294967296) m :: Nt.digs (n/4294967296) m:=rfl;rw[e,e2,ih,Nt.dig_high n m 4,Nt.pow4];rfl
def w8s (l:List Nat):List Value:=l.map fun n:Nat=>Value.int .u8 (n:Int)
theorem b8f (l k:List Nat):w8s l++w8s k=w8s (l++k):=by simp[w8s]
theorem b0x (w:World) (a b c d:Value) (e:TypeId):∀ j u,[a,b,c,d][j]?=some u->(w.alloc (.cells #[a,b,c,d] e)).cell? ((⟨w.heap.size,0,none⟩:Addr).add j)=some u:=by
 intro j u h;have hadd:(⟨w.heap.size,0,none⟩:Addr).add j=⟨w.heap.size,j,none⟩:=by unfold Addr.add;split<;>simp_all
 rw[hadd,(Jz.new w e #[a,b,c,d]).cell j];simpa using h
theorem b3h {P:Program} (src dst e:TypeId) (hs:P.underlying src=some (.slice e)) (he:P.underlying e=some (.int .u8)) (hd:P.underlying dst=some .string)
  (base n:Nat) (v:Value) (l:List Nat) (w:World) (h:w.ownsRow base e 1 v n (w8s l)) :
  (convert src dst v).run P w=.ok (Sg ⟨(l.map UInt8.ofNat).toArray⟩) w:=by
 have hl:l.length=n:=by have:=h.1;simpa [w8s] using this
 rcases h.2 with ⟨rfl,rfl⟩ | ⟨g,cap,cur,rfl,_,hg,_⟩
 ·
  obtain rfl:l=[]:=jT hl;exact run_convert_bytes_nil (P:=P) w src e hs he 0 0 dst hd
 ·
  have hx:=run_convert_bytes_arg (P:=P) w src e hs he g 0 n cap (l.map fun m:Nat=>(m:Int)) (by simpa using hl) (fun i hi=>by
   have hi':i<l.length:=by omega
   have hcell:=h.cells (g:=g) rfl i (.int .u8 ((l[i]'hi':Nat):Int)) (by unfold w8s;rw[List.getElem?_map,jH hi'];rfl);have hadd:(⟨g,0,none⟩:Addr).add i=⟨g,i,none⟩:=by unfold Addr.add;split<;>simp_all
   rw[hadd] at hcell;rw[Nat.zero_add,hcell]
   simp[List.getD,jH hi']) dst hd
  rw[hx]
  have e2:strOfNums (l.map fun m:Nat=>(m:Int))=⟨(l.map UInt8.ofNat).toArray⟩:=by
   have:=strOfNums_data (l.map fun m:Nat=>(m:Int))
   have e3:∀ (a b:jW),a.data.toList=b.data.toList->a=b:=fun a b hab=>by
    obtain⟨⟨x⟩⟩:=a;obtain⟨⟨y⟩⟩:=b;simpa using hab
   apply e3;rw[this];simp
  rw[e2]
theorem a8y (g k cap N:Nat) (w:World) (hk:k<=1000) (hg:g<w.heap.size) (hc:Lm w g (Nt.wds N k)) (hN:N<4294967296^k) :
  Ca 247 #[.slice (some ⟨g,0,none⟩) k cap] w (Sg (Nt.E N)):=by
 obtain⟨i0,hi,hz0,hz1,hz2⟩:=info_parts Tryz.infoU8;obtain⟨c,hcc⟩:=nM (4*k);have g1:4*(k:Int)=(c:Int):=by omega
 obtain⟨Z,hZ⟩:=nM (madeCells (Value.int .u8 0).cells (c*i0.size));have hZs:Z.size=c*1:=by rw[hZ,<-hz1];exact size_madeCells _ _
 have hmk:∀ W:World,(Instr.makeSlice 130 (I6 0) (I6 (c:Int))).run Tryz.prog W=.ok (.slice (some ⟨W.heap.size,0,none⟩) 0 c) (W.alloc (.cells Z 5)):=fun W=>by
  have h:=run_make (P:=Tryz.prog) W 130 5 i0 (.int .u8 0) Tryz.underlying130 hi hz0 .i64 .i64 0 c (by omega) (by omega) (by rw[hz2];omega) (by omega);simp only[Int.toNat_zero,Int.toNat_natCast] at h;rw[hZ];exact h
 have HZs:=zh hZs;have HC:=zh hc;have HN:=zh hN;have hc4:c<=4000:=by omega
 clear hZ hZs hcc hc hN;go_enter Tryz.func247,Tryz.ntmps247
 go_wp2
 clear g1
 go_loopw [3,4] (fun v i wr=>∃ j:Nat,j<=k/\i=I6 ((j:Int)-1)/\wr.ownsRow w.heap.size 5 1 v (4*(k-j)) (w8s (Nt.digs (N/4294967296^j) (4*(k-j))))/\Bl w wr) (fun _ i _=>(intOf i+1).toNat)
 case atStart=>exact⟨k,by omega,by go_num,by rw[Nat.sub_self];exact World.ownsRow_made w Z c (jC _) (by unfold maxLen;omega) HZs.out,(Below.refl _ _).alloc (jC _) _⟩
 case round =>
  obtain⟨j,hj,rfl,hO,hW⟩:=hrel
  rcases j with _ | i
  ·
   have hT:=b3h (P:=Tryz.prog) 130 9 5 Tryz.underlying130 Tryz.underlying5 Tryz.underlying9 _ _ _ _ wr hO
   have hv:Hid (Nt.V ⟨((Nt.digs N (4*k)).map UInt8.ofNat).toArray⟩=N):=by
    exact Nt.V_digs_lt (by have:=HN.out;rwa [Nt.pow32] at this)
   have e0:((0:Nat):Int)-1=-1:=rfl;rw[e0];clear hO;go_wp2_with (go_at_call 235;refine(a0v _ _).mono ?_;rintro e w1 ⟨rfl,rfl⟩)
   go_ret
   exact⟨a1l (by rw[hv.out]),hW⟩
  ·
   rw[show ((i+1:Nat):Int)-1=(i:Int) from by omega];have hil:i<(Nt.wds N k).length:=by rw[Nt.wds_length];omega
   have c1:wr.cell? ⟨g,i,none⟩=some (.int .u32 ((Nt.wd N i:Nat):Int)):=(hW.cell (p:=⟨g,i,none⟩) hg).trans (by have:=HC.out i hil;rwa [Nt.wds_get] at this);have hwd:=Nt.wd_lt N i;obtain⟨x,hx⟩:=nM (Nt.wd N i);rw[<-hx] at c1 hwd;have HX:=zh hx;clear hx;obtain⟨m,hm⟩:∃ m,4*(k-(i+1))=m:=⟨_,rfl⟩;have hm4:4*(k-i)=m+4:=by omega
   rw[hm] at hO;have HM:=zh hm4;have hk1:m+4<=maxLen:=by unfold maxLen;omega
   have hk2:(m+4)*1<=140737488355328:=by omega
   clear hm hm4;go_wp2_with (at_builtin;refine wpList_append_own _ rfl _ _ 130 rfl w.heap.size 5 i0 (.int .u8 0) 1 1 Tryz.underlying130 hi hz0 hz1 hz2 rfl (by decide) _ _ _ rfl (hO.alloc _) ⟨wr.heap.size,0,none⟩ 4 4 [.int .u8 ((x:Int)/16777216),.int .u8 ((x:Int)/65536%256),.int .u8 ((x:Int)/256%256),.int .u8 ((x:Int)%256)] rfl rfl (b0x _ _ _ _ _ _) (by simp[Value.oneCell']) hk1 hk2 (by have:=hW.size;simp;omega) ?_;intro v1 w3 hown1 hgrow1 _);refine⟨⟨i,by omega,by go_num,?_,(hW.alloc hW.size _).grown hgrow1 (by have:=hW.size;simp;omega) (fun j hj=>(hO.lt j hj).1)⟩,by simp[intOf]⟩;have e1:N/4294967296^i/4294967296=N/4294967296^(i+1):=by rw[jN,jR]
   rw[HM.out,Nt.digs_four,e1,<-b8f]
   have e2 : [Value.int .u8 ((x:Int)/16777216),.int .u8 ((x:Int)/65536%256),.int .u8 ((x:Int)/256%256),.int .u8 ((x:Int)%256)]=w8s [Nt.dig (N/4294967296^i) 3,Nt.dig (N/4294967296^i) 2,Nt.dig (N/4294967296^i) 1,Nt.dig (N/4294967296^i) 0]:=by
    rw[HX.out];unfold Nt.wd Nt.dig;generalize N/4294967296^i=y;simp only[w8s,List.map_cons,List.map_nil,List.cons.injEq,Value.int.injEq,true_and,and_true];refine⟨?_,?_,?_,?_⟩<;>simp<;>omega
   rw[<-e2];exact hown1
theorem b0y (w:World) :
  Ca 247 #[.slice none 0 0] w (Sg (Nt.E 0)):=by
 have hmk:∀ W:World,(Instr.makeSlice 130 (I6 0) (I6 0)).run Tryz.prog W=.ok (.slice (some ⟨W.heap.size,0,none⟩) 0 0) (W.alloc (.cells (kV .u8 []) 5)) :=
  fun W=>a1n (P:=Tryz.prog) 130 5 .u8 1 Tryz.underlying130 Tryz.infoU8 0 (by omega) (by omega) W
 have hT:=a4x (P:=Tryz.prog) 130 9 5 Tryz.underlying130 Tryz.underlying5 Tryz.underlying9 w.heap.size 0 0 [] rfl (w.alloc (.cells (kV .u8 []) 5)) (Jz.new _ _ _);go_enter Tryz.func247,Tryz.ntmps247
 go_wp2
 go_loop [3,4] (fun v i=>v=.slice (some ⟨w.heap.size,0,none⟩) 0 0/\i=I6 (-1)) (fun _ _=>0)
 case atStart=>exact⟨rfl,rfl⟩
 case round =>
  obtain⟨rfl,rfl⟩:=hrel;go_wp2_with (go_at_call 235;refine(a0v _ _).mono ?_;rintro e w' ⟨rfl,rfl⟩)
  go_ret
  exact⟨rfl,(Below.refl _ _).alloc (jC _) _⟩
theorem b0z (v:Value) (N:Nat) (w:World) (h:YZ w v N) (hs:(Nt.E N).size<=2000) :
  Ca 247 #[v] w (Sg (Nt.E N)):=by
 rcases h with ⟨rfl,rfl⟩ | ⟨g,k,cap,rfl,h2,h3,h4,h5,h6⟩
 ·
  exact b0y w
 ·
  refine a8y g k cap N w ?_ h3 h4 h5
  rcases h6 with rfl | h6
  ·
   omega
  ·
   have h7:=Nt.V_lt (Nt.E N);rw[Nt.V_E] at h7;rw[Nt.pow32] at h6;have h8:=(Nat.pow_lt_pow_iff_right (by omega:1<256)).1 (Nat.lt_of_le_of_lt h6 h7);omega
def fnL (f:Nat->Nat) (m:Nat):List Nat:=(List.range m).map f
theorem a4z (f:Nat->Nat) (m:Nat):(fnL f m).length=m:=by simp[fnL]
theorem a6q (f:Nat->Nat) (m i:Nat) (h:i<(fnL f m).length):(fnL f m)[i]=f i:=by simp[fnL]
theorem b1a {f g:Nat->Nat} {m:Nat} (h:∀ k,k<m->f k=g k):fnL f m=fnL g m:=by
 apply List.ext_getElem (by simp[fnL]);intro i h1 h2;rw[a4z] at h1;rw[a6q,a6q,h i h1]
theorem c6u {f g:Nat->Nat} {m i v:Nat} (hi:g i=v) (h:∀ k,k<m->k≠i->f k=g k):(fnL f m).set i v=fnL g m:=by
 apply List.ext_getElem (by simp[fnL]);intro k h1 h2;rw[List.length_set,a4z] at h1;rw[List.getElem_set,a6q,a6q];by_cases e:i=k
 ·
  subst e;rw[if_pos rfl,hi]
 ·
  rw[if_neg e,h k h1 (fun e'=>e e'.symm)]
theorem Nt.wds_fn (N m:Nat):Nt.wds N m=fnL (Nt.wd N) m:=rfl
def Nt.mixf (L p i Z k:Nat):Nat:=if p<=k/\k<p+i then Nt.wd Z (k-p) else Nt.wd L k
theorem Nt.mix_zero (L p Z m:Nat):fnL (Nt.mixf L p 0 Z) m=Nt.wds L m:=by
 rw[Nt.wds_fn];exact b1a fun k _=>by unfold Nt.mixf;rw[if_neg (by omega)]
theorem Nt.mix_next (L p i Z:Nat):Nt.mixf L p i Z (p+i)=Nt.wd L (p+i):=by unfold Nt.mixf;rw[if_neg (by omega)]
theorem Nt.mix_set (L p i Z m:Nat):(fnL (Nt.mixf L p i Z) m).set (p+i) (Nt.wd Z i)=fnL (Nt.mixf L p (i+1) Z) m:=by
 apply c6u
 ·
  unfold Nt.mixf;rw[if_pos (by omega),Nat.add_sub_cancel_left]
 ·
  intro k _ hk;unfold Nt.mixf;by_cases h:p<=k/\k<p+i
  ·
   rw[if_pos h,if_pos (by omega)]
  ·
   rw[if_neg h,if_neg (by omega)]
theorem Nt.wd_low (n p i:Nat) (h:i<p):Nt.wd (n%4294967296^p) i=Nt.wd n i:=by
 obtain⟨t,rfl⟩:∃ t,p=i+1+t:=⟨p-(i+1),by omega⟩;unfold Nt.wd;rw[Nat.pow_add,Nat.mod_mul,jN];have hi:0<4294967296^i:=jO (by omega);rw[jL,Nat.add_mul_div_left _ _ hi,Nat.mod_mul,Nat.add_mul_div_left _ _ hi,Nat.div_eq_of_lt (Nat.mod_lt _ hi)];omega
theorem Nt.wd_high (n p i:Nat):Nt.wd (n/4294967296^p) i=Nt.wd n (p+i):=by
 unfold Nt.wd;rw[Nat.pow_add,jR]
theorem Nt.wd_zero {n i:Nat} (h:n<4294967296^i):Nt.wd n i=0:=by simp[Nt.wd,Nat.div_eq_of_lt h]
theorem Nt.wd_zero_le {n i m:Nat} (h:n<4294967296^m) (hm:m<=i):Nt.wd n i=0:=Nt.wd_zero (jF h (jP (by omega) hm))
theorem Nt.mix_end (L p n Z m:Nat) (hL:L<4294967296^(p+n)) (hZ:Z<4294967296^n):fnL (Nt.mixf L p n Z) m=Nt.wds (L%4294967296^p+Z*4294967296^p) m:=by
 rw[Nt.wds_fn];refine b1a fun k _=>?_
 have hp:0<4294967296^p:=jO (by omega);have hlo:=Nat.mod_lt L hp;unfold Nt.mixf;by_cases h:k<p
 ·
  rw[if_neg (by omega),<-Nt.wd_low _ p k h,<-Nt.wd_low (L%4294967296^p+Z*4294967296^p) p k h,Nat.add_mul_mod_self_right,Nat.mod_mod]
 ·
  obtain⟨j,rfl⟩:∃ j,k=p+j:=⟨k-p,by omega⟩
  have e:Nt.wd (L%4294967296^p+Z*4294967296^p) (p+j)=Nt.wd Z j:=by
   rw[<-Nt.wd_high,Nat.add_mul_div_right _ _ hp,Nat.div_eq_of_lt hlo,Nat.zero_add]
  rw[e,Nat.add_sub_cancel_left];by_cases h2:j<n
  ·
   rw[if_pos (by omega)]
  ·
   rw[if_neg (by omega),Nt.wd_zero_le hL (by omega),Nt.wd_zero_le hZ (by omega)]
theorem Nt.wmod_succ (n k:Nat):n%4294967296^(k+1)=n%4294967296^k+4294967296^k*Nt.wd n k:=by
 rw[jN,Nat.mod_mul,Nt.wd]
def Nt.wcy (a b k:Nat):Nat:=(a%4294967296^k+b%4294967296^k)/4294967296^k
theorem Nt.wcy_zero (a b:Nat):Nt.wcy a b 0=0:=by simp[Nt.wcy,Nat.mod_one]
theorem Nt.wcy_step (a b k:Nat):Nt.wd a k+Nt.wd b k+Nt.wcy a b k=Nt.wd (a+b) k+4294967296*Nt.wcy a b (k+1):=by
 have hp:0<4294967296^k:=jO (by omega);have ha:=Nt.wmod_succ a k;have hb:=Nt.wmod_succ b k;have hA:=Nt.wd_lt a k;have hB:=Nt.wd_lt b k;unfold Nt.wcy
 have e1:(a%4294967296^(k+1)+b%4294967296^(k+1))/4294967296^(k+1)=((a%4294967296^k+b%4294967296^k)/4294967296^k+(Nt.wd a k+Nt.wd b k))/4294967296:=by
  rw[ha,hb,jN,<-jR];rw[show a%4294967296^k+4294967296^k*Nt.wd a k+(b%4294967296^k+4294967296^k*Nt.wd b k)=a%4294967296^k+b%4294967296^k+4294967296^k*(Nt.wd a k+Nt.wd b k) from by rw[Nat.mul_add];omega];rw[Nat.add_mul_div_left _ _ hp]
 have e2:Nt.wd (a+b) k=((a%4294967296^k+b%4294967296^k)/4294967296^k+(Nt.wd a k+Nt.wd b k))%4294967296:=by
  unfold Nt.wd;have h1:a=a%4294967296^k+4294967296^k*(a/4294967296^k):=(Nat.mod_add_div a (4294967296^k)).symm;have h2:b=b%4294967296^k+4294967296^k*(b/4294967296^k):=(Nat.mod_add_div b (4294967296^k)).symm
  have h3:(a+b)/4294967296^k=(a%4294967296^k+b%4294967296^k)/4294967296^k+(a/4294967296^k+b/4294967296^k):=by
   conv=>lhs;rw[h1,h2]
   rw[show a%4294967296^k+4294967296^k*(a/4294967296^k)+(b%4294967296^k+4294967296^k*(b/4294967296^k))=a%4294967296^k+b%4294967296^k+4294967296^k*(a/4294967296^k+b/4294967296^k) from by rw[Nat.mul_add];omega];rw[Nat.add_mul_div_left _ _ hp]
  rw[h3];omega
 rw[e1,e2];omega
theorem Nt.wcy_le (a b k:Nat):Nt.wcy a b k<=1:=by
 have hp:0<4294967296^k:=jO (by omega);have h1:=Nat.mod_lt a hp;have h2:=Nat.mod_lt b hp;unfold Nt.wcy
 have:(a%4294967296^k+b%4294967296^k)/4294967296^k<2:=by
  rw[Nat.div_lt_iff_lt_mul hp];omega
 omega
def Nt.wbw (a b k:Nat):Nat:=if a%4294967296^k<b%4294967296^k then 1 else 0
theorem Nt.wbw_zero (a b:Nat):Nt.wbw a b 0=0:=by simp[Nt.wbw,Nat.mod_one]
theorem Nt.wbw_le (a b k:Nat):Nt.wbw a b k<=1:=by unfold Nt.wbw;split<;>omega
theorem Nt.wbw_step {a b:Nat} (h:b<=a) (k:Nat):Nt.wd a k+4294967296*Nt.wbw a b (k+1)=Nt.wd (a-b) k+Nt.wd b k+Nt.wbw a b k:=by
 obtain⟨c,rfl⟩:∃ c,a=b+c:=⟨a-b,by omega⟩;rw[Nat.add_sub_cancel_left];have hs:=Nt.wcy_step b c k
 have hk:∀ j,Nt.wbw (b+c) b j=Nt.wcy b c j:=fun j=>by
  have hp:0<4294967296^j:=jO (by omega);have h1:=Nat.mod_lt b hp;have h2:=Nat.mod_lt c hp;unfold Nt.wbw Nt.wcy;rw[Nat.add_mod];by_cases hlt:b%4294967296^j+c%4294967296^j<4294967296^j
  ·
   rw[jQ hlt,if_neg (by omega),Nat.div_eq_of_lt hlt]
  ·
   have e:(b%4294967296^j+c%4294967296^j)%4294967296^j=b%4294967296^j+c%4294967296^j-4294967296^j:=by
    rw[Nat.mod_eq_sub_mod (by omega),jQ (by omega)]
   have e2:(b%4294967296^j+c%4294967296^j)/4294967296^j=1:=by
    rw[Nat.div_eq_iff hp];omega
   rw[e,e2,if_pos (by omega)]
 rw[hk,hk];have:=Nt.wd_lt c k;omega
def Nt.zof (P X n:Nat):Nat:=P+4294967296^n-X
theorem Nt.zof_step (P X n k:Nat) (hk:k<n) (hX:X<=4294967296^n):Nt.wd P k+4294967296*Nt.wbw P X (k+1)=Nt.wd (Nt.zof P X n) k+Nt.wd X k+Nt.wbw P X k:=by
 have h:=Nt.wbw_step (a:=P+4294967296^n) (b:=X) (by omega) k
 have e:∀ j,j<=n->(P+4294967296^n)%4294967296^j=P%4294967296^j:=fun j hj=>by
  obtain⟨t,rfl⟩:∃ t,n=j+t:=⟨n-j,by omega⟩;rw[Nat.pow_add,Nat.add_mul_mod_self_left]
 have e1:Nt.wd (P+4294967296^n) k=Nt.wd P k:=by rw[<-Nt.wd_low _ (k+1) k (by omega),e (k+1) (by omega),Nt.wd_low _ (k+1) k (by omega)]
 have e2:∀ j,j<=n->Nt.wbw (P+4294967296^n) X j=Nt.wbw P X j:=fun j hj=>by unfold Nt.wbw;rw[e j hj]
 rw[e1,e2 k (by omega),e2 (k+1) (by omega)] at h;exact h
theorem Nt.wbw_all (P X n:Nat) (hP:P<4294967296^n) (hX:X<4294967296^n):Nt.wbw P X n=if P<X then 1 else 0:=by
 unfold Nt.wbw;rw[jQ hP,jQ hX]
def Nt.tcy (t V i:Nat):Nat:=t*(V%4294967296^i)/4294967296^i
theorem Nt.tcy_zero (t V:Nat):Nt.tcy t V 0=0:=by simp[Nt.tcy,Nat.mod_one]
theorem Nt.tcy_lt (t V i:Nat) (ht:t<4294967296):Nt.tcy t V i<4294967296:=by
 have hp:0<4294967296^i:=jO (by omega);unfold Nt.tcy;rw[Nat.div_lt_iff_lt_mul hp];exact Nat.lt_of_le_of_lt (Nat.mul_le_mul_left t (Nat.le_of_lt (Nat.mod_lt V hp))) (Nat.mul_lt_mul_of_pos_right ht hp)
theorem Nt.tcy_step (t V i:Nat):(Nt.tcy t V i+Nt.wd V i*t)%4294967296=Nt.wd (t*V) i/\(Nt.tcy t V i+Nt.wd V i*t)/4294967296=Nt.tcy t V (i+1):=by
 have hp:0<4294967296^i:=jO (by omega)
 have e:t*(V%4294967296^(i+1))/4294967296^i=Nt.tcy t V i+Nt.wd V i*t:=by
  rw[Nt.wmod_succ,Nat.mul_add,<-jL,jK t (4294967296^i),jL,Nat.add_mul_div_left _ _ hp,jK t (Nt.wd V i)];rfl
 constructor
 ·
  rw[<-e]
  have h2:t*V=t*(V%4294967296^(i+1))+4294967296^i*(4294967296*(t*(V/4294967296^(i+1)))):=by
   conv=>lhs;rw[<-Nat.mod_add_div V (4294967296^(i+1))]
   rw[Nat.mul_add,jN]
   congr 1
   rw[<-jL,jK t,jL,jL]
  have h3:t*V/4294967296^i=t*(V%4294967296^(i+1))/4294967296^i+4294967296*(t*(V/4294967296^(i+1))):=by
   conv=>lhs;rw[h2]
   rw[Nat.add_mul_div_left _ _ hp]
  unfold Nt.wd;rw[h3];omega
 ·
  rw[<-e,Nt.tcy,jN,<-jR]
theorem Nt.tcy_sum (t V i:Nat) (ht:t<4294967296):Nt.tcy t V i+Nt.wd V i*t<18446744073709551616:=by
 have h1:=Nt.tcy_lt t V i ht;have h2:Nt.wd V i*t<=4294967295*4294967295:=Nat.mul_le_mul (by have:=Nt.wd_lt V i;omega) (by omega);omega
theorem Nt.guess_le {g F S A p P V n:Nat} (hV1:(F*4294967296+S)*4294967296^n<=V) (hP:(A*4294967296+p)*4294967296^n<=P)
  (hV2:V<(F*4294967296+S+1)*4294967296^n) (hF:0<F) (hg:g<4294967296) (h:g*(F*4294967296+S)<=A*4294967296+p):g<=P/V+1:=by
 have hB:0<4294967296^n:=jO (by omega);have hVp:0<V:=jF (Nat.mul_pos (by omega) hB) hV1
 rcases Nat.eq_zero_or_pos g with h0 | h0
 ·
  rw[h0];exact Nat.zero_le _
 ·
  have:g-1<=P/V:=by
   rw[Nat.le_div_iff_mul_le hVp];obtain⟨k,rfl⟩:∃ k,g=k+1:=⟨g-1,by omega⟩;rw[Nat.add_sub_cancel];refine jG (Nat.mul_le_mul_left k (Nat.le_of_lt hV2)) (jG ?_ hP);rw[<-jL];refine Nat.mul_le_mul_right _ (jG ?_ h);rw[Nat.mul_add k,Nat.mul_one,Nat.add_mul,Nat.one_mul];omega
  exact(Nat.sub_le_iff_le_add).1 this
theorem Nt.guess_more {g F S A p P V n:Nat} (hV1:(F*4294967296+S)*4294967296^n<=V) (hP:P<(A*4294967296+p+1)*4294967296^n) (hF:0<F)
  (h:A*4294967296+p<g*(F*4294967296+S)):P/V<g:=by
 have hB:0<4294967296^n:=jO (by omega);have hVp:0<V:=jF (Nat.mul_pos (by omega) hB) hV1;rw[Nat.div_lt_iff_lt_mul hVp];refine jF hP (jG ?_ (Nat.mul_le_mul_left g hV1));rw[<-jL];exact Nat.mul_le_mul_right _ h
theorem Nt.guess_first {F S A p P V n:Nat} (hV1:(F*4294967296+S)*4294967296^n<=V) (hP:P<(A*4294967296+p+1)*4294967296^n) (hF:0<F) (hp:p<4294967296):P/V<=A/F:=by
 have h:=Nt.guess_more (g:=A/F+1) hV1 hP hF (by
  have h1:=Nat.mod_add_div A F;have h2:=Nat.mod_lt A hF
  have h3:(A/F+1)*(F*4294967296+S)=(F*(A/F)+F)*4294967296+(A/F+1)*S:=by
   rw[Nat.mul_add]
   congr 1
   rw[<-jL,Nat.add_mul,Nat.one_mul,jK F]
  rw[h3]
  omega)
 omega
theorem Nt.top2 (V n:Nat) (hV:V<4294967296^(n+2)):(Nt.wd V (n+1)*4294967296+Nt.wd V n)*4294967296^n<=V/\V<(Nt.wd V (n+1)*4294967296+Nt.wd V n+1)*4294967296^n:=by
 have hB:0<4294967296^n:=jO (by omega)
 have e:V/4294967296^n=Nt.wd V (n+1)*4294967296+Nt.wd V n:=by
  rw[Nt.wd_join V n,Nt.wd_join V (n+1),Nat.div_eq_of_lt hV,Nat.zero_mul,Nat.zero_add]
 rw[<-e];have h1:=Nat.mod_add_div V (4294967296^n);have h2:=Nat.mod_lt V hB;rw[jK (V/_),jK (V/_+1),Nat.mul_add];omega
theorem Nt.top3 (P n:Nat) (hP:P<4294967296^(n+3)):((Nt.wd P (n+2)*4294967296+Nt.wd P (n+1))*4294967296+Nt.wd P n)*4294967296^n<=P/\P<((Nt.wd P (n+2)*4294967296+Nt.wd P (n+1))*4294967296+Nt.wd P n+1)*4294967296^n:=by
 have hB:0<4294967296^n:=jO (by omega)
 have e:P/4294967296^n=(Nt.wd P (n+2)*4294967296+Nt.wd P (n+1))*4294967296+Nt.wd P n:=by
  rw[Nt.wd_join P n,Nt.wd_join P (n+1),Nt.wd_join P (n+2),Nat.div_eq_of_lt hP,Nat.zero_mul,Nat.zero_add]
 rw[<-e];have h1:=Nat.mod_add_div P (4294967296^n);have h2:=Nat.mod_lt P hB;rw[jK (P/_),jK (P/_+1),Nat.mul_add];omega
theorem Nt.up_round (U by' i:Nat) :
  (U%4294967296^(i+1))*2^by'=(U%4294967296^i)*2^by'+Nt.wd U i*2^by'*4294967296^i:=by
 rw[Nt.wmod_succ,Nat.add_mul]
 congr 1
 rw[jL,jK]
theorem Nt.bit_or (a b:Nat):(a ||| b)/2147483648=a/2147483648 ||| b/2147483648:=Nat.or_div_two_pow (n:=31)
theorem Nt.bit_and (a b:Nat):(a &&& b)/2147483648=a/2147483648 &&& b/2147483648:=Nat.and_div_two_pow (n:=31)
theorem Nt.bit_xor (a b:Nat):(a ^^^ b)/2147483648=a/2147483648 ^^^ b/2147483648:=Nat.xor_div_two_pow (n:=31)
theorem Nt.sub_borrow (x y b d:Nat) (hx:x<4294967296) (hy:y<4294967296) (hb:b<=1) (hd:d=(x+4294967296-y-b)%4294967296) :
  (((4294967295 ^^^ x) &&& y) ||| ((4294967295 ^^^ (x ^^^ y)) &&& d))/2147483648=if x<y+b then 1 else 0:=by
 rw[Nt.bit_or,Nt.bit_and,Nt.bit_and,Nt.bit_xor,Nt.bit_xor,Nt.bit_xor];have h1:x/2147483648=0\/x/2147483648=1:=by omega
 have h2:y/2147483648=0\/y/2147483648=1:=by omega
 have h3:d/2147483648=0\/d/2147483648=1:=by omega
 have e:(4294967295:Nat)/2147483648=1:=rfl
 rcases h1 with h1 | h1<;>rcases h2 with h2 | h2<;>rcases h3 with h3 | h3<;>rw[e,h1,h2,h3]<;>simp only[Nat.xor_zero,Nat.zero_xor,Nat.xor_self,Nat.and_zero,Nat.zero_and,Nat.and_self,Nat.or_zero,Nat.zero_or,Nat.or_self]<;>split<;>omega
def Nt.ups (U s i:Nat):Nat:=U%4294967296^i*2^s
theorem Nt.ups_zero (U s:Nat):Nt.ups U s 0=0:=by simp[Nt.ups,Nat.mod_one]
theorem Nt.two_split32 (s:Nat) (hs:s<32):2^s*2^(32-s)=4294967296:=by
 rw[<-Nat.pow_add,show s+(32-s)=32 from by omega]
theorem Nt.shift_mod (x s:Nat) (hs:s<32):x*2^s%4294967296=x%2^(32-s)*2^s:=by
 rw[<-Nt.two_split32 s hs,jK x,Nat.mul_mod_mul_left,jK]
theorem Nt.carry_div (c X:Nat) (h:c+X%4294967296<4294967296) (h5:X<4294967296*4294967296):(c+X)/4294967296%4294967296=X/4294967296:=by omega
theorem Nt.ups_set (U s i m:Nat) (hs:s<32) :
  ((Nt.wds (Nt.ups U s i) m).set i (Nt.wd (Nt.ups U s i) i ||| Nt.wd U i*2^s%4294967296)).set (i+1) (Nt.wd U i*2^s/4294967296)=Nt.wds (Nt.ups U s (i+1)) m:=by
 have hp:0<4294967296^i:=jO (by omega);have h2:0<2^s:=Nat.two_pow_pos s;have hlt:Nt.ups U s i<4294967296^i*2^s:=Nat.mul_lt_mul_of_pos_right (Nat.mod_lt U hp) h2;have hsp:=Nt.two_split32 s hs;have hs2:2^s<4294967296:=Nat.pow_lt_pow_right (m:=s) (n:=32) (by omega) hs;have hstep:Nt.ups U s (i+1)=Nt.ups U s i+Nt.wd U i*2^s*4294967296^i:=Nt.up_round U s i;have hxb:=Nt.wd_lt U i;have hc:Nt.ups U s i/4294967296^i<2^s:=by rw[Nat.div_lt_iff_lt_mul hp,jK];exact hlt
 have hdiv:Nt.ups U s (i+1)/4294967296^i=Nt.ups U s i/4294967296^i+Nt.wd U i*2^s:=by rw[hstep,Nat.add_mul_div_right _ _ hp]
 have hmod:=Nt.shift_mod (Nt.wd U i) s hs;have hml:=Nat.mod_lt (Nt.wd U i) (Nat.two_pow_pos (32-s))
 have hroom:Nt.ups U s i/4294967296^i+Nt.wd U i*2^s%4294967296<4294967296:=by
  rw[hmod];have h4:(Nt.wd U i%2^(32-s)+1)*2^s<=2^(32-s)*2^s:=Nat.mul_le_mul_right _ hml;rw[jK (2^(32-s)),hsp,Nat.add_mul,Nat.one_mul] at h4;omega
 have hsame:∀ k,k<i->Nt.wd (Nt.ups U s (i+1)) k=Nt.wd (Nt.ups U s i) k:=fun k hk=>by
  rw[<-Nt.wd_low _ i k hk,hstep,Nat.add_mul_mod_self_right,Nt.wd_low _ i k hk]
 have hat:Nt.wd (Nt.ups U s (i+1)) i=Nt.wd (Nt.ups U s i) i ||| Nt.wd U i*2^s%4294967296:=by
  have e1:Nt.wd (Nt.ups U s i) i=Nt.ups U s i/4294967296^i:=by unfold Nt.wd;exact jQ (by omega)
  have e2:Nt.wd (Nt.ups U s (i+1)) i=Nt.ups U s i/4294967296^i+Nt.wd U i*2^s%4294967296:=by
   show Nt.ups U s (i+1)/4294967296^i%4294967296=_;rw[hdiv];omega
  rw[e1,e2,hmod,Nat.or_comm,jK (Nt.wd U i%_),<-Nat.two_pow_add_eq_or_of_lt hc,Nat.add_comm]
 have hab:Nt.wd (Nt.ups U s (i+1)) (i+1)=Nt.wd U i*2^s/4294967296:=by
  show Nt.ups U s (i+1)/4294967296^(i+1)%4294967296=_;rw[jN,<-jR,hdiv];exact Nt.carry_div _ _ hroom (Nat.mul_lt_mul'' hxb hs2)
 have hbig:Nt.ups U s (i+1)<4294967296^(i+2):=by
  have h6:Nt.ups U s (i+1)<4294967296^(i+1)*2^s:=Nat.mul_lt_mul_of_pos_right (Nat.mod_lt U (jO (by omega))) h2;exact Nat.lt_trans h6 (Nat.mul_lt_mul_of_pos_left hs2 (jO (by omega)))
 have hsml:Nt.ups U s i<4294967296^(i+1):=Nat.lt_trans hlt (Nat.mul_lt_mul_of_pos_left hs2 hp)
 have h0:∀ k,i+1<k->Nt.wd (Nt.ups U s (i+1)) k=Nt.wd (Nt.ups U s i) k:=fun k hk=>by
  rw[Nt.wd_zero_le hbig (by omega),Nt.wd_zero_le hsml (by omega)]
 apply List.ext_getElem (by simp[Nt.wds]);intro k h7 h8;rw[List.getElem_set,Nt.wds_get];by_cases h9:i+1=k
 ·
  subst h9;rw[if_pos rfl,hab]
 ·
  rw[if_neg h9,List.getElem_set];by_cases h10:i=k
  ·
   subst h10;rw[if_pos rfl,hat]
  ·
   rw[if_neg h10,Nt.wds_get]
   rcases Nat.lt_or_ge k i with h | h
   ·
    rw[hsame k h]
   ·
    rw[h0 k (by omega)]
theorem Nt.ups_all {U n:Nat} (s:Nat) (h:U<4294967296^n):Nt.ups U s n=U*2^s:=by rw[Nt.ups,jQ h]
theorem Nt.join2 (B a b c w0 w1:Nat) (h1:a=b*B+w0) (h3:b=c*B+w1):a=w1*B+w0+B*(B*c):=by
 rw[h1,h3,Nat.add_mul,jK B (B*c),jK B c];omega
theorem Nt.down_word (L s i:Nat) (hs:s<32):(Nt.wd L (i+1)*4294967296+Nt.wd L i)/2^s%4294967296=Nt.wd (L/2^s) i:=by
 have h2:0<2^s:=Nat.two_pow_pos s;have hsp:=Nt.two_split32 s hs
 have e:L/4294967296^i=(Nt.wd L (i+1)*4294967296+Nt.wd L i)+2^s*(4294967296*(2^(32-s)*(L/4294967296^(i+2)))):=by
  have h1:=Nt.wd_join L i;have h3:L/4294967296^(i+1)=L/4294967296^(i+2)*4294967296+Nt.wd L (i+1):=Nt.wd_join L (i+1)
  have h4:2^s*(4294967296*(2^(32-s)*(L/4294967296^(i+2))))=4294967296*(4294967296*(L/4294967296^(i+2))):=by
   rw[<-jL 4294967296,jK 4294967296 (2^(32-s)),jL,<-jL (2^s),hsp]
  rw[h4];exact Nt.join2 _ _ _ _ _ _ h1 h3
 have e2:L/2^s/4294967296^i=(Nt.wd L (i+1)*4294967296+Nt.wd L i)/2^s+4294967296*(2^(32-s)*(L/4294967296^(i+2))):=by
  rw[jR,jK,<-jR,e,Nat.add_mul_div_left _ _ h2]
 show _=L/2^s/4294967296^i%4294967296;rw[e2,Nat.add_mul_mod_self_left]
def Nt.lft (U V j:Nat):Nat:=U%4294967296^j+U/4294967296^j%V*4294967296^j
theorem Nt.lft_div (U V i:Nat):Nt.lft U V (i+1)/4294967296^i=U/4294967296^(i+1)%V*4294967296+Nt.wd U i:=by
 have hp:0<4294967296^i:=jO (by omega);have h1:=Nat.mod_lt U hp;unfold Nt.lft;rw[Nt.wmod_succ,jN,jK (4294967296^i) 4294967296,<-jL,jK (4294967296^i) (Nt.wd U i),Nat.add_assoc,<-Nat.add_mul,Nat.add_mul_div_right _ _ hp,Nat.div_eq_of_lt h1];omega
theorem Nt.lft_mod (U V i:Nat):Nt.lft U V (i+1)%4294967296^i=U%4294967296^i:=by
 unfold Nt.lft;rw[Nt.wmod_succ,jN,jK (4294967296^i) 4294967296,<-jL,jK (4294967296^i) (Nt.wd U i),Nat.add_assoc,<-Nat.add_mul,Nat.add_mul_mod_self_right,Nat.mod_mod]
theorem Nt.lft_start (U V n m s:Nat) (hn:1<=n) (hm:n<=m) (hU:U<4294967296^m) (hV:4294967296^(n-1)<=V):Nt.lft (U*2^s) (V*2^s) (m-n+1)=U*2^s:=by
 have hp:0<4294967296^(m-n+1):=jO (by omega);have h2:0<2^s:=Nat.two_pow_pos s
 have h1:U*2^s/4294967296^(m-n+1)<V*2^s:=by
  rw[Nat.div_lt_iff_lt_mul hp];refine jF (Nat.mul_lt_mul_of_pos_right hU h2) ?_;rw[show m=(n-1)+(m-n+1) from by omega,Nat.pow_add,show (n-1)+(m-n+1)-n+1=m-n+1 from by omega,jL,jK _ (2^s),<-jL];exact Nat.mul_le_mul_right _ (Nat.mul_le_mul_right _ hV)
 unfold Nt.lft;rw[jQ h1,jK (_/_),Nat.mod_add_div]
theorem Nt.lft_end (U V:Nat):Nt.lft U V 0=U%V:=by simp[Nt.lft,Nat.mod_one]
theorem Nt.lft_next (U V i:Nat) (hV:0<V):Nt.lft U V (i+1)%4294967296^i+Nt.lft U V (i+1)/4294967296^i%V*4294967296^i=Nt.lft U V i:=by
 rw[Nt.lft_mod,Nt.lft_div,(Nt.limb_round U i V hV).2.1];rfl
theorem Nt.lft_lt (U V i n:Nat) (hV0:0<V) (hV:V<4294967296^n):Nt.lft U V (i+1)<4294967296^(i+(n+1)):=by
 have hp:0<4294967296^i:=jO (by omega);have h1:=(Nt.limb_round U i V hV0).2.2;rw[<-Nt.lft_div] at h1;have h2:V*4294967296<=4294967296^(n+1):=by rw[jN];exact Nat.mul_le_mul_right _ (Nat.le_of_lt hV)
 have h3:=jF h1 h2;rw[Nat.pow_add,jK];exact(Nat.div_lt_iff_lt_mul hp).1 h3
theorem Nt.quo_lt (U V n m:Nat) (hn:1<=n) (hm:n<=m) (hU:U<4294967296^m) (hV:4294967296^(n-1)<=V):U/V<4294967296^(m-n+1):=by
 have hVp:0<V:=jF (jO (by omega)) hV;rw[Nat.div_lt_iff_lt_mul hVp];refine jF hU ?_
 conv=>lhs;rw[show m=(m-n+1)+(n-1) from by omega,Nat.pow_add]
 exact Nat.mul_le_mul_left _ hV
theorem Nt.taken_right (P V g M:Nat) (hV:0<V) (hP:P<M) (hg:P/V<=g) (h : ¬ P<g*V):g=P/V/\(P+M-g*V)%M=P%V:=by
 have h1:g<=P/V:=(Nat.le_div_iff_mul_le hV).2 (by omega);have h2:g=P/V:=Nat.le_antisymm h1 hg;subst h2;refine⟨rfl,?_⟩;have h3:=Nat.mod_add_div P V;rw[jK] at h3;rw[show P+M-P/V*V=P%V+M from by omega,Nat.add_mod_right,jQ (by omega)]
theorem Nt.taken_back (P V g M:Nat) (hV:0<V) (hP:P<M) (hM:g*V<=M) (hg:g<=P/V+1) (h:P<g*V):g=P/V+1/\P+M-g*V<M/\(P+M-g*V)%M=P+M-g*V/\(P+M-g*V+V)%M=P%V:=by
 have h1:P/V<g:=(Nat.div_lt_iff_lt_mul hV).2 h;have h2:g=P/V+1:=Nat.le_antisymm hg h1;have h3:=Nat.mod_add_div P V;rw[jK] at h3;have h4:g*V=P/V*V+V:=by rw[h2,Nat.add_mul,Nat.one_mul]
 refine⟨h2,by omega,jQ (by omega),?_⟩;rw[show P+M-g*V+V=P%V+M from by omega,Nat.add_mod_right,jQ (by omega)]
theorem Nt.norm_lt (V n s k:Nat) (hn:1<=n) (hV:V<4294967296^n) (hk:Nt.wd V (n-1)<2^k) (hs:k+s<=32):V*2^s<4294967296^n:=by
 have hp:0<4294967296^(n-1):=jO (by omega)
 have hd:V/4294967296^(n-1)=Nt.wd V (n-1):=by
  have h1:=Nt.wd_join V (n-1);rw[show n-1+1=n from by omega,Nat.div_eq_of_lt hV] at h1;omega
 rw[<-hd,Nat.div_lt_iff_lt_mul hp] at hk;refine jF (Nat.mul_lt_mul_of_pos_right hk (Nat.two_pow_pos s)) ?_
 conv=>rhs;rw[show n=(n-1)+1 from by omega,jN,jK]
 rw[jL,jK (4294967296^(n-1)),<-jL,<-Nat.pow_add];exact Nat.mul_le_mul_right _ (jP (n:=2) (by omega) hs:2^(k+s)<=2^32)
set_option maxHeartbeats 4000000
def Nt.sb (x y b:Nat):Nat:=(x+4294967296-y-b)%4294967296
def Nt.sbo (x y b:Nat):Nat:=if x<y+b then 1 else 0
theorem b3i {a b c d:Int} (h:a=b) (h':c=d):jV (.tuple #[.int .u32 a,.int .u32 c])=.returned (.tuple #[.int .u32 b,.int .u32 d]):=by rw[h,h']
theorem c2k (x y b:Nat) (w:World) (hx:x<4294967296) (hy:y<4294967296) (hb:b<=1) :
  Cw 272 #[.int .u32 (x:Int),.int .u32 (y:Int),.int .u32 (b:Int)] w (.tuple #[.int .u32 ((Nt.sb x y b:Nat):Int),.int .u32 ((Nt.sbo x y b:Nat):Int)]):=by
 go_enter Tryz.func272,Tryz.ntmps272
 go_wp2
 go_ret2
 refine⟨b3i ?_ ?_,rfl⟩
 ·
  unfold Nt.sb;omega
 ·
  have em:IntKind.u32.max=((4294967295:Nat):Int):=by decide
  have ed:(((x:Int)-(y:Int)-(b:Int))%4294967296)=((Nt.sb x y b:Nat):Int):=by unfold Nt.sb;omega
  have hd:Nt.sb x y b<4294967296:=Nat.mod_lt _ (by omega);have hn1:4294967295 ^^^ x<4294967296:=Nat.xor_lt_two_pow (n:=32) (by decide) hx;have hn2:x ^^^ y<4294967296:=Nat.xor_lt_two_pow (n:=32) hx hy;have hn3:4294967295 ^^^ (x ^^^ y)<4294967296:=Nat.xor_lt_two_pow (n:=32) (by decide) hn2;have hn4:(4294967295 ^^^ x) &&& y<4294967296:=Nat.and_lt_two_pow (n:=32) _ hy;have hn5:(4294967295 ^^^ (x ^^^ y)) &&& Nt.sb x y b<4294967296:=Nat.and_lt_two_pow (n:=32) _ hd;have hb:=Nt.sub_borrow x y b (Nt.sb x y b) hx hy hb rfl;rw[em,ed,u32_xor_nat _ _ (by decide) hx,u32_xor_nat _ _ hx hy,u32_xor_nat _ _ (by decide) hn2,u32_and_nat _ _ hn1 hy,u32_and_nat _ _ hn3 hd,u32_or_nat _ _ hn4 hn5];rw[show Nt.sbo x y b=_ from hb.symm];simp
theorem c2l (x y b:Nat) (w:World) (hx:x<4294967296) (hy:y<4294967296) (hb:b<=1) :
  Cw 273 #[.int .u32 (x:Int),.int .u32 (y:Int),.int .u32 (b:Int)] w (.tuple #[.int .u32 (((x+y+b)%4294967296:Nat):Int),.int .u32 (((x+y+b)/4294967296:Nat):Int)]):=by
 go_enter Tryz.func273,Tryz.ntmps273
 go_wp2
 go_ret2
 exact⟨b3i (by omega) (by omega),rfl⟩
theorem a8r (g n cap U s:Nat) (w:World) (hn:n<=100000) (hU:U<4294967296^n) (hs:s<32) (hg:g<w.heap.size) (hc:Lm w g (Nt.wds U n)) :
  Cz 260 #[.slice (some ⟨g,0,none⟩) n cap,I6 (s:Int)] w fun e w'=>(e=.returned (.slice (some ⟨w.heap.size,0,none⟩) (n+1) (n+1))/\Jz w' w.heap.size 239 (kV .u32 (Nt.wds (U*2^s) (n+1))))/\Bl w w':=by
 have hmk:=fun W=>a1n (P:=Tryz.prog) 254 239 .u32 4 Tryz.underlying254 Tryz.infoU32 (n+1) (by omega) (by omega) W
 rw[show ((n+1:Nat):Int)=(n:Int)+1 from by omega] at hmk;have HC:=zh hc;have HU:=zh hU;have hs0:(0:Int)<=(s:Int):=by omega
 clear hc hU;go_enter Tryz.func260,Tryz.ntmps260
 go_wp2
 go_loopw [15] (fun i wr=>∃ k:Nat,k<=n/\i=I6 (k:Int)/\Jz wr w.heap.size 239 (kV .u32 (Nt.wds (Nt.ups U s k) (n+1)))/\Bl w wr) (fun i _=>n-(intOf i).toNat)
 case atStart=>exact⟨0,by omega,rfl,by rw[Nt.ups_zero,Nt.wds_zero];exact Jz.new _ _ _,(Below.refl _ _).alloc (jC _) _⟩
 case round =>
  obtain⟨k,hk,rfl,hB,hW⟩:=hrel;by_cases hlt:k<n
  ·
   have hkl:k<(Nt.wds U n).length:=by rw[Nt.wds_length];omega
   have c1:wr.cell? ⟨g,k,none⟩=some (.int .u32 ((Nt.wd U k:Nat):Int)):=(hW.cell (p:=⟨g,k,none⟩) hg).trans (by have:=HC.out k hkl;rwa [Nt.wds_get] at this);have hwd:=Nt.wd_lt U k;have hkm:k<(Nt.wds (Nt.ups U s k) (n+1)).length:=by rw[Nt.wds_length];omega
   have hkm2:k+1<(Nt.wds (Nt.ups U s k) (n+1)).length:=by rw[Nt.wds_length];omega
   have c2:wr.cell? ⟨w.heap.size,k,none⟩=some (.int .u32 ((Nt.wd (Nt.ups U s k) k:Nat):Int)):=(hB.cell _).trans ((a0r _ _ _ hkm).trans (by rw[Nt.wds_get]));have c3:wr.cell? ⟨w.heap.size,k+1,none⟩=some (.int .u32 ((Nt.wd (Nt.ups U s k) (k+1):Nat):Int)):=(hB.cell _).trans ((a0r _ _ _ hkm2).trans (by rw[Nt.wds_get]));have f2:wr.frozen? ⟨w.heap.size,k,none⟩=false:=hB.frozen _;have f3:wr.frozen? ⟨w.heap.size,k+1,none⟩=false:=hB.frozen _;have hset:=Nt.ups_set U s k (n+1) hs;obtain⟨x,hx⟩:=nM (Nt.wd U k);obtain⟨y,hy⟩:=nM (Nt.wd (Nt.ups U s k) k);obtain⟨z,hz⟩:=nM (Nt.wd (Nt.ups U s k) (k+1));rw[<-hx] at c1 hwd hset;rw[<-hy] at c2 hset;rw[<-hz] at c3;have hyl:y<4294967296:=by rw[hy];exact Nt.wd_lt _ _
   have HSET:=zh hset;clear hx hy hz hset
   go_wp2
   have hx2:x*2^s<18446744073709551616:=jF (Nat.mul_lt_mul'' hwd (Nat.pow_lt_pow_right (n:=32) (by omega) hs:2^s<2^32)) (by decide)
   have e1:IntKind.u64.wrap ((x:Int)*2^s)=((x*2^s:Nat):Int):=by
    have e0:((x:Int)*2^s)=((x*2^s:Nat):Int):=by simp
    rw[e0,c4x (by omega) (by omega)]
   rw[e1];generalize x*2^s=t at *
   have e2:bits BinOp.or IntKind.u32 (y:Int) ((t:Int)%4294967296)=((y ||| t%4294967296:Nat):Int):=by
    rw[show ((t:Int)%4294967296)=((t%4294967296:Nat):Int) from by omega];exact u32_or_nat _ _ hyl (Nat.mod_lt _ (by omega))
   have e3:(t:Int)/4294967296%4294967296=((t/4294967296:Nat):Int):=by omega
   rw[e2,e3];refine⟨⟨k+1,by omega,by go_num,?_,(hW.setCell (p:=⟨w.heap.size,k,none⟩) (jC _) _).setCell (p:=⟨w.heap.size,k+1,none⟩) (jC _) _⟩,by simp[intOf];omega⟩;rw[<-HSET.out,<-a2p,<-a2p];exact(hB.put _ _).put _ _
  ·
   obtain rfl:k=n:=by omega
   have hfin:Hid (Nt.ups U s k=U*2^s):=Nt.ups_all s HU.out
   go_wp2
   go_ret
   exact⟨⟨rfl,by rw[<-hfin.out];exact hB⟩,hW⟩
theorem b1b (g n cap L s:Nat) (w:World) (hn:n<=100000) (hL:L<4294967296^n) (hs:s<32) (hg:g<w.heap.size) (hc:Lm w g (Nt.wds L n)) :
  Cz 265 #[.slice (some ⟨g,0,none⟩) n cap,I6 (s:Int)] w fun e w'=>(∃ v,e=.returned v/\YZ w' v (L/2^s))/\Bl w w':=by
 have hmk:=fun W=>a1n (P:=Tryz.prog) 254 239 .u32 4 Tryz.underlying254 Tryz.infoU32 n (by omega) (by omega) W
 have HC:=zh hc;have HL:=zh hL;have hs0:(0:Int)<=(s:Int):=by omega
 clear hc hL;go_enter Tryz.func265,Tryz.ntmps265
 go_wp2
 go_loopw [6,7] (fun c i wr=>∃ j:Nat,j<=n/\i=I6 ((j:Int)-1)/\c=.int .u64 ((Nt.wd L (j+1)*4294967296+Nt.wd L j:Nat):Int)/\Jz wr w.heap.size 239 (kV .u32 (Nt.qs (L/2^s) j n))/\Bl w wr) (fun _ i _=>(intOf i+1).toNat)
 case atStart=>exact⟨n,by omega,by go_num,by rw[Nt.wd_zero_le HL.out (Nat.le_succ n),Nt.wd_zero HL.out];rfl,by rw[Nt.qs_none];exact Jz.new _ _ _,(Below.refl _ _).alloc (jC _) _⟩
 case round =>
  obtain⟨j,hj,rfl,rfl,hB,hW⟩:=hrel
  rcases j with _ | i
  ·
   have e0:((0:Nat):Int)-1=-1:=rfl;rw[e0];have hq:=a3f w.heap.size n n (Nt.qs (L/2^s) 0 n) wr (Nt.qs_length _ _ _) (jC _) (by omega) hB.lt (Lm.of_blk hB) (Nt.qs_lt _ _ _)
   have hqv:Nt.lw (Nt.qs (L/2^s) 0 n)=L/2^s:=by
    rw[Nt.qs_all,Nt.lw_wds];exact jQ (Nat.lt_of_le_of_lt (Nat.div_le_self _ _) HL.out)
   rw[hqv] at hq;have HQ:=zh hq;clear hq hqv;go_wp2_with (go_at_call 264;refine HQ.out.mono ?_;rintro e w1 ⟨⟨v1,rfl,hl1⟩,rfl⟩)
   go_ret
   exact⟨⟨v1,rfl,hl1⟩,hW⟩
  ·
   rw[show ((i+1:Nat):Int)-1=(i:Int) from by omega];have hil:i<(Nt.wds L n).length:=by rw[Nt.wds_length];omega
   have c1:wr.cell? ⟨g,i,none⟩=some (.int .u32 ((Nt.wd L i:Nat):Int)):=(hW.cell (p:=⟨g,i,none⟩) hg).trans (by have:=HC.out i hil;rwa [Nt.wds_get] at this);have hil2:i<(Nt.qs (L/2^s) (i+1) n).length:=by rw[Nt.qs_length];omega
   have c2:wr.cell? ⟨w.heap.size,i,none⟩=some (.int .u32 (((Nt.qs (L/2^s) (i+1) n)[i]'hil2:Nat):Int)):=(hB.cell _).trans (a0r _ _ _ hil2);have f2:wr.frozen? ⟨w.heap.size,i,none⟩=false:=hB.frozen _;have hdw:=Nt.down_word L s i hs;have h1:=Nt.wd_lt L i;have h2:=Nt.wd_lt L (i+1);have h3:=Nt.wd_lt L (i+1+1);obtain⟨x,hx⟩:=nM (Nt.wd L i);obtain⟨y,hy⟩:=nM (Nt.wd L (i+1));obtain⟨z,hz⟩:=nM (Nt.wd L (i+1+1));have hgoal:Hid (Nt.wd L (i+1)*4294967296+Nt.wd L i=y*4294967296+x):=by rw[Hid,hx,hy]
   rw[<-hx] at c1 h1 hdw;rw[<-hy] at h2 hdw |-
   rw[<-hz] at h3 |-
   have ho:=a7n y x h2 h1;have HO:=zh ho;have HD:=zh hdw;have hyz:IntKind.u64.wrap (((z:Int)*4294967296+(y:Int))*4294967296)=(y:Int)*4294967296:=by rw[IntKind.wrap_u64];omega
   have HYZ:=zh hyz;clear ho hx hy hz hdw hyz
   go_wp2
   rw[HYZ.out,HO.out]
   have e1:((y*4294967296+x:Nat):Int)/2^s%4294967296=((Nt.wd (L/2^s) i:Nat):Int):=by
    rw[<-HD.out];simp
   rw[e1];refine⟨⟨i,by omega,by go_num,by rw[hgoal.out],?_,hW.setCell (p:=⟨w.heap.size,i,none⟩) (jC _) _⟩,by simp[intOf]⟩;rw[<-Nt.qs_set,<-a2p];exact hB.put _ _
structure Only (G:Nat) (w w':World):Prop where
 os:w'.os=w.os
 tape:w'.tape=w.tape
 output:w'.output=w.output
 size:w'.heap.size=w.heap.size
 block:∀ k,k≠G->w'.heap[k]?=w.heap[k]?
theorem Only.refl (G:Nat) (w:World):Only G w w:=⟨rfl,rfl,rfl,rfl,fun _ _=>rfl⟩
theorem Only.setCell {G:Nat} {a w:World} (h:Only G a w) (i:Nat) (u:Value):Only G a (w.setCell ⟨G,i,none⟩ u) :=
 ⟨h.os,h.tape,h.output,(by simp[World.setCell];exact h.size),fun k hk=>(Below.heap_setCell w ⟨G,i,none⟩ u k hk).trans (h.block k hk)⟩
theorem Only.trans {G:Nat} {a b c:World} (h:Only G a b) (k:Only G b c):Only G a c :=
 ⟨k.os.trans h.os,k.tape.trans h.tape,k.output.trans h.output,k.size.trans h.size,fun i hi=>(k.block i hi).trans (h.block i hi)⟩
theorem Only.below {G B:Nat} {a b:World} (h:Only G a b) (hB:B<=G):Below B a b:=⟨h.os,h.tape,h.output,Nat.le_of_eq h.size.symm,fun k hk=>h.block k (by omega)⟩
theorem Only.cell {G:Nat} {a b:World} (h:Only G a b) {p:Addr} (hp:p.block≠G):b.cell? p=a.cell? p:=World.cell?_of_block (w:=a) (h.block p.block hp)
theorem Only.lm {G g:Nat} {a b:World} (h:Only G a b) (hg:g≠G) {l:List Nat} (hl:Lm a g l):Lm b g l:=fun i hi=>(h.cell (p:=⟨g,i,none⟩) hg).trans (hl i hi)
theorem Only.blk {G g:Nat} {a b:World} (h:Only G a b) (hg:g≠G) {t:TypeId} {cs:Array Value} (hl:Jz a g t cs):Jz b g t cs:=(h.block g hg).trans hl
theorem Nt.take_word {x z y b b':Nat} (hz:z<4294967296) (hb:b'<=1) (h:x+4294967296*b'=z+y+b):Nt.sb x y b=z/\Nt.sbo x y b=b':=by
 unfold Nt.sb Nt.sbo
 rcases (by omega:b'=0\/b'=1) with rfl | rfl
 ·
  exact⟨by omega,by rw[if_neg (by omega)]⟩
 ·
  exact⟨by omega,by rw[if_pos (by omega)]⟩
theorem b6j {x y b:Int} (x0 y0 b0 z0 c0:Nat) (ex:x=x0) (ey:y=y0) (eb:b=b0) (hx:x0<4294967296) (hy:y0<4294967296) (hb:b0<=1) (h:Nt.sb x0 y0 b0=z0/\Nt.sbo x0 y0 b0=c0) (w:World) :
  Cw 272 #[.int .u32 x,.int .u32 y,.int .u32 b] w (.tuple #[.int .u32 (z0:Int),.int .u32 (c0:Int)]):=by
 rw[ex,ey,eb,<-h.1,<-h.2];exact c2k x0 y0 b0 w hx hy hb
theorem c4n {x y b:Int} (x0 y0 b0 z0 c0:Nat) (ex:x=x0) (ey:y=y0) (eb:b=b0) (hx:x0<4294967296) (hy:y0<4294967296) (hb:b0<=1) (h:(x0+y0+b0)%4294967296=z0/\(x0+y0+b0)/4294967296=c0) (w:World) :
  Cw 273 #[.int .u32 x,.int .u32 y,.int .u32 b] w (.tuple #[.int .u32 (z0:Int),.int .u32 (c0:Int)]):=by
 rw[ex,ey,eb,<-h.1,<-h.2];exact c2l x0 y0 b0 w hx hy hb
theorem a6a (G p n c1 g c2 L M V t:Nat) (w:World) (hn:n<=100000) (hM:M<=200000) (hpM:p+(n+1)<=M) (hne:g≠G) (hV:V<4294967296^n) (ht:t<4294967296) (hL:L<4294967296^(p+(n+1)))
  (hB:Jz w G 239 (kV .u32 (Nt.wds L M))) (hc:Lm w g (Nt.wds V n)) :
  Cz 262 #[.slice (some ⟨G,p,none⟩) (n+1) c1,.slice (some ⟨g,0,none⟩) n c2,.int .u32 (t:Int)] w fun e w' =>
   e=.returned (Bv (decide (L/4294967296^p<t*V)))/\Jz w' G 239 (kV .u32 (Nt.wds (L%4294967296^p+Nt.zof (L/4294967296^p) (t*V) (n+1)%4294967296^(n+1)*4294967296^p) M))/\Only G w w':=by
 obtain⟨X,hX⟩:=nM (t*V);obtain⟨P,hP⟩:=nM (L/4294967296^p);obtain⟨Z,hZ⟩:=nM (Nt.zof P X (n+1));rw[<-hX,<-hP,<-hZ]
 have hPl:P<4294967296^(n+1):=by
  rw[hP,Nat.div_lt_iff_lt_mul (jO (by omega)),jK,<-Nat.pow_add];exact hL
 have hXl:X<4294967296^(n+1):=by
  rw[hX,jN,jK];exact Nat.mul_lt_mul'' hV ht
 have hst:Hid (∀ k,k<n+1->Nt.wd P k+4294967296*Nt.wbw P X (k+1)=Nt.wd Z k+Nt.wd X k+Nt.wbw P X k):=fun k hk=>by rw[hZ];exact Nt.zof_step P X (n+1) k hk (Nat.le_of_lt hXl)
 have htc:Hid (∀ k,(Nt.tcy t V k+Nt.wd V k*t)%4294967296=Nt.wd X k/\(Nt.tcy t V k+Nt.wd V k*t)/4294967296=Nt.tcy t V (k+1)/\Nt.tcy t V k+Nt.wd V k*t<18446744073709551616):=fun k=>by
  have h1:=Nt.tcy_step t V k;rw[<-hX] at h1;exact⟨h1.1,h1.2,Nt.tcy_sum t V k ht⟩
 have hwP:Hid (∀ k,Nt.wd L (p+k)=Nt.wd P k):=fun k=>by rw[hP,Nt.wd_high]
 have hend:Hid (fnL (Nt.mixf L p (n+1) Z) M=Nt.wds (L%4294967296^p+Z%4294967296^(n+1)*4294967296^p) M):=by
  have h1:=Nt.mix_end L p (n+1) (Z%4294967296^(n+1)) M hL (Nat.mod_lt _ (jO (by omega)));rw[<-h1];refine b1a fun k _=>?_
  unfold Nt.mixf
  split
  ·
   rw[Nt.wd_low _ _ _ (by omega)]
  ·
   rfl
 have hall:Hid (decide (P<X)=decide (0<Nt.wbw P X (n+1))):=by
  rw[Hid,Nt.wbw_all P X (n+1) hPl hXl];by_cases h:P<X<;>simp[h]
 have hVn:Hid (Nt.wd V n=0):=Nt.wd_zero hV;have HC:=zh hc;have HB:=zh hB;clear hX hP hZ hPl hXl hc hB hL hV;go_enter Tryz.func262,Tryz.ntmps262
 go_wp2
 go_loopw [7,8,12] (fun c b i wr=>∃ k:Nat,k<=n+1/\i=I6 (k:Int)/\c=.int .u64 ((Nt.tcy t V k:Nat):Int)/\b=.int .u32 ((Nt.wbw P X k:Nat):Int)/\Jz wr G 239 (kV .u32 (fnL (Nt.mixf L p k Z) M))/\Only G w wr) (fun _ _ i _=>n+1-(intOf i).toNat)
 case atStart=>exact⟨0,by omega,rfl,by rw[Nt.tcy_zero];rfl,by rw[Nt.wbw_zero];rfl,by rw[Nt.mix_zero];exact HB.out,Only.refl _ _⟩
 case round =>
  obtain⟨k,hk,rfl,rfl,rfl,hB,hW⟩:=hrel;by_cases hlt:k<n+1
  ·
   have hkM:p+k<(fnL (Nt.mixf L p k Z) M).length:=by rw[a4z];omega
   have c1:wr.cell? ⟨G,p+k,none⟩=some (.int .u32 ((Nt.wd P k:Nat):Int)):=(hB.cell _).trans ((a0r _ _ _ hkM).trans (by rw[a6q,Nt.mix_next,hwP.out]));have f1:wr.frozen? ⟨G,p+k,none⟩=false:=hB.frozen _;have hset:=Nt.mix_set L p k Z M;have hs:=hst.out k hlt;have ht3:=htc.out k;have b1:=Nt.wbw_le P X k;have b2:=Nt.wbw_le P X (k+1);have l1:=Nt.wd_lt P k;have l2:=Nt.wd_lt Z k;have l3:=Nt.wd_lt X k;have htw:=Nt.take_word l2 b2 hs;obtain⟨cc,hcc⟩:=nM (Nt.tcy t V k+Nt.wd V k*t);rw[<-hcc] at ht3;obtain⟨h31,h32,h33⟩:=ht3;have HCC:=zh hcc;have HSET:=zh hset;have HB2:=zh hB;have HW:=zh hW;have HTW:=zh htw;have H31:=zh h31;have H32:=zh h32;generalize Nt.wd P k=x at *;generalize Nt.wbw P X k=b at *;have hfin:Hid ((cc:Int)/4294967296=((Nt.tcy t V (k+1):Nat):Int)):=by rw[Hid,<-h32];omega
   by_cases hkn:k<n
   ·
    have hkl:k<(Nt.wds V n).length:=by rw[Nt.wds_length];omega
    have c2:wr.cell? ⟨g,k,none⟩=some (.int .u32 ((Nt.wd V k:Nat):Int)):=(HW.out.cell (p:=⟨g,k,none⟩) hne).trans (by have:=HC.out k hkl;rwa [Nt.wds_get] at this);have hcn:cc=Nt.tcy t V k+Nt.wd V k*t:=HCC.out;obtain⟨pr,hpr⟩:=nM (Nt.wd V k*t);have hPI:((Nt.wd V k:Nat):Int)*(t:Int)=(pr:Int):=by rw[hpr];simp
    rw[<-hpr] at hcn;have hl4:=Nt.wd_lt V k;generalize Nt.wd V k=vd at *;generalize Nt.tcy t V k=tc at *;have hsum:tc+pr<18446744073709551616:=by omega
    have HCN:=zh hcn;clear hpr hcn hcc h31 h32 htw hs hset hB hW;go_wp2_with (go_at_call 272;refine(b6j x (Nt.wd X k) b (Nt.wd Z k) (Nt.wbw P X (k+1)) rfl (by have:=HCN.out;have:=H31.out;omega) rfl l1 l3 b1 HTW.out _).mono ?_;rintro e w1 ⟨rfl,rfl⟩);rw[show ((tc:Int)+(pr:Int))=(cc:Int) from by have:=HCN.out;omega,hfin.out];refine⟨⟨k+1,by omega,by go_num,rfl,rfl,?_,HW.out.setCell _ _⟩,by simp[intOf];omega⟩;rw[<-HSET.out,<-a2p];exact HB2.out.put _ _
   ·
    have hkn':k=n:=by omega
    have hcn:cc=Nt.tcy t V k:=by rw[HCC.out,hkn',hVn.out,Nat.zero_mul,Nat.add_zero]
    generalize Nt.tcy t V k=tc at *;subst hcn;clear h31 h32 htw hs hset hB hW hcc;have hkk:=zh hkn';clear hkn';go_wp2_with (go_at_call 272;refine(b6j x (Nt.wd X k) b (Nt.wd Z k) (Nt.wbw P X (k+1)) rfl (by have:=H31.out;omega) rfl l1 l3 b1 HTW.out _).mono ?_;rintro e w1 ⟨rfl,rfl⟩);rw[hfin.out];refine⟨⟨k+1,by omega,by go_num,rfl,rfl,?_,HW.out.setCell _ _⟩,by simp[intOf];omega⟩;rw[<-HSET.out,<-a2p];exact HB2.out.put _ _
  ·
   obtain rfl:k=n+1:=by omega
   have hr:Hid (∀ b:Nat,b=Nt.wbw P X (n+1)->decide (P<X)=decide (0<b)):=fun b hb=>by rw[hb];exact hall.out
   obtain⟨b,hb⟩:=nM (Nt.wbw P X (n+1));rw[<-hb];have HBB:=zh hb;clear hb
   go_wp2
   go_ret
   exact⟨J4 (by rw[hr.out b HBB.out]),by rw[<-hend.out];exact hB,hW⟩
theorem Nt.put_word (R V k:Nat):(Nt.wd R k+Nt.wd V k+Nt.wcy R V k)%4294967296=Nt.wd (R+V) k/\(Nt.wd R k+Nt.wd V k+Nt.wcy R V k)/4294967296=Nt.wcy R V (k+1):=by
 have h:=Nt.wcy_step R V k;have h1:=Nt.wd_lt (R+V) k;exact⟨by omega,by omega⟩
theorem b5b (G p n c1 g c2 L M V:Nat) (w:World) (hn:n<=100000) (hM:M<=200000) (hpM:p+(n+1)<=M) (hne:g≠G) (hV:V<4294967296^n) (hL:L<4294967296^(p+(n+1)))
  (hB:Jz w G 239 (kV .u32 (Nt.wds L M))) (hc:Lm w g (Nt.wds V n)) :
  Cz 263 #[.slice (some ⟨G,p,none⟩) (n+1) c1,.slice (some ⟨g,0,none⟩) n c2] w fun e w' =>
   e=.returned (.tuple #[])/\Jz w' G 239 (kV .u32 (Nt.wds (L%4294967296^p+(L/4294967296^p+V)%4294967296^(n+1)*4294967296^p) M))/\Only G w w':=by
 obtain⟨P,hP⟩:=nM (L/4294967296^p);obtain⟨Z,hZ⟩:=nM (P+V);rw[<-hP,<-hZ];have hst:Hid (∀ k,(Nt.wd P k+Nt.wd V k+Nt.wcy P V k)%4294967296=Nt.wd Z k/\(Nt.wd P k+Nt.wd V k+Nt.wcy P V k)/4294967296=Nt.wcy P V (k+1)):=fun k=>by rw[hZ];exact Nt.put_word P V k
 have hwP:Hid (∀ k,Nt.wd L (p+k)=Nt.wd P k):=fun k=>by rw[hP,Nt.wd_high]
 have hend:Hid (fnL (Nt.mixf L p (n+1) Z) M=Nt.wds (L%4294967296^p+Z%4294967296^(n+1)*4294967296^p) M):=by
  have h1:=Nt.mix_end L p (n+1) (Z%4294967296^(n+1)) M hL (Nat.mod_lt _ (jO (by omega)));rw[<-h1];refine b1a fun k _=>?_
  unfold Nt.mixf
  split
  ·
   rw[Nt.wd_low _ _ _ (by omega)]
  ·
   rfl
 have hVn:Hid (Nt.wd V n=0):=Nt.wd_zero hV;have HC:=zh hc;have HB:=zh hB;clear hP hZ hc hB hL hV;go_enter Tryz.func263,Tryz.ntmps263
 go_wp2
 go_loopw [4,9] (fun b i wr=>∃ k:Nat,k<=n/\i=I6 (k:Int)/\b=.int .u32 ((Nt.wcy P V k:Nat):Int)/\Jz wr G 239 (kV .u32 (fnL (Nt.mixf L p k Z) M))/\Only G w wr) (fun _ i _=>n-(intOf i).toNat)
 case atStart=>exact⟨0,by omega,rfl,by rw[Nt.wcy_zero];rfl,by rw[Nt.mix_zero];exact HB.out,Only.refl _ _⟩
 case round =>
  obtain⟨k,hk,rfl,rfl,hB,hW⟩:=hrel;have hkM:p+k<(fnL (Nt.mixf L p k Z) M).length:=by rw[a4z];omega
  have c1:wr.cell? ⟨G,p+k,none⟩=some (.int .u32 ((Nt.wd P k:Nat):Int)):=(hB.cell _).trans ((a0r _ _ _ hkM).trans (by rw[a6q,Nt.mix_next,hwP.out]));have f1:wr.frozen? ⟨G,p+k,none⟩=false:=hB.frozen _;have hset:=Nt.mix_set L p k Z M;have hs:=hst.out k;have b1:=Nt.wcy_le P V k;have l1:=Nt.wd_lt P k;have l3:=Nt.wd_lt V k;have HSET:=zh hset;have HB2:=zh hB;have HW:=zh hW;have HS:=zh hs;by_cases hlt:k<n
  ·
   have hkl:k<(Nt.wds V n).length:=by rw[Nt.wds_length];omega
   have c2:wr.cell? ⟨g,k,none⟩=some (.int .u32 ((Nt.wd V k:Nat):Int)):=(HW.out.cell (p:=⟨g,k,none⟩) hne).trans (by have:=HC.out k hkl;rwa [Nt.wds_get] at this);generalize Nt.wd P k=x at *;generalize Nt.wd V k=y at *;generalize Nt.wcy P V k=b at *;clear hset hB hW hs;go_wp2_with (go_at_call 273;refine(c4n x y b (Nt.wd Z k) (Nt.wcy P V (k+1)) rfl rfl rfl l1 l3 b1 HS.out _).mono ?_;rintro e w1 ⟨rfl,rfl⟩);refine⟨⟨k+1,by omega,by go_num,rfl,?_,HW.out.setCell _ _⟩,by simp[intOf];omega⟩;rw[<-HSET.out,<-a2p];exact HB2.out.put _ _
  ·
   have hkn':k=n:=by omega
   subst hkn';have hz:(Nt.wd P k+Nt.wcy P V k)%4294967296=Nt.wd Z k:=by have:=hs.1;rwa [hVn.out,Nat.add_zero] at this
   have HZ:=zh hz;generalize Nt.wd P k=x at *;generalize Nt.wcy P V k=b at *;clear hset hB hW hs hz
   go_wp2
   go_end0
   refine⟨rfl,?_,HW.out.setCell _ _⟩;rw[show (((x:Int)+(b:Int))%4294967296)=((Nt.wd Z k:Nat):Int) from by have:=HZ.out;omega,<-hend.out,<-HSET.out,<-a2p];exact HB2.out.put _ _
def c8s (F A Q:Nat) (a b:Value):Prop:=∃ gg l:Nat,a=.int .u64 (gg:Int)/\b=.int .u64 (l:Int)/\gg*F+l=A/\Q<=gg/\l<8589934592
theorem b8g (G p m m1 n c1 g c2 F S x0 x1 x2 A Q:Nat) (w:World) (hm1:m1+1=m) (hm2:n+2=m) (hp:m<=200000)
  (a0:w.cell? ⟨G,p+n,none⟩=some (.int .u32 (x0:Int))) (a1:w.cell? ⟨G,p+m1,none⟩=some (.int .u32 (x1:Int))) (a2:w.cell? ⟨G,p+m,none⟩=some (.int .u32 (x2:Int)))
  (v0:w.cell? ⟨g,n,none⟩=some (.int .u32 (S:Int))) (v1:w.cell? ⟨g,m1,none⟩=some (.int .u32 (F:Int)))
  (lS:S<4294967296) (lF:F<4294967296) (l0:x0<4294967296) (l1:x1<4294967296) (l2:x2<4294967296) (hF:0<F)
  (ho:bits .or .u64 ((x2:Int)*4294967296) (x1:Int)=(A:Int)) (hA:A<18446744073709551616) (hAl:Hid (A<=F*4294967296+4294967295))
  (gl:Hid (∀ g,g<4294967296->g*(F*4294967296+S)<=A*4294967296+x0->g<=Q+1)) (gm:Hid (∀ g,A*4294967296+x0<g*(F*4294967296+S)->Q<g)) (gf:Hid (Q<=A/F)) (hq:Hid (Q<4294967296)) :
  Cz 261 #[.slice (some ⟨G,p,none⟩) (m+1) c1,.slice (some ⟨g,0,none⟩) m c2] w fun e w' =>
   (∃ q:Nat,e=.returned (.int .u32 (q:Int))/\Q<=q/\q<=Q+1/\q<4294967296)/\∃ d,w'=w.drewN d:=by
 have w1:(m:Int)-1=(m1:Int):=by omega
 have w2:(m:Int)-2=(n:Int):=by omega
 have k1:m1<m:=by omega
 have k2:n<m:=by omega
 have q1:IntKind.i64.wrap ((m:Int)-1)=(m1:Int):=(IntWalk.i64_in _ (by omega)).trans w1;have q2:IntKind.i64.wrap ((m:Int)-2)=(n:Int):=(IntWalk.i64_in _ (by omega)).trans w2;have q3:IntKind.u64.wrap ((x2:Int)*4294967296)=(x2:Int)*4294967296:=c4x (by omega) (by omega);have hF0:((F:Int)==0)=false:=by simp;omega
 obtain⟨gs,hgs⟩:=nM (A/F);obtain⟨lf,hlf⟩:=nM (A%F)
 have d1:IntKind.u64.wrap ((A:Int).tdiv (F:Int))=(gs:Int):=by
  rw[Int.tdiv_eq_ediv_of_nonneg (by omega),hgs];have:(A:Int)/(F:Int)=((A/F:Nat):Int):=by simp
  rw[this];exact c4x (by omega) (by have:=Nat.div_le_self A F;omega)
 have d3:IntKind.u64.wrap ((A:Int)/(F:Int))=(gs:Int):=by rw[<-d1,Int.tdiv_eq_ediv_of_nonneg (by omega)]
 have d2:(A:Int).tmod (F:Int)=(lf:Int):=by
  rw[Int.tmod_eq_emod_of_nonneg (by omega),hlf];simp
 have HGS:=zh hgs
 have hsum:Hid (gs*F+lf=A/\lf<F):=by
  rw[Hid,hgs,hlf];have h1:=Nat.mod_add_div A F;rw[jK] at h1;exact⟨by omega,Nat.mod_lt _ hF⟩
 have HM1:=zh hm1;have HM2:=zh hm2;clear hgs hlf hm1 hm2;go_enter Tryz.func261,Tryz.ntmps261
 go_wp2
 go_step3
 go_wp2
 go_quiet (fail)
 go_wp2
 go_quiet (fail)
 go_wp2
 go_quiet (fail)
 go_wp2
 go_step3
 go_wp2
 have D:=zh (And.intro d1 (And.intro d2 (And.intro d3 (And.intro q1 (And.intro q2 q3)))));clear d1 d2 d3 q1 q2 q3
 go_loop [9,10] (c8s F A Q) (fun a _=>(intOf a).toNat)
 case atStart=>exact⟨gs,lf,rfl,rfl,hsum.out.1,by rw[HGS.out];exact gf.out,by have:=hsum.out.2;omega⟩
 case round =>
  obtain⟨gg,l,rfl,rfl,hA2,hQ,hl⟩:=hrel
  have hgA:gg<=A:=by
   have h1:gg*1<=gg*F:=Nat.mul_le_mul_left gg hF;omega
  have hmul:gg*(F*4294967296+S)+l*4294967296=A*4294967296+gg*S:=by
   rw[<-hA2,Nat.mul_add,<-jL,Nat.add_mul];omega
  by_cases hl1:4294967296<=l
  ·
   have hlt:gg<4294967296:=by
    have h2:gg*F<4294967296*F:=by rw[jK 4294967296 F];have:=hAl.out;omega
    exact Nat.lt_of_mul_lt_mul_right h2
   have hpr:gg*S<=4294967295*4294967295:=Nat.mul_le_mul (by omega) (by omega);have hok:gg<=Q+1:=gl.out gg hlt (by omega);have e1:(l:Int)/4294967296=1:=by omega
   have hf:Hid (Q<=gg/\gg<=Q+1/\gg<4294967296):=⟨hQ,hok,hlt⟩;have em:(gg:Int)%4294967296=(gg:Int):=by omega
   clear hA2 hmul hpr hok hQ
   go_wp2
   try rw[Exit.noGoto_ret]
   go_ret
   refine⟨⟨gg,rfl,hf.out⟩,?_⟩;exact⟨_,rfl⟩
  ·
   have e1:(l:Int)/4294967296=0:=by omega
   by_cases hg:4294967296<=gg
   ·
    have e2:0<(gg:Int)/4294967296:=by omega
    have hq:=hq.out
    have hnx:Hid ((gg-1)*F+(l+F)=A/\Q<=gg-1):=by
     obtain⟨k,rfl⟩:∃ k,gg=k+1:=⟨gg-1,by omega⟩;rw[Nat.add_mul,Nat.one_mul] at hA2;exact⟨by rw[Nat.add_sub_cancel];omega,by omega⟩
    clear hA2 hmul hQ
    go_wp2
    refine⟨⟨gg-1,l+F,by go_num,by go_num,hnx.out.1,hnx.out.2,by omega⟩,by simp[intOf];omega⟩
   ·
    have e2:(gg:Int)/4294967296=0:=by omega
    obtain⟨pr,hpr⟩:=nM (gg*S);have hPI:(gg:Int)*(S:Int)=(pr:Int):=by rw[hpr];simp
    have hprl:pr<=4294967295*4294967295:=by rw[hpr];exact Nat.mul_le_mul (by omega) (by omega)
    have ho2:=a7n l x0 (by omega) l0;obtain⟨T,hT⟩:=nM (l*4294967296+x0);rw[<-hT] at ho2;rw[<-hpr] at hmul;have q4:IntKind.u64.wrap ((l:Int)*4294967296)=(l:Int)*4294967296:=c4x (by omega) (by omega);by_cases hc:T<pr
    ·
     have hgt:Q<gg:=gm.out gg (by omega);have hc':((T:Int)<(pr:Int)):=by omega
     have hnx:Hid ((gg-1)*F+(l+F)=A/\Q<=gg-1):=by
      obtain⟨k,rfl⟩:∃ k,gg=k+1:=⟨gg-1,by omega⟩;rw[Nat.add_mul,Nat.one_mul] at hA2;exact⟨by rw[Nat.add_sub_cancel];omega,by omega⟩
     have hgg1:1<=gg:=by omega
     clear hA2 hmul hQ hT hpr hgt
     go_wp2
     refine⟨⟨gg-1,l+F,by go_num,by go_num,hnx.out.1,hnx.out.2,by omega⟩,by simp[intOf];omega⟩
    ·
     have hok:gg<=Q+1:=gl.out gg (by omega) (by omega);have hf:Hid (Q<=gg/\gg<=Q+1/\gg<4294967296):=⟨hQ,hok,by omega⟩;have em:(gg:Int)%4294967296=(gg:Int):=by omega
     have hc' : ¬ ((T:Int)<(pr:Int)):=by omega
     clear hA2 hmul hQ hT hpr hok
     go_wp2
     try rw[Exit.noGoto_ret]
     go_ret
     refine⟨⟨gg,rfl,hf.out⟩,?_⟩;exact⟨_,rfl⟩
theorem Nt.top_word {V n:Nat} (hV:V<4294967296^(n+1)):V/4294967296^n=Nt.wd V n:=by
 rw[Nt.wd_join V n,Nat.div_eq_of_lt hV,Nat.zero_mul,Nat.zero_add]
theorem Nt.top_pos {V n:Nat} (hV:V<4294967296^(n+1)) (hV1:4294967296^n<=V):0<Nt.wd V n:=by
 rw[<-Nt.top_word hV];exact Nat.div_pos hV1 (jO (by omega))
theorem Nt.top_le {P V n:Nat} (hP:P<V*4294967296) (hV:V<4294967296^(n+1)) (hPl:P<4294967296^(n+2)):Nt.wd P (n+1)<=Nt.wd V n:=by
 rw[<-Nt.top_word hV,<-Nt.top_word (n:=n+1) hPl];have h3:P/4294967296<=V:=Nat.le_of_lt ((Nat.div_lt_iff_lt_mul (by omega)).2 hP);rw[show (4294967296:Nat)^(n+1)=4294967296*4294967296^n from by rw[jN,jK],<-jR];exact Nat.div_le_div_right h3
theorem Nt.part_lt {P V n:Nat} (hP:P<V*4294967296) (hV:V<4294967296^n):P<4294967296^(n+1):=by
 rw[jN];exact jF hP (Nat.mul_le_mul_right _ (Nat.le_of_lt hV))
theorem Nt.al_bound {a b c:Nat} (h:a<=c) (hb:b<4294967296):a*4294967296+b<=c*4294967296+4294967295:=by omega
theorem Nt.al_max {a b:Nat} (h:a<4294967296) (hb:b<4294967296):a*4294967296+b<18446744073709551616:=by omega
theorem c2m (G p n c1 g c2 P V:Nat) (w:World) (hn:n<=100000) (hP:P<V*4294967296) (hV:V<4294967296^(n+2)) (hV1:4294967296^(n+1)<=V)
  (hB:∀ k,k<n+3->w.cell? ⟨G,p+k,none⟩=some (.int .u32 ((Nt.wd P k:Nat):Int))) (hc:Lm w g (Nt.wds V (n+2))) :
  Cz 261 #[.slice (some ⟨G,p,none⟩) (n+2+1) c1,.slice (some ⟨g,0,none⟩) (n+2) c2] w fun e w' =>
   (∃ q:Nat,e=.returned (.int .u32 (q:Int))/\P/V<=q/\q<=P/V+1/\q<4294967296)/\∃ d,w'=w.drewN d:=by
 have hVp:0<V:=jF (jO (by omega)) hV1;have hPl:P<4294967296^(n+3):=Nt.part_lt hP hV;have tV:=Nt.top2 V n hV;have tP:=Nt.top3 P n hPl;have v0:w.cell? ⟨g,n,none⟩=some (.int .u32 ((Nt.wd V n:Nat):Int)):=by have:=hc n (by rw[Nt.wds_length];omega);rwa [Nt.wds_get] at this
 have v1:w.cell? ⟨g,n+1,none⟩=some (.int .u32 ((Nt.wd V (n+1):Nat):Int)):=by have:=hc (n+1) (by rw[Nt.wds_length];omega);rwa [Nt.wds_get] at this
 have hF:=Nt.top_pos (n:=n+1) hV hV1;have hle:=Nt.top_le (n:=n+1) hP hV hPl;have hl1:=Nt.wd_lt P (n+1);have hq:P/V<4294967296:=by rw[Nat.div_lt_iff_lt_mul hVp,jK];exact hP
 have hx2:=Nt.wd_lt P (n+2)
 exact b8g G p (n+2) (n+1) n c1 g c2 (Nt.wd V (n+1)) (Nt.wd V n) (Nt.wd P n) (Nt.wd P (n+1)) (Nt.wd P (n+2)) (Nt.wd P (n+2)*4294967296+Nt.wd P (n+1)) (P/V) w rfl rfl (by omega)
  (hB n (by omega)) (hB (n+1) (by omega)) (hB (n+2) (by omega)) v0 v1 (Nt.wd_lt _ _) (Nt.wd_lt _ _) (Nt.wd_lt _ _) hl1 hx2 hF
  (a7n _ _ hx2 hl1) (Nt.al_max hx2 hl1) (Nt.al_bound hle hl1)
  (fun g hg h=>Nt.guess_le (g:=g) (n:=n) tV.1 tP.1 tV.2 hF hg h) (fun g h=>Nt.guess_more (g:=g) (n:=n) tV.1 tP.2 hF h) (Nt.guess_first (n:=n) tV.1 tP.2 hF (Nt.wd_lt _ _)) hq
