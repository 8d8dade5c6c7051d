/-
  
  
  
  
-/
import Derived.Test.YtjfkbeanbbeloaaGreatDoorAst43
namespace Go.Proofs.YtjfkbeanbbeloaaGreatDoor
open Go.RowKit
def arG (N:List Sh) (A:List Int) (j:Nat):Int:=(kidsS A (N.getD j default)).length - 1
def d0b (g:Nat→Int) (e:Nat):Nat→Int
 | 0 => 0
 | k+1 => d0b g e k+g (e - 1 - k)
theorem d0e (g:Nat→Int) (e a:Nat):∀ b,d0b g e (a+b)=d0b g e a+d0b g (e - a) b:=by
 intro b
 induction b with
 | zero => simp [d0b]
 | succ b ih => rw [← Nat.add_assoc,d0b,ih,d0b,show e - 1 - (a+b)=e - a - 1 - b by omega];omega
theorem d0r (g:Nat→Int) (i k:Nat):d0b g (i+1) (1+k)=g i+d0b g i k:=by
 rw [d0e];simp [d0b]
theorem d0s {N:List Sh} {A:List Int} {s e:Nat} {l:List Int} (h:Forest N A s l e):d0b (arG N A) e (e - s)=-(l.length:Int)∧∀ k,k < e - s→-(l.length:Int)+1≤d0b (arG N A) e k:=by
 induction h with
 | nil s => rw [Nat.sub_self];exact ⟨rfl,fun k hk => absurd hk (Nat.not_lt_zero k)⟩
 | @snoc s m i l0 h1 h2 hi ho i1 i2 =>
  obtain ⟨a1,a2⟩:=i1;obtain ⟨b1,b2⟩:=i2;have l1:=h1.le;have l2:=h2.le;have hg:arG N A i=((kidsS A (N.getD i default)).length:Int) - 1:=rfl;have hS:d0b (arG N A) (i+1) (1+(i - m))=-1:=by rw [d0r,b1,hg];omega
  have hlen:((l0 ++ [(i:Int)]).length:Int)=l0.length+1:=by simp
  have h0:s < m→1≤(l0.length:Int):=fun hs => by
   cases l0 with
   | nil => have:=h1.end_nil;omega
   | cons c l => rw [List.length_cons];omega
  rw [hlen];constructor
  ·
   rw [show i+1 - s=(1+(i - m))+(m - s) by omega,d0e,hS,show i+1 - (1+(i - m))=m by omega,a1];omega
  ·
   intro k hk
   rcases Nat.eq_zero_or_pos k with rfl | hk0
   ·
    have:(0:Int)≤l0.length:=Int.natCast_nonneg _;simp only [d0b];omega
   ·
    obtain ⟨k,rfl⟩:∃ q,k=1+q:=⟨k - 1,by omega⟩;by_cases hkm:k < i - m
    ·
     rw [d0r,hg];have:=b2 k hkm;have:(0:Int)≤l0.length:=Int.natCast_nonneg _;omega
    ·
     obtain ⟨j,rfl⟩:∃ j,k=(i - m)+j:=⟨k - (i - m),by omega⟩;rw [show 1+(i - m+j)=(1+(i - m))+j by omega,d0e,hS,show i+1 - (1+(i - m))=m by omega];have:=a2 j (by omega);omega
theorem d2q {N:List Sh} {A:List Int} {s e:Nat} {l:List Int} (h:Forest N A s l e):∀ i,s≤i→i < e→∃ s',s≤s'∧s'≤i∧Forest N A s' [(i:Int)] (i+1):=by
 induction h with
 | nil s => intro i h1 h2;omega
 | @snoc s m j l0 h1 h2 hi ho i1 i2 =>
  intro i h3 h4;have l1:=h1.le;have l2:=h2.le;by_cases e1:i=j
  ·
   subst e1;exact ⟨m,l1,l2,Forest.snoc (l:=[]) (.nil m) h2 hi ho⟩
  ·
   by_cases e2:i < m
   ·
    exact i1 i h3 e2
   ·
    obtain ⟨s',q1,q2,q3⟩:=i2 i (by omega) (by omega);exact ⟨s',by omega,q2,q3⟩
def bgF (g:Nat→Int) (L:Nat) (p:Int × Int) (x:Fin L):Int × Int:=if p.2=0 then p else (((L - 1 - x.1:Nat):Int),p.2+g (L - 1 - x.1))
theorem d1l {N:List Sh} {A:List Int} {s L:Nat} (h:Forest N A s [((L - 1:Nat):Int)] L) (k:Nat) (hk:k≤L) (hz:(((List.finRange L).take k).foldl (bgF (arG N A) L) (((L - 1:Nat):Int),1)).2=0 ∨ k=L) :
  (((List.finRange L).take k).foldl (bgF (arG N A) L) (((L - 1:Nat):Int),1)).1=s:=by
 obtain ⟨a1,a2⟩:=d0s h;have hle:=h.le
 have hlt:s < L:=by
  obtain ⟨m,i,_,e2,f1,f2,_⟩:=Forest.last (l:=[]) h;have:=f1.le;have:=f2.le;omega
 simp only [List.length_cons,List.length_nil] at a1 a2
 have hst:=b7p L (bgF (arG N A) L) (fun k => if k < L - s then (if k=0 then ((L - 1:Nat):Int) else ((L - k:Nat):Int),1+d0b (arG N A) L k) else ((s:Int),0)) (fun x => by
  obtain ⟨k,hk⟩:=x;dsimp only;by_cases h1:k < L - s
  ·
   have h3:=a2 k h1;have h2:(1+d0b (arG N A) L k)≠0:=by omega
   rw [if_pos h1];unfold bgF;dsimp only;rw [if_neg h2];by_cases h4:k+1 < L - s
   ·
    rw [if_pos h4,if_neg (by omega),d0b,show L - 1 - k=L - (k+1) by omega,Int.add_assoc]
   ·
    rw [if_neg h4];have h5:L - s=k+1:=by omega
    rw [h5,d0b] at a1;rw [show (1+d0b (arG N A) L k+arG N A (L - 1 - k))=0 by omega,show L - 1 - k=s by omega]
  ·
   rw [if_neg h1,if_neg (by omega)];unfold bgF
   rw [if_pos rfl]) k hk
 rw [if_pos (by omega),if_pos rfl] at hst;simp only [d0b,Int.add_zero] at hst;rw [hst] at hz ⊢;by_cases h1:k < L - s
 ·
  rw [if_pos h1] at hz;have:=a2 k h1;dsimp only at hz
  rcases hz with hz | hz <;> omega
 ·
  rw [if_neg h1]
def clS (N:List Nd):Int:=(N.map fun n => if n.k=9 then n.b else 0).sum
theorem c9x (N M:List Nd):clS (N ++ M)=clS N+clS M:=by unfold clS;rw [List.map_append,List.sum_append]
theorem d0n (n:Nd):clS [n]=if n.k=9 then n.b else 0:=by unfold clS;simp
theorem d1b {N:List Nd} (hb:∀ n ∈ N,n.k=9→0≤n.b):∀ (m:Nat) (x:Int),m≤N.length→a1r (N.map shN) m=some x→x=clS (N.take m):=by
 intro m
 induction m with
 | zero => intro x _ h;exact (Option.some.inj h).symm
 | succ m ih =>
  intro x hm h;obtain ⟨y,hy,_,rfl⟩:=a7r h;rw [ih y (by omega) hy,List.take_succ_eq_append_getElem (by omega),c9x,d0n]
  have e:(N.map shN).getD m default=shN (N[m]'(by omega)):=by
   rw [List.getD_eq_getElem?_getD,List.getElem?_map,List.getElem?_eq_getElem (by omega)];rfl
  rw [e];have hn:=hb (N[m]'(by omega)) (List.getElem_mem _);unfold a0n shN;dsimp only;by_cases h9:(N[m]'(by omega)).k=9
  ·
   have:=hn h9;by_cases h0:0 < (N[m]'(by omega)).b
   ·
    simp [h9,h0]
   ·
    simp [h9,h0];omega
  ·
   simp [h9]
theorem d0o {N:List Nd} (hb:∀ n ∈ N,n.k=9→0≤n.b):0≤clS N:=by
 induction N with
 | nil => exact Int.le_refl 0
 | cons n N ih =>
  have h1:=ih (fun m hm => hb m (List.mem_cons_of_mem _ hm));have h2:=hb n (List.mem_cons_self ..);rw [show n :: N=[n] ++ N from rfl,c9x,d0n]
  split
  ·
   rename_i h9;have:=h2 h9;omega
  ·
   omega
theorem c9t {N:List Nd} {A:List Int} (h:a0w N A=true):Forest (N.map shN) A 0 [((N.length - 1:Nat):Int)] N.length∧(∀ n ∈ N,n.k=9→0≤n.b)∧clS N=A.length:=by
 obtain ⟨s,hr,ht,ha,_⟩:=a3h (a9t (N:=N)) h;have hall:=c0b h;have hb9:=b8z hall;have hb:∀ n ∈ N.map shN,n.k=9→0≤n.b:=a9t (fun i hi => hall i (by simpa using hi));have hl:=a4v h;have hf:=a9a hb (Nat.le_refl _) hr;rw [ht] at hf;have e:(N.map shN).length=N.length:=List.length_map ..;rw [e] at hf hr;refine ⟨?_,fun n hn h9 => (hb9 n hn h9).1,?_⟩
 ·
  have e2:((N.length:Int) - 1)=((N.length - 1:Nat):Int):=by omega
  rw [← e2];exact hf
 ·
  have h1:=d1b (fun n hn h9 => (hb9 n hn h9).1) N.length s.args (Nat.le_refl _) (a9r hr);rw [List.take_length] at h1;rw [← h1,ha]
def c9u (N:List Nd) (A:List Int) (s i:Nat):List Nd × List Int :=
 (((N.take (i+1)).drop s).map (mvN (-(s:Int)) (-(clS (N.take s)))),((A.drop (clS (N.take s)).toNat).take (clS ((N.take (i+1)).drop s)).toNat).map (·+-(s:Int)))
theorem d0h (d:Int) (A:List Int):(A.map (·+d)).map (·+-d)=A:=by
 rw [List.map_map]
 conv => rhs;rw [← List.map_id A]
 exact List.map_congr_left fun n _ => Int.add_neg_cancel_right n d
theorem d1e (N M:List Nd) (A B:List Int):a0u [(N,A),(M,B)]=⟨N ++ M.map (mvN N.length A.length),A ++ B.map (·+(N.length:Int)),[(N.length:Int) - 1,((N.length+M.length:Nat):Int) - 1]⟩:=by
 have e:N.map (mvN 0 0)=N:=by
  conv => rhs;rw [← List.map_id N]
  exact List.map_congr_left fun n _ => d0q n
 have e2:A.map (·+(0:Int))=A:=by
  conv => rhs;rw [← List.map_id A]
  exact List.map_congr_left fun n _ => by simp
 have h1:Jn.nil.next (N,A)=⟨N,A,[(N.length:Int) - 1]⟩:=by
  unfold Jn.next Jn.nil;simp only [List.length_nil,Int.natCast_zero,List.nil_append,Nat.zero_add];rw [Jn.mk.injEq];exact ⟨e,e2,rfl⟩
 show (Jn.nil.next (N,A)).next (M,B)=_;rw [h1];rfl
theorem d0w {N:List Nd} {A:List Int} (h:b2b N A=0):a0w N A=true:=by
 unfold b2b at h
 split at h
 ·
  omega
 ·
  split at h
  ·
   assumption
  ·
   omega
set_option maxHeartbeats 8000000
set_option maxRecDepth 100000
open Go.Shelf
set_option linter.unusedSimpArgs false
set_option linter.unusedVariables false
attribute [local go_sem] Oper.semAt_some
theorem c9y {P:Program} {ops:Array Oper} {Q:Exit→Act→World→Prop} {S:World→Prop} {lr m id:Nat} {a:Act} {w:World} (hm:P.follows .mixedOrders=true) (hS:S w.drew) (hnd:b0p ops.toList=true) (hno : ¬ LetsOut Q)
  (h:S w.drew→wpAnyH P .any ops Q S ops.size (Array.replicate ops.size false) a w.drew):(Code.region id ops true).wpIn (Fence.wide.inRound lr) m P Q a w :=
 wpIn_region_any hm (a8k hnd hno _ _ _ _ (wpAny_of_held _ _ _ _ (h hS)))
theorem c9s {P:Program} {ops:Array Oper} {Q:Exit→Act→World→Prop} {lr m:Nat} (hno : ¬ LetsOut Q):∀ (l:List Oper) (a:Act) (w:World),b0p l=true→wpList P ops Q l a w→wpListIn (Fence.wide.inRound lr) m P ops Q l a w
 | [],_,_,_,h => h
 | o :: l,a,w,hnd,h => by
  unfold wpListIn;unfold wpList at h
  have hn:(∀ c,o.op≠.defer c)∧b0p l=true:=⟨b2w hnd (List.mem_cons_self ..),by
   unfold b0p at hnd ⊢;rw [List.all_cons,Bool.and_eq_true] at hnd;exact hnd.2⟩
  split
  ·
   rename_i hw
   rw [if_pos hw] at h
   rcases h with h | h
   ·
    exact b7n hn.1 (Oper.wp_mono (fun a' w' h' => c9s hno l a' w' hn.2 h') h)
   ·
    exact absurd h.2 hno
  ·
   rename_i hw
   rw [if_neg hw] at h;exact ⟨fun _ _ => trivial,c9s hno l _ _ hn.2 h⟩
def bkE (M:List Nd) (x:Fin M.length):Array Value:=#[.int .i64 ((M.length - 1 - x.1:Nat):Int),ndV (M[M.length - 1 - x.1]'(by have:=x.2;omega))]
def KeepsB (Bs b0:Nat) (A B:World):Prop:=KeepsBox Bs A B∧Below b0 A B
theorem KeepsB.trans {Bs b0:Nat} {A B C:World} (h:KeepsB Bs b0 A B) (k:KeepsB Bs b0 B C):KeepsB Bs b0 A C:=⟨h.1.trans k.1,h.2.trans k.2⟩
theorem d1f {Bs b0:Nat} {w:World} (hb:b0≤w.heap.size) (W:World) (l:Nat) (o o':Obj) (h1:w.heap.size≤l) (h:W.heap[l]?=some o) (ho:o.isCells=false) (hw:o.isWalk=false):KeepsB Bs b0 W (W.putObj l o') :=
 ⟨a9j W l o o' h1 h ho hw,belowK_b hb W l o o' h1 h ho hw⟩
theorem d0p (n:Nat) (bt:Option Addr) (L ct:Nat) (w:World) :
  CallsIn Fence.wide n Tryz.prog 40 #[.slice bt L ct] w fun e w' => e=.returned (.func (.func 66) #[] #[.pointer (some ⟨w.heap.size,0,none⟩)])∧w'=w.alloc (.cells #[.slice bt L ct] 33):=by
 refine callsIn_of_wp Tryz.func40 rfl trivial ?_ rfl;simp only [Tryz.ntmps40,List.size_toArray,List.length_cons,List.length_nil,Nat.reduceAdd,Nat.reduceSub,Array.replicate_succ,Array.replicate_zero,List.push_toArray,List.append_toArray,List.nil_append,List.cons_append]
 gi_wp2
 go_ret
 exact ⟨rfl,rfl⟩
theorem d0i (n:Nat) (hn:1≤n) (l Bs b0:Nat) (M:List Nd) (bn:Option Addr) (cn:Nat) (hl:M.length≤1000) (J Jx:List (Fin M.length)→World→Prop)
  (hY:∀ pre x W,J pre W→pre.length < M.length→YieldAt Fence.wide (n - 1) Tryz.prog l (bkE M x) W fun e W' =>
   (e=.returned (.bool true)∧J (pre ++ [x]) W'∧KeepsB Bs b0 W W') ∨ (e=.returned (.bool false)∧Jx (pre ++ [x]) W'))
  (W:World) (hBs:W.cell? ⟨Bs,0,none⟩=some (.slice bn M.length cn))
  (hcs:∀ (k:Nat) (m:Nd),M[k]?=some m→∃ g o,bn=some ⟨g,o,none⟩∧g < b0∧∀ j u,(ndL m)[j]?=some u→W.cell? ⟨g,o+k * 19+j,none⟩=some u) (h0:J [] W) :
  CallsIn Fence.wide n Tryz.prog 66 #[.func (.yield l) #[] #[],.pointer (some ⟨Bs,0,none⟩)] W fun e W' => (∃ v,e=.returned v) ∧
   ((∃ ys,ys=List.finRange M.length∧J ys W') ∨ (∃ pre,(∃ k,k≤M.length∧pre=(List.finRange M.length).take k)∧Jx pre W')):=by
 obtain ⟨K19,hz19,HK19⟩:=a0q;have HCS:=zh hcs;have HY:=zh hY;have HBS:=zh hBs;have HTK:Hid (∀ k (h:k < M.length),(List.finRange M.length).take (k+1)=(List.finRange M.length).take k ++ [⟨k,h⟩]):=zh (fun k h => b0q h);have HTA:=zh (a7a M.length);have HLT:Hid (∀ k,k < M.length→((List.finRange M.length).take k).length < M.length):=zh (fun k h => by simp;omega);have HEN:Hid (∀ k (h:k < M.length),∃ m,M[M.length - 1 - k]?=some m∧bkE M ⟨k,h⟩=#[.int .i64 ((M.length:Int) - 1 - (k:Int)),ndV m]):=zh (fun k h => ⟨M[M.length - 1 - k]'(by omega),List.getElem?_eq_getElem _,by unfold bkE;dsimp only;rw [show ((M.length - 1 - k:Nat):Int)=(M.length:Int) - 1 - (k:Int) by omega]⟩);obtain ⟨LM,hLM⟩:∃ z,z=M.length:=⟨_,rfl⟩;clear hcs hY hBs;refine callsIn_of_wp Tryz.func66 rfl trivial ?_ rfl;simp only [Tryz.ntmps66,List.size_toArray,List.length_cons,List.length_nil,Nat.reduceAdd,Nat.reduceSub,Array.replicate_succ,Array.replicate_zero,List.push_toArray,List.append_toArray,List.nil_append,List.cons_append];have hb0:=HBS.out
 gi_wp2
 clear hb0
 gi_loopw [3] (fun r wr => ∃ k:Nat,k≤M.length∧r=.int .i64 ((M.length:Int) - 1 - (k:Int))∧J ((List.finRange M.length).take k) wr∧KeepsB Bs b0 W wr) (fun r _ => (intOf r+1).toNat)
 case atStart => exact ⟨0,Nat.zero_le _,by simp,h0,KeepsBox.refl _ _,Below.refl _ _⟩
 case round =>
  obtain ⟨k,hk,rfl,hJs,hnx⟩:=hrel;have hb0:=hnx.1 _ HBS.out;have HNX:=zh hnx;by_cases hlt:k < M.length
  ·
   obtain ⟨m,hm,hen⟩:=HEN.out k hlt;obtain ⟨fn,tmps,assign,body,hy,hR⟩:=HY.out _ ⟨k,hlt⟩ wr hJs (HLT.out k hlt);rw [hen] at hy;obtain ⟨g,o,rfl,hg,hcc⟩:=HCS.out _ m hm;have hix:((M.length:Int) - 1 - (k:Int)).toNat=M.length - 1 - k:=by omega
   have LN:Sem.run Tryz.prog (loadCellsFrom ⟨g,o+(M.length - 1 - k) * K19,none⟩ 0 K19 #[]) wr=.ok #[.int .i64 m.k,.int .i64 m.o,.int .i64 m.a,.int .i64 m.b,.bool m.qn,.string m.qa,.string m.qd,.string m.s,.bool m.tr,.string m.r.sh,.int .i64 m.r.c,.int .i64 m.r.r,.bool m.r.fc,.bool m.r.fr,.string m.t.sh,.int .i64 m.t.c,.int .i64 m.t.r,.bool m.t.fc,.bool m.t.fr] wr:=a0p _ g (o+(M.length - 1 - k) * K19) HK19 m (fun j u hu => by rw [HK19.out];exact (hnx.2.cell (p:=⟨g,_,none⟩) hg).trans (hcc j u hu));have HR:=zh hR;have HTKk:=zh (HTK.out k hlt);have hge:0≤(M.length:Int) - 1 - (k:Int):=by omega
   clear hJs hnx hm hen hR hcc HEN HY HCS
   gi_wp2
   refine HR.out.mono ?_;rintro e W3 (⟨rfl,hJ3,hk3⟩ | ⟨rfl,hJx3⟩)
   ·
    gi_wp2
    go_roundw
    case rel => exact ⟨k+1,by omega,congrArg (Value.int .i64) (by omega),by rw [HTKk.out];exact hJ3,HNX.out.trans hk3⟩
    case measure => simp [intOf];omega
   ·
    gi_wp2
    refine bodyPost_ret (results_none rfl _ _ _) rfl ?_;exact ⟨⟨_,rfl⟩,.inr ⟨_,⟨k+1,by omega,HTKk.out.symm⟩,hJx3⟩⟩
  ·
   obtain rfl:k=M.length:=by omega
   have hneg : ¬ 0≤(M.length:Int) - 1 - (M.length:Int):=by omega
   clear hnx
   gi_wp2
   go_end0
   rw [HTA.out] at hJs;exact ⟨⟨_,rfl⟩,.inl hJs⟩
theorem d0a (n:Nat) (hn:1≤n) (Bs b0:Nat) (M:List Nd) (bn:Option Addr) (cn:Nat) (hl:M.length≤1000) (w:World) (hb:b0≤Bs) (hBs:Bs < w.heap.size)
  (hc:w.cell? ⟨Bs,0,none⟩=some (.slice bn M.length cn))
  (hcs:∀ (k:Nat) (m:Nd),M[k]?=some m→∃ g o,bn=some ⟨g,o,none⟩∧g < b0∧∀ j u,(ndL m)[j]?=some u→w.cell? ⟨g,o+k * 19+j,none⟩=some u) :
  SeqStopsK Fence.wide n Tryz.prog 66 #[.pointer (some ⟨Bs,0,none⟩)] (bkE M) (KeepsB Bs b0) (fun ys => ys=List.finRange M.length)
   (fun pre => ∃ k,k≤M.length∧pre=(List.finRange M.length).take k) M.length w:=fun l J Jx W hW _ _ hY h0 => by
 refine d0i n hn l Bs b0 M bn cn hl J Jx hY W ((hW.cell (p:=⟨Bs,0,none⟩) hBs).trans hc) (fun k m hm => ?_) h0;obtain ⟨g,o,h1,h2,h3⟩:=hcs k m hm;exact ⟨g,o,h1,h2,fun j u hu => (hW.cell (p:=⟨g,o+k * 19+j,none⟩) (by show g < w.heap.size;omega)).trans (h3 j u hu)⟩
def d1p (t0:World) (N:List Nd) (a r:Value) (wr:World):Prop:=∃ (k:Nat) (x:Int),k≤N.length∧r=.int .i64 k∧a=.int .i64 x∧x=clS (N.take k)∧0≤x∧x≤20 * k∧Below t0.heap.size t0 wr
theorem d1g {N:List Nd} {k:Nat} {n:Nd} (h:N[k]?=some n):clS (N.take (k+1))=clS (N.take k)+if n.k=9 then n.b else 0:=by
 obtain ⟨hlt,rfl⟩:=List.getElem?_eq_some_iff.1 h;rw [List.take_succ_eq_append_getElem hlt,c9x,d0n]
theorem d0c (v:Value) (N:List Nd) (w:World) (hN:NodesAt w v N) (hb:∀ n ∈ N,n.k=9→0≤n.b∧n.b≤20) (hl:N.length≤1000) :
  Calls Tryz.prog 26 #[v] w fun e w' => e=.returned (.int .i64 (clS N))∧Below w.heap.size w w':=by
 have hud:undef=Value.tuple #[]:=rfl;obtain ⟨K19,hz19,HK19⟩:=a0q;obtain ⟨R,hR⟩:∃ R,R=clS N:=⟨_,rfl⟩;rw [← hR];obtain ⟨bn,cn,rfl,hN2⟩:=hN.slice;have HNN:=zh hN2;have HGE:Hid (∀ k,k < N.length→∃ n,N[k]?=some n):=fun k h => ⟨_,List.getElem?_eq_getElem h⟩
 have HBB:Hid (∀ (k:Nat) (n:Nd),N[k]?=some n→n.k=9→0≤n.b∧n.b≤20):=fun k n h => hb n (List.mem_of_getElem? h)
 have HR:Hid (clS (N.take N.length)=R):=zh (by rw [hR,List.take_length]);obtain ⟨L,hL⟩:∃ L,L=N.length:=⟨_,rfl⟩;rw [← hL] at HGE HR hl ⊢;have HLL:=zh hL;have HB0:Hid (Below w.heap.size w w):=Below.refl _ _;clear hN hN2 hb hR hL;go_enter Tryz.func26,Tryz.ntmps26;go_wp2_with fail
 go_loopw [3,8] (d1p w N) (fun _ r _ => L - (intOf r).toNat)
 case atStart => exact ⟨0,0,Nat.zero_le _,rfl,rfl,rfl,by omega,by omega,HB0.out⟩
 case round =>
  obtain ⟨k,x,hk,rfl,rfl,hx,hx0,hx1,hBo⟩:=hrel;rw [← HLL.out] at hk;have HX:=zh hx;have HW:=zh hBo;clear hx;by_cases hlt:k < L
  ·
   obtain ⟨n,hn⟩:=HGE.out k hlt;have hb20:=HBB.out k n hn;have HNX:=zh (d1g hn);obtain ⟨gn,on,rfl,hcn⟩:=HNN.out k n hn;have LN:=a0p wr gn (on+k * K19) HK19 n (fun j u hu => by rw [HK19.out];exact a0f hBo (hcn j u hu) (a0j (hcn j u hu)));clear hcn hn
   go_upto_region 5 with (refine a0c rfl _ _ rfl rfl _ _ _ rfl rfl rfl (by rfl) (by rfl) (by rfl) ?_)
   obtain ⟨s1,hws⟩:∃ s,s=(wr.alloc (.cells #[.int .i64 n.k,.int .i64 n.o,.int .i64 n.a,.int .i64 n.b,.bool n.qn,.string n.qa,.string n.qd,.string n.s,.bool n.tr,.string n.r.sh,.int .i64 n.r.c,.int .i64 n.r.r,.bool n.r.fc,.bool n.r.fr,.string n.t.sh,.int .i64 n.t.c,.int .i64 n.t.r,.bool n.t.fc,.bool n.t.fr] 30)):=⟨_,rfl⟩;have hBs:=bs1 hBo hws;obtain ⟨X,hdX⟩:∃ b,b=wr.heap.size:=⟨_,rfl⟩;have hUp:Below wr.heap.size wr s1:=by rw [hws];exact (a0i (Below.refl _ _))
   have hAX:wr.heap.size≤X:=by omega
   have hsz:s1.heap.size=wr.heap.size+1:=by rw [hws];simp
   have yX:=by0 (b:=X) hws hdX;have zX:X < s1.heap.size:=by omega
   have lX:w.heap.size≤X:=by have:=hBo.size;omega
   have LX:=eqL (P:=Tryz.prog) HK19 rfl yX;rw [← hws];try rw [← hdX]
   clear hBo;clear hws hsz hdX;have hBo:=hBs;clear hBs;clear LN hUp;have HW3:=zh hBo;by_cases h9:n.k=9
   ·
    have g9:(n.k == 9)=true:=by simpa using h9
    obtain ⟨h20,h21⟩:=hb20 h9;have HNX2:Hid (x+n.b=clS (N.take (k+1))):=zh (by rw [HNX.out,if_pos h9,HX.out]);clear h9 hb20;go_wp2_with fail
    go_roundw
    case rel => exact ⟨k+1,x+n.b,by rw [← HLL.out];omega,by go_num,rfl,HNX2.out,by omega,by omega,HW3.out⟩
    case measure => simp [intOf];omega
   ·
    have g9:(n.k == 9)=false:=by simpa using h9
    have HNX2:Hid (x=clS (N.take (k+1))):=zh (by rw [HNX.out,if_neg h9,HX.out];omega);clear h9 hb20;go_wp2_with fail
    go_roundw
    case rel => exact ⟨k+1,x,by rw [← HLL.out];omega,by go_num,rfl,HNX2.out,by omega,by omega,HW3.out⟩
    case measure => simp [intOf];omega
  ·
   obtain rfl:k=L:=by omega
   have HE:Hid (x=R):=zh (HX.out.trans HR.out);go_wp2_with fail
   go_ret
   exact ⟨a1c HE.out,HW.out⟩
attribute [local go_sem] Oper.semAt_some
theorem d1h {g:Nat→Int} (hg:∀ j,-1≤g j∧g j≤1000) {L:Nat} : ∀ (pre:List (Fin L)) (p:Int × Int),p.2 - pre.length≤(pre.foldl (bgF g L) p).2∧(pre.foldl (bgF g L) p).2≤p.2+1000 * pre.length:=by
 intro pre
 induction pre with
 | nil => intro p;simp
 | cons x pre ih =>
  intro p;obtain ⟨h1,h2⟩:=ih (bgF g L p x)
  have h3:p.2 - 1≤(bgF g L p x).2∧(bgF g L p x).2≤p.2+1000:=by
   unfold bgF
   split
   ·
    omega
   ·
    have:=hg (L - 1 - x.1);dsimp only;omega
  rw [List.foldl_cons,List.length_cons];omega
theorem d0d {W0:World} {bn:Option Addr} {cn:Nat} {N:List Nd} (h:NodesAt W0 (.slice bn N.length cn) N) {b:Nat} (hb:b≤N.length) :
  (∀ W,Sem.run Tryz.prog (Instr.slice 33 (.slice bn N.length cn) none (some (.int .i64 (b:Int))) none) W=.ok (.slice bn b cn) W)∧NodesAt W0 (.slice bn b cn) (N.take b):=by
 rcases h with ⟨hv,rfl⟩ | ⟨g,o,cap,hv,h1,h2,hc⟩
 ·
  obtain ⟨rfl,rfl⟩:bn=none∧cn=0:=by simpa using hv
  obtain rfl:b=0:=by simpa using hb
  exact ⟨fun W => by simp [go_sem],Or.inl ⟨rfl,rfl⟩⟩
 ·
  obtain ⟨rfl,rfl⟩:bn=some ⟨g,o,none⟩∧cn=cap:=by simpa using hv
  have hbc:(b:Int)≤cn:=by omega
  refine ⟨fun W => ?_,Or.inr ⟨g,o,cn,by rw [List.length_take,Nat.min_eq_left hb],by rw [List.length_take];omega,h2,fun k n hk j u hu => ?_⟩⟩
  ·
   have he:(if cn=0 then some (⟨g,o,none⟩:Addr) else (some (⟨g,o,none⟩:Addr)).map (fun a => a.add 0))=some ⟨g,o,none⟩:=by simp [Addr.add_lit]
   simp [go_sem,hbc,Addr.add_lit]
  ·
   rw [List.getElem?_take] at hk
   split at hk
   ·
    exact hc k n hk j u hu
   ·
    cases hk
theorem c9r {W:World} {g K:Nat} (hK:Hid (K=19)) {n:Nd} (h:Blk W g 30 (ndL n).toArray):Sem.run Tryz.prog (loadCellsFrom ⟨g,0,none⟩ 0 K #[]) W=.ok #[.int .i64 n.k,.int .i64 n.o,.int .i64 n.a,.int .i64 n.b,.bool n.qn,.string n.qa,.string n.qd,.string n.s,.bool n.tr,.string n.r.sh,.int .i64 n.r.c,.int .i64 n.r.r,.bool n.r.fc,.bool n.r.fr,.string n.t.sh,.int .i64 n.t.c,.int .i64 n.t.r,.bool n.t.fc,.bool n.t.fr] W:=a3o hK n h
def BgI (w:World) (g:Nat→Int) (L:Nat) (u v sv:Value) (pre:List (Fin L)) (W:World):Prop :=
 (Blk W w.heap.size 36 #[u,v]∧Blk W (w.heap.size+1) 3 #[.int .i64 (pre.foldl (bgF g L) (((L - 1:Nat):Int),1)).1]∧Blk W (w.heap.size+1+1) 3 #[.int .i64 (pre.foldl (bgF g L) (((L - 1:Nat):Int),1)).2]∧Blk W (w.heap.size+1+1+1) 33 #[sv])∧Below w.heap.size w W
theorem d0f {α:Type} (B:Nat) (t:TypeId) (f:List α→Array Value):Own (fun pre W => Blk W B t (f pre)):=fun _ _ _ _ hs hg hr => hs.turned hg hr
theorem BgI.own (w:World) (g:Nat→Int) (L:Nat) (u v sv:Value) (B:Nat) (hB:w.heap.size≤B):OwnFrom B (BgI w g L u v sv) :=
 OwnFrom.and (OwnFrom.and (Own.from (d0f _ _ _) _) (OwnFrom.and (Own.from (d0f _ _ _) _) (OwnFrom.and (Own.from (d0f _ _ _) _) (Own.from (d0f _ _ _) _)))) (ownFrom_below (Nat.le_refl _) hB)
theorem d0x (u v:Value) (N:List Nd) (A:List Int) (i s:Nat) (w:World) (hN:NodesAt w u N) (hA:IntsAt w v A) (hi:i < N.length) (hl2:N.length≤1000) (hl:A.length≤1000)
  (hok:∀ n ∈ N,kidsOk A (shN n)∧(n.k=9→0≤n.b∧(n.b=0→n.a=0))) (hF:Forest (N.map shN) A s [(i:Int)] (i+1)) :
  Calls Tryz.prog 25 #[.agg #[u,v],.int .i64 (i:Int)] w fun e w' => e=.returned (.int .i64 (s:Int))∧Below w.heap.size w w':=by
 obtain ⟨K19,hz19,HK19⟩:=a0q;obtain ⟨bn,cn,rfl,hcs⟩:=hN.slice;obtain ⟨bv,cv,rfl,_⟩:=hA.slice;obtain ⟨hsv,hNM⟩:=d0d hN (b:=i+1) (by omega);obtain ⟨M,hM⟩:∃ M,M=N.take (i+1):=⟨_,rfl⟩;have hML:M.length=i+1:=by rw [hM,List.length_take];omega
 rw [← hM] at hNM
 have hMN:∀ k n,M[k]?=some n→N[k]?=some n:=fun k n h => by
  rw [hM,List.getElem?_take] at h
  split at h
  ·
   exact h
  ·
   cases h
 have hcs2:∀ (k:Nat) (m:Nd),M[k]?=some m→∃ g o,bn=some ⟨g,o,none⟩∧g < w.heap.size∧∀ j u,(ndL m)[j]?=some u→w.cell? ⟨g,o+k * 19+j,none⟩=some u:=fun k m h => by
  obtain ⟨g,o,h1,h2⟩:=hcs k m (hMN k m h);exact ⟨g,o,h1,a0j (h2 0 _ rfl),h2⟩
 have hfin:∀ k,k≤M.length→(((List.finRange M.length).take k).foldl (bgF (arG (N.map shN) A) M.length) (((M.length - 1:Nat):Int),1)).2=0 ∨ k=M.length→(((List.finRange M.length).take k).foldl (bgF (arG (N.map shN) A) M.length) (((M.length - 1:Nat):Int),1)).1=s:=fun k hk h => by
  refine d1l ?_ k hk h;rw [hML];exact hF
 have hgb:∀ j,-1≤arG (N.map shN) A j∧arG (N.map shN) A j≤1000:=fun j => by
  have:=a3i (A:=A) ((N.map shN).getD j default) hl;unfold arG;omega
 have hbd:=fun (pre:List (Fin M.length)) => d1h hgb pre (((M.length - 1:Nat):Int),1)
 have hx:∀ x:Fin M.length,∃ n,bkE M x=#[.int .i64 ((M.length - 1 - x.1:Nat):Int),ndV n]∧arG (N.map shN) A (M.length - 1 - x.1)=((kidsS A (shN n)).length:Int) - 1 ∧
   ∀ W,IntsAt W (.slice bv A.length cv) A→Calls Tryz.prog 41 #[.agg #[.slice bn N.length cn,.slice bv A.length cv],ndV n] W (b5j A (shN n) (.slice bv A.length cv) W):=fun x => by
  have hj:M.length - 1 - x.1 < M.length:=by have:=x.2;omega
  have hn:N[M.length - 1 - x.1]?=some (M[M.length - 1 - x.1]'hj):=hMN _ _ (List.getElem?_eq_getElem hj);obtain ⟨o1,o2⟩:=hok _ (List.mem_of_getElem? hn);refine ⟨M[M.length - 1 - x.1]'hj,rfl,?_,fun W hW => a5p _ _ A _ W hW o1 o2 hl⟩
  unfold arG;rw [List.getD_eq_getElem?_getD,List.getElem?_map,hn];rfl
 have HX:=zh hx;have HBD:=zh hbd;have HFIN:=zh hfin;have HKL:=zh (fun n => a3i (A:=A) n hl);have HAI:=zh hA;have HS:=zh (fun n hn w' hb hBs hc hcs' => d0a n hn (w.heap.size+1+1+1) w.heap.size M bn cn (by omega) w' hb hBs hc hcs');have HCS:=zh hcs2;generalize arG (N.map shN) A=ar at *;obtain ⟨L,hL⟩:∃ L,L=N.length:=⟨_,rfl⟩;rw [← hL] at hsv hi hl2 HX ⊢;obtain ⟨K,hK⟩:∃ K,K=A.length:=⟨_,rfl⟩;rw [← hK] at HX HAI ⊢;rw [← hML] at hsv;have hi1:(i:Int)=((M.length - 1:Nat):Int):=by omega
 have hM1:1≤M.length:=by omega
 have hM2:M.length≤1000:=by omega
 have hsv2:∀ W,Sem.run Tryz.prog (Instr.slice 33 (.slice bn L cn) none (some (.int .i64 (((M.length - 1:Nat):Int)+1))) none) W=.ok (.slice bn M.length cn) W:=fun W => by
  have:=hsv W
  rwa [show ((M.length:Nat):Int)=((M.length - 1:Nat):Int)+1 by omega] at this
 rw [hi1];obtain ⟨p,hp⟩:∃ p,p=M.length - 1:=⟨_,rfl⟩;have hIown:=fun B hB => BgI.own w ar M.length (.slice bn L cn) (.slice bv K cv) (.slice bn M.length cn) B hB
 clear hN hA hcs hF hok hMN hcs2 hfin hgb hbd hx hsv hNM hM hL hK hi hl hl2;rw [← hp] at hsv2 ⊢;refine (callsIn_wide (n:=3)).1 ?_;refine callsIn_of_wp_marks Tryz.func25 rfl trivial ?_ rfl;simp only [Tryz.ntmps25,List.size_toArray,List.length_cons,List.length_nil,Nat.reduceAdd,Nat.reduceSub,Array.replicate_succ,Array.replicate_zero,List.push_toArray,List.append_toArray,List.nil_append,List.cons_append];have hp2:p≤1000:=by omega
 have HPP:=zh hp;clear hp hi1 hML
 gi_wp2_with (refine ⟨trivial,?_⟩;gi_at_call 40;refine (d0p _ _ _ _ _).mono ?_;rintro e w' ⟨rfl,rfl⟩)
 obtain ⟨wa,hwa⟩:∃ x,x=w.alloc (.cells #[.slice bn L cn,.slice bv K cv] 36):=⟨_,rfl⟩;obtain ⟨wb,hwb⟩:∃ x,x=wa.alloc (.cells #[.int .i64 (p:Int)] 3):=⟨_,rfl⟩;obtain ⟨wc,hwc⟩:∃ x,x=wb.alloc (.cells #[.int .i64 1] 3):=⟨_,rfl⟩;obtain ⟨wd,hwd⟩:∃ x,x=wc.alloc (.cells #[.slice bn M.length cn] 33):=⟨_,rfl⟩;have za:wa.heap.size=w.heap.size+1:=by rw [hwa,World.size_alloc]
 have zb':wb.heap.size=w.heap.size+1+1:=by rw [hwb,World.size_alloc,za]
 have zc:wc.heap.size=w.heap.size+1+1+1:=by rw [hwc,World.size_alloc,zb']
 have zd:wd.heap.size=w.heap.size+1+1+1+1:=by rw [hwd,World.size_alloc,zc]
 have k1:=Blk.new w 36 #[.slice bn L cn,.slice bv K cv];rw [← hwa] at k1;have k2:=Blk.new wa 3 #[.int .i64 (p:Int)];rw [← hwb,za] at k2;have k3:=Blk.new wb 3 #[.int .i64 1];rw [← hwc,zb'] at k3;have k4:=Blk.new wc 33 #[.slice bn M.length cn];rw [← hwd,zc] at k4;have k1d:Blk wd w.heap.size 36 #[.slice bn L cn,.slice bv K cv]:=by rw [hwd,hwc,hwb];exact ((k1.alloc _).alloc _).alloc _
 have k2d:Blk wd (w.heap.size+1) 3 #[.int .i64 (p:Int)]:=by rw [hwd,hwc];exact (k2.alloc _).alloc _
 have k3d:Blk wd (w.heap.size+1+1) 3 #[.int .i64 1]:=by rw [hwd];exact k3.alloc _
 have b1:Below w.heap.size w wa:=by rw [hwa];exact (Below.refl _ w).alloc (Nat.le_refl _) _
 have b2:Below w.heap.size w wb:=by rw [hwb];exact b1.alloc b1.size _
 have b3:Below w.heap.size w wc:=by rw [hwc];exact b2.alloc b2.size _
 have b4:Below w.heap.size w wd:=by rw [hwd];exact b3.alloc b3.size _
 have hseq:=HS.out 2 (by omega) wd (by omega) (by omega) (k4.cell 0) (fun k m hk => by
  obtain ⟨g,o,h1,h2,h3⟩:=HCS.out k m hk
  exact ⟨g,o,h1,h2,fun j u hu => (b4.cell (p:=⟨g,o+k * 19+j,none⟩) h2).trans (h3 j u hu)⟩)
 have hI0:BgI w ar M.length (.slice bn L cn) (.slice bv K cv) (.slice bn M.length cn) [] wd:=⟨⟨k1d,by rw [HPP.out] at k2d;exact k2d,k3d,k4⟩,b4⟩;rw [← hwa,← hwb,← hwc,← hwd];clear k1 k2 k3 k4 k1d k2d k3d b1 b2 b3 b4 za zb' zc hwa hwb hwc hwd HCS HS
 refine wpIn_rangeFunc_ownH rfl (by omega) (gf:=66) (lb:=#[.pointer (some ⟨w.heap.size+1+1+1,0,none⟩)]) rfl trivial (enters_of Tryz.func66 (by kernel_rfl) rfl)
  hseq KeepsB.trans (d1f (by omega)) (Below.refl _ _) (fun _ => rfl)
  (BgI w ar M.length (.slice bn L cn) (.slice bv K cv) (.slice bn M.length cn))
  (fun c pre W => c=.exit 0∧(pre.foldl (bgF ar M.length) (((M.length - 1:Nat):Int),1)).2=0∧BgI w ar M.length (.slice bn L cn) (.slice bv K cv) (.slice bn M.length cn) pre W)
  (hIown _ (by omega)) (fun c => OwnFrom.and (ownFrom_pure _ _) (OwnFrom.and (ownFrom_pure _ _) (hIown _ (by omega)))) hI0
  (fun x a' W => ∃ n g,ar (M.length - 1 - x.1)=((kidsS A (shN n)).length:Int) - 1∧(∀ W,IntsAt W (.slice bv K cv) A→Calls Tryz.prog 41 #[.agg #[.slice bn L cn,.slice bv K cv],ndV n] W (b5j A (shN n) (.slice bv K cv) W))∧a'={ tmps:=#[.agg #[.slice bn L cn,.slice bv K cv],.int .i64 (p:Int),.pointer (some ⟨w.heap.size,0,none⟩),undef,.int .i64 0,.pointer (some ⟨w.heap.size+1,0,none⟩),.pointer (some ⟨w.heap.size+1+1,0,none⟩),.int .i64 ((M.length - 1 - x.1:Nat):Int),.pointer (some ⟨g,0,none⟩),.int .i64 (p:Int),.pointer (some ⟨w.heap.size,0,none⟩),.slice bn L cn,.int .i64 (p:Int),.int .i64 ((p:Int)+1),.slice bn M.length cn,.func (.func 66) #[] #[.pointer (some ⟨w.heap.size+1+1+1,0,none⟩)],.int .i64 ((M.length - 1 - x.1:Nat):Int),ndV n,undef,undef,undef,undef,undef,undef,undef,undef,undef,undef,undef],defers:=[] }∧Blk W g 30 (ndL n).toArray∧w.heap.size+1+1+1+1≤g)
  (fun x a' s X Y row ⟨n,g,h0,h1,h2,h3,h4⟩ hg hr => ⟨n,g,h0,h1,h2,h3.turned hg (fun r e => (hr r e).2),h4⟩) ?assign ?body ?done ?stop
 case assign =>
  clear hseq hI0 hIown;intro l pre x W K' hi hK;obtain ⟨n,hbk,har,hkid⟩:=HX.out x;rw [hbk];dsimp only;have hbW:=hi.2;obtain ⟨⟨q1,q2,q3,q4⟩,_⟩:=hi;have HKID:=zh hkid;clear hkid
  gi_wp2_with (refine c9s (fun ⟨_,_,hf⟩ => hf) _ _ _ (by kernel_rfl) ?_;go_wp2_with (refine a0c rfl _ _ rfl rfl _ _ _ rfl rfl rfl (by rfl) (by rfl) (by rfl) ?_))
  refine hK _ _ (KeepsFrom.of_grownBy (World.grownBy_alloc W _ none) (fun j e => by cases e)) ⟨fun v hv => a0b hv,(Below.refl _ _).alloc hbW.size _⟩ ⟨⟨q1.alloc _,q2.alloc _,q3.alloc _,q4.alloc _⟩,hbW.alloc hbW.size _⟩ ⟨n,W.heap.size,har,HKID.out,rfl,Blk.new W _ _,?_⟩;have:=q4.lt;omega
 case body =>
  clear hseq hI0 hIown;rintro l pre x a' W _ _ hi ⟨n,g,har,hkid,rfl,hnb,hg⟩ hlt;obtain ⟨⟨q1,q2,q3,q4⟩,hbW⟩:=hi;obtain ⟨⟨f,wn⟩,hst⟩:∃ st,st=pre.foldl (bgF ar M.length) (((M.length - 1:Nat):Int),1):=⟨_,rfl⟩;have hfold:(pre ++ [x]).foldl (bgF ar M.length) (((M.length - 1:Nat):Int),1)=bgF ar M.length (f,wn) x:=by rw [List.foldl_append,← hst];rfl
  obtain ⟨d1,d2⟩:=HBD.out pre;rw [← hst] at q2 q3 d1 d2;dsimp only at q2 q3 d1 d2;have HFO:=zh hfold;have HKID:=zh hkid;have HAR:=zh har;have Q1:=zh q1;have Q2:=zh q2;have Q3:=zh q3;have Q4:=zh q4;have QN:=zh hnb;have HBW:=zh hbW;have c3:=q3.cell 0;simp only [List.getElem?_toArray,List.getElem?_cons_zero] at c3;have z4:=q4.lt;clear hfold hst hkid har q1 q2 q3 q4 hnb hbW;by_cases h0:wn=0
  ·
   subst h0
   gi_wp2
   refine ⟨KeepsFrom.refl _ _,rfl,?_,⟨⟨Q1.out,?_,?_,Q4.out⟩,HBW.out⟩⟩
   ·
    rw [HFO.out];unfold bgF;rw [if_pos rfl]
   ·
    rw [HFO.out];unfold bgF;rw [if_pos rfl];exact Q2.out
   ·
    rw [HFO.out];unfold bgF;rw [if_pos rfl];exact Q3.out
  ·
   have hb:(wn == 0)=false:=by simpa using h0
   obtain ⟨j,hj⟩:∃ j,j=M.length - 1 - x.1:=⟨_,rfl⟩;have HJ:=zh hj;rw [← hj];have f2:=Q2.out.frozen 0;have c2:=Q2.out.cell 0;have f3:=Q3.out.frozen 0;simp only [List.getElem?_toArray,List.getElem?_cons_zero] at c2;clear hj;have z1:=Q1.out.lt;have z2:=Q2.out.lt;have z3:=Q3.out.lt;have zg:=QN.out.lt
   gi_wp2
   obtain ⟨W2,hW2⟩:∃ z,z=W.setCell ⟨w.heap.size+1,0,none⟩ (.int .i64 (j:Int)):=⟨_,rfl⟩;have R1:Blk W2 w.heap.size 36 #[.slice bn L cn,.slice bv K cv]:=by rw [hW2];exact Q1.out.far (by show w.heap.size≠w.heap.size+1;omega) _
   have R2:Blk W2 (w.heap.size+1) 3 #[.int .i64 (j:Int)]:=by rw [hW2];exact Q2.out.put 0 _
   have R3:Blk W2 (w.heap.size+1+1) 3 #[.int .i64 wn]:=by rw [hW2];exact Q3.out.far (by show w.heap.size+1+1≠w.heap.size+1;omega) _
   have R4:Blk W2 (w.heap.size+1+1+1) 33 #[.slice bn M.length cn]:=by rw [hW2];exact Q4.out.far (by show w.heap.size+1+1+1≠w.heap.size+1;omega) _
   have RN:Blk W2 g 30 (ndL n).toArray:=by rw [hW2];exact QN.out.far (by show g≠w.heap.size+1;omega) _
   have RK:KeepsFrom wd.heap.size W W2:=by rw [hW2];exact KeepsFrom.of_grownBy (grownBy_setCell' W _ _) (fun j e => by cases e;omega)
   have RB:Below w.heap.size W W2:=by rw [hW2];exact (Below.refl _ _).setCell (by show w.heap.size≤w.heap.size+1;omega) _
   have hBo:Below w.heap.size w W2:=HBW.out.trans RB;have zW:W2.heap.size=W.heap.size:=by rw [hW2];simp
   rw [← hW2];clear hW2 f2 c2;have c3:=R3.cell 0;have f3:=R3.frozen 0;have kF0:=R1.cell 0;have kF1:=R1.cell 1;simp only [List.getElem?_toArray,List.getElem?_cons_zero,List.getElem?_cons_succ] at c3 kF0 kF1;have LX:=c9r HK19 RN;have y1:w.heap.size < W2.heap.size:=by omega
   have y3:w.heap.size+1+1 < W2.heap.size:=by omega
   have yg:g < W2.heap.size:=by omega
   have P1:=zh R1;have P2:=zh R2;have P3:=zh R3;have P4:=zh R4;have PK:=zh RK;have PB:=zh RB;have PW:=zh hBo;have hkl:=HKL.out (shN n);have y2:w.heap.size+1 < W2.heap.size:=by omega
   have y4:w.heap.size+1+1+1 < W2.heap.size:=by omega
   clear R1 R2 R3 R4 RK RB z1 z2 z3 z4 zg zW Q1 Q2 Q3 QN;obtain ⟨ks,hks⟩:∃ z,z=(kidsS A (shN n)).length:=⟨_,rfl⟩;rw [← hks] at hkl;have HKS:=zh hks;clear hks;have hw1:IntKind.i64.wrap ((ks:Int) - 1)=(ks:Int) - 1:=IntWalk.i64_in _ (by omega);have hw2:IntKind.i64.wrap (wn+((ks:Int) - 1))=wn+((ks:Int) - 1):=IntWalk.i64_in _ (by omega);have HF:Hid (∀ W,Below W2.heap.size W2 W→Below w.heap.size w W):=fun W hW => hBo.trans (hW.mono hBo.size)
   clear hBo;refine c9y (S:=fun w' => w'.cell? ⟨w.heap.size,0,none⟩=some (.slice bn L cn)∧w'.cell? ⟨w.heap.size,1,none⟩=some (.slice bv K cv)∧Sem.run Tryz.prog (loadCellsFrom ⟨g,0,none⟩ 0 K19 #[]) w'=.ok #[.int .i64 n.k,.int .i64 n.o,.int .i64 n.a,.int .i64 n.b,.bool n.qn,.string n.qa,.string n.qd,.string n.s,.bool n.tr,.string n.r.sh,.int .i64 n.r.c,.int .i64 n.r.r,.bool n.r.fc,.bool n.r.fr,.string n.t.sh,.int .i64 n.t.c,.int .i64 n.t.r,.bool n.t.fc,.bool n.t.fr] w') (by kernel_rfl) (by ((try dsimp only);((repeat' apply And.intro) <;> first | assumption | exact kF0 | exact kF1 | exact LX | exact c9r HK19 RN.drew | exact kF0x | exact kF1x | exact LXx | exact a0e kF0x (by dsimp only;omega) | exact a0e kF1x (by dsimp only;omega) | exact c9r HK19 (RNx.far (p:=⟨w.heap.size+1+1,0,none⟩) (by show g≠w.heap.size+1+1;omega) _) | go_keep | (rw [hcx _ _ (by assumption)];assumption)))) (by kernel_rfl) (fun ⟨_,_,hf⟩ => hf) (fun hHeld => ?_)
   refine tk 1 ?_;try simp only [pz]
   refine tk 2 ?_;try simp only [pz]
   refine wpAnyH_ready (rs:=[0,3]) (by kernel_rfl) (by simp) ?_;refine AllReadyH.cons rfl (fun K hK => ?_) (AllReadyH.cons rfl (fun K hK => ?_) AllReadyH.nil)
   focus
    go_simp;try (go_wp2_with fail)
    refine hK.out _ _ (by ((try dsimp only);((repeat' apply And.intro) <;> first | assumption | exact kF0 | exact kF1 | exact LX | exact c9r HK19 RN.drew | exact kF0x | exact kF1x | exact LXx | exact a0e kF0x (by dsimp only;omega) | exact a0e kF1x (by dsimp only;omega) | exact c9r HK19 (RNx.far (p:=⟨w.heap.size+1+1,0,none⟩) (by show g≠w.heap.size+1+1;omega) _) | go_keep | (rw [hcx _ _ (by assumption)];assumption)))) (fun hHeld => ?_)
    clear hK K;try simp only [pz]
    refine rd1 3 (by kernel_rfl) rfl fun K hK => ?_
    go_simp
    (go_at_call 41;refine (HKID.out _ (HAI.out.below (PW.out.drew))).mono ?_;rintro e x1 ⟨⟨r,rfl,hr,_⟩,hbx⟩;obtain ⟨br,cr,rfl,_⟩:=hr.slice;rw [← HKS.out];have hTq:Below W2.heap.size W2 x1:=bHb hbx;have kF0x:=a0f hTq kF0 y1;have kF1x:=a0f hTq kF1 y1;have c3x:=a0f hTq c3 y3;have f3x:=a0g hTq f3 y3;have RNx:=Blk.below RN hTq yg;have LXx:=c9r HK19 RNx;have hTQ:=zh hTq;have hTx:Below W2.heap.size W2 x1:=bHb hbx;obtain ⟨hcx,hfx⟩:=a0k hTx)
    try (go_wp2_with fail)
    refine hK.out _ _ (by ((try dsimp only);((repeat' apply And.intro) <;> first | assumption | exact kF0 | exact kF1 | exact LX | exact c9r HK19 RN.drew | exact kF0x | exact kF1x | exact LXx | exact a0e kF0x (by dsimp only;omega) | exact a0e kF1x (by dsimp only;omega) | exact c9r HK19 (RNx.far (p:=⟨w.heap.size+1+1,0,none⟩) (by show g≠w.heap.size+1+1;omega) _) | go_keep | (rw [hcx _ _ (by assumption)];assumption)))) (fun hHeld => ?_)
    clear hK K;try simp only [pz]
    refine tk 4 ?_;try simp only [pz]
    refine tk 5 ?_;try simp only [pz]
    refine tk 6 ?_;try simp only [pz]
    refine rd1 7 (by kernel_rfl) rfl fun K hK => ?_
    go_simp;try (go_wp2_with fail)
    refine hK.out _ _ (by ((try dsimp only);((repeat' apply And.intro) <;> first | assumption | exact kF0 | exact kF1 | exact LX | exact c9r HK19 RN.drew | exact kF0x | exact kF1x | exact LXx | exact a0e kF0x (by dsimp only;omega) | exact a0e kF1x (by dsimp only;omega) | exact c9r HK19 (RNx.far (p:=⟨w.heap.size+1+1,0,none⟩) (by show g≠w.heap.size+1+1;omega) _) | go_keep | (rw [hcx _ _ (by assumption)];assumption)))) (fun hHeld => ?_)
    clear hK K;try simp only [pz]
   rotate_left 1
   focus
    go_simp
    (go_at_call 41;refine (HKID.out _ (HAI.out.below (PW.out.drew))).mono ?_;rintro e x1 ⟨⟨r,rfl,hr,_⟩,hbx⟩;obtain ⟨br,cr,rfl,_⟩:=hr.slice;rw [← HKS.out];have hTq:Below W2.heap.size W2 x1:=bHb hbx;have kF0x:=a0f hTq kF0 y1;have kF1x:=a0f hTq kF1 y1;have c3x:=a0f hTq c3 y3;have f3x:=a0g hTq f3 y3;have RNx:=Blk.below RN hTq yg;have LXx:=c9r HK19 RNx;have hTQ:=zh hTq;have hTx:Below W2.heap.size W2 x1:=bHb hbx;obtain ⟨hcx,hfx⟩:=a0k hTx)
    try (go_wp2_with fail)
    refine hK.out _ _ (by ((try dsimp only);((repeat' apply And.intro) <;> first | assumption | exact kF0 | exact kF1 | exact LX | exact c9r HK19 RN.drew | exact kF0x | exact kF1x | exact LXx | exact a0e kF0x (by dsimp only;omega) | exact a0e kF1x (by dsimp only;omega) | exact c9r HK19 (RNx.far (p:=⟨w.heap.size+1+1,0,none⟩) (by show g≠w.heap.size+1+1;omega) _) | go_keep | (rw [hcx _ _ (by assumption)];assumption)))) (fun hHeld => ?_)
    clear hK K;try simp only [pz]
    refine tk 4 ?_;try simp only [pz]
    refine tk 5 ?_;try simp only [pz]
    refine rd1 0 (by kernel_rfl) rfl fun K hK => ?_
    go_simp;try (go_wp2_with fail)
    refine hK.out _ _ (by ((try dsimp only);((repeat' apply And.intro) <;> first | assumption | exact kF0 | exact kF1 | exact LX | exact c9r HK19 RN.drew | exact kF0x | exact kF1x | exact LXx | exact a0e kF0x (by dsimp only;omega) | exact a0e kF1x (by dsimp only;omega) | exact c9r HK19 (RNx.far (p:=⟨w.heap.size+1+1,0,none⟩) (by show g≠w.heap.size+1+1;omega) _) | go_keep | (rw [hcx _ _ (by assumption)];assumption)))) (fun hHeld => ?_)
    clear hK K;try simp only [pz]
    refine tk 6 ?_;try simp only [pz]
    refine rd1 7 (by kernel_rfl) rfl fun K hK => ?_
    go_simp;try (go_wp2_with fail)
    refine hK.out _ _ (by ((try dsimp only);((repeat' apply And.intro) <;> first | assumption | exact kF0 | exact kF1 | exact LX | exact c9r HK19 RN.drew | exact kF0x | exact kF1x | exact LXx | exact a0e kF0x (by dsimp only;omega) | exact a0e kF1x (by dsimp only;omega) | exact c9r HK19 (RNx.far (p:=⟨w.heap.size+1+1,0,none⟩) (by show g≠w.heap.size+1+1;omega) _) | go_keep | (rw [hcx _ _ (by assumption)];assumption)))) (fun hHeld => ?_)
    clear hK K;try simp only [pz]
   rotate_left 1
   all_goals
    refine wpAnyH_done (by kernel_rfl) ?_ _;obtain ⟨We,hWe⟩:∃ z,z=World.setCell x1 ⟨w.heap.size+1+1,0,none⟩ (.int .i64 (wn+((ks:Int) - 1))):=⟨_,rfl⟩;have E1:Blk We w.heap.size 36 #[.slice bn L cn,.slice bv K cv]:=by rw [hWe];exact (P1.out.below hTx y1).far (by show w.heap.size≠w.heap.size+1+1;omega) _
    have E2:Blk We (w.heap.size+1) 3 #[.int .i64 (j:Int)]:=by rw [hWe];exact (P2.out.below hTx y2).far (by show w.heap.size+1≠w.heap.size+1+1;omega) _
    have E3:Blk We (w.heap.size+1+1) 3 #[.int .i64 (wn+((ks:Int) - 1))]:=by rw [hWe];exact (P3.out.below hTx y3).put 0 _
    have E4:Blk We (w.heap.size+1+1+1) 33 #[.slice bn M.length cn]:=by rw [hWe];exact (P4.out.below hTx y4).far (by show w.heap.size+1+1+1≠w.heap.size+1+1;omega) _
    have hgr:W2.grownBy x1 none:=⟨hTx.os,hTx.tape,hTx.output,hTx.size,fun k hk _ => hTx.block k hk⟩
    have EK:KeepsFrom wd.heap.size W We:=by rw [hWe];exact PK.out.trans ((KeepsFrom.of_grownBy hgr (fun j e => by cases e)).trans (KeepsFrom.of_grownBy (grownBy_setCell' _ _ _) (fun j e => by cases e;omega)))
    have EB:Below w.heap.size W2 We:=by rw [hWe];exact (hTx.mono (by omega)).setCell (by show w.heap.size≤w.heap.size+1+1;omega) _
    rw [← hWe]
    have hfe:bgF ar M.length (f,wn) x=((j:Int),wn+((ks:Int) - 1)):=by
     unfold bgF;dsimp only;rw [if_neg h0,HAR.out,← HKS.out,← HJ.out]
    refine ⟨EK,⟨fun v hv => by rw [E4.cell 0,← Q4.out.cell 0];exact hv,PB.out.trans EB⟩,⟨⟨E1,?_,?_,E4⟩,PW.out.trans EB⟩⟩
    ·
     rw [HFO.out,hfe];exact E2
    ·
     rw [HFO.out,hfe];exact E3
 case done =>
  rintro D ys W hD rfl ⟨⟨q1,q2,q3,q4⟩,hB⟩ hK;have hv:=HFIN.out M.length (Nat.le_refl _) (Or.inr rfl);rw [a7a] at hv;rw [hv] at q2;have c2:=q2.cell 0;simp only [List.getElem?_toArray,List.getElem?_cons_zero] at c2;have hB2:=hB.trans (belowK_b (w:=wd) (n₀:=w.heap.size) (by omega) W D _ (.deferred none) hD hK rfl rfl);clear hseq hI0 hIown q1 q2 q3 q4 hv hB HX HBD HFIN HKL HAI
  gi_wp2
  refine ⟨by simp,.inl ⟨_,_,rfl,run_takeDeferred hK,?_⟩⟩;exact ⟨_,results_tmp (t:=4) rfl _ _ _,rfl,hB2⟩
 case stop =>
  rintro D c pre W hD ⟨k,hk,rfl⟩ ⟨rfl,h0,⟨⟨q1,q2,q3,q4⟩,hB⟩⟩ hK;have hv:=HFIN.out k hk (Or.inl h0);rw [hv] at q2;have c2:=q2.cell 0;simp only [List.getElem?_toArray,List.getElem?_cons_zero] at c2;have hB2:=hB.trans (belowK_b (w:=wd) (n₀:=w.heap.size) (by omega) W D _ (.deferred none) hD hK rfl rfl);clear hseq hI0 hIown q1 q2 q3 q4 hv hB HX HBD HFIN HKL HAI h0
  gi_wp2
  refine ⟨by simp,.inl ⟨_,_,rfl,run_takeDeferred hK,?_⟩⟩;exact ⟨_,results_tmp (t:=4) rfl _ _ _,rfl,hB2⟩
end Go.Proofs.YtjfkbeanbbeloaaGreatDoor
