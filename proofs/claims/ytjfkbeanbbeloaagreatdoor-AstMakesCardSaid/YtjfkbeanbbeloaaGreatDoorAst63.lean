/-
  
  
-/
import Derived.Test.YtjfkbeanbbeloaaGreatDoorAst53
set_option linter.unusedSimpArgs false
set_option linter.unusedVariables false
namespace Go.Proofs.YtjfkbeanbbeloaaGreatDoor
open Go.RowKit
theorem d4s (dn da:Int) (n:Sh):mvS dn da (mvS (-dn) (-da) n)=n:=by
 obtain ⟨k,a,b,lv⟩:=n;unfold mvS;dsimp only;by_cases h7:k=7
 ·
  subst h7;simp [Int.neg_add_cancel_right]
 ·
  by_cases h8:k=8
  ·
   subst h8;simp [Int.neg_add_cancel_right]
  ·
   by_cases h9:k=9∧0 < b
   ·
    obtain ⟨h9,hb⟩:=h9;subst h9;simp [hb,Int.neg_add_cancel_right]
   ·
    simp [h7,h8,h9]
theorem d3b {NS M:List Sh} {A B:List Int} {s a:Nat} (hl:Lies A B s a) (hN:∀ c,c < M.length→NS.getD (s+c) default=mvS s a (M.getD c default)) (hk:∀ c,c < M.length→kidsOk B (M.getD c default)) {p e:Nat} {l:List Int}
  (h:Forest NS A p l e):s≤p→e≤s+M.length→Forest M B (p - s) (l.map (·+-(s:Int))) (e - s):=by
 induction h with
 | nil p => intro _ _;exact .nil _
 | @snoc p m j l h1 h2 hj ho i1 i2 =>
  intro hp he;have l1:=h1.le;have l2:=h2.le;have e1:=hN (j - s) (by omega);rw [show s+(j - s)=j by omega] at e1;have f1:=i1 hp (by omega);have f2:=i2 (by omega) (by omega);rw [e1,c5q hl (hk (j - s) (by omega)),d0h] at f2;have f3:=Forest.snoc f1 f2 (by omega) (hk (j - s) (by omega));rw [List.map_append,show j+1 - s=j - s+1 by omega];have e2:([(j:Int)].map (·+-(s:Int)))=[((j - s:Nat):Int)]:=by simp;omega
  rw [e2];exact f3
theorem d4c {NS M:List Sh} {s a:Nat} (hN:∀ c,c < M.length→NS.getD (s+c) default=mvS s a (M.getD c default)) (ha:a1r NS s=some (a:Int)):∀ (k:Nat) (x:Int),k≤M.length→a1r NS (s+k)=some x→a1r M k=some (x - a):=by
 intro k
 induction k with
 | zero =>
  intro x _ h;rw [Nat.add_zero,ha] at h;obtain rfl:=Option.some.inj h;rw [Int.sub_self];rfl
 | succ k ih =>
  intro x hk h;rw [← Nat.add_assoc] at h;obtain ⟨y,hy,hc,rfl⟩:=a7r h;rw [a1r,ih y (by omega) hy];simp only [Option.bind_some];rw [hN k (by omega)] at hc ⊢;rw [b9y,b4f] at *;rw [if_neg]
  ·
   congr 1;omega
  ·
   rintro ⟨c1,c2,c3⟩;rw [c5p _ _ _ c1] at hc;have:=hc c1 c2;rw [c4s _ _ _ c1 c2] at this;omega
theorem d4d {NS M:List Sh} {A B:List Int} {s a:Nat} (hl:Lies A B s a) (hN:∀ c,c < M.length→NS.getD (s+c) default=mvS s a (M.getD c default)) (hk:∀ c,c < M.length→kidsOk B (M.getD c default)∧∀ x ∈ kidsS B (M.getD c default),0≤x∧x < c) :
  ∀ k,k≤M.length→a3g NS A (s+k)=a3g NS A s ++ a3g M B k:=by
 intro k
 induction k with
 | zero => intro _;simp [a3g]
 | succ k ih =>
  intro h;rw [← Nat.add_assoc,a3g,ih (by omega),a3g,List.append_assoc]
  congr 2
  rw [hN k (by omega)];unfold b3j;obtain ⟨k1,k2⟩:=hk k (by omega);rw [c5q hl k1,b6z,c3e (M:=M) (a7u NS A s) _ (fun c hc => hN c (by rw [a7u] at hc;omega)) _ _ _ (fun x hx => by rw [a7u];exact k2 x hx)]
theorem d4t (N:List Sh) (deps:List Int) (n:Sh):∀ (l:List Int) (i:Nat) (d:Int),d≤a2z N deps n i l d∧∀ c ∈ l,deps.getD c.toNat 0≤a2z N deps n i l d:=by
 intro l
 induction l with
 | nil => intro i d;exact ⟨Int.le_refl _,fun c h => by cases h⟩
 | cons c l ih =>
  intro i d;rw [a2z];obtain ⟨h1,h2⟩:=ih (i+1) (max d (deps.getD c.toNat 0+if brk n (N.getD c.toNat default) i then 1 else 0));have h3:deps.getD c.toNat 0≤deps.getD c.toNat 0+if brk n (N.getD c.toNat default) i then 1 else 0:=by split <;> omega
  refine ⟨by omega,fun x hx => ?_⟩
  rcases List.mem_cons.1 hx with rfl | hx
  ·
   omega
  ·
   exact h2 x hx
theorem d2i (N:List Sh) (A:List Int) {m n j:Nat} (hj:j < m) (hmn:m≤n):(a3g N A n).getD j 0=(a3g N A m).getD j 0:=by
 induction n with
 | zero => omega
 | succ n ih =>
  by_cases e:m=n+1
  ·
   subst e;rfl
  ·
   rw [a3g,List.getD_eq_getElem?_getD,List.getElem?_append_left (by rw [a7u];omega),← List.getD_eq_getElem?_getD];exact ih (by omega)
theorem d6b (N:List Sh) (A:List Int) (m:Nat):(a3g N A (m+1)).getD m 0=b3j N A (a3g N A m) (N.getD m default):=by
 rw [a3g,List.getD_eq_getElem?_getD,List.getElem?_append_right (by rw [a7u];exact Nat.le_refl _),a7u,Nat.sub_self];rfl
theorem d5l {N:List Sh} {A:List Int} {p e:Nat} {l:List Int} (h:Forest N A p l e):∀ j,p≤j→j < e→∃ r:Nat,(r:Int) ∈ l∧r < e∧(a3g N A e).getD j 0≤(a3g N A e).getD r 0:=by
 induction h with
 | nil p => intro j h1 h2;omega
 | @snoc p m i l h1 h2 hi ho i1 i2 =>
  intro j hj hje;have l1:=h1.le;have l2:=h2.le;by_cases e1:j < m
  ·
   obtain ⟨r,r1,r2,r3⟩:=i1 j hj e1;refine ⟨r,List.mem_append_left _ r1,by omega,?_⟩;rw [d2i N A e1 (by omega),d2i N A r2 (by omega)];exact r3
  ·
   refine ⟨i,List.mem_append_right _ (List.mem_singleton.2 rfl),by omega,?_⟩;by_cases e2:j=i
   ·
    subst e2;exact Int.le_refl _
   ·
    obtain ⟨r,r1,r2,r3⟩:=i2 j (by omega) (by omega);have hr:=(d4t N (a3g N A i) (N.getD i default) (kidsS A (N.getD i default)) 0 0).2 _ r1;rw [Int.toNat_natCast] at hr;have ho:0≤a1v (N.getD i default):=by unfold a1v;split <;> omega
    rw [d6b,d2i N A (show j < i by omega) (Nat.le_succ i)];unfold b3j;omega
theorem d4u (s a:Int) (N:List Nd) (i:Nat) (p:Nat):(((N.take (i+1)).drop p).map (mvN (-s) (-a))).map shN=(((N.map shN).take (i+1)).drop p).map (mvS (-s) (-a)):=by
 rw [c5s,List.map_drop,List.map_take]
theorem d3o {N:List Nd} {A:List Int} (h:a0w N A=true) {i s:Nat} (hi:i < N.length) (hF:Forest (N.map shN) A s [(i:Int)] (i+1)):a0w (c9u N A s i).1 (c9u N A s i).2=true:=by
 obtain ⟨st,hr,_,har⟩:=a3h (a9t (N:=N)) h;have hall:=c0b h;have hn9:=b8z hall;have hbS:∀ n ∈ N.map shN,n.k=9→0≤n.b:=a9t (fun i hi => hall i (by simpa using hi));have lens:=a4v h;have hkk:=fun m hm => a9b (a9t (N:=N)) h (m:=m) hm
 have hlm:(N.map shN).length=N.length:=List.length_map ..;obtain ⟨_,hb9,hcl⟩:=c9t h;obtain ⟨hFN,_,_⟩:=c9t h
 have hsi:s < i+1:=by
  obtain ⟨m,k,_,e2,f1,f2,_⟩:=Forest.last (l:=[]) hF;have:=f1.le;have:=f2.le;omega
 rw [hlm] at hr hkk;obtain ⟨s0,hr0⟩:=b5i hr (show s≤N.length by omega);obtain ⟨s1,hr1⟩:=b5i hr (show i+1≤N.length by omega);have a0:=d1b (fun n hn h9 => (hn9 n hn h9).1) s s0.args (by omega) (a9r hr0);have a1:=d1b (fun n hn h9 => (hn9 n hn h9).1) (i+1) s1.args (by omega) (a9r hr1);have g0:0≤clS (N.take s):=d0o fun n hn => hb9 n (List.mem_of_mem_take hn)
 have g1:0≤clS ((N.take (i+1)).drop s):=d0o fun n hn => hb9 n (List.mem_of_mem_take (List.mem_of_mem_drop hn))
 have g2:0≤clS (N.drop (i+1)):=d0o fun n hn => hb9 n (List.mem_of_mem_drop hn)
 have e1:clS (N.take (i+1))=clS (N.take s)+clS ((N.take (i+1)).drop s):=by
  rw [← c9x]
  congr 1
  have:=List.take_append_drop s (N.take (i+1));rw [List.take_take,Nat.min_eq_left (by omega)] at this;exact this.symm
 have e2:clS (N.take (i+1))+clS (N.drop (i+1))=A.length:=by rw [← hcl,← c9x,List.take_append_drop]
 obtain ⟨a,ha⟩:∃ a:Nat,clS (N.take s)=a:=⟨_,(Int.toNat_of_nonneg g0).symm⟩;obtain ⟨c,hc⟩:∃ a:Nat,clS ((N.take (i+1)).drop s)=a:=⟨_,(Int.toNat_of_nonneg g1).symm⟩;have haA:a1r (N.map shN) s=some (a:Int):=by rw [a9r hr0,a0,ha]
 have hcA:a1r (N.map shN) (i+1)=some ((a:Int)+c):=by rw [a9r hr1,a1,e1,ha,hc]
 have hac:a+c≤A.length:=by omega
 unfold c9u;rw [ha,hc,Int.toNat_natCast,Int.toNat_natCast];dsimp only;obtain ⟨P,hP⟩:∃ P,P=((N.take (i+1)).drop s).map (mvN (-(s:Int)) (-(a:Int))):=⟨_,rfl⟩;obtain ⟨B,hB⟩:∃ B,B=((A.drop a).take c).map (·+-(s:Int)):=⟨_,rfl⟩;rw [← hP,← hB];have hPl:P.length=i+1 - s:=by rw [hP,List.length_map,List.length_drop,List.length_take];omega
 have hBl:B.length=c:=by rw [hB,List.length_map,List.length_take,List.length_drop];omega
 have hMl:(P.map shN).length=i+1 - s:=by rw [List.length_map,hPl]
 have hget:∀ k,k < (P.map shN).length→(N.map shN).getD (s+k) default=mvS s a ((P.map shN).getD k default):=fun k hk => by
  rw [hMl] at hk;have e:(((N.map shN).take (i+1)).drop s)[k]?=(N.map shN)[s+k]?:=by rw [List.getElem?_drop,List.getElem?_take_of_lt (by omega)]
  rw [hP,d4u,List.getD_eq_getElem?_getD,List.getD_eq_getElem?_getD,List.getElem?_map (f:=mvS (-(s:Int)) (-(a:Int))),e,List.getElem?_eq_getElem (l:=N.map shN) (i:=s+k) (by rw [hlm];omega)];exact (d4s _ _ _).symm
 have hlies:Lies A B s a:=by
  refine ⟨by rw [hBl];exact hac,fun p q hpq => ?_⟩
  rw [hBl] at hpq;rw [hB,← List.map_drop,← List.map_take,List.map_map];have e:((fun x => x+(s:Int)) ∘ fun x => x+-(s:Int))=id:=by funext x;simp [Int.neg_add_cancel_right]
  rw [e,List.map_id,List.drop_take,List.take_take,List.drop_drop,Nat.min_eq_left (by omega),Nat.add_comm p a]
 have hkB:∀ k,k < (P.map shN).length→kidsOk B ((P.map shN).getD k default):=fun k hk h9 hb => by
  have hg:=hget k hk;rw [hMl] at hk;obtain ⟨x,hx,hxc⟩:=b1k (show s+k+1≤i+1 by omega) hcA;obtain ⟨y,hy,hy2,rfl⟩:=a7r hx;obtain ⟨z,hz,hzy⟩:=b1k (show s≤s+k by omega) hy;rw [haA] at hz;obtain rfl:=Option.some.inj hz;rw [hg,b9y,c5p _ _ _ h9,c4s _ _ _ h9 hb] at hy2;have h3:=hy2 h9 hb;rw [hg,b4f] at hxc;have h4:a0n ((P.map shN).getD k default)=((P.map shN).getD k default).b:=by unfold a0n;rw [if_pos ⟨h9,hb⟩]
  rw [hBl];omega
 have hkc:∀ k,k < (P.map shN).length→∀ x ∈ kidsS B ((P.map shN).getD k default),x < k:=fun k hk x hx => by
  have hg:=hget k hk;have h1:=(hkk (s+k) (by omega)).2;rw [hg,c5q hlies (hkB k hk)] at h1;have:=h1 _ (List.mem_map.2 ⟨x,hx,rfl⟩);omega
 have hfB:=d3b hlies hget hkB hF (Nat.le_refl _) (by rw [hMl];omega);rw [Nat.sub_self] at hfB;have hl1:([(i:Int)].map (·+-(s:Int)))=[((i+1 - s - 1:Nat):Int)]:=by simp;omega
 rw [hl1] at hfB
 have hlast:∀ k,k < (P.map shN).length→∀ x ∈ kidsS B ((P.map shN).getD k default),0≤x:=fun k hk x hx => by
  obtain ⟨q,q1,q2,q3⟩:=d2q hfB k (Nat.zero_le _) (by rw [hMl] at hk;exact hk);obtain ⟨m,j,j1,j2,f1,f2,_⟩:=Forest.last (l:=[]) q3;obtain rfl:j=k:=by omega
  have:=f2.mem x hx;omega
 have haB:a1r (P.map shN) (P.map shN).length=some (B.length:Int):=by
  have:=d4c hget haA (i+1 - s) ((a:Int)+c) (by rw [hMl];exact Nat.le_refl _) (by rw [show s+(i+1 - s)=i+1 by omega];exact hcA);rw [hMl,this,hBl]
  congr 1;omega
 have hbP:∀ n ∈ P.map shN,n.k=9→0≤n.b:=fun n hn h9 => by
  obtain ⟨k,hk⟩:=List.getElem?_of_mem hn;have hk2:=(List.getElem?_eq_some_iff.1 hk).1;have hg:=hget k hk2;rw [show (P.map shN).getD k default=n by rw [List.getD_eq_getElem?_getD,hk];rfl] at hg;have hin:(N.map shN).getD (s+k) default ∈ N.map shN:=by rw [List.getD_eq_getElem?_getD,List.getElem?_eq_getElem (by rw [hlm];rw [hMl] at hk2;omega)];exact List.getElem_mem _
  have:=hbS _ hin (by rw [hg,b9y];exact h9);rw [hg,c5p _ _ _ h9] at this;exact this
 obtain ⟨t,ht,htt⟩:=b6o hbP ⟨_,haB,Int.le_refl _⟩ hfB (by rw [hMl];exact Nat.le_refl _) ⟨[],[],0⟩ rfl;rw [← hMl] at ht
 have hta:t.args=B.length:=by
  have:=a9r ht;rw [haB] at this;exact (Option.some.inj this).symm
 have hw:=(a5n hbP (A:=B) (by omega) (by omega)).2 ⟨t,ht,by rw [htt];rfl,hta⟩
 have hdl:a4b (P.map shN) B≤24:=by
  have hd:=d4d hlies hget (fun k hk => ⟨hkB k hk,fun x hx => ⟨hlast k hk x hx,hkc k hk x hx⟩⟩) (i+1 - s) (by rw [hMl];exact Nat.le_refl _);rw [show s+(i+1 - s)=i+1 by omega] at hd
  have h24:a4b (N.map shN) A≤24:=by
   obtain ⟨_,_,_,_,_,_,_,_,h⟩:=a3h (a9t (N:=N)) h;exact h
  obtain ⟨r,r1,r2,r3⟩:=d5l hFN i (Nat.zero_le _) hi
  obtain rfl:r=N.length - 1:=by
   have:=List.mem_singleton.1 r1;omega
  unfold a4b at h24 ⊢;rw [hlm] at h24;rw [d2i (N.map shN) A (show i < i+1 by omega) (show i+1≤N.length by omega),hd,List.getD_eq_getElem?_getD,List.getElem?_append_right (by rw [a7u];omega),a7u,← List.getD_eq_getElem?_getD] at r3;rw [hMl,show i+1 - s - 1=i - s by omega];omega
 unfold a0w a1w a3v
 have hcan:∀ k,k < (P.map shN).length→cN P k=true:=fun k hk => by
  rw [List.length_map] at hk;have hm:P[k]?=some (P[k]'hk):=List.getElem?_eq_getElem hk;rw [a3j hm];have hin:P[k]'hk ∈ P:=List.getElem_mem _;generalize P[k]'hk=z at hin ⊢;rw [hP] at hin;obtain ⟨n,hn,hne⟩:=List.mem_map.1 hin;have hn2:=List.mem_of_mem_take (List.mem_of_mem_drop hn);obtain ⟨q,hq⟩:=List.getElem?_of_mem hn2;have:=hall q (List.getElem?_eq_some_iff.1 hq).1;rw [a3j hq] at this;rw [← hne];exact c5u _ _ this
 rw [decide_eq_true (show 1≤(P.map shN).length by omega),decide_eq_true (show (P.map shN).length≤300 by omega),decide_eq_true (show B.length≤300 by omega),decide_eq_true hcan,decide_eq_true hw.1,decide_eq_true hw.2,decide_eq_true hdl];rfl
theorem d4e {N:List Sh} {A:List Int} {s i f:Nat} (h:Forest N A s [(i:Int)] (i+1)) (hf:i+1≤f) (hi:i < 300):a2d N A f i 300=some (rng s (i+1 - s)):=by
 have h1:=b3o h f ((i:Int)+1) 301 [] hf (by omega) (by simp;omega);rw [a1m,if_neg (by omega)] at h1;have e:(301:Int) - (([]:List Int).length:Int) - 1=300:=by simp
 rw [e] at h1
 cases hw:a2d N A f i 300 with
 | none => rw [hw] at h1;simp at h1
 | some x =>
  rw [hw] at h1;simpa [a1m] using h1
def pN (N:List Nd) (s:Nat) (a:Nat) (k:Nat):List Nd:=((N.take k).drop s).map (mvN (-(s:Int)) (-(a:Int)))
def pA (A:List Int) (s a c:Nat):List Int:=((A.drop a).take c).map (·+-(s:Int))
def pC (N:List Nd) (s k:Nat):Nat:=(clS ((N.take k).drop s)).toNat
theorem d4v (N:List Nd) (s a:Nat):pN N s a s=[]:=by
 unfold pN;rw [List.drop_eq_nil_of_le (by rw [List.length_take];omega)];rfl
theorem d3i (N:List Nd) (s:Nat):pC N s s=0:=by
 unfold pC;rw [List.drop_eq_nil_of_le (by rw [List.length_take];omega)];rfl
theorem d4w (A:List Int) (s a:Nat):pA A s a 0=[]:=by unfold pA;rw [List.take_zero];rfl
theorem d3j {α:Type} {N:List α} {s k:Nat} {n:α} (hs:s≤k) (h:N[k]?=some n):(N.take (k+1)).drop s=(N.take k).drop s ++ [n]:=by
 have hk:=(List.getElem?_eq_some_iff.1 h).1;rw [List.take_add_one,h,Option.toList_some,List.drop_append_of_le_length (by rw [List.length_take];omega)]
theorem d5m {N:List Nd} {s a k:Nat} {n:Nd} (hs:s≤k) (h:N[k]?=some n):pN N s a (k+1)=pN N s a k ++ [mvN (-(s:Int)) (-(a:Int)) n]:=by
 unfold pN;rw [d3j hs h,List.map_append];rfl
theorem d6c {N:List Nd} {s a k:Nat} (hk:k≤N.length):(pN N s a k).length=k - s:=by
 unfold pN;rw [List.length_map,List.length_drop,List.length_take,Nat.min_eq_left hk]
theorem d5n {N:List Nd} {s k:Nat} {n:Nd} (hs:s≤k) (h:N[k]?=some n) (hb:∀ n ∈ N,n.k=9→0≤n.b):((pC N s (k+1):Nat):Int)=pC N s k+(if n.k=9 then n.b else 0):=by
 have g1:0≤clS ((N.take k).drop s):=d0o fun n hn => hb n (List.mem_of_mem_take (List.mem_of_mem_drop hn))
 have hn:=hb n (List.mem_of_getElem? h);unfold pC;rw [d3j hs h,c9x,d0n];by_cases h9:n.k=9
 ·
  have:=hn h9;rw [if_pos h9];omega
 ·
  rw [if_neg h9];omega
theorem d5o {A:List Int} {s a c b:Nat} : pA A s a (c+b)=pA A s a c ++ ((A.drop (a+c)).take b).map (·+-(s:Int)):=by
 unfold pA;rw [← List.map_append]
 congr 1
 rw [List.take_add,List.drop_drop]
theorem d6d {A:List Int} {s a c:Nat} (h:a+c≤A.length):(pA A s a c).length=c:=by
 unfold pA;rw [List.length_map,List.length_take,List.length_drop];omega
theorem d6e {A:List Int} {s a c:Nat} {x:Int} (h:A[a+c]?=some x):pA A s a (c+1)=pA A s a c ++ [x+-(s:Int)]:=by
 rw [d5o];have hk:=(List.getElem?_eq_some_iff.1 h).1
 congr 1
 rw [List.drop_eq_getElem_cons hk]
 have:A[a+c]'hk=x:=by
  have:=List.getElem?_eq_getElem hk;rw [this] at h;exact Option.some.inj h
 rw [this];rfl
theorem d4f {N:List Nd} {A:List Int} (h:a0w N A=true) {s a k:Nat} (hs:s≤k) (ha:clS (N.take s)=a) {n:Nd} (hn:N[k]?=some n) (h9:n.k=9) (hb:0 < n.b) :
  n.a=((a+pC N s k:Nat):Int)∧((a+pC N s k:Nat):Int)+n.b≤A.length:=by
 obtain ⟨st,hr,_,har⟩:=a3h (a9t (N:=N)) h;have hn9:=b8z (c0b h);have hb9:∀ n ∈ N,n.k=9→0≤n.b:=fun n hn h9 => (hn9 n hn h9).1
 have hk:=(List.getElem?_eq_some_iff.1 hn).1;have hlm:(N.map shN).length=N.length:=List.length_map ..;rw [hlm] at hr;obtain ⟨s1,hr1⟩:=b5i hr (show k+1≤N.length by omega);obtain ⟨y,hy,hy2,_⟩:=a7r (a9r hr1);have e:(N.map shN).getD k default=shN n:=by rw [List.getD_eq_getElem?_getD,List.getElem?_map,hn];rfl
 rw [e] at hy2;have hyk:=d1b hb9 k y (by omega) hy
 have e1:clS (N.take k)=clS (N.take s)+clS ((N.take k).drop s):=by
  rw [← c9x]
  congr 1
  have:=List.take_append_drop s (N.take k);rw [List.take_take,Nat.min_eq_left hs] at this;exact this.symm
 have g1:0≤clS ((N.take k).drop s):=d0o fun n hn => hb9 n (List.mem_of_mem_take (List.mem_of_mem_drop hn))
 have hna:n.a=y:=hy2 h9 hb
 have hq:n.a=((a+pC N s k:Nat):Int):=by
  unfold pC;omega
 refine ⟨hq,?_⟩;rw [← hq];have hko:=(a9b (a9t (N:=N)) h (m:=k) (by rw [hlm];exact hk)).1;rw [e] at hko;have:=hko h9 hb;have:(shN n).a=n.a:=rfl;have:(shN n).b=n.b:=rfl;omega
theorem d4x {N:List Nd} {A:List Int} {s i a:Nat} (ha:clS (N.take s)=a):(pN N s a (i+1),pA A s a (pC N s (i+1)))=c9u N A s i:=by
 unfold c9u pN pA pC;rw [ha,Int.toNat_natCast]
end Go.Proofs.YtjfkbeanbbeloaaGreatDoor
