import Derived.Test.YtfbgmokjemmceaaGreatDoorAst34
import Derived.Test.YtfbgmokjemmceaaGreatDoorAst40
import Derived.Test.YtfbgmokjemmceaaGreatDoorAst43
namespace Go.Proofs.YtfbgmokjemmceaaGreatDoor
open Go.RowKit Go.Shelf
set_option linter.unusedSimpArgs false
set_option linter.unusedVariables false
theorem c7s (dn da:Int) (n:Nd):shN (mvN dn da n)=mvS dn da (shN n):=by
 unfold mvN mvS shN;dsimp only;by_cases h7:n.k=7
 ·
  rw [if_pos h7,if_pos h7]
 ·
  rw [if_neg h7,if_neg h7];by_cases h8:n.k=8
  ·
   rw [if_pos h8,if_pos h8]
  ·
   rw [if_neg h8,if_neg h8];by_cases h9:n.k=9∧0 < n.b
   ·
    rw [if_pos h9,if_pos h9]
   ·
    rw [if_neg h9,if_neg h9]
theorem c5s (dn da:Int) (N:List Nd):(N.map (mvN dn da)).map shN=(N.map shN).map (mvS dn da):=by
 rw [List.map_map,List.map_map];exact List.map_congr_left fun n _ => c7s dn da n
theorem d0q (n:Nd):mvN 0 0 n=n:=by
 unfold mvN
 split
 ·
  simp
 ·
  split
  ·
   simp
  ·
   split <;> simp
theorem c5t (dn da:Int) {n:Nd} (h:a2b n):a2b (mvN dn da n):=by
 unfold mvN
 split
 ·
  exact h
 ·
  split
  ·
   exact h
  ·
   split <;> exact h
theorem c5u (dn da:Int) {n:Nd} (h:a1x n=true):a1x (mvN dn da n)=true:=by
 obtain ⟨k,o,a,b,qn,qa,qd,x,tr,r,t⟩:=n;unfold mvN;dsimp only;by_cases h7:k=7
 ·
  rw [if_pos h7];unfold a1x at h ⊢;rw [Bool.and_eq_true,a2o] at h ⊢;subst h7;simp [a4i,a0s] at h ⊢;exact h
 ·
  rw [if_neg h7];by_cases h8:k=8
  ·
   rw [if_pos h8];unfold a1x at h ⊢;rw [Bool.and_eq_true,a2o] at h ⊢;subst h8;simp [a4i,a0s] at h ⊢;exact h
  ·
   rw [if_neg h8];by_cases h9:k=9∧0 < b
   ·
    rw [if_pos h9];obtain ⟨h9,hb⟩:=h9;unfold a1x at h ⊢;rw [Bool.and_eq_true,a2o] at h ⊢;subst h9;simp [a4i,a0s] at h ⊢;obtain ⟨⟨⟨h1,h2⟩,h3⟩,h4⟩:=h;exact ⟨⟨⟨h1,Or.inl (by omega)⟩,h3⟩,h4⟩
   ·
    rw [if_neg h9];exact h
theorem a8d {N:List Nd} {A:List Int} (h:a0w N A=true):Fit (N.map shN,A):=by
 obtain ⟨⟨D,T,ar⟩,hr,h1,h2,h3,_⟩:=a3h (C:=cN N) (a9t (N:=N)) h;dsimp only at h1 h2;subst h1 h2;exact ⟨⟨D,hr⟩,h3,fun c hc => a9b (C:=cN N) (a9t (N:=N)) h hc⟩
theorem a4v {N:List Nd} {A:List Int} (h:a0w N A=true):1≤N.length∧N.length≤300∧A.length+1≤N.length:=by
 obtain ⟨⟨D,T,ar⟩,hr,h1,h2,h3,h4,_⟩:=a3h (C:=cN N) (a9t (N:=N)) h;dsimp only at h1 h2;subst h1 h2;have:=(b2a hr).2;rw [List.length_map] at *;simp only [List.length_cons,List.length_nil] at this;exact ⟨h3,h4,by omega⟩
theorem c0b {N:List Nd} {A:List Int} (h:a0w N A=true):∀ i,i < N.length→cN N i=true:=by
 obtain ⟨_,_,_,_,_,_,_,hC,_⟩:=a3h (C:=cN N) (a9t (N:=N)) h;rw [List.length_map] at hC;exact hC
theorem c0c {N:List Nd} {A:List Int} (h:a0w N A=true):∀ n ∈ N,Mvd n:=by
 intro n hn;obtain ⟨m,hm⟩:=List.getElem?_of_mem hn;have hlt:=(List.getElem?_eq_some_iff.1 hm).1;obtain ⟨l1,l2,l3⟩:=a4v h;obtain ⟨k1,k2⟩:=(a8d h).kids m (by rw [List.length_map];exact hlt);dsimp only at k1 k2;rw [a2m N m n hm] at k1 k2;refine ⟨fun h78 => ?_,fun h8 => ?_,fun h9 hb => ?_⟩
 ·
  have:n.a ∈ kidsS A (shN n):=by
   unfold kidsS
   rcases h78 with h7 | h8
   ·
    rw [if_pos (show (shN n).k=7 from h7)];exact List.mem_cons_self ..
   ·
    rw [if_neg (show ¬ (shN n).k=7 from fun e => by have:n.k=7:=e;omega),if_pos (show (shN n).k=8 from h8)];exact List.mem_cons_self ..
  have:=k2 _ this;omega
 ·
  have:n.b ∈ kidsS A (shN n):=by
   unfold kidsS;rw [if_neg (show ¬ (shN n).k=7 from fun e => by have:n.k=7:=e;omega),if_pos (show (shN n).k=8 from h8)];exact List.mem_cons_of_mem _ (List.mem_cons_self ..)
  have:=k2 _ this;omega
 ·
  have:0≤n.a∧n.a+n.b≤A.length:=k1 h9 hb;omega
theorem b7b {N:List Nd} {A:List Int} (h:a0w N A=true):∀ x ∈ A,-1000≤x∧x≤1000:=by
 intro x hx;obtain ⟨⟨D,hr⟩,_,hk⟩:=a8d h;obtain ⟨l1,l2,l3⟩:=a4v h;dsimp only at hr hk;have:=c0a hk (Nat.le_refl _) hr x (by rw [Int.toNat_natCast,List.take_length];exact hx);rw [List.length_map] at this;omega
structure Jn where
 N:List Nd
 A:List Int
 T:List Int
def Jn.next (s:Jn) (g:List Nd × List Int):Jn :=
 ⟨s.N ++ g.1.map (mvN s.N.length s.A.length),s.A ++ g.2.map (·+(s.N.length:Int)),s.T ++ [((s.N.length+g.1.length:Nat):Int) - 1]⟩
def Jn.nil:Jn:=⟨[],[],[]⟩
def a0u (l:List (List Nd × List Int)):Jn:=l.foldl Jn.next Jn.nil
theorem b7c {l:List (List Nd × List Int)} {k:Nat} {g:List Nd × List Int} (h:l[k]?=some g):a0u (l.take (k+1))=(a0u (l.take k)).next g:=by
 unfold a0u;rw [List.take_add_one,h,Option.toList_some,List.foldl_append];rfl
theorem c0d:∀ (l:List (List Nd × List Int)) (s:Jn),Stands (s.N.map shN,s.A) s.T→(∀ g ∈ l,a0w g.1 g.2=true)→Stands ((l.foldl Jn.next s).N.map shN,(l.foldl Jn.next s).A) (l.foldl Jn.next s).T:=by
 intro l
 induction l with
 | nil => intro s h _;exact h
 | cons g l ih =>
  intro s h hg;refine ih _ ?_ (fun g h => hg g (List.mem_cons_of_mem _ h));have:=h.next (a8d (hg g (List.mem_cons_self ..)));unfold jnS at this;simp only [List.length_map,List.length_append] at this;rw [← c5s,← List.map_append] at this;exact this
theorem c7t:∀ (l:List (List Nd × List Int)) (s:Jn),(∀ n ∈ s.N,a1x n=true)→(∀ g ∈ l,a0w g.1 g.2=true)→∀ n ∈ (l.foldl Jn.next s).N,a1x n=true:=by
 intro l
 induction l with
 | nil => intro s h _;exact h
 | cons g l ih =>
  intro s h hg;refine ih _ ?_ (fun g h => hg g (List.mem_cons_of_mem _ h));intro n hn
  rcases List.mem_append.1 hn with hn | hn
  ·
   exact h n hn
  ·
   obtain ⟨m,hm,rfl⟩:=List.mem_map.1 hn;obtain ⟨i,hi⟩:=List.getElem?_of_mem hm;have:=c0b (hg g (List.mem_cons_self ..)) i (List.getElem?_eq_some_iff.1 hi).1;rw [a3j hi] at this;exact c5u _ _ this
theorem c5v:∀ (l:List (List Nd × List Int)) (s:Jn),(∀ n ∈ s.N,a2b n)→(∀ g ∈ l,∀ n ∈ g.1,a2b n)→∀ n ∈ (l.foldl Jn.next s).N,a2b n:=by
 intro l
 induction l with
 | nil => intro s h _;exact h
 | cons g l ih =>
  intro s h hg;refine ih _ ?_ (fun g h => hg g (List.mem_cons_of_mem _ h));intro n hn
  rcases List.mem_append.1 hn with hn | hn
  ·
   exact h n hn
  ·
   obtain ⟨m,hm,rfl⟩:=List.mem_map.1 hn;exact c5t _ _ (hg g (List.mem_cons_self ..) m hm)
theorem b4h:∀ (l:List (List Nd × List Int)) (s:Jn),s.A.length+s.T.length≤s.N.length→(∀ g ∈ l,a0w g.1 g.2=true)→(l.foldl Jn.next s).A.length+(l.foldl Jn.next s).T.length≤(l.foldl Jn.next s).N.length∧(l.foldl Jn.next s).N.length≤s.N.length+300 * l.length∧(l.foldl Jn.next s).T.length=s.T.length+l.length:=by
 intro l
 induction l with
 | nil => intro s h _;exact ⟨h,Nat.le_refl _,rfl⟩
 | cons g l ih =>
  intro s h hg;obtain ⟨r1,r2,r3⟩:=a4v (hg g (List.mem_cons_self ..))
  have h2:(s.next g).A.length+(s.next g).T.length≤(s.next g).N.length:=by
   unfold Jn.next;simp only [List.length_append,List.length_map,List.length_cons,List.length_nil];omega
  obtain ⟨i1,i2,i3⟩:=ih _ h2 (fun g h => hg g (List.mem_cons_of_mem _ h));have e1:(s.next g).N.length=s.N.length+g.1.length:=by unfold Jn.next;simp
  have e2:(s.next g).T.length=s.T.length+1:=by unfold Jn.next;simp
  rw [List.foldl_cons];refine ⟨i1,?_,?_⟩
  ·
   rw [e1] at i2;rw [List.length_cons];omega
  ·
   rw [i3,e2,List.length_cons];omega
def b2b (N:List Nd) (A:List Int):Int:=if 300 < N.length then 9 else if a0w N A then 0 else 8
theorem c0e {s:Jn} (hs:Stands (s.N.map shN,s.A) s.T) (hC:∀ n ∈ s.N,a1x n=true) {n:Nd} (hn:a1x n=true) {Y:List Int} (hk:kidsS (s.A ++ Y) (shN n)=s.T) (ha:n.k=9→0 < n.b→n.a=s.A.length∧n.b=Y.length) (hy:a0n (shN n)=Y.length) :
  b5o (a1q (cN (s.N ++ [n])) ((s.N ++ [n]).map shN) (s.A ++ Y)).2=b2b (s.N ++ [n]) (s.A ++ Y):=by
 obtain ⟨h1,_⟩:=a3x (s.N ++ [n]) (s.A ++ Y);unfold b2b;by_cases h300:300 < (s.N ++ [n]).length
 ·
  rw [if_pos h300];unfold a1q;rw [List.length_map,if_pos h300];rfl
 ·
  rw [if_neg h300];obtain ⟨D,hr⟩:=b4g (acc:=(s.N.map shN,s.A)) (Y:=Y) hs hk ha hy;dsimp only at hr;have e:s.N.map shN ++ [shN n]=(s.N ++ [n]).map shN:=by simp
  rw [e,List.length_map] at hr
  have hrc:b1c (cN (s.N ++ [n])) ((s.N ++ [n]).map shN) (s.A ++ Y) (s.N ++ [n]).length=some ⟨D,[((s.N.map shN).length:Int)],(s.A ++ Y).length⟩:=by
   refine runC_iff.2 ⟨fun i hi => ?_,hr⟩
   rw [a3j (List.getElem?_eq_getElem hi)];have hm:=List.getElem_mem hi
   rcases List.mem_append.1 hm with h | h
   ·
    exact hC _ h
   ·
    rw [List.mem_singleton.1 h];exact hn
  have hv:a1q (cN (s.N ++ [n])) ((s.N ++ [n]).map shN) (s.A ++ Y)=(0,2) ∨ ∃ d,a1q (cN (s.N ++ [n])) ((s.N ++ [n]).map shN) (s.A ++ Y)=(d,0):=by
   unfold a1q;rw [List.length_map,if_neg h300,hrc];unfold c4r;dsimp only;rw [if_neg (by simp)]
   split
   ·
    exact Or.inl rfl
   ·
    exact Or.inr ⟨_,rfl⟩
  rw [h1];generalize a1q (cN (s.N ++ [n])) ((s.N ++ [n]).map shN) (s.A ++ Y)=z at *
  rcases hv with hv | ⟨d,hv⟩
  ·
   subst hv;rfl
  ·
   subst hv;rfl
def a5k (n:Nd) (s:Jn):Nd:=if n.k=7 then { n with a:=s.T.getD 0 0 } else if n.k=8 then { n with a:=s.T.getD 0 0,b:=s.T.getD 1 0 } else { n with a:=s.A.length,b:=s.T.length }
def a5g (n:Nd) (s:Jn):List Int:=if n.k=9 then s.T else []
def a3a (n:Nd) (l:List (List Nd × List Int)):List Nd × List Int × Int :=
 if a1x n=true∧(∀ g ∈ l,a0w g.1 g.2=true) then
  if 20 < l.length then ([],[],2)
  else if b2b ((a0u l).N ++ [a5k n (a0u l)]) ((a0u l).A ++ a5g n (a0u l))=0 then ((a0u l).N ++ [a5k n (a0u l)],(a0u l).A ++ a5g n (a0u l),0)
  else ([],[],b2b ((a0u l).N ++ [a5k n (a0u l)]) ((a0u l).A ++ a5g n (a0u l)))
 else ([],[],3)
end Go.Proofs.YtfbgmokjemmceaaGreatDoor
