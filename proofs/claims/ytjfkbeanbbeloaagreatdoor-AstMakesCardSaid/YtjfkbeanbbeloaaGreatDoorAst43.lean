/-
  
  
-/
import Derived.Test.YtjfkbeanbbeloaaGreatDoorAst34
import Derived.Test.YtjfkbeanbbeloaaGreatDoorAst40
namespace Go.Proofs.YtjfkbeanbbeloaaGreatDoor
set_option linter.unusedSimpArgs false
set_option linter.unusedVariables false
def mvS (dn da:Int) (n:Sh):Sh :=
 if n.k=7 then { n with a:=n.a+dn } else if n.k=8 then { n with a:=n.a+dn,b:=n.b+dn } else if n.k=9∧0 < n.b then { n with a:=n.a+da } else n
theorem b9y (dn da:Int) (n:Sh):(mvS dn da n).k=n.k:=by unfold mvS;split <;> (try split) <;> (try split) <;> rfl
theorem b9z (dn da:Int) (n:Sh):(mvS dn da n).lv=n.lv:=by unfold mvS;split <;> (try split) <;> (try split) <;> rfl
theorem c5p (dn da:Int) (n:Sh) (h:n.k=9):(mvS dn da n).b=n.b:=by
 unfold mvS;rw [if_neg (by omega),if_neg (by omega)]
 split <;> rfl
theorem c4s (dn da:Int) (n:Sh) (h:n.k=9) (hb:0 < n.b):(mvS dn da n).a=n.a+da:=by
 unfold mvS;rw [if_neg (by omega),if_neg (by omega),if_pos ⟨h,hb⟩]
theorem c7q (dn da dn' da':Int) (n k:Sh) (i:Nat):brk (mvS dn da n) (mvS dn' da' k) i=brk n k i:=by
 unfold brk;rw [b9y,b9z,b9z]
theorem b4f (dn da:Int) (n:Sh):a0n (mvS dn da n)=a0n n:=by
 unfold a0n;rw [b9y];by_cases h:n.k=9
 ·
  rw [c5p dn da n h]
 ·
  rw [if_neg (fun x => h x.1),if_neg (fun x => h x.1)]
theorem b6z (dn da:Int) (n:Sh):a1v (mvS dn da n)=a1v n:=by unfold a1v;rw [b9y,b9z]
def Lies (AS B:List Int) (dn da:Nat):Prop:=da+B.length≤AS.length∧∀ a b,a+b≤B.length→(AS.drop (a+da)).take b=((B.drop a).take b).map (·+(dn:Int))
theorem Lies.of_app (A0 B C:List Int) (dn:Nat):Lies (A0 ++ B.map (·+(dn:Int)) ++ C) B dn A0.length:=by
 refine ⟨by simp,fun a b h => ?_⟩
 rw [List.append_assoc,List.drop_append,List.drop_of_length_le (by omega),List.nil_append,Nat.add_sub_cancel,List.drop_append,List.take_append_of_le_length (by rw [List.length_drop,List.length_map];omega),List.map_take,List.map_drop]
theorem c5q {AS B:List Int} {dn da:Nat} (hl:Lies AS B dn da) {n:Sh} (hk:kidsOk B n):kidsS AS (mvS dn da n)=(kidsS B n).map (·+(dn:Int)):=by
 unfold kidsS;rw [b9y];by_cases h7:n.k=7
 ·
  rw [if_pos h7,if_pos h7];unfold mvS;rw [if_pos h7];rfl
 ·
  rw [if_neg h7,if_neg h7];by_cases h8:n.k=8
  ·
   rw [if_pos h8,if_pos h8];unfold mvS;rw [if_neg h7,if_pos h8];rfl
  ·
   rw [if_neg h8,if_neg h8];by_cases h9:n.k=9
   ·
    rw [if_pos h9,if_pos h9,c5p _ _ _ h9];by_cases hb:0 < n.b
    ·
     obtain ⟨h1,h2⟩:=hk h9 hb;rw [c4s _ _ _ h9 hb,show (n.a+(da:Int)).toNat=n.a.toNat+da by omega];exact hl.2 _ _ (by omega)
    ·
     rw [show n.b.toNat=0 by omega];simp
   ·
    rw [if_neg h9,if_neg h9];rfl
theorem c3e {NS M:List Sh} {D0 D:List Int} {dn da:Nat} (hD:D0.length=dn) (n:Sh) (hN:∀ c:Nat,c < D.length→NS.getD (dn+c) default=mvS dn da (M.getD c default)) :
  ∀ (l:List Int) (i:Nat) (d:Int),(∀ c ∈ l,0≤c∧c < D.length)→a2z NS (D0 ++ D) (mvS dn da n) i (l.map (·+(dn:Int))) d=a2z M D n i l d:=by
 intro l
 induction l with
 | nil => intro i d _;rfl
 | cons c l ih =>
  intro i d hc;obtain ⟨h0,h1⟩:=hc c (List.mem_cons_self ..);rw [List.map_cons,a2z,a2z,ih _ _ (fun c h => hc c (List.mem_cons_of_mem _ h))];have e:(c+(dn:Int)).toNat=dn+c.toNat:=by omega
  have e2:(D0 ++ D).getD (dn+c.toNat) 0=D.getD c.toNat 0:=by
   rw [List.getD_eq_getElem?_getD,List.getD_eq_getElem?_getD,List.getElem?_append_right (by omega),hD,Nat.add_sub_cancel_left]
  rw [e,e2,hN c.toNat (by omega),c7q]
theorem c5r {NS M:List Sh} {AS B:List Int} {D0 T0 D T:List Int} {dn da:Nat} {ar:Int} (hl:Lies AS B dn da) (hD:D0.length=dn) {n:Sh} (hN:∀ c:Nat,c < D.length→NS.getD (dn+c) default=mvS dn da (M.getD c default))
  (hk:kidsOk B n) (hc:∀ c ∈ kidsS B n,0≤c∧c < D.length) {s':Ms} (h:a7i M B ⟨D,T,ar⟩ n=some s') :
  a7i NS AS ⟨D0 ++ D,T0 ++ T.map (·+(dn:Int)),da+ar⟩ (mvS dn da n)=some ⟨D0 ++ s'.deps,T0 ++ s'.tops.map (·+(dn:Int)),da+s'.args⟩:=by
 obtain ⟨h1,h2,h3,rfl⟩:=a2c h;dsimp only at h1 h2 h3;have hK:=c5q hl hk;unfold a7i
 have a1:a1f AS ⟨D0 ++ D,T0 ++ T.map (·+(dn:Int)),da+ar⟩ (mvS dn da n)=true:=by
  unfold a1f at h1 ⊢;rw [b9y];by_cases h9:n.k=9
  ·
   rw [c5p _ _ _ h9];by_cases hb:0 < n.b
   ·
    rw [c4s _ _ _ h9 hb];simp only [h9,hb,decide_true,Bool.true_and,Bool.not_not,Bool.and_eq_true,decide_eq_true_eq] at h1 ⊢;have:=hl.1;omega
   ·
    simp [hb]
  ·
   simp [h9]
 rw [if_neg (by rw [a1];exact Bool.noConfusion),hK];simp only [List.length_map,List.length_append];rw [if_neg (by omega)];have e1:T0.length+T.length - (kidsS B n).length=T0.length+(T.length - (kidsS B n).length):=by omega
 rw [e1,List.drop_append,List.drop_of_length_le (by omega),List.nil_append,show T0.length+(T.length - (kidsS B n).length) - T0.length=T.length - (kidsS B n).length by omega,← List.map_drop,h3,if_pos rfl]
 congr 1
 have e2:b3j NS AS (D0 ++ D) (mvS dn da n)=b3j M B D n:=by
  unfold b3j;rw [hK,c3e hD n hN _ _ _ hc,b6z]
 rw [e2,b4f]
 congr 1
 ·
  rw [List.append_assoc]
 ·
  rw [List.take_append,List.take_of_length_le (by omega),show T0.length+(T.length - (kidsS B n).length) - T0.length=T.length - (kidsS B n).length by omega,← List.map_take,List.append_assoc,List.map_append,hD]
  congr 2
  simp;omega
 ·
  omega
theorem c7r {NS M:List Sh} {AS B:List Int} {s0:Ms} {dn da:Nat} (hl:Lies AS B dn da) (h0:run NS AS dn=some s0) (ha:s0.args=da) (hN:∀ c:Nat,c < M.length→NS.getD (dn+c) default=mvS dn da (M.getD c default))
  (hk:∀ c,c < M.length→kidsOk B (M.getD c default)∧∀ x ∈ kidsS B (M.getD c default),0≤x∧x < c):∀ {m:Nat} {s:Ms},m≤M.length→run M B m=some s →
  run NS AS (dn+m)=some ⟨s0.deps ++ s.deps,s0.tops ++ s.tops.map (·+(dn:Int)),da+s.args⟩:=by
 intro m
 induction m with
 | zero =>
  intro s _ h;simp only [run,Option.some.injEq] at h;subst h;obtain ⟨d,t,a⟩:=s0;dsimp only at ha;subst ha;simpa using h0
 | succ m ih =>
  intro s hm h
  cases hr:run M B m with
  | none => rw [run,hr] at h;cases h
  | some s1 =>
   rw [a1y hr] at h;rw [← Nat.add_assoc,a1y (ih (by omega) hr),hN m (by omega)];obtain ⟨D,T,ar⟩:=s1;have hd:=a4j hr;dsimp only at hd;obtain ⟨k1,k2⟩:=hk m (by omega);exact c5r hl (a4j h0) (fun c h => hN c (by simp only at h;omega)) k1 (fun c h => by rw [hd];exact k2 c h) h
theorem b2a {N:List Sh} {A:List Int} : ∀ {m:Nat} {s:Ms},run N A m=some s→0≤s.args∧s.tops.length+s.args≤m:=by
 intro m
 induction m with
 | zero => intro s h;simp [run] at h;subst h;simp
 | succ m ih =>
  intro s h
  cases hr:run N A m with
  | none => rw [run,hr] at h;cases h
  | some s0 =>
   rw [a1y hr] at h;obtain ⟨i1,i2⟩:=ih hr;obtain ⟨h1,h2,h3,rfl⟩:=a2c h;simp only [List.length_append,List.length_take,List.length_cons,List.length_nil]
   have hm:0≤a0n (N.getD m default)∧a0n (N.getD m default)≤(kidsS A (N.getD m default)).length:=by
    unfold a0n
    split
    ·
     rename_i h9
     unfold a1f at h1;simp only [h9.1,h9.2,decide_true,Bool.true_and,Bool.not_not,Bool.and_eq_true,decide_eq_true_eq] at h1;unfold kidsS;rw [if_neg (by omega),if_neg (by omega),if_pos h9.1,List.length_take,List.length_drop];omega
    ·
     omega
   omega
theorem c0a {N:List Sh} {A:List Int} (hk:∀ c,c < N.length→kidsOk A (N.getD c default)∧∀ x ∈ kidsS A (N.getD c default),0≤x∧x < c):∀ {m:Nat} {s:Ms},m≤N.length→run N A m=some s→∀ x ∈ A.take s.args.toNat,0≤x∧x < m:=by
 intro m
 induction m with
 | zero => intro s _ h;simp [run] at h;subst h;simp
 | succ m ih =>
  intro s hm h
  cases hr:run N A m with
  | none => rw [run,hr] at h;cases h
  | some s0 =>
   have i0:=(b2a hr).1;have i1:=ih (by omega) hr;rw [a1y hr] at h;obtain ⟨h1,h2,h3,rfl⟩:=a2c h;intro x hx;dsimp only at hx;unfold a0n at hx
   split at hx
   ·
    rename_i h9
    unfold a1f at h1;simp only [h9.1,h9.2,decide_true,Bool.true_and,Bool.not_not,Bool.and_eq_true,decide_eq_true_eq] at h1;rw [show (s0.args+(N.getD m default).b).toNat=s0.args.toNat+(N.getD m default).b.toNat by omega,List.take_add] at hx
    rcases List.mem_append.1 hx with hx | hx
    ·
     have:=i1 x hx;omega
    ·
     have hk2:=(hk m (by omega)).2 x (by
      unfold kidsS;rw [if_neg (by omega),if_neg (by omega),if_pos h9.1,h1.1]
      exact hx)
     omega
   ·
    rw [Int.add_zero] at hx;have:=i1 x hx;omega
def jnS (acc g:List Sh × List Int):List Sh × List Int:=(acc.1 ++ g.1.map (mvS acc.1.length acc.2.length),acc.2 ++ g.2.map (·+(acc.1.length:Int)))
structure Fit (g:List Sh × List Int):Prop where
 run:∃ D,run g.1 g.2 g.1.length=some ⟨D,[(g.1.length:Int) - 1],g.2.length⟩
 pos:0 < g.1.length
 kids:∀ c,c < g.1.length→kidsOk g.2 (g.1.getD c default)∧∀ x ∈ kidsS g.2 (g.1.getD c default),0≤x∧x < c
def Stands (acc:List Sh × List Int) (T:List Int):Prop:=∀ X Y,∃ D,run (acc.1 ++ X) (acc.2 ++ Y) acc.1.length=some ⟨D,T,acc.2.length⟩
theorem b7a:Stands ([],[]) []:=fun _ _ => ⟨[],rfl⟩
theorem a8v {l m:List Sh} {c:Nat} : (l ++ m).getD (l.length+c) default=m.getD c default:=by
 rw [List.getD_eq_getElem?_getD,List.getD_eq_getElem?_getD,List.getElem?_append_right (by omega),Nat.add_sub_cancel_left]
theorem b0a {l X:List Sh} {f:Sh→Sh} {c:Nat} (h:c < l.length):(l.map f ++ X).getD c default=f (l.getD c default):=by
 rw [List.getD_eq_getElem?_getD,List.getD_eq_getElem?_getD,List.getElem?_append_left (by simpa using h),List.getElem?_map,List.getElem?_eq_getElem h];rfl
theorem Stands.next {acc g:List Sh × List Int} {T:List Int} (h:Stands acc T) (hg:Fit g):Stands (jnS acc g) (T ++ [((jnS acc g).1.length:Int) - 1]):=by
 intro X Y;obtain ⟨N,A⟩:=acc;obtain ⟨M,B⟩:=g;obtain ⟨⟨D,hr⟩,hp,hk⟩:=hg;dsimp only at hr hp hk;unfold jnS;dsimp only;rw [List.append_assoc];obtain ⟨D0,h0⟩:=h (M.map (mvS N.length A.length) ++ X) (B.map (·+(N.length:Int)) ++ Y);dsimp only at h0;rw [← List.append_assoc A] at h0;have hl:Lies (A ++ B.map (·+(N.length:Int)) ++ Y) B N.length A.length:=Lies.of_app A B Y N.length;have:=c7r (M:=M) (B:=B) hl h0 rfl (fun c hc => by rw [a8v,b0a hc]) hk (Nat.le_refl _) hr;refine ⟨D0 ++ D,?_⟩;rw [List.length_append,List.length_map,this]
 congr 1
 congr 1
 ·
  simp;omega
 ·
  simp
theorem b4g {acc:List Sh × List Int} {T Y:List Int} {n:Sh} (h:Stands acc T) (hk:kidsS (acc.2 ++ Y) n=T) (ha:n.k=9→0 < n.b→n.a=acc.2.length∧n.b=Y.length) (hy:a0n n=Y.length) :
  ∃ D,run (acc.1 ++ [n]) (acc.2 ++ Y) (acc.1 ++ [n]).length=some ⟨D,[(acc.1.length:Int)],(acc.2 ++ Y).length⟩:=by
 obtain ⟨D,h0⟩:=h [n] Y;have hd:=a4j h0;dsimp only at hd;refine ⟨D ++ [b3j (acc.1 ++ [n]) (acc.2 ++ Y) D n],?_⟩;have e:(acc.1 ++ [n]).length=acc.1.length+1:=by simp
 have en:(acc.1 ++ [n]).getD acc.1.length default=n:=by simp
 rw [e,a1y h0,en];unfold a7i;rw [if_neg,hk]
 ·
  simp only;rw [if_neg (by omega),Nat.sub_self,List.drop_zero,if_pos rfl,hy];simp [hd]
 ·
  unfold a1f;dsimp only;by_cases h9:n.k=9
  ·
   by_cases hb:0 < n.b
   ·
    obtain ⟨h1,h2⟩:=ha h9 hb;simp [h9,hb,h1,h2];omega
   ·
    simp [hb]
  ·
   simp [h9]
open Go.RowKit Go.Shelf
theorem c7s (dn da:Int) (n:Nd):shN (mvN dn da n)=mvS dn da (shN n):=by
 unfold mvN mvS shN;dsimp only;by_cases h7:n.k=7
 ·
  rw [if_pos h7,if_pos h7]
 ·
  rw [if_neg h7,if_neg h7];by_cases h8:n.k=8
  ·
   rw [if_pos h8,if_pos h8]
  ·
   rw [if_neg h8,if_neg h8];by_cases h9:n.k=9∧0 < n.b
   ·
    rw [if_pos h9,if_pos h9]
   ·
    rw [if_neg h9,if_neg h9]
theorem c5s (dn da:Int) (N:List Nd):(N.map (mvN dn da)).map shN=(N.map shN).map (mvS dn da):=by
 rw [List.map_map,List.map_map];exact List.map_congr_left fun n _ => c7s dn da n
theorem d0q (n:Nd):mvN 0 0 n=n:=by
 unfold mvN
 split
 ·
  simp
 ·
  split
  ·
   simp
  ·
   split <;> simp
theorem c5t (dn da:Int) {n:Nd} (h:Fits n):Fits (mvN dn da n):=by
 unfold mvN
 split
 ·
  exact h
 ·
  split
  ·
   exact h
  ·
   split <;> exact h
theorem c5u (dn da:Int) {n:Nd} (h:a1x n=true):a1x (mvN dn da n)=true:=by
 obtain ⟨k,o,a,b,qn,qa,qd,x,tr,r,t⟩:=n;unfold mvN;dsimp only;by_cases h7:k=7
 ·
  rw [if_pos h7];unfold a1x at h ⊢;rw [Bool.and_eq_true,a2o] at h ⊢;subst h7;simp [a4i,a0s] at h ⊢;exact h
 ·
  rw [if_neg h7];by_cases h8:k=8
  ·
   rw [if_pos h8];unfold a1x at h ⊢;rw [Bool.and_eq_true,a2o] at h ⊢;subst h8;simp [a4i,a0s] at h ⊢;exact h
  ·
   rw [if_neg h8];by_cases h9:k=9∧0 < b
   ·
    rw [if_pos h9];obtain ⟨h9,hb⟩:=h9;unfold a1x at h ⊢;rw [Bool.and_eq_true,a2o] at h ⊢;subst h9;simp [a4i,a0s] at h ⊢;obtain ⟨⟨⟨h1,h2⟩,h3⟩,h4⟩:=h;exact ⟨⟨⟨h1,Or.inl (by omega)⟩,h3⟩,h4⟩
   ·
    rw [if_neg h9];exact h
theorem a8d {N:List Nd} {A:List Int} (h:a0w N A=true):Fit (N.map shN,A):=by
 obtain ⟨⟨D,T,ar⟩,hr,h1,h2,h3,_⟩:=a3h (C:=cN N) (a9t (N:=N)) h;dsimp only at h1 h2;subst h1 h2;exact ⟨⟨D,hr⟩,h3,fun c hc => a9b (C:=cN N) (a9t (N:=N)) h hc⟩
theorem a4v {N:List Nd} {A:List Int} (h:a0w N A=true):1≤N.length∧N.length≤300∧A.length+1≤N.length:=by
 obtain ⟨⟨D,T,ar⟩,hr,h1,h2,h3,h4,_⟩:=a3h (C:=cN N) (a9t (N:=N)) h;dsimp only at h1 h2;subst h1 h2;have:=(b2a hr).2;rw [List.length_map] at *;simp only [List.length_cons,List.length_nil] at this;exact ⟨h3,h4,by omega⟩
theorem c0b {N:List Nd} {A:List Int} (h:a0w N A=true):∀ i,i < N.length→cN N i=true:=by
 obtain ⟨_,_,_,_,_,_,_,hC,_⟩:=a3h (C:=cN N) (a9t (N:=N)) h;rw [List.length_map] at hC;exact hC
theorem c0c {N:List Nd} {A:List Int} (h:a0w N A=true):∀ n ∈ N,Mvd n:=by
 intro n hn;obtain ⟨m,hm⟩:=List.getElem?_of_mem hn;have hlt:=(List.getElem?_eq_some_iff.1 hm).1;obtain ⟨l1,l2,l3⟩:=a4v h;obtain ⟨k1,k2⟩:=(a8d h).kids m (by rw [List.length_map];exact hlt);dsimp only at k1 k2;rw [a2m N m n hm] at k1 k2;refine ⟨fun h78 => ?_,fun h8 => ?_,fun h9 hb => ?_⟩
 ·
  have:n.a ∈ kidsS A (shN n):=by
   unfold kidsS
   rcases h78 with h7 | h8
   ·
    rw [if_pos (show (shN n).k=7 from h7)];exact List.mem_cons_self ..
   ·
    rw [if_neg (show ¬ (shN n).k=7 from fun e => by have:n.k=7:=e;omega),if_pos (show (shN n).k=8 from h8)];exact List.mem_cons_self ..
  have:=k2 _ this;omega
 ·
  have:n.b ∈ kidsS A (shN n):=by
   unfold kidsS;rw [if_neg (show ¬ (shN n).k=7 from fun e => by have:n.k=7:=e;omega),if_pos (show (shN n).k=8 from h8)];exact List.mem_cons_of_mem _ (List.mem_cons_self ..)
  have:=k2 _ this;omega
 ·
  have:0≤n.a∧n.a+n.b≤A.length:=k1 h9 hb;omega
theorem b7b {N:List Nd} {A:List Int} (h:a0w N A=true):∀ x ∈ A,-1000≤x∧x≤1000:=by
 intro x hx;obtain ⟨⟨D,hr⟩,_,hk⟩:=a8d h;obtain ⟨l1,l2,l3⟩:=a4v h;dsimp only at hr hk;have:=c0a hk (Nat.le_refl _) hr x (by rw [Int.toNat_natCast,List.take_length];exact hx);rw [List.length_map] at this;omega
structure Jn where
 N:List Nd
 A:List Int
 T:List Int
def Jn.next (s:Jn) (g:List Nd × List Int):Jn :=
 ⟨s.N ++ g.1.map (mvN s.N.length s.A.length),s.A ++ g.2.map (·+(s.N.length:Int)),s.T ++ [((s.N.length+g.1.length:Nat):Int) - 1]⟩
def Jn.nil:Jn:=⟨[],[],[]⟩
def a0u (l:List (List Nd × List Int)):Jn:=l.foldl Jn.next Jn.nil
theorem b7c {l:List (List Nd × List Int)} {k:Nat} {g:List Nd × List Int} (h:l[k]?=some g):a0u (l.take (k+1))=(a0u (l.take k)).next g:=by
 unfold a0u;rw [List.take_add_one,h,Option.toList_some,List.foldl_append];rfl
theorem c0d:∀ (l:List (List Nd × List Int)) (s:Jn),Stands (s.N.map shN,s.A) s.T→(∀ g ∈ l,a0w g.1 g.2=true)→Stands ((l.foldl Jn.next s).N.map shN,(l.foldl Jn.next s).A) (l.foldl Jn.next s).T:=by
 intro l
 induction l with
 | nil => intro s h _;exact h
 | cons g l ih =>
  intro s h hg;refine ih _ ?_ (fun g h => hg g (List.mem_cons_of_mem _ h));have:=h.next (a8d (hg g (List.mem_cons_self ..)));unfold jnS at this;simp only [List.length_map,List.length_append] at this;rw [← c5s,← List.map_append] at this;exact this
theorem c7t:∀ (l:List (List Nd × List Int)) (s:Jn),(∀ n ∈ s.N,a1x n=true)→(∀ g ∈ l,a0w g.1 g.2=true)→∀ n ∈ (l.foldl Jn.next s).N,a1x n=true:=by
 intro l
 induction l with
 | nil => intro s h _;exact h
 | cons g l ih =>
  intro s h hg;refine ih _ ?_ (fun g h => hg g (List.mem_cons_of_mem _ h));intro n hn
  rcases List.mem_append.1 hn with hn | hn
  ·
   exact h n hn
  ·
   obtain ⟨m,hm,rfl⟩:=List.mem_map.1 hn;obtain ⟨i,hi⟩:=List.getElem?_of_mem hm;have:=c0b (hg g (List.mem_cons_self ..)) i (List.getElem?_eq_some_iff.1 hi).1;rw [a3j hi] at this;exact c5u _ _ this
theorem c5v:∀ (l:List (List Nd × List Int)) (s:Jn),(∀ n ∈ s.N,Fits n)→(∀ g ∈ l,∀ n ∈ g.1,Fits n)→∀ n ∈ (l.foldl Jn.next s).N,Fits n:=by
 intro l
 induction l with
 | nil => intro s h _;exact h
 | cons g l ih =>
  intro s h hg;refine ih _ ?_ (fun g h => hg g (List.mem_cons_of_mem _ h));intro n hn
  rcases List.mem_append.1 hn with hn | hn
  ·
   exact h n hn
  ·
   obtain ⟨m,hm,rfl⟩:=List.mem_map.1 hn;exact c5t _ _ (hg g (List.mem_cons_self ..) m hm)
theorem b4h:∀ (l:List (List Nd × List Int)) (s:Jn),s.A.length+s.T.length≤s.N.length→(∀ g ∈ l,a0w g.1 g.2=true)→(l.foldl Jn.next s).A.length+(l.foldl Jn.next s).T.length≤(l.foldl Jn.next s).N.length∧(l.foldl Jn.next s).N.length≤s.N.length+300 * l.length∧(l.foldl Jn.next s).T.length=s.T.length+l.length:=by
 intro l
 induction l with
 | nil => intro s h _;exact ⟨h,Nat.le_refl _,rfl⟩
 | cons g l ih =>
  intro s h hg;obtain ⟨r1,r2,r3⟩:=a4v (hg g (List.mem_cons_self ..))
  have h2:(s.next g).A.length+(s.next g).T.length≤(s.next g).N.length:=by
   unfold Jn.next;simp only [List.length_append,List.length_map,List.length_cons,List.length_nil];omega
  obtain ⟨i1,i2,i3⟩:=ih _ h2 (fun g h => hg g (List.mem_cons_of_mem _ h));have e1:(s.next g).N.length=s.N.length+g.1.length:=by unfold Jn.next;simp
  have e2:(s.next g).T.length=s.T.length+1:=by unfold Jn.next;simp
  rw [List.foldl_cons];refine ⟨i1,?_,?_⟩
  ·
   rw [e1] at i2;rw [List.length_cons];omega
  ·
   rw [i3,e2,List.length_cons];omega
def b2b (N:List Nd) (A:List Int):Int:=if 300 < N.length then 9 else if a0w N A then 0 else 8
theorem c0e {s:Jn} (hs:Stands (s.N.map shN,s.A) s.T) (hC:∀ n ∈ s.N,a1x n=true) {n:Nd} (hn:a1x n=true) {Y:List Int} (hk:kidsS (s.A ++ Y) (shN n)=s.T) (ha:n.k=9→0 < n.b→n.a=s.A.length∧n.b=Y.length) (hy:a0n (shN n)=Y.length) :
  b5o (a1q (cN (s.N ++ [n])) ((s.N ++ [n]).map shN) (s.A ++ Y)).2=b2b (s.N ++ [n]) (s.A ++ Y):=by
 obtain ⟨h1,_⟩:=a3x (s.N ++ [n]) (s.A ++ Y);unfold b2b;by_cases h300:300 < (s.N ++ [n]).length
 ·
  rw [if_pos h300];unfold a1q;rw [List.length_map,if_pos h300];rfl
 ·
  rw [if_neg h300];obtain ⟨D,hr⟩:=b4g (acc:=(s.N.map shN,s.A)) (Y:=Y) hs hk ha hy;dsimp only at hr;have e:s.N.map shN ++ [shN n]=(s.N ++ [n]).map shN:=by simp
  rw [e,List.length_map] at hr
  have hrc:b1c (cN (s.N ++ [n])) ((s.N ++ [n]).map shN) (s.A ++ Y) (s.N ++ [n]).length=some ⟨D,[((s.N.map shN).length:Int)],(s.A ++ Y).length⟩:=by
   refine runC_iff.2 ⟨fun i hi => ?_,hr⟩
   rw [a3j (List.getElem?_eq_getElem hi)];have hm:=List.getElem_mem hi
   rcases List.mem_append.1 hm with h | h
   ·
    exact hC _ h
   ·
    rw [List.mem_singleton.1 h];exact hn
  have hv:a1q (cN (s.N ++ [n])) ((s.N ++ [n]).map shN) (s.A ++ Y)=(0,2) ∨ ∃ d,a1q (cN (s.N ++ [n])) ((s.N ++ [n]).map shN) (s.A ++ Y)=(d,0):=by
   unfold a1q;rw [List.length_map,if_neg h300,hrc];unfold c4r;dsimp only;rw [if_neg (by simp)]
   split
   ·
    exact Or.inl rfl
   ·
    exact Or.inr ⟨_,rfl⟩
  rw [h1];generalize a1q (cN (s.N ++ [n])) ((s.N ++ [n]).map shN) (s.A ++ Y)=z at *
  rcases hv with hv | ⟨d,hv⟩
  ·
   subst hv;rfl
  ·
   subst hv;rfl
def a5k (n:Nd) (s:Jn):Nd:=if n.k=7 then { n with a:=s.T.getD 0 0 } else if n.k=8 then { n with a:=s.T.getD 0 0,b:=s.T.getD 1 0 } else { n with a:=s.A.length,b:=s.T.length }
def a5g (n:Nd) (s:Jn):List Int:=if n.k=9 then s.T else []
def a3a (n:Nd) (l:List (List Nd × List Int)):List Nd × List Int × Int :=
 if a1x n=true∧(∀ g ∈ l,a0w g.1 g.2=true) then
  if 20 < l.length then ([],[],2)
  else if b2b ((a0u l).N ++ [a5k n (a0u l)]) ((a0u l).A ++ a5g n (a0u l))=0 then ((a0u l).N ++ [a5k n (a0u l)],(a0u l).A ++ a5g n (a0u l),0)
  else ([],[],b2b ((a0u l).N ++ [a5k n (a0u l)]) ((a0u l).A ++ a5g n (a0u l)))
 else ([],[],3)
end Go.Proofs.YtjfkbeanbbeloaaGreatDoor
