import Derived.Lib.Hide
namespace Go.Proofs.YtibiacmbljgmhaaGreatDoor
set_option linter.unusedSimpArgs false
set_option linter.unusedVariables false
structure Sh where
 k:Int
 a:Int
 b:Int
 lv:Int
instance:Inhabited Sh:=⟨⟨0,0,0,8⟩⟩
def Xj (A:List Int) (n:Sh):List Int:=if n.k=7 then [n.a] else if n.k=8 then [n.a,n.b] else if n.k=9 then (A.drop n.a.toNat).take n.b.toNat else []
def d7y (A:List Int) (n:Sh):Prop:=n.k=9->0<n.b->0<=n.a/\n.a+n.b<=A.length
def a1h (A:List Int) (n:Sh):Bool:=!(decide (n.k=9)&&decide (0<n.b) && !(decide (0<=n.a)&&decide (n.a+n.b<=A.length)))
theorem a2g (A:List Int) (n:Sh):a1h A n=true ↔ d7y A n:=by
 unfold a1h d7y;by_cases h1:n.k=9<;>by_cases h2:0<n.b<;>by_cases h3:0<=n.a<;>by_cases h4:n.a+n.b<=A.length<;>simp[h1,h2,h3,h4]
def brk (n kid:Sh) (i:Nat):Bool:=if n.k=9 then false else if n.k=8/\i=1 then decide (kid.lv<=n.lv) else decide (kid.lv<n.lv)
def a2z (N:List Sh) (deps:List Int) (n:Sh):Nat->List Int->Int->Int
 | _,[],d=>d
 | i,c :: l,d=>a2z N deps n (i+1) l (max d (deps.getD c.toNat 0+if brk n (N.getD c.toNat default) i then 1 else 0))
def a1v (n:Sh):Int:=if n.k=9\/n.lv=6 then 1 else 0
def b3j (N:List Sh) (A:List Int) (deps:List Int) (n:Sh):Int:=a2z N deps n 0 (Xj A n) 0+a1v n
structure Ms where
 deps:List Int
 tops:List Int
 args:Int
def a1f (A:List Int) (s:Ms) (n:Sh):Bool:=!(decide (n.k=9)&&decide (0<n.b) && !(decide (n.a=s.args)&&decide (n.b<=A.length-s.args)))
def a0n (n:Sh):Int:=if n.k=9/\0<n.b then n.b else 0
def a7i (N:List Sh) (A:List Int) (s:Ms) (n:Sh):Option Ms :=
 if a1f A s n=false then none
 else if s.tops.length<(Xj A n).length then none
 else if s.tops.drop (s.tops.length-(Xj A n).length)=Xj A n then
  some ⟨s.deps ++ [b3j N A s.deps n],s.tops.take (s.tops.length-(Xj A n).length) ++ [(s.deps.length:Int)],s.args+a0n n⟩
 else none
def run (N:List Sh) (A:List Int):Nat->Option Ms
 | 0=>some ⟨[],[],0⟩
 | m+1=>(run N A m).bind fun s=>a7i N A s (N.getD m default)
theorem c2q {N:List Sh} {A:List Int} {m n:Nat} (h:run N A m=none) (hmn:m<=n):run N A n=none:=by
 induction n with
 | zero =>
      obtain rfl:m=0:=by omega
      exact h
 | succ n ih =>
  by_cases e:m=n+1
  ·
   subst e;exact h
  ·
   rw[run,ih (by omega)];rfl
theorem a1y {N:List Sh} {A:List Int} {m:Nat} {s:Ms} (h:run N A m=some s):run N A (m+1)=a7i N A s (N.getD m default):=by rw[run,h];rfl
theorem a2c {N:List Sh} {A:List Int} {s s':Ms} {n:Sh} (h:a7i N A s n=some s'):a1f A s n=true/\(Xj A n).length<=s.tops.length/\s.tops.drop (s.tops.length-(Xj A n).length)=Xj A n /\
  s'=⟨s.deps ++ [b3j N A s.deps n],s.tops.take (s.tops.length-(Xj A n).length) ++ [(s.deps.length:Int)],s.args+a0n n⟩:=by
 unfold a7i at h
 split at h
 ·
  cases h
 ·
  rename_i h1
  split at h
  ·
   cases h
  ·
   rename_i h2
   split at h
   ·
    rename_i h3
    exact⟨by simpa using h1,by omega,h3,(Option.some.inj h).symm⟩
   ·
    cases h
theorem a4j {N:List Sh} {A:List Int} : ∀ {m:Nat} {s:Ms},run N A m=some s->s.deps.length=m:=by
 intro m
 induction m with
 | zero=>intro s h;simp[run] at h;subst h;rfl
 | succ m ih =>
  intro s h
  cases hr:run N A m with
  | none=>rw[run,hr] at h;cases h
  | some s0 =>
   rw[a1y hr] at h;obtain⟨_,_,_,rfl⟩:=a2c h;simp[ih hr]
theorem a5m {N:List Sh} {A:List Int} (hb:∀ n ∈ N,n.k=9->0<=n.b):∀ {m:Nat} {s:Ms},m<=N.length->run N A m=some s->0<=s.args/\s.args<=A.length/\s.args+s.tops.length<=m/\(∀ t ∈ s.tops,0<=t/\t<m)/\s.tops.length<=m:=by
 intro m
 induction m with
 | zero=>intro s _ h;simp[run] at h;subst h;simp
 | succ m ih =>
  intro s hm h
  cases hr:run N A m with
  | none=>rw[run,hr] at h;cases h
  | some s0 =>
   obtain⟨i1,i2,i3,i4,i5⟩:=ih (by omega) hr;rw[a1y hr] at h;have hl:=a4j hr;obtain⟨h1,h2,h3,rfl⟩:=a2c h;have hin:N.getD m default ∈ N:=by rw[List.getD_eq_getElem?_getD,List.getElem?_eq_getElem (by omega)];exact List.getElem_mem _
   have hbn:=hb _ hin;generalize N.getD m default=n at *
   have hm1:0<=a0n n/\(a0n n<=(Xj A n).length)/\s0.args+a0n n<=A.length:=by
    unfold a0n
    split
    ·
     rename_i hc
     obtain⟨c1,c2⟩:=hc;unfold a1f at h1;simp[c1,c2] at h1;refine⟨by omega,?_,by omega⟩;unfold Xj;simp[c1];omega
    ·
     exact⟨by omega,by omega,by omega⟩
   refine⟨by simp only;omega,by simp only;omega,?_,?_,?_⟩
   ·
    simp[hl];omega
   ·
    intro t ht;simp only[List.mem_append,List.mem_singleton] at ht
    rcases ht with ht | ht
    ·
     have:=i4 t (List.mem_of_mem_take ht);omega
    ·
     rw[ht,hl];omega
   ·
    simp;omega
inductive Forest (N:List Sh) (A:List Int):Nat->List Int->Nat->Prop
 | nil (s:Nat):Forest N A s [] s
 | snoc {s m i:Nat} {l:List Int} : Forest N A s l m->Forest N A m (Xj A (N.getD i default)) i->i<N.length->d7y A (N.getD i default)->Forest N A s (l ++ [(i:Int)]) (i+1)
theorem Forest.le {N:List Sh} {A:List Int} {s e:Nat} {l:List Int} (h:Forest N A s l e):s<=e:=by
 induction h with
 | nil s=>exact Nat.le_refl _
 | snoc _ _ _ _ i1 i2=>omega
theorem Forest.append {N:List Sh} {A:List Int} {s m e:Nat} {l1 l2:List Int} (h1:Forest N A s l1 m) (h2:Forest N A m l2 e):Forest N A s (l1++l2) e:=by
 induction h2 with
 | nil m=>rw[List.append_nil];exact h1
 | snoc ha hb hi ho i1 i2=>rw[<-List.append_assoc];exact .snoc (i1 h1) hb hi ho
theorem Forest.end_nil {N:List Sh} {A:List Int} {s e:Nat} (h:Forest N A s [] e):s=e:=by
 generalize hl:([]:List Int)=l at h
 cases h with
 | nil=>rfl
 | snoc=>simp at hl
theorem Forest.last {N:List Sh} {A:List Int} {s e:Nat} {l:List Int} {c:Int} (h:Forest N A s (l ++ [c]) e):∃ m i:Nat,c=i/\e=i+1/\Forest N A s l m/\Forest N A m (Xj A (N.getD i default)) i/\i<N.length/\d7y A (N.getD i default):=by
 generalize hl:l ++ [c]=l' at h
 cases h with
 | nil=>simp at hl
 | @snoc s m i l0 h1 h2 hi ho =>
  obtain⟨rfl,h3⟩:=List.append_inj' hl rfl;simp at h3;exact⟨m,i,h3,rfl,h1,h2,hi,ho⟩
theorem Forest.split {N:List Sh} {A:List Int} {s:Nat} {l1:List Int} : ∀ (l2:List Int) {e:Nat},Forest N A s (l1++l2) e->∃ m,Forest N A s l1 m/\Forest N A m l2 e:=by
 intro l2
 induction h:l2.length generalizing l2 with
 | zero =>
  intro e hf;obtain rfl:l2=[]:=List.eq_nil_of_length_eq_zero h;rw[List.append_nil] at hf;exact⟨e,hf,.nil e⟩
 | succ n ih =>
  intro e hf;have hne:l2≠[]:=by intro e;subst e;simp at h
  obtain⟨l3,c,rfl⟩:∃ l3 c,l2=l3 ++ [c]:=⟨l2.dropLast,l2.getLast hne,(List.dropLast_concat_getLast hne).symm⟩;rw[<-List.append_assoc] at hf;obtain⟨m,i,rfl,rfl,h1,h2,hi,ho⟩:=hf.last;obtain⟨m',h3,h4⟩:=ih l3 (by simp at h;omega) h1;exact⟨m',h3,.snoc h4 h2 hi ho⟩
theorem a9a {N:List Sh} {A:List Int} (hb:∀ n ∈ N,n.k=9->0<=n.b):∀ {m:Nat} {s:Ms},m<=N.length->run N A m=some s->Forest N A 0 s.tops m:=by
 intro m
 induction m with
 | zero=>intro s _ h;simp[run] at h;subst h;exact .nil 0
 | succ m ih =>
  intro s hm h
  cases hr:run N A m with
  | none=>rw[run,hr] at h;cases h
  | some s0 =>
   have hf:=ih (by omega) hr;have hx:=a5m hb (by omega) hr;rw[a1y hr] at h;have hl:=a4j hr;obtain⟨h1,h2,h3,rfl⟩:=a2c h;rw[<-List.take_append_drop (s0.tops.length-(Xj A (N.getD m default)).length) s0.tops,h3] at hf;obtain⟨m',f1,f2⟩:=hf.split;simp only;rw[hl];refine .snoc f1 f2 (by omega) ?_;intro h9 hp;unfold a1f at h1;simp only[h9,hp,decide_true,Bool.true_and,Bool.not_not,Bool.and_eq_true,decide_eq_true_eq] at h1;omega
def a1r (N:List Sh):Nat->Option Int
 | 0=>some 0
 | m+1=>(a1r N m).bind fun at0=>if (N.getD m default).k=9/\0<(N.getD m default).b/\(N.getD m default).a≠at0 then none else some (at0+a0n (N.getD m default))
theorem a7r {N:List Sh} {m:Nat} {x:Int} (h:a1r N (m+1)=some x):∃ y,a1r N m=some y/\((N.getD m default).k=9->0<(N.getD m default).b->(N.getD m default).a=y)/\x=y+a0n (N.getD m default):=by
 rw[a1r] at h
 cases hy:a1r N m with
 | none=>rw[hy] at h;cases h
 | some y =>
  rw[hy] at h;simp only[Option.bind_some] at h
  split at h
  ·
   cases h
  ·
   rename_i hc
   refine⟨y,rfl,fun h1 h2=>?_,(Option.some.inj h).symm⟩
   by_cases e:(N.getD m default).a=y
   ·
    exact e
   ·
    exact absurd ⟨h1,h2,e⟩ hc
theorem a7s (n:Sh):0<=a0n n:=by unfold a0n;split<;>omega
theorem b1k {N:List Sh} {m n:Nat} (hmn:m<=n):∀ {y:Int},a1r N n=some y->∃ x,a1r N m=some x/\x<=y:=by
 induction n with
 | zero =>
      intro y h;obtain rfl:m=0:=by omega
      exact⟨y,h,Int.le_refl _⟩
 | succ n ih =>
  intro y h;by_cases e:m=n+1
  ·
   subst e;exact⟨y,h,Int.le_refl _⟩
  ·
   obtain⟨x,hx,_,rfl⟩:=a7r h;obtain⟨z,hz,hzx⟩:=ih (by omega) hx;have:=a7s (N.getD n default);exact⟨z,hz,by omega⟩
theorem a9r {N:List Sh} {A:List Int} : ∀ {m:Nat} {s:Ms},run N A m=some s->a1r N m=some s.args:=by
 intro m
 induction m with
 | zero=>intro s h;simp[run] at h;subst h;rfl
 | succ m ih =>
  intro s h
  cases hr:run N A m with
  | none=>rw[run,hr] at h;cases h
  | some s0 =>
   rw[a1y hr] at h;obtain⟨h1,_,_,rfl⟩:=a2c h;rw[a1r,ih hr];simp only[Option.bind_some];clear h;generalize N.getD m default=n at *;rw[if_neg];rintro ⟨c1,c2,c3⟩;unfold a1f at h1;simp[c1,c2,c3] at h1
theorem b6o {N:List Sh} {A:List Int} {e0:Nat} (hb:∀ n ∈ N,n.k=9->0<=n.b) (hA:∃ x,a1r N e0=some x/\x<=A.length) {s e:Nat} {l:List Int} (h:Forest N A s l e):e<=e0->∀ (t:Ms),run N A s=some t->∃ t',run N A e=some t'/\t'.tops=t.tops++l:=by
 induction h with
 | nil s=>intro _ t ht;exact⟨t,ht,(List.append_nil _).symm⟩
 | @snoc s m i l h1 h2 hi ho i1 i2 =>
  intro he t ht;have:=h2.le;obtain⟨t1,r1,e1⟩:=i1 (by omega) t ht;obtain⟨t2,r2,e2⟩:=i2 (by omega) t1 r1;have hl:=a4j r2;obtain⟨x,hx,hxA⟩:=hA;obtain⟨y,hy,hyx⟩:=b1k he hx;obtain⟨z,hz,hc,rfl⟩:=a7r hy;rw[a9r r2] at hz;obtain rfl:=Option.some.inj hz;rw[a1y r2];generalize N.getD i default=n at *;have hlen:t2.tops.length-(Xj A n).length=(t1.tops).length:=by rw[e2];simp
  have h3:t2.tops.drop (t2.tops.length-(Xj A n).length)=Xj A n:=by rw[hlen,e2,List.drop_left]
  refine⟨⟨t2.deps ++ [b3j N A t2.deps n],t2.tops.take (t2.tops.length-(Xj A n).length) ++ [(t2.deps.length:Int)],t2.args+a0n n⟩,?_,?_⟩
  ·
   unfold a7i;rw[if_neg,if_neg,if_pos h3]
   ·
    rw[e2];simp
   ·
    simp only[Bool.not_eq_false];unfold a1f;by_cases c1:n.k=9
    ·
     by_cases c2:0<n.b
     ·
      have c3:=hc c1 c2
      have c4:n.b<=A.length-t2.args:=by
       have:a0n n=n.b:=by unfold a0n;rw[if_pos ⟨c1,c2⟩]
       omega
      simp[c1,c2,c3];omega
     ·
      simp[c2]
    ·
     simp[c1]
  ·
   simp only;rw[hlen,e2,List.take_left,e1,List.append_assoc,hl]
def a1m (W:Int->Int->Option (List Int)) (i bud:Int):List Int->List Int->Option (List Int)
 | [],out=>some out
 | c :: l,out=>if i<=c then none else (W c (bud-out.length-1)).bind fun x=>a1m W i bud l (out++x)
def a2d (N:List Sh) (A:List Int):Nat->Int->Int->Option (List Int)
 | 0,_,_=>none
 | f+1,i,bud=>if i<0\/(N.length:Int)<=i\/bud<=0 then none
  else if a1h A (N.getD i.toNat default)=false then none
  else (a1m (a2d N A f) i bud (Xj A (N.getD i.toNat default)) []).bind fun out=>if (out.length:Int)<bud then some (out ++ [i]) else none
theorem a9s (W:Int->Int->Option (List Int)) (i bud:Int) (l1 l2:List Int):∀ out,a1m W i bud (l1++l2) out=(a1m W i bud l1 out).bind fun o=>a1m W i bud l2 o:=by
 induction l1 with
 | nil=>intro out;rfl
 | cons c l1 ih =>
  intro out;rw[List.cons_append,a1m,a1m]
  split
  ·
   rfl
  ·
   cases h:W c (bud-out.length-1) with
   | none=>rfl
   | some x=>exact ih (out++x)
def rng (s n:Nat):List Int:=(List.range' s n).map fun (k:Nat)=>(k:Int)
theorem a1o (s n:Nat):(rng s n).length=n:=by simp[rng]
theorem a4q (s m n:Nat):rng s m++rng (s+m) n=rng s (m+n):=by unfold rng;rw[<-List.map_append,List.range'_append_1]
theorem b3n (s:Nat):rng s 1=[(s:Int)]:=rfl
theorem b8q (s n k:Nat) (h:k<n):(rng s n)[k]?=some ((s+k:Nat):Int):=by
 unfold rng;rw[List.getElem?_map,List.getElem?_range' h];simp
theorem a7t {s n:Nat} {l1 l2:List Int} (h:l1++l2=rng s n):l1=rng s l1.length/\l2=rng (s+l1.length) l2.length:=by
 have hl:=congrArg List.length h;rw[List.length_append,a1o] at hl;rw[<-hl,<-a4q] at h;exact List.append_inj h (by rw[a1o])
theorem b3o {N:List Sh} {A:List Int} {s e:Nat} {l:List Int} (h:Forest N A s l e):∀ (f:Nat) (i bud:Int) (out:List Int),e<=f->(e:Int)<=i->(out.length:Int)+(e-s)+1<=bud->a1m (a2d N A f) i bud l out=some (out++rng s (e-s)):=by
 induction h with
 | nil s =>
  intro f i bud out _ _ _;rw[Nat.sub_self];simp[a1m,rng]
 | @snoc s m j l h1 h2 hj ho i1 i2 =>
  intro f i bud out hf hi hb;have l1:=h1.le;have l2:=h2.le;rw[a9s,i1 f i bud out (by omega) (by omega) (by omega)];simp only[Option.bind_some];rw[a1m,if_neg (by omega)];obtain⟨f,rfl⟩:∃ g,f=g+1:=⟨f-1,by omega⟩;have hlen:((out++rng s (m-s)).length:Int)=out.length+(m-s):=by rw[List.length_append,a1o];omega
  rw[hlen,a2d,if_neg (by omega)];rw[if_neg (by rw[Int.toNat_natCast,(a2g _ _).2 ho];exact Bool.noConfusion)];rw[Int.toNat_natCast,i2 f j _ [] (by omega) (by omega) (by simp;omega)];simp only[Option.bind_some,List.nil_append,a1o];rw[if_pos (by omega)];simp only[Option.bind_some,a1m]
  have e1:rng m (j-m) ++ [(j:Int)]=rng m (j+1-m):=by
   rw[<-b3n,show j+1-m=(j-m)+1 by omega,<-a4q,show m+(j-m)=j by omega]
  rw[e1,List.append_assoc,show rng s (m-s)++rng m (j+1-m)=rng s (j+1-s) by
   rw[show j+1-s=(m-s)+(j+1-m) by omega,<-a4q,show s+(m-s)=m by omega]]
theorem b3p {N:List Sh} {A:List Int} : ∀ (f:Nat) (i bud:Int) (s n:Nat),a2d N A f i bud=some (rng s n)->Forest N A s [i] (s+n)/\(i:Int)=s+n-1:=by
 intro f
 induction f with
 | zero=>intro i bud s n h;cases h
 | succ f ih =>
  have kids:∀ (l:List Int) (i bud:Int) (out:List Int) (s n:Nat),out=rng s out.length->a1m (a2d N A f) i bud l out=some (rng s n)->Forest N A (s+out.length) l (s+n):=by
   intro l
   induction l with
   | nil =>
    intro i bud out s n ho h;simp only[a1m,Option.some.injEq] at h;have hl:=congrArg List.length h;rw[a1o] at hl;rw[hl];exact .nil _
   | cons c l ihl =>
    intro i bud out s n ho h;rw[a1m] at h
    split at h
    ·
     cases h
    ·
     cases hw:a2d N A f c (bud-out.length-1) with
     | none=>rw[hw] at h;cases h
     | some x =>
      rw[hw] at h;simp only[Option.bind_some] at h
      have pre:∀ (l:List Int) (i bud:Int) (o r:List Int),a1m (a2d N A f) i bud l o=some r->∃ z,r=o++z:=by
       intro l
       induction l with
       | nil=>intro i bud o r h;simp only[a1m,Option.some.injEq] at h;exact⟨[],by rw[h,List.append_nil]⟩
       | cons c l ihl =>
        intro i bud o r h;rw[a1m] at h
        split at h
        ·
         cases h
        ·
         cases hw:a2d N A f c (bud-o.length-1) with
         | none=>rw[hw] at h;cases h
         | some x =>
          rw[hw] at h;obtain⟨z,rfl⟩:=ihl _ _ _ _ h;exact⟨x++z,by rw[List.append_assoc]⟩
      obtain⟨z,hz⟩:=pre _ _ _ _ _ h;have hs:=a7t hz.symm;have hs2:out++x=rng s (out++x).length:=hs.1;have hx:=(a7t hs2).2;rw[hx] at hw;obtain⟨f1,_⟩:=ih _ _ _ _ hw;have f2:=ihl _ _ _ _ _ hs2 h;rw[List.length_append] at f2;rw[Nat.add_assoc] at f1;exact f1.append f2
  intro i bud s n h;rw[a2d] at h
  split at h
  ·
   cases h
  ·
   rename_i h1
   split at h
   ·
    cases h
   ·
    rename_i h2
    cases hg:a1m (a2d N A f) i bud (Xj A (N.getD i.toNat default)) [] with
    | none=>rw[hg] at h;cases h
    | some out =>
     rw[hg] at h;simp only[Option.bind_some] at h
     split at h
     ·
      rename_i h3
      have h4:=Option.some.inj h;obtain⟨h5,h6⟩:=a7t h4;have hl:=congrArg List.length h4;rw[List.length_append,a1o] at hl;simp only[List.length_cons,List.length_nil] at hl h6;rw[h5] at hg;have hf:=kids _ _ _ _ _ _ rfl hg;simp only[List.length_nil,Nat.add_zero] at hf;have h7:i=((s+out.length:Nat):Int):=by rw[b3n] at h6;simpa using h6
      have h8:i.toNat=s+out.length:=by omega
      have hok:=(a2g A (N.getD i.toNat default)).1 (by simpa using h2);rw[h8] at hf hok;have:=Forest.snoc (l:=[]) (.nil s) hf (by omega) hok;rw[List.nil_append,<-h7,Nat.add_assoc,hl] at this;exact⟨this,by omega⟩
     ·
      cases h
theorem a5n {N:List Sh} {A:List Int} (hb:∀ n ∈ N,n.k=9->0<=n.b) (h0:0<N.length) (h1:N.length<=300) :
  (a2d N A N.length ((N.length:Int)-1) 300=some (rng 0 N.length)/\a1r N N.length=some (A.length:Int)) ↔ ∃ s,run N A N.length=some s/\s.tops.length=1/\s.args=A.length:=by
 constructor
 ·
  rintro ⟨hw,ha⟩;obtain⟨hf,_⟩:=b3p _ _ _ _ _ hw;rw[Nat.zero_add] at hf;obtain⟨t,ht,e⟩:=b6o hb ⟨_,ha,Int.le_refl _⟩ hf (Nat.le_refl _) ⟨[],[],0⟩ rfl;refine⟨t,ht,by rw[e];rfl,?_⟩;have:=a9r ht;rw[ha] at this;exact(Option.some.inj this).symm
 ·
  rintro ⟨s,hr,ht,ha⟩;refine⟨?_,by rw[a9r hr,ha]⟩;have hf:=a9a hb (Nat.le_refl _) hr
  obtain⟨t,e⟩:∃ t,s.tops=[t]:=by
   match h:s.tops,ht with
   | [t],_=>exact⟨t,rfl⟩
  rw[e] at hf;obtain⟨m,i,rfl,hi,f1,f2,h3,h4⟩:=Forest.last (l:=[]) hf;obtain rfl:=f1.end_nil;have e2:(N.length:Int)-1=(i:Int):=by omega
  obtain⟨f,hf⟩:∃ f,N.length=f+1:=⟨N.length-1,by omega⟩;rw[e2,hf,a2d,if_neg (by omega),if_neg (by rw[Int.toNat_natCast,(a2g _ _).2 h4];exact Bool.noConfusion)];rw[Int.toNat_natCast,b3o f2 f i 300 [] (by omega) (by omega) (by simp;omega)];simp only[Option.bind_some,List.nil_append,a1o];rw[if_pos (by omega),<-b3n,show i-0=i by omega,show f=i by omega,<-a4q,Nat.zero_add]
def b1c (C:Nat->Bool) (N:List Sh) (A:List Int):Nat->Option Ms
 | 0=>some ⟨[],[],0⟩
 | m+1=>(b1c C N A m).bind fun s=>if C m then a7i N A s (N.getD m default) else none
theorem runC_iff {C:Nat->Bool} {N:List Sh} {A:List Int} : ∀ {m:Nat} {s:Ms},b1c C N A m=some s ↔ (∀ i,i<m->C i=true)/\run N A m=some s:=by
 intro m
 induction m with
 | zero=>intro s;exact⟨fun h=>⟨fun i hi=>absurd hi (Nat.not_lt_zero i),h⟩,fun h=>h.2⟩
 | succ m ih =>
  intro s;rw[b1c,run];constructor
  ·
   intro h
   cases hr:b1c C N A m with
   | none=>rw[hr] at h;cases h
   | some s0 =>
    rw[hr] at h;simp only[Option.bind_some] at h;obtain⟨h1,h2⟩:=ih.1 hr
    split at h
    ·
     rename_i hc
     refine⟨fun i hi=>?_,by rw[h2];exact h⟩
     by_cases e:i=m
     ·
      rw[e];exact hc
     ·
      exact h1 i (by omega)
    ·
     cases h
  ·
   rintro ⟨h1,h2⟩
   cases hr:run N A m with
   | none=>rw[hr] at h2;cases h2
   | some s0 =>
    rw[hr] at h2;rw[ih.2 ⟨fun i hi=>h1 i (by omega),hr⟩]
    simp only[Option.bind_some];rw[if_pos (h1 m (by omega))];exact h2
theorem b8r {C:Nat->Bool} {N:List Sh} {A:List Int} {m n:Nat} (h:b1c C N A m=none) (hmn:m<=n):b1c C N A n=none:=by
 induction n with
 | zero =>
      obtain rfl:m=0:=by omega
      exact h
 | succ n ih =>
  by_cases e:m=n+1
  ·
   subst e;exact h
  ·
   rw[b1c,ih (by omega)];rfl
def a3g (N:List Sh) (A:List Int):Nat->List Int
 | 0=>[]
 | m+1=>a3g N A m ++ [b3j N A (a3g N A m) (N.getD m default)]
theorem a7u (N:List Sh) (A:List Int) (m:Nat):(a3g N A m).length=m:=by
 induction m with
 | zero=>rfl
 | succ m ih=>rw[a3g,List.length_append,ih];rfl
theorem b5g {N:List Sh} {A:List Int} : ∀ {m:Nat} {s:Ms},run N A m=some s->s.deps=a3g N A m:=by
 intro m
 induction m with
 | zero=>intro s h;simp[run] at h;subst h;rfl
 | succ m ih =>
  intro s h
  cases hr:run N A m with
  | none=>rw[run,hr] at h;cases h
  | some s0 =>
   rw[a1y hr] at h;obtain⟨_,_,_,rfl⟩:=a2c h;rw[a3g,<-ih hr]
theorem c2r (N:List Sh) (deps:List Int) (n:Sh) (x:Int) (hd:∀ d ∈ deps,0<=d/\d<=x) (hx:0<=x):∀ (l:List Int) (i:Nat) (d:Int),0<=d->d<=x+1->0<=a2z N deps n i l d/\a2z N deps n i l d<=x+1:=by
 intro l
 induction l with
 | nil=>intro i d h1 h2;exact⟨h1,h2⟩
 | cons c l ih =>
  intro i d h1 h2;rw[a2z]
  have hg:0<=deps.getD c.toNat 0/\deps.getD c.toNat 0<=x:=by
   rw[List.getD_eq_getElem?_getD]
   cases h:deps[c.toNat]? with
   | none=>exact⟨Int.le_refl _,hx⟩
   | some v=>exact hd v (List.mem_of_getElem? h)
  generalize deps.getD c.toNat 0=g at *;exact ih _ _ (by omega) (by split<;>omega)
theorem a7v (N:List Sh) (A:List Int) (m:Nat):∀ d ∈ a3g N A m,0<=d/\d<=2*m:=by
 induction m with
 | zero=>intro d h;cases h
 | succ m ih =>
  intro d h;rw[a3g,List.mem_append,List.mem_singleton] at h
  rcases h with h | h
  ·
   have:=ih d h;omega
  ·
   have hk:=c2r N (a3g N A m) (N.getD m default) (2*m) ih (by omega) (Xj A (N.getD m default)) 0 0 (by omega) (by omega);have ho:0<=a1v (N.getD m default)/\a1v (N.getD m default)<=1:=by unfold a1v;split<;>omega
   rw[h];unfold b3j;omega
theorem b5h {N:List Sh} {A:List Int} (hb:∀ n ∈ N,n.k=9->0<=n.b) {m:Nat} {s:Ms} (hm:m<N.length) (h:run N A (m+1)=some s):d7y A (N.getD m default)/\∀ c ∈ Xj A (N.getD m default),0<=c/\c<m:=by
 cases hr:run N A m with
 | none=>rw[run,hr] at h;cases h
 | some s0 =>
  obtain⟨i1,i2,i3,i4,i5⟩:=a5m hb (by omega) hr;rw[a1y hr] at h;obtain⟨h1,h2,h3,_⟩:=a2c h;refine⟨?_,fun c hc=>?_⟩
  ·
   intro h9 hp;unfold a1f at h1;simp only[h9,hp,decide_true,Bool.true_and,Bool.not_not,Bool.and_eq_true,decide_eq_true_eq] at h1;omega
  ·
   rw[<-h3] at hc;exact i4 c (List.mem_of_mem_drop hc)
def a3v (N:List Sh) (A:List Int):Bool:=decide (a2d N A N.length ((N.length:Int)-1) 300=some (rng 0 N.length))&&decide (a1r N N.length=some (A.length:Int))
def a4b (N:List Sh) (A:List Int):Int:=(a3g N A N.length).getD (N.length-1) 0
def a1w (C:Nat->Bool) (N:List Sh) (A:List Int):Bool:=decide (1<=N.length)&&decide (N.length<=300)&&decide (A.length<=300)&&decide (∀ i,i<N.length->C i=true)&&a3v N A&&decide (a4b N A<=24)
def c4r (A:List Int):Option Ms->Int × Int
 | none=>(0,1)
 | some s=>if s.tops.length≠1\/s.args≠A.length then (0,1) else if 24<s.deps.getD (s.tops.headD 0).toNat 0 then (0,2) else (s.deps.getD (s.tops.headD 0).toNat 0,0)
def a1q (C:Nat->Bool) (N:List Sh) (A:List Int):Int × Int:=if 300<N.length then (0,3) else c4r A (b1c C N A N.length)
theorem b3q {N:List Sh} {A:List Int} (hb:∀ n ∈ N,n.k=9->0<=n.b) {s:Ms} (hr:run N A N.length=some s) (h1:s.tops.length=1):0<N.length/\s.tops.headD 0=(N.length:Int)-1:=by
 have hf:=a9a hb (Nat.le_refl _) hr
 obtain⟨t,e⟩:∃ t,s.tops=[t]:=by
  match h:s.tops,h1 with
  | [t],_=>exact⟨t,rfl⟩
 rw[e] at hf |-
 obtain⟨m,i,rfl,hi,_⟩:=Forest.last (l:=[]) hf;exact⟨by omega,by simp;omega⟩
theorem b1l {C:Nat->Bool} {N:List Sh} {A:List Int} (hb:(∀ i,i<N.length->C i=true)->∀ n ∈ N,n.k=9->0<=n.b):a1w C N A=decide ((a1q C N A).2=0)/\(a1q C N A).1=if a1w C N A then a4b N A else 0:=by
 unfold a1q;by_cases h300:300<N.length
 ·
  have:a1w C N A=false:=by unfold a1w;simp[show ¬ N.length<=300 by omega]
  rw[if_pos h300,this];exact⟨rfl,rfl⟩
 ·
  rw[if_neg h300]
  cases hr:b1c C N A N.length with
  | none =>
   have:a1w C N A=false:=by
    cases hx:a1w C N A with
    | false=>rfl
    | true =>
     unfold a1w a3v at hx;simp only[Bool.and_eq_true,decide_eq_true_eq] at hx;obtain⟨⟨⟨⟨⟨x1,x2⟩,x3⟩,x4⟩,x5⟩,x6⟩:=hx;obtain⟨s,hs,_⟩:=(a5n (hb x4) x1 x2).1 x5;rw[runC_iff.2 ⟨x4,hs⟩] at hr
     cases hr
   rw[this];exact⟨rfl,rfl⟩
  | some s =>
   obtain⟨hC,hrun⟩:=runC_iff.1 hr;have hbb:=hb hC;by_cases ht:s.tops.length≠1\/s.args≠A.length
   ·
    have:a1w C N A=false:=by
     cases hx:a1w C N A with
     | false=>rfl
     | true =>
      unfold a1w a3v at hx;simp only[Bool.and_eq_true,decide_eq_true_eq] at hx;obtain⟨⟨⟨⟨⟨x1,x2⟩,x3⟩,x4⟩,x5⟩,x6⟩:=hx;obtain⟨s',hs',y1,y2⟩:=(a5n hbb x1 x2).1 x5;rw[hrun] at hs';obtain rfl:=Option.some.inj hs'
      rcases ht with ht | ht
      ·
       exact absurd y1 ht
      ·
       exact absurd y2 ht
    rw[show c4r A (some s)=(0,1) from if_pos ht,this];exact⟨rfl,rfl⟩
   ·
    have h1:s.tops.length=1:=by omega
    have h2:s.args=A.length:=by omega
    obtain⟨h0,htop⟩:=b3q hbb hrun h1
    have hl:s.deps.getD (s.tops.headD 0).toNat 0=a4b N A:=by
     rw[htop,b5g hrun];unfold a4b;congr 1;omega
    obtain⟨f1,f2,f3,_⟩:=a5m hbb (Nat.le_refl _) hrun
    have htidy:a3v N A=true:=by
     unfold a3v;rw[Bool.and_eq_true,decide_eq_true_eq,decide_eq_true_eq];exact(a5n hbb h0 (by omega)).2 ⟨s,hrun,h1,h2⟩
    have hR:a1w C N A=decide (a4b N A<=24):=by
     unfold a1w;rw[decide_eq_true (show 1<=N.length by omega),decide_eq_true (show N.length<=300 by omega),decide_eq_true (show A.length<=300 by omega),decide_eq_true hC,htidy];rfl
    have hE:c4r A (some s)=if 24<a4b N A then (0,2) else (a4b N A,0):=by rw[<-hl];exact if_neg ht
    rw[hE,hR];by_cases h24:24<a4b N A
    ·
     rw[if_pos h24,decide_eq_false (show ¬ a4b N A<=24 by omega)];exact⟨rfl,rfl⟩
    ·
     rw[if_neg h24,decide_eq_true (show a4b N A<=24 by omega)];exact⟨rfl,rfl⟩
theorem a3h {C:Nat->Bool} {N:List Sh} {A:List Int} (hb:(∀ i,i<N.length->C i=true)->∀ n ∈ N,n.k=9->0<=n.b) (h:a1w C N A=true):∃ s,run N A N.length=some s/\s.tops=[(N.length:Int)-1]/\s.args=A.length/\1<=N.length/\N.length<=300/\A.length<300/\(∀ i,i<N.length->C i=true)/\a4b N A<=24:=by
 unfold a1w a3v at h;simp only[Bool.and_eq_true,decide_eq_true_eq] at h;obtain⟨⟨⟨⟨⟨x1,x2⟩,x3⟩,x4⟩,x5⟩,x6⟩:=h;obtain⟨s,hs,y1,y2⟩:=(a5n (hb x4) x1 x2).1 x5;obtain⟨_,ht⟩:=b3q (hb x4) hs y1;obtain⟨f1,f2,f3,_⟩:=a5m (hb x4) (Nat.le_refl _) hs;refine⟨s,hs,?_,y2,x1,x2,by omega,x4,x6⟩
 match e:s.tops,y1 with
 | [t],_=>rw[e] at ht;simpa using ht
theorem b5i {N:List Sh} {A:List Int} {m n:Nat} {s:Ms} (h:run N A n=some s) (hmn:m<=n):∃ s',run N A m=some s':=by
 cases hr:run N A m with
 | none=>rw[c2q hr hmn] at h;cases h
 | some s'=>exact⟨s',rfl⟩
