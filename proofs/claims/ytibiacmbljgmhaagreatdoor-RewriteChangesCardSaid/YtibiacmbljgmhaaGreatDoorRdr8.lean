import Derived.Test.YtibiacmbljgmhaaGreatDoorLex1
import Derived.Test.YtibiacmbljgmhaaGreatDoorRat9
namespace Go.Proofs.YtibiacmbljgmhaaGreatDoor
open Go.RowKit Go.Shelf
set_option linter.all false
theorem e4n (l:List UInt8) (sh:jW):(d8f l sh).2=(d8f l ⟨#[]⟩).2/\((d8f l ⟨#[]⟩).2=0->(d8f l sh).1={ (d8f l ⟨#[]⟩).1 with sh:=sh }):=by
 unfold d8f;dsimp only;generalize e2f _=q;by_cases h:q.2.2=0
 ·
  rw[if_pos h,if_pos h];exact⟨rfl,fun _=>rfl⟩
 ·
  rw[if_neg h,if_neg h];exact⟨rfl,fun h2=>absurd h2 (by dsimp only;omega)⟩
theorem e4o (l:List UInt8):(d8f l ⟨#[]⟩).1.sh=⟨#[]⟩:=by
 unfold d8f;dsimp only;generalize e2f _=q;by_cases h:q.2.2=0
 ·
  rw[if_pos h]
 ·
  rw[if_neg h];rfl
theorem f1a {s:jW} (h:(e2f s).2.2=0):YW ((e2f s).1:Nat) ((e2f s).2.1:Nat)=true:=by
 unfold e2f at h |-
 dsimp only at h |-
 split at h
 ·
  rename_i h1
  rw[if_pos h1]
  split at h
  ·
   rename_i h2
   rw[if_pos h2];exact h2
  ·
   cases h
 ·
  cases h
theorem e1s {l:List UInt8} {sh:jW} (h:(d8f l sh).2=0):YW (d8f l sh).1.c (d8f l sh).1.r=true:=by
 unfold d8f at h |-
 dsimp only at h |-
 generalize hs:QK _=s at *;have hi:=@f1a s;by_cases h2:(e2f s).2.2=0
 ·
  rw[if_pos h2];exact hi h2
 ·
  rw[if_neg h2] at h;exact absurd h (by dsimp only;omega)
theorem f0d {a b:Rf} (ha:YW a.c a.r=true) (hb:YW b.c b.r=true):YW (X5 a b).1.c (X5 a b).1.r=true/\YW (X5 a b).2.c (X5 a b).2.r=true/\(X5 a b).1.c<=(X5 a b).2.c/\(X5 a b).1.r<=(X5 a b).2.r:=by
 rw[a9p] at ha hb |-
 rw[a9p];unfold X5 e0m;dsimp only
 split
 ·
  unfold e0n;dsimp only
  split<;>(dsimp only at *;omega)
 ·
  unfold e0n
  split<;>(dsimp only at *;omega)
theorem e7u {x y:Rf} (hx:YW x.c x.r=true) (hy:YW y.c y.r=true) (h1:x.c<=y.c) (h2:x.r<=y.r):a8z x.c x.r y.c y.r=if (y.c-x.c+1)*(y.r-x.r+1) > 200 then 7 else 0:=by
 have e:cnt (min x.c y.c) (min x.r y.r) (max x.c y.c) (max x.r y.r)=(y.c-x.c+1)*(y.r-x.r+1):=by
  rw[Int.min_eq_left h1,Int.min_eq_left h2,Int.max_eq_right h1,Int.max_eq_right h2];rfl
 by_cases h:(y.c-x.c+1)*(y.r-x.r+1) > 200
 ·
  rw[if_pos h,(b1d hx hy (by rw[e];exact h)).1]
 ·
  rw[if_neg h,(c4p hx hy (by rw[e];exact h)).1]
def f1k (T:List Tok):Prop:=∀ t ∈ T,t.k=3->0<t.x.size/\∀ i (h:i<t.x.size),¬ ((t.x[i].toNat:Nat):Int)=33
def d7m (R g cap:Nat) (T:List Tok) (q:Rd × Int) (w:World) (e:Ending) (w':World):Prop:=e=.returned (I6 q.2)/\qj w' R g cap T q.1/\Kp R w w'
def fjR (T:List Tok) (f:Nat):Fj->Option (Rd × Int)
 | .done q=>some q
 | .paren s=>(Jy T f (.bin 1) s).map fun q=>d9c T q.1 q.2
 | .call s x=>(Jy T f (.argsL []) s).map fun q=>d8g q.1 q.2 x
theorem e7v {T:List Tok} {f:Nat} {s:Rd} : Jy T (f+1) .first s=fjR T f (d7z T s):=by
 rw[Jy];unfold fjR
 cases d7z T s with
 | done q=>rfl
 | paren s1 =>
  dsimp only
  cases Jy T f (.bin 1) s1 with
  | none=>rfl
  | some q=>rfl
 | call s1 x =>
  dsimp only
  cases Jy T f (.argsL []) s1 with
  | none=>rfl
  | some q=>rfl
theorem e1t {T:List Tok} {i:Nat} (h:i<T.length):tokAt T i ∈ T:=List.mem_of_getElem? (e4m h)
theorem e3v (k:Int) (x:jW) (p:Nat) (y z:jW) (w:World):(Instr.field 54 (.agg #[I6 k,Sg x,I6 (p:Int),Bv false,Sg y,Sg z]) 0).run Tryz.prog w=.ok (I6 k) w:=by kernel_rfl
theorem d7w {T:List Tok} : ∀ (f:Nat) (j:Job) (s:Rd) (q:Rd × Int),Jy T f j s=some q->Jy T (f+1) j s=some q:=by
 intro f
 induction f with
 | zero=>intro j s q h;cases h
 | succ f ih =>
  intro j s q h
  cases j with
  | bin lv =>
   rw[Jy] at h |-
   split
   ·
    rename_i hc;rw[if_pos hc] at h;exact ih _ _ _ h
   ·
    rename_i hc;rw[if_neg hc] at h
    cases h1:Jy T f (.bin (lv+1)) s with
    | none=>rw[h1] at h;cases h
    | some r =>
     rw[h1] at h;rw[ih _ _ _ h1];exact ih _ _ _ h
  | binL lv a =>
   rw[Jy] at h |-
   split
   ·
    rename_i hc;rw[if_pos hc] at h;exact h
   ·
    rename_i hc;rw[if_neg hc] at h
    split
    ·
     rename_i hd;rw[if_pos hd] at h;exact h
    ·
     rename_i hd;rw[if_neg hd] at h
     cases h1:Jy T f (.bin (lv+1)) { s with i:=s.i+1 } with
     | none=>rw[h1] at h;cases h
     | some r =>
      rw[h1] at h;rw[ih _ _ _ h1];dsimp only at h |-
      split
      ·
       rename_i he;rw[if_pos he] at h;exact h
      ·
       rename_i he;rw[if_neg he] at h;exact ih _ _ _ h
  | minus =>
   rw[Jy] at h |-
   dsimp only at h |-
   split
   ·
    rename_i hc;rw[if_pos hc] at h;exact ih _ _ _ h
   ·
    rename_i hc;rw[if_neg hc] at h
    split
    ·
     rename_i hd;rw[if_pos hd] at h;exact h
    ·
     rename_i hd;rw[if_neg hd] at h
     cases h1:Jy T f .minus { (s.deeper (tokAt T s.i)).1 with i:=(s.deeper (tokAt T s.i)).1.i+1 } with
     | none=>rw[h1] at h;cases h
     | some r=>rw[h1] at h;rw[ih _ _ _ h1];exact h
  | pct =>
   rw[Jy] at h |-
   cases h1:Jy T f .first s with
   | none=>rw[h1] at h;cases h
   | some r=>rw[h1] at h;rw[ih _ _ _ h1];exact ih _ _ _ h
  | pctL a =>
   rw[Jy] at h |-
   dsimp only at h |-
   split
   ·
    rename_i hc;rw[if_pos hc] at h;exact h
   ·
    rename_i hc;rw[if_neg hc] at h
    split
    ·
     rename_i hd;rw[if_pos hd] at h;exact h
    ·
     rename_i hd;rw[if_neg hd] at h;exact ih _ _ _ h
  | first =>
   rw[Jy] at h |-
   cases hj:d7z T s with
   | done q=>rw[hj] at h;exact h
   | paren s1 =>
    rw[hj] at h;dsimp only at h |-
    cases h1:Jy T f (.bin 1) s1 with
    | none=>rw[h1] at h;cases h
    | some r=>rw[h1] at h;rw[ih _ _ _ h1];exact h
   | call s1 x =>
    rw[hj] at h;dsimp only at h |-
    cases h1:Jy T f (.argsL []) s1 with
    | none=>rw[h1] at h;cases h
    | some r=>rw[h1] at h;rw[ih _ _ _ h1];exact h
  | argsL l =>
   rw[Jy] at h |-
   split
   ·
    rename_i hc;rw[if_pos hc] at h;exact h
   ·
    rename_i hc;rw[if_neg hc] at h
    split
    ·
     rename_i hd;rw[if_pos hd] at h;exact h
    ·
     rename_i hd;rw[if_neg hd] at h
     cases h1:Jy T f (.bin 1) s with
     | none=>rw[h1] at h;cases h
     | some r =>
      rw[h1] at h;rw[ih _ _ _ h1];dsimp only at h |-
      split
      ·
       rename_i he;rw[if_pos he] at h;exact h
      ·
       rename_i he;rw[if_neg he] at h
       split
       ·
        rename_i hg;rw[if_pos hg] at h;exact h
       ·
        rename_i hg;rw[if_neg hg] at h
        split
        ·
         rename_i hx;rw[if_pos hx] at h;exact h
        ·
         rename_i hx;rw[if_neg hx] at h;exact ih _ _ _ h
theorem e0e {s:Rd} {t:Tok} {c:Int} (hc:c≠0):(s.wrong t c).e≠0:=by
 unfold Rd.wrong
 split
 ·
  exact hc
 ·
  rename_i h;exact h
def Same0 (s s':Rd):Prop:=s'.e=0->s'.d=s.d/\s.e=0
theorem Same0.refl (s:Rd):Same0 s s:=fun h=>⟨rfl,h⟩
theorem Same0.trans {a b c:Rd} (h1:Same0 a b) (h2:Same0 b c):Same0 a c:=fun h=>⟨(h2 h).1.trans (h1 (h2 h).2).1,(h1 (h2 h).2).2⟩
theorem d6y {s s':Rd} {t:Tok} {c:Int} (hc:c≠0):Same0 s (s'.wrong t c):=fun h=>absurd h (e0e hc)
theorem e1a {T:List Tok} {s s0:Rd} {w:Tok} {sh:jW} (hd:s.d=s0.d) (he:s.e=s0.e):Same0 s0 (e0o T s w sh).1:=by
 unfold e0o;dsimp only
 split
 ·
  rename_i h;exact d6y h
 ·
  split
  ·
   exact fun h=>⟨hd,he.symm.trans h⟩
  ·
   split
   ·
    exact d6y (by decide)
   ·
    split
    ·
     rename_i h;exact d6y h
    ·
     split
     ·
      exact d6y (by decide)
     ·
      exact fun h=>⟨hd,he.symm.trans h⟩
theorem d7u {s:Rd} {t:Tok} (h:(!(s.deeper t).2)≠true):(s.deeper t).1={ s with d:=s.d+1 }/\s.d+1<=24:=by
 unfold Rd.deeper at h |-
 split at h
 ·
  exact absurd rfl h
 ·
  rename_i h1;rw[if_neg h1];exact⟨rfl,by omega⟩
theorem e0f {s:Rd} {t:Tok} (h:(!(s.deeper t).2)=true):∀ s0,Same0 s0 (s.deeper t).1:=by
 intro s0;unfold Rd.deeper at h |-
 split at h
 ·
  rename_i h1;rw[if_pos h1];exact d6y (by decide)
 ·
  cases h
theorem e6d {T:List Tok} {s:Rd} {t:Tok} : match d9b T s t with
  | .done q=>Same0 s q.1
  | .paren _=>True
  | .call s1 _=>s1.d=s.d+1/\s1.e=s.e/\s1.d<=24:=by
 unfold d9b;dsimp only;by_cases h5:(tokAt T (s.i+1)).k=5
 ·
  rw[if_pos h5];by_cases hn:(!b9e t.x.data.toList)=true
  ·
   rw[if_pos hn];exact d6y (by decide)
  ·
   rw[if_neg hn];by_cases hd:(!(s.deeper t).2)=true
   ·
    rw[if_pos hd];exact e0f hd s
   ·
    rw[if_neg hd];obtain⟨h1,h2⟩:=d7u hd;rw[h1];exact⟨rfl,rfl,h2⟩
 ·
  rw[if_neg h5];by_cases h9:(tokAt T (s.i+1)).k≠9/\(t.x.data.toList=a7f\/t.x.data.toList=a4h)
  ·
   rw[if_pos h9];exact fun h=>⟨rfl,h⟩
  ·
   rw[if_neg h9];by_cases h9:(tokAt T (s.i+1)).k=9
   ·
    rw[if_pos h9];by_cases hn:(!b4n t.x)=true
    ·
     rw[if_pos hn];exact d6y (by decide)
    ·
     rw[if_neg hn];by_cases h3:(tokAt T (s.i+2)).k≠3
     ·
      rw[if_pos h3];exact d6y (by decide)
     ·
      rw[if_neg h3];exact e1a rfl rfl
   ·
    rw[if_neg h9];exact e1a rfl rfl
theorem e3w {T:List Tok} {s:Rd} : match d7z T s with
  | .done q=>Same0 s q.1
  | .paren s1=>s1.d=s.d+1/\s1.e=s.e/\s1.d<=24
  | .call s1 _=>s1.d=s.d+1/\s1.e=s.e/\s1.d<=24:=by
 unfold d7z;dsimp only;by_cases k1:(tokAt T s.i).k=1
 ·
  rw[if_pos k1];exact fun h=>⟨rfl,h⟩
 rw[if_neg k1];by_cases k2:(tokAt T s.i).k=2
 ·
  rw[if_pos k2];exact fun h=>⟨rfl,h⟩
 rw[if_neg k2];by_cases k3:(tokAt T s.i).k=10
 ·
  rw[if_pos k3];exact fun h=>⟨rfl,h⟩
 rw[if_neg k3];by_cases k4:(tokAt T s.i).k=5
 ·
  rw[if_pos k4];by_cases hd:(!(s.deeper (tokAt T s.i)).2)=true
  ·
   rw[if_pos hd];exact e0f hd s
  ·
   rw[if_neg hd];obtain⟨h1,h2⟩:=d7u hd;rw[h1];exact⟨rfl,rfl,h2⟩
 rw[if_neg k4];by_cases k5:(tokAt T s.i).k=3
 ·
  rw[if_pos k5];have:=e6d (T:=T) (s:=s) (t:=tokAt T s.i)
  cases hw:d9b T s (tokAt T s.i) with
  | done q=>rw[hw] at this;exact this
  | paren s1 =>
   exfalso;unfold d9b at hw;dsimp only at hw
   (repeat' split at hw)<;>cases hw
  | call s1 x=>rw[hw] at this;exact this
 ·
  rw[if_neg k5];exact d6y (by decide)
theorem e2w {T:List Tok} : ∀ (f:Nat) (j:Job) (s s':Rd) (r:Int),Jy T f j s=some (s',r)->Same0 s s':=by
 intro f
 induction f with
 | zero=>intro j s s' r h;cases h
 | succ f ih =>
  intro j s s' r h
  cases j with
  | bin lv =>
   rw[Jy] at h
   split at h
   ·
    exact ih _ _ _ _ h
   ·
    cases h1:Jy T f (.bin (lv+1)) s with
    | none=>rw[h1] at h;cases h
    | some q =>
     obtain⟨s1,a⟩:=q;rw[h1] at h;exact(ih _ _ _ _ h1).trans (ih _ _ _ _ h)
  | binL lv a =>
   rw[Jy] at h
   split at h
   ·
    cases h;exact Same0.refl _
   ·
    split at h
    ·
     cases h;exact Same0.refl _
    ·
     cases h1:Jy T f (.bin (lv+1)) { s with i:=s.i+1 } with
     | none=>rw[h1] at h;cases h
     | some q =>
      obtain⟨s1,b⟩:=q;rw[h1] at h;dsimp only at h;have gg:=ih _ _ _ _ h1;have g1:Same0 s s1:=gg
      split at h
      ·
       cases h;exact g1
      ·
       have gg:=ih _ _ _ _ h;exact g1.trans (c:=s') gg
  | minus =>
   rw[Jy] at h;dsimp only at h
   split at h
   ·
    exact ih _ _ _ _ h
   ·
    split at h
    ·
     rename_i hd;cases h;exact e0f hd s
    ·
     rename_i hd
     obtain⟨e1,_⟩:=d7u hd;rw[e1] at h
     cases h1:Jy T f .minus { ({ s with d:=s.d+1 } : Rd) with i:=s.i+1 } with
     | none=>rw[h1] at h;cases h
     | some q =>
      obtain⟨s1,b⟩:=q;rw[h1] at h;dsimp only at h;have g1:=ih _ _ _ _ h1
      split at h
      ·
       rename_i he;cases h;exact fun h2=>absurd h2 he
      ·
       cases h
       intro h2;obtain⟨g2,g3⟩:=g1 h2;exact⟨by show s1.d-1=s.d;rw[g2];dsimp only;omega,g3⟩
  | pct =>
   rw[Jy] at h
   cases h1:Jy T f .first s with
   | none=>rw[h1] at h;cases h
   | some q =>
    obtain⟨s1,a⟩:=q;rw[h1] at h;exact(ih _ _ _ _ h1).trans (ih _ _ _ _ h)
  | pctL a =>
   rw[Jy] at h;dsimp only at h
   split at h
   ·
    cases h;exact Same0.refl _
   ·
    split at h
    ·
     cases h;exact Same0.refl _
    ·
     have gg:=ih _ _ _ _ h;exact gg
  | first =>
   rw[Jy] at h;have hf:=e3w (T:=T) (s:=s)
   cases hj:d7z T s with
   | done q=>rw[hj] at h hf;obtain rfl:=jA h;exact hf
   | paren s1 =>
    rw[hj] at h hf;dsimp only at h hf
    cases h1:Jy T f (.bin 1) s1 with
    | none=>rw[h1] at h;cases h
    | some q =>
     obtain⟨s2,a⟩:=q;rw[h1] at h;have g1:=ih _ _ _ _ h1;have h:=congrArg Prod.fst (jA h);dsimp only at h;subst h;unfold d9c
     split
     ·
      rename_i he;exact fun h2=>absurd h2 he
     ·
      split
      ·
       exact d6y (by decide)
      ·
       intro h2;obtain⟨g2,g3⟩:=g1 h2;exact⟨by show s2.d-1=s.d;rw[g2];omega,hf.2.1.symm.trans g3⟩
   | call s1 x =>
    rw[hj] at h hf;dsimp only at h hf
    cases h1:Jy T f (.argsL []) s1 with
    | none=>rw[h1] at h;cases h
    | some q =>
     obtain⟨s2,a⟩:=q;rw[h1] at h;have g1:=ih _ _ _ _ h1;have h:=congrArg Prod.fst (jA h);dsimp only at h;subst h;unfold d8g
     split
     ·
      rename_i he;exact fun h2=>absurd h2 he
     ·
      intro h2;obtain⟨g2,g3⟩:=g1 h2;exact⟨by show s2.d-1=s.d;rw[g2];omega,hf.2.1.symm.trans g3⟩
  | argsL l =>
   rw[Jy] at h
   split at h
   ·
    cases h;exact fun h2=>⟨rfl,h2⟩
   ·
    split at h
    ·
     cases h;exact d6y (by decide)
    ·
     cases h1:Jy T f (.bin 1) s with
     | none=>rw[h1] at h;cases h
     | some q =>
      obtain⟨s1,b⟩:=q;rw[h1] at h;dsimp only at h;have g1:=ih _ _ _ _ h1
      split at h
      ·
       rename_i he;cases h;exact fun h2=>absurd h2 he
      ·
       split at h
       ·
        cases h;exact fun h2=>g1 h2
       ·
        split at h
        ·
         cases h;exact d6y (by decide)
        ·
         have gg:=ih _ _ _ _ h;exact g1.trans (c:=s') gg
structure YQ (T:List Tok) (s:Rd):Prop where
 l:s.i<T.length
 n:s.N.length<=s.i
 a:s.A.length<=s.i
 f:∀ m ∈ s.N,J8 m
 d0:0<=s.d
 d1:s.d<=24
 e:s.e=0
theorem YQ.next {T:List Tok} (hT:TokOk T) {f:Nat} {j:Job} {s s':Rd} {r:Int} (h:YQ T s) (hj:j.x=0) (hp:Jy T f j s=some (s',r)) (he:s'.e=0):YQ T s':=by
 have g:=d7a hT f j s s' r hp h.l h.f;have d:=e2w f j s s' r hp he;have g1:=g.n;have g2:=g.a;rw[hj] at g2;have:=h.n;have:=h.a;exact⟨g.l,by omega,by omega,g.f,by rw[d.1];exact h.d0,by rw[d.1];exact h.d1,he⟩
set_option maxHeartbeats 16000000
set_option maxRecDepth 100000
theorem e9o (o a b:Int):J8 { nd5 8 with o:=o,a:=a,b:=b }:=⟨(Xx 8).1,(Xx 8).2.1,(Xx 8).2.2.1,(Xx 8).2.2.2.1,(Xx 8).2.2.2.2⟩
theorem f1b (o a:Int):J8 { nd5 7 with o:=o,a:=a }:=⟨(Xx 7).1,(Xx 7).2.1,(Xx 7).2.2.1,(Xx 7).2.2.2.1,(Xx 7).2.2.2.2⟩
def e7w (T:List Tok) (R:Nat) (W:World):Nat:=T.length-(intOf ((W.cell? ⟨R,1,none⟩).getD undef)).toNat
theorem d8q {T:List Tok} {R g cap:Nat} {s:Rd} {W:World} (h:qj W R g cap T s):e7w T R W=T.length-s.i:=by
 unfold e7w;rw[h.k1];rfl
def f2r (R g cap:Nat) (T:List Tok) (f:Nat) (lv:Nat) (q:Rd × Int) (w:World) (a:Value) (wr:World):Prop:=∃ (s:Rd) (z:Int),a=I6 z/\qj wr R g cap T s/\Kp R w wr/\Jy T f (.binL lv z) s=some q/\(s.e=0->YQ T s)
theorem e6e (R g cap:Nat) (T:List Tok) (f:Nat) (hT:TokOk T) (hTl:T.length<=310)
  (hB:∀ (lv:Nat) (s:Rd) (q:Rd × Int) (w:World),lv<=6->YQ T s->Jy T f (.bin lv) s=some q->qj w R g cap T s->Cz 22 #[rpR R,I6 (lv:Int)] w (d7m R g cap T q w))
  (hM:∀ (s:Rd) (q:Rd × Int) (w:World),YQ T s->Jy T f .minus s=some q->qj w R g cap T s->Cz 53 #[rpR R] w (d7m R g cap T q w))
  (lv:Nat) (s:Rd) (q:Rd × Int) (w:World) (hlv:lv<=6) (hI:YQ T s) (hq:Jy T (f+1) (.bin lv) s=some q) (jq:qj w R g cap T s) :
  Cz 22 #[rpR R,I6 (lv:Int)] w (d7m R g cap T q w):=by
 obtain⟨Po,hPo⟩:=nM (d7m R g cap T q w);rw[<-hPo];have J5:=zh hPo;clear hPo;rw[Jy] at hq;by_cases h5:5<lv
 ·
  rw[if_pos h5] at hq;have HM:=zh (fun W=>hM s q W hI hq);clear hq hB hM hI;go_enter Tryz.func22,Tryz.ntmps22;go_wp2_with fail;refine(HM.out _ jq).mono ?_;rintro e s99 ⟨rfl,hRB,hKb⟩;go_wp2_with fail;show Po _ _;rw[J5.out];exact⟨rfl,hRB,hKb⟩
 rw[if_neg h5] at hq;have hl5:lv<=5:=by omega
 cases hp:Jy T f (.bin (lv+1)) s with
 | none=>rw[hp] at hq;cases hq
 | some q1 =>
 obtain⟨⟨i1,N1,A1,d1,p1,e1⟩,a1⟩:=q1;rw[hp] at hq;dsimp only at hq;have HB1:=zh (fun W=>hB (lv+1) s _ W (by omega) hI hp);have HI1:=zh (fun he=>YQ.next hT hI rfl hp he);have HBB:=zh hB;have HQ:=zh hq;have HTT:=zh hT;have q5:IntKind.i64.wrap ((lv:Int)+1)=(lv:Int)+1:=IntWalk.i64_in _ (by omega);have hc5:(lv:Int)<=5:=by omega
 clear hq hB hM hI hp hT h5 hlv;go_enter Tryz.func22,Tryz.ntmps22;go_wp2_with fail;refine(HB1.out _ jq).mono ?_;rintro e s1 ⟨rfl,hRB,hKb⟩;go_wp2_with fail
 go_loopw [5] (f2r R g cap T f lv q w) (fun _ wr=>e7w T R wr)
 case atStart=>exact⟨_,_,rfl,hRB,hKb,HQ.out,HI1.out⟩
 case round =>
  clear jq hRB hKb HB1 HI1 HQ;obtain⟨⟨i,N,A,d,p,er⟩,z,rfl,jq,j7,hq,hI⟩:=hrel;by_cases he:er=0
  case neg =>
   have hx:(er==0)=false:=by simpa using he
   have HX:Hid (q=(⟨i,N,A,d,p,er⟩,0)):=by
    cases f with
    | zero=>cases hq
    | succ f=>rw[Jy,if_pos he] at hq;exact(jA hq).symm
   clear hq hI he;have JZ:wr.cell? ⟨R,6,none⟩=some (I6 er):=jq.k6;go_wp2_with fail;show Po _ _;rw[J5.out,HX.out];exact⟨rfl,jq,j7⟩
  subst he;have hJ:YQ T ⟨i,N,A,d,p,0⟩:=hI rfl;clear hI;obtain⟨f',rfl⟩:∃ f',f=f'+1:=by cases f with | zero=>cases hq | succ f=>exact⟨f,rfl⟩
  rw[Jy,if_neg (by simp)] at hq;have hl:=hJ.l;dsimp only at hl hq;obtain⟨t,ht⟩:=nM (tokAt T i);have hNW:=fun W h=>d7b R g cap T ⟨i,N,A,d,p,0⟩ W h hl (by omega)
  have lt0:=fun h=>d6r HTT.out hl h
  dsimp only at hNW;rw[<-ht] at hNW hq lt0;have hO:=fun W=>e1r t (lv:Int) W
  obtain⟨o,ho⟩:=nM (e6p t (lv:Int));rw[<-ho] at hO hq;have htk:o≠0->t.k≠0:=fun h h2=>h (by rw[ho];exact e7s (by rw[h2];decide))
  clear ho ht;obtain⟨tk,tx,tp,ty,tz⟩:=t;dsimp only at hNW hO htk lt0;have HNW:=zh hNW;have HO:=zh hO;clear hNW hO;have HLW:=zh (d8q jq);have JZ:wr.cell? ⟨R,6,none⟩=some (I6 0):=jq.k6;go_wp2_with fail;refine jy (HNW.out _ jq) fun s1 hb=>?_
  replace j7:=j7.below jq.z hb;replace jq:=jq.below hb;clear JZ;obtain⟨J3,J2,Q3,Q0,JZ⟩:=QJ jq;clear hb;go_wp2_with fail;refine jy (HO.out _) fun s2 hb=>?_
  replace j7:=j7.below jq.z hb;replace jq:=jq.below hb;obtain⟨J3,J2,Q3,Q0,JZ⟩:=QJ jq;clear hb;by_cases ho:o=0
  ·
   rw[if_pos ho] at hq;have HX:Hid (q=(⟨i,N,A,d,p,0⟩,z)):=(jA hq).symm;subst ho;clear hq hJ htk lt0;go_wp2_with fail;show Po _ _;rw[J5.out,HX.out];exact⟨rfl,jq,j7⟩
  rw[if_neg ho] at hq;have l1:=lt0 (htk ho);have hob:(o==0)=false:=by simpa using ho
  clear htk lt0 ho;have hI2:YQ T ⟨i+1,N,A,d,p,0⟩:=⟨l1,Nat.le_succ_of_le hJ.n,Nat.le_succ_of_le hJ.a,hJ.f,hJ.d0,hJ.d1,rfl⟩
  cases hp:Jy T f' (.bin (lv+1)) ⟨i+1,N,A,d,p,0⟩ with
  | none=>rw[hp] at hq;cases hq
  | some q2 =>
  obtain⟨⟨i2,N2,A2,d2,p2,e2⟩,b⟩:=q2;rw[hp] at hq;dsimp only at hq;have hp3:=d7w _ _ _ _ hp;have HB2:=zh (fun W=>HBB.out (lv+1) ⟨i+1,N,A,d,p,0⟩ _ W (by omega) hI2 hp3);have HI3:=zh (fun he=>YQ.next HTT.out hI2 rfl hp he);have hgo:=(d7a HTT.out _ _ _ _ _ hp l1 hJ.f).n;have hgi:=(d7a HTT.out _ _ _ _ _ hp l1 hJ.f).i;dsimp only at hgi;have hIl:Hid (i+1<=i2):=hgi;clear hgi;dsimp only at hgo;have hnn:=hJ.n;clear hp hp3 hJ hI2;have Q7:=jq.fz 1;have q6:IntKind.i64.wrap ((i:Int)+1)=(i:Int)+1:=IntWalk.i64_in _ (by omega)
  go_upto_region 9 with fail
  obtain⟨s3,j6⟩:∃ s,s=s2.setCell ⟨R,1,none⟩ (I6 (((i:Int)+1))):=⟨_,rfl⟩;have j8:s3.heap.size=s2.heap.size:=by rw[j6];simp
  replace j7:Kp R w s3:=by rw[j6];exact j7.setR (by decide)
  replace jq:qj s3 R g cap T ⟨(i+1),N,A,d,p,0⟩:=by rw[j6];exact jq.setI _ _ (by first | rfl | omega)
  rw[<-j6];clear j6 j8;obtain⟨J3,J2,Q3,Q0,JZ⟩:=QJ jq;clear q6 Q7;go_wp2_with fail;refine(HB2.out _ jq).mono ?_;rintro e s4 ⟨rfl,hRB,hKb⟩;replace j7:=j7.trans hKb;clear hKb;replace jq:qj s4 R g cap T ⟨i2,N2,A2,d2,p2,e2⟩:=hRB;clear hRB;obtain⟨J3,J2,Q3,Q0,JZ⟩:=QJ jq;by_cases he2:e2=0
  case neg =>
   rw[if_pos he2] at hq;have HX:Hid (q=(⟨i2,N2,A2,d2,p2,e2⟩,0)):=(jA hq).symm;have hx:(e2 != 0)=true:=by simpa using he2
   clear hq he2;go_wp2_with fail;show Po _ _;rw[J5.out,HX.out];exact⟨rfl,jq,j7⟩
  subst he2;rw[if_neg (by simp)] at hq;have hI4:=HI3.out rfl;have HQ2:=zh (d7w _ _ _ _ hq)
  have hI5:Hid (∀ n,J8 n->YQ T (Rd.add ⟨i2,N2,A2,d2,p2,0⟩ n).1):=fun n hn=>⟨hI4.l,by
   show (N2 ++ [n]).length<=i2;rw[jM,List.length_singleton];(try dsimp only at hnn);omega,hI4.a,fun m hm=>by
   rcases List.mem_append.1 hm with h | h
   ·
    exact hI4.f m h
   ·
    rw[List.mem_singleton.1 h];exact hn,hI4.d0,hI4.d1,rfl⟩
  have hN2:=hI4.n;have hl2:=hI4.l;dsimp only at hN2 hl2;clear hq hI4 hgo hnn;go_wp2_with fail;refine(d6z R g cap T ⟨i2,N2,A2,d2,p2,0⟩ { nd5 8 with o:=o,a:=z,b:=b } _ jq (by dsimp only;omega)).mono ?_;rintro e s99 ⟨rfl,hRB,hKb⟩;go_wp2
  go_roundw
  case rel=>exact⟨_,_,rfl,hRB,j7.trans hKb,HQ2.out,fun _=>hI5.out _ (e9o _ _ _)⟩
  case measure =>
   rw[d8q hRB,HLW.out];show T.length-i2<T.length-i;have:=hIl.out;omega
theorem e7x (x:jW) (c:UInt8):(x.toList == [c])=decide (x.data.toList=[c]):=by rw[jI,Bool.eq_iff_iff,beq_iff_eq,decide_eq_true_iff]
theorem e7y (R g cap:Nat) (T:List Tok) (f:Nat) (hT:TokOk T) (hTl:T.length<=310)
  (hM:∀ (s:Rd) (q:Rd × Int) (w:World),YQ T s->Jy T f .minus s=some q->qj w R g cap T s->Cz 53 #[rpR R] w (d7m R g cap T q w))
  (hP:∀ (s:Rd) (q:Rd × Int) (w:World),YQ T s->Jy T f .pct s=some q->qj w R g cap T s->Cz 103 #[rpR R] w (d7m R g cap T q w))
  (s:Rd) (q:Rd × Int) (w:World) (hI:YQ T s) (hq:Jy T (f+1) .minus s=some q) (jq:qj w R g cap T s) :
  Cz 53 #[rpR R] w (d7m R g cap T q w):=by
 obtain⟨Po,hPo⟩:=nM (d7m R g cap T q w);rw[<-hPo];have J5:=zh hPo;clear hPo;rw[Jy] at hq;dsimp only at hq;have hl:=hI.l;have hd0:=hI.d0;have hd1:=hI.d1;have he:=hI.e;obtain⟨i,N,A,d,p,er⟩:=s;dsimp only at hl hd0 hd1 he hq;subst he;obtain⟨t,ht⟩:=nM (tokAt T i);have hNW:=fun W h=>d7b R g cap T ⟨i,N,A,d,p,0⟩ W h hl (by omega)
 have hDP:=fun W h=>d8p R g cap T ⟨i,N,A,d,p,0⟩ t W h (by dsimp only;omega)
 have lt0:=fun h=>d6r hT hl h
 have hPP:=fun W h=>hP ⟨i,N,A,d,p,0⟩ q W hI h
 dsimp only at hNW;rw[<-ht] at hNW hq lt0;have hdk:=@d7u ⟨i,N,A,d,p,0⟩ t;obtain⟨tk,tx,tp,ty,tz⟩:=t;dsimp only at hNW lt0 hq;have HNW:=zh hNW;have e45:=e7x tx 45;clear hNW ht;go_enter Tryz.func53,Tryz.ntmps53
 go_upto_region 1 with fail
 have hgw:g<w.heap.size:=jq.toks.z;have j7:Kp R w w:=Kp.refl R w;go_wp2_with fail;refine jy (HNW.out _ jq) fun s1 hb=>?_
 replace j7:=j7.below jq.z hb;replace jq:=jq.below hb;obtain⟨J3,J2,Q3,Q0,JZ⟩:=QJ jq;clear hb;clear HNW;by_cases hk:tk=4/\tx.data.toList=[45]
 case neg =>
  rw[if_pos (by rcases Classical.em (tk=4) with h | h;exact Or.inr (fun h2=>hk ⟨h,h2⟩);exact Or.inl h)] at hq
  have HPC:=zh (fun W h=>hPP W hq h);clear hq hPP hDP hdk lt0 hP hM hI;by_cases h4:tk=4
  ·
   have h4b:(tk != 4)=false:=by simpa using h4
   have h5:(tx.toList == [45])=false:=by rw[e45];exact jE (fun h=>hk ⟨h4,h⟩)
   clear hk h4 e45
   go_upto_region 2 with fail
   obtain⟨s2,X,j6,qw,j8,zX⟩:=qy s1 (.cells #[I6 tk,Sg tx,I6 (tp:Int),Bv false,Sg ty,Sg tz] 54);have j9:=JW j6;have qJ:=j7.below jq.z j9;have yX:=qZ (b:=X) j6 qw;replace jq:=jq.below j9;clear j9;obtain⟨J3,J2,Q3,Q0,JZ⟩:=QJ jq;replace j7:=qJ;clear qJ;rw[<-j6];try rw[<-qw]
   clear j6 j8 qw;go_wp2_with fail;refine(HPC.out _ jq).mono ?_;rintro e s99 ⟨rfl,hRB,hKb⟩;go_wp2_with fail;show Po _ _;rw[J5.out];exact⟨rfl,hRB,j7.trans hKb⟩
  ·
   have h4b:(tk != 4)=true:=by simpa using h4
   clear hk h4 e45
   go_upto_region 2 with fail
   obtain⟨s3,X,j6,qw,j8,zX⟩:=qy s1 (.cells #[I6 tk,Sg tx,I6 (tp:Int),Bv false,Sg ty,Sg tz] 54);have j9:=JW j6;have qJ:=j7.below jq.z j9;have yX:=qZ (b:=X) j6 qw;replace jq:=jq.below j9;clear j9;obtain⟨J3,J2,Q3,Q0,JZ⟩:=QJ jq;replace j7:=qJ;clear qJ;rw[<-j6];try rw[<-qw]
   clear j6 j8 qw;go_wp2_with fail;refine(HPC.out _ jq).mono ?_;rintro e s99 ⟨rfl,hRB,hKb⟩;go_wp2_with fail;show Po _ _;rw[J5.out];exact⟨rfl,hRB,j7.trans hKb⟩
 obtain⟨h4,h45⟩:=hk;rw[if_neg (fun h=>h.elim (fun h=>h h4) (fun h=>h h45))] at hq;have l1:=lt0 (by rw[h4];decide);have h4b:(tk != 4)=false:=by simpa using h4
 have h5:(tx.toList == [45])=true:=by rw[e45];exact jD h45
 clear hPP hP lt0 h4 h45 e45
 go_upto_region 2 with fail
 obtain⟨s4,X,j6,qw,j8,zX⟩:=qy s1 (.cells #[I6 tk,Sg tx,I6 (tp:Int),Bv false,Sg ty,Sg tz] 54);have j9:=JW j6;have qJ:=j7.below jq.z j9;have yX:=qZ (b:=X) j6 qw;replace jq:=jq.below j9;clear j9;obtain⟨J3,J2,Q3,Q0,JZ⟩:=QJ jq;replace j7:=qJ;clear qJ;rw[<-j6];try rw[<-qw]
 clear j6 j8 qw;by_cases hd:(!(Rd.deeper ⟨i,N,A,d,p,0⟩ ⟨tk,tx,tp,ty,tz⟩).2)=true
 ·
  rw[if_pos hd] at hq;have HX:Hid (q=((Rd.deeper ⟨i,N,A,d,p,0⟩ ⟨tk,tx,tp,ty,tz⟩).1,0)):=(jA hq).symm;have hdb:(Rd.deeper ⟨i,N,A,d,p,0⟩ ⟨tk,tx,tp,ty,tz⟩).2=false:=by simpa using hd
  rw[hdb] at hDP;have HDP:=zh hDP;clear hq hd hdb hDP hdk hI hM;generalize (Rd.deeper ⟨i,N,A,d,p,0⟩ ⟨tk,tx,tp,ty,tz⟩).1=sd at *;go_wp2_with fail;refine(HDP.out _ jq).mono ?_;rintro e s99 ⟨rfl,hRB,hKb⟩;go_wp2_with fail;show Po _ _;rw[J5.out,HX.out];exact⟨rfl,hRB,j7.trans hKb⟩
 rw[if_neg hd] at hq;obtain⟨e1,hd2⟩:=hdk hd;have hdb:(Rd.deeper ⟨i,N,A,d,p,0⟩ ⟨tk,tx,tp,ty,tz⟩).2=true:=by simpa using hd
 rw[hdb,e1] at hDP;rw[e1] at hq;dsimp only at hDP hq hd2;have HDP:=zh hDP;clear hd hdb hdk hDP e1;have hI2:YQ T ⟨i+1,N,A,d+1,p,0⟩:=⟨l1,Nat.le_succ_of_le hI.n,Nat.le_succ_of_le hI.a,hI.f,by show 0<=d+1;omega,hd2,rfl⟩
 cases hp:Jy T f .minus ⟨i+1,N,A,d+1,p,0⟩ with
 | none=>rw[hp] at hq;cases hq
 | some q2 =>
 obtain⟨⟨i2,N2,A2,d2,p2,e2⟩,b⟩:=q2;rw[hp] at hq;dsimp only at hq;have HB2:=zh (fun W=>hM ⟨i+1,N,A,d+1,p,0⟩ _ W hI2 hp);have HI3:=zh (fun he=>YQ.next hT hI2 rfl hp he);clear hp hI hI2 hM hT;go_wp2_with fail;refine(HDP.out _ jq).mono ?_;rintro e s5 ⟨rfl,hRB,hKb⟩;replace j7:=j7.trans hKb;clear hKb;replace jq:qj s5 R g cap T ⟨i,N,A,(d+1),p,0⟩:=hRB;clear hRB;obtain⟨J3,J2,Q3,Q0,JZ⟩:=QJ jq;have Q7:=jq.fz 1;have q6:IntKind.i64.wrap ((i:Int)+1)=(i:Int)+1:=IntWalk.i64_in _ (by omega)
 go_upto_region 7 with fail
 obtain⟨s6,j6⟩:∃ s,s=s5.setCell ⟨R,1,none⟩ (I6 (((i:Int)+1))):=⟨_,rfl⟩;have j8:s6.heap.size=s5.heap.size:=by rw[j6];simp
 replace j7:Kp R w s6:=by rw[j6];exact j7.setR (by decide)
 replace jq:qj s6 R g cap T ⟨(i+1),N,A,(d+1),p,0⟩:=by rw[j6];exact jq.setI _ _ (by first | rfl | omega)
 rw[<-j6];clear j6 j8;obtain⟨J3,J2,Q3,Q0,JZ⟩:=QJ jq;clear q6 Q7 HDP;go_wp2_with fail;refine(HB2.out _ jq).mono ?_;rintro e s7 ⟨rfl,hRB,hKb⟩;replace j7:=j7.trans hKb;clear hKb;replace jq:qj s7 R g cap T ⟨i2,N2,A2,d2,p2,e2⟩:=hRB;clear hRB;obtain⟨J3,J2,Q3,Q0,JZ⟩:=QJ jq;by_cases he2:e2=0
 case neg =>
  rw[if_pos he2] at hq;have HX:Hid (q=(⟨i2,N2,A2,d2,p2,e2⟩,0)):=(jA hq).symm;have hx:(e2 != 0)=true:=by simpa using he2
  clear hq he2;go_wp2_with fail;show Po _ _;rw[J5.out,HX.out];exact⟨rfl,jq,j7⟩
 subst he2;rw[if_neg (by simp)] at hq;have hI4:=HI3.out rfl;have HX:Hid (q=((⟨i2,N2,A2,d2-1,p2,0⟩:Rd).add { nd5 7 with o:=13,a:=b })):=(jA hq).symm;have hN2:=hI4.n;have hl2:=hI4.l;have hd3:=hI4.d0;have hd4:=hI4.d1;dsimp only at hN2 hl2 hd3 hd4;clear hq hI4 HI3 HB2;have fR4:=jq.fz 4;have q6:IntKind.i64.wrap (d2-1)=d2-1:=IntWalk.i64_in _ (by omega)
 go_upto_region 11 with fail
 obtain⟨s8,j6⟩:∃ s,s=s7.setCell ⟨R,4,none⟩ (I6 ((d2-1))):=⟨_,rfl⟩;have j8:s8.heap.size=s7.heap.size:=by rw[j6];simp
 replace j7:Kp R w s8:=by rw[j6];exact j7.setR (by decide)
 replace jq:qj s8 R g cap T ⟨i2,N2,A2,(d2-1),p2,0⟩:=by rw[j6];exact jq.setD _ _ (by first | rfl | omega)
 rw[<-j6];clear j6 j8;obtain⟨J3,J2,Q3,Q0,JZ⟩:=QJ jq;clear q6 fR4;go_wp2_with fail;refine(d6z R g cap T ⟨i2,N2,A2,d2-1,p2,0⟩ { nd5 7 with o:=13,a:=b } _ jq (by dsimp only;omega)).mono ?_;rintro e s99 ⟨rfl,hRB,hKb⟩;go_wp2_with fail;show Po _ _;rw[J5.out,HX.out];exact⟨rfl,hRB,j7.trans hKb⟩
def f2s (R g cap:Nat) (T:List Tok) (f:Nat) (q:Rd × Int) (w:World) (a:Value) (wr:World):Prop:=∃ (s:Rd) (z:Int),a=I6 z/\qj wr R g cap T s/\Kp R w wr/\Jy T f (.pctL z) s=some q/\(s.e=0->YQ T s)
theorem e3x (R g cap:Nat) (T:List Tok) (f:Nat) (hT:TokOk T) (hTl:T.length<=310)
  (hF:∀ (s:Rd) (q:Rd × Int) (w:World),YQ T s->Jy T f .first s=some q->qj w R g cap T s->Cz 134 #[rpR R] w (d7m R g cap T q w))
  (s:Rd) (q:Rd × Int) (w:World) (hI:YQ T s) (hq:Jy T (f+1) .pct s=some q) (jq:qj w R g cap T s) :
  Cz 103 #[rpR R] w (d7m R g cap T q w):=by
 obtain⟨Po,hPo⟩:=nM (d7m R g cap T q w);rw[<-hPo];have J5:=zh hPo;clear hPo;rw[Jy] at hq
 cases hp:Jy T f .first s with
 | none=>rw[hp] at hq;cases hq
 | some q1 =>
 obtain⟨⟨i1,N1,A1,d1,p1,e1⟩,a1⟩:=q1;rw[hp] at hq;dsimp only at hq;have HB1:=zh (fun W=>hF s _ W hI hp);have HI1:=zh (fun he=>YQ.next hT hI rfl hp he);have HQ:=zh hq;have HTT:=zh hT;clear hq hF hI hp hT;go_enter Tryz.func103,Tryz.ntmps103;go_wp2_with fail;refine(HB1.out _ jq).mono ?_;rintro e s1 ⟨rfl,hRB,hKb⟩;go_wp2_with fail
 go_loopw [3] (f2s R g cap T f q w) (fun _ wr=>e7w T R wr)
 case atStart=>exact⟨_,_,rfl,hRB,hKb,HQ.out,HI1.out⟩
 case round =>
  clear jq hRB hKb HB1 HI1 HQ;obtain⟨⟨i,N,A,d,p,er⟩,z,rfl,jq,j7,hq,hI⟩:=hrel;by_cases he:er=0
  case neg =>
   have hx:(er==0)=false:=by simpa using he
   have HX:Hid (q=(⟨i,N,A,d,p,er⟩,0)):=by
    cases f with
    | zero=>cases hq
    | succ f=>rw[Jy,if_pos he] at hq;exact(jA hq).symm
   clear hq hI he;have JZ:wr.cell? ⟨R,6,none⟩=some (I6 er):=jq.k6;go_wp2_with fail;show Po _ _;rw[J5.out,HX.out];exact⟨rfl,jq,j7⟩
  subst he;have hJ:YQ T ⟨i,N,A,d,p,0⟩:=hI rfl;clear hI;obtain⟨f',rfl⟩:∃ f',f=f'+1:=by cases f with | zero=>cases hq | succ f=>exact⟨f,rfl⟩
  rw[Jy,if_neg (by simp)] at hq;have hl:=hJ.l;dsimp only at hl hq;obtain⟨t,ht⟩:=nM (tokAt T i);have hNW:=fun W h=>d7b R g cap T ⟨i,N,A,d,p,0⟩ W h hl (by omega)
  have lt0:=fun h=>d6r HTT.out hl h
  dsimp only at hNW;rw[<-ht] at hNW hq lt0;clear ht;obtain⟨tk,tx,tp,ty,tz⟩:=t;dsimp only at hNW lt0 hq;have HNW:=zh hNW;have e37:=e7x tx 37;clear hNW;have HLW:=zh (d8q jq);have JZ:wr.cell? ⟨R,6,none⟩=some (I6 0):=jq.k6;go_wp2_with fail;refine jy (HNW.out _ jq) fun s9 hb=>?_
  replace j7:=j7.below jq.z hb;replace jq:=jq.below hb;clear JZ;obtain⟨J3,J2,Q3,Q0,JZ⟩:=QJ jq;clear hb;by_cases hk:tk=4/\tx.data.toList=[37]
  case neg =>
   rw[if_pos (by rcases Classical.em (tk=4) with h | h;exact Or.inr (fun h2=>hk ⟨h,h2⟩);exact Or.inl h)] at hq
   have HX:Hid (q=(⟨i,N,A,d,p,0⟩,z)):=(jA hq).symm;clear hq lt0 hJ;by_cases h4:tk=4
   ·
    have h4b:(tk != 4)=false:=by simpa using h4
    have h5:(tx.toList == [37])=false:=by rw[e37];exact jE (fun h=>hk ⟨h4,h⟩)
    clear hk h4 e37
    go_upto_region 4 with fail
    obtain⟨s10,X,j6,qw,j8,zX⟩:=qy s9 (.cells #[I6 tk,Sg tx,I6 (tp:Int),Bv false,Sg ty,Sg tz] 54);have j9:=JW j6;have qJ:=j7.below jq.z j9;have yX:=qZ (b:=X) j6 qw;replace jq:=jq.below j9;clear j9;obtain⟨J3,J2,Q3,Q0,JZ⟩:=QJ jq;replace j7:=qJ;clear qJ;rw[<-j6];try rw[<-qw]
    clear j6 j8 qw;go_wp2_with fail;show Po _ _;rw[J5.out,HX.out];exact⟨rfl,jq,j7⟩
   ·
    have h4b:(tk != 4)=true:=by simpa using h4
    clear hk h4 e37
    go_upto_region 4 with fail
    obtain⟨s11,X,j6,qw,j8,zX⟩:=qy s9 (.cells #[I6 tk,Sg tx,I6 (tp:Int),Bv false,Sg ty,Sg tz] 54);have j9:=JW j6;have qJ:=j7.below jq.z j9;have yX:=qZ (b:=X) j6 qw;replace jq:=jq.below j9;clear j9;obtain⟨J3,J2,Q3,Q0,JZ⟩:=QJ jq;replace j7:=qJ;clear qJ;rw[<-j6];try rw[<-qw]
    clear j6 j8 qw;go_wp2_with fail;show Po _ _;rw[J5.out,HX.out];exact⟨rfl,jq,j7⟩
  obtain⟨h4,h45⟩:=hk;rw[if_neg (fun h=>h.elim (fun h=>h h4) (fun h=>h h45))] at hq;have l1:=lt0 (by rw[h4];decide);have h4b:(tk != 4)=false:=by simpa using h4
  have h5:(tx.toList == [37])=true:=by rw[e37];exact jD h45
  have HQ2:=zh (d7w _ _ _ _ hq);have hnn:=hJ.n;dsimp only at hnn
  have hI5:Hid (∀ n,J8 n->YQ T (Rd.add ⟨i+1,N,A,d,p,0⟩ n).1):=fun n hn=>⟨l1,by
   show (N ++ [n]).length<=i+1;rw[jM,List.length_singleton];omega,Nat.le_succ_of_le hJ.a,fun m hm=>by
   rcases List.mem_append.1 hm with h | h
   ·
    exact hJ.f m h
   ·
    rw[List.mem_singleton.1 h];exact hn,hJ.d0,hJ.d1,rfl⟩
  clear hq lt0 h4 h45 e37 hJ
  go_upto_region 4 with fail
  obtain⟨s12,X,j6,qw,j8,zX⟩:=qy s9 (.cells #[I6 tk,Sg tx,I6 (tp:Int),Bv false,Sg ty,Sg tz] 54);have j9:=JW j6;have qJ:=j7.below jq.z j9;have yX:=qZ (b:=X) j6 qw;replace jq:=jq.below j9;clear j9;obtain⟨J3,J2,Q3,Q0,JZ⟩:=QJ jq;replace j7:=qJ;clear qJ;rw[<-j6];try rw[<-qw]
  clear j6 j8 qw;have Q7:=jq.fz 1;have q6:IntKind.i64.wrap ((i:Int)+1)=(i:Int)+1:=IntWalk.i64_in _ (by omega)
  go_upto_region 7 with fail
  obtain⟨s13,j6⟩:∃ s,s=s12.setCell ⟨R,1,none⟩ (I6 (((i:Int)+1))):=⟨_,rfl⟩;have j8:s13.heap.size=s12.heap.size:=by rw[j6];simp
  replace j7:Kp R w s13:=by rw[j6];exact j7.setR (by decide)
  replace jq:qj s13 R g cap T ⟨(i+1),N,A,d,p,0⟩:=by rw[j6];exact jq.setI _ _ (by first | rfl | omega)
  rw[<-j6];clear j6 j8;obtain⟨J3,J2,Q3,Q0,JZ⟩:=QJ jq;clear q6 Q7;go_wp2_with fail;refine(d6z R g cap T ⟨i+1,N,A,d,p,0⟩ { nd5 7 with o:=14,a:=z } _ jq (by dsimp only;omega)).mono ?_;rintro e s99 ⟨rfl,hRB,hKb⟩;go_wp2
  go_roundw
  case rel=>exact⟨_,_,rfl,hRB,j7.trans hKb,HQ2.out,fun _=>hI5.out _ (f1b _ _)⟩
  case measure =>
   rw[d8q hRB,HLW.out];show T.length-(i+1)<T.length-i;omega
def e6r (x:jW) (k:Nat):Option Nat:=((List.range 8).drop k).find? (fun j=>decide (1<=j)&&decide (XQ j=x))
theorem e3y {k:Nat} (h:k<8):(List.range 8).drop k=k :: (List.range 8).drop (k+1):=by
 rw[List.drop_eq_getElem_cons (by rw[List.length_range];exact h),List.getElem_range]
theorem e9p {x:jW} {k:Nat} (h:k<8) (h0:1<=k) (h1:XQ k=x):e6r x k=some k:=by
 unfold e6r;rw[e3y h,List.find?_cons,jD h1,jD h0];rfl
theorem f1c {x:jW} {k:Nat} (h:k<8) (h1:XQ k≠x):e6r x k=e6r x (k+1):=by
 unfold e6r;rw[e3y h,List.find?_cons,jE h1,Bool.and_false]
theorem f2t (x:jW):e6r x 0=e6r x 1:=by
 unfold e6r;rw[e3y (k:=0) (by omega),List.find?_cons];rfl
theorem f2u (x:jW):e6r x 8=none:=rfl
def nmV (x:jW):Value:=.tuple #[I6 (((List.range 8).find? fun j=>decide (1<=j)&&decide (XQ j=x)).getD 0:Nat),Bv ((List.range 8).find? fun j=>decide (1<=j)&&decide (XQ j=x)).isSome]
def f3x (t0:World) (x:jW) (R:Option Nat) (i:Value) (wr:World):Prop:=∃ k:Nat,i=I6 (k:Int)/\1<=k/\k<=8/\e6r x k=R/\Bl t0 wr
theorem e1u (x:jW) (w:World) :
  Ca 176 #[Sg x] w (nmV x):=by
 obtain⟨R,hR⟩:=nM (e6r x 0);have hV:nmV x=.tuple #[I6 (R.getD 0:Nat),Bv R.isSome]:=by rw[hR];rfl
 rw[hV];rw[f2t] at hR;have HR:=zh hR;clear hR hV;go_enter Tryz.func176,Tryz.ntmps176;go_wp2_with fail
 go_loopw [4] (f3x w x R) (fun i _=>8-(intOf i).toNat)
 case atStart=>exact⟨1,rfl,by omega,by omega,HR.out.symm,Below.refl _ _⟩
 case round =>
  obtain⟨k,rfl,h1,h8,hT,hW⟩:=hrel;have HT:=zh hT;have HW:=zh hW;clear hT hW HR;by_cases hlt:k<8
  ·
   have HN:=zh (fun w=>d8l k w h1 (by omega));have hyes:=@e9p x k hlt h1;have hno:=@f1c x k hlt
   have hq:((XQ k).toList==x.toList)=decide (XQ k=x):=by
    rw[Bool.eq_iff_iff,beq_iff_eq,decide_eq_true_iff,jI,jI];exact⟨fun h=>ByteArray.ext (Array.toList_inj.1 h),fun h=>by rw[h]⟩
   generalize XQ k=n at *
   cases hb:decide (n=x) with
   | true =>
    rw[hb] at hq;have HX:Hid (R=some k):=HT.out.symm.trans (hyes (jB hb));clear hyes hno hb;go_wp2_with (go_at_call 133;refine jy (HN.out _) fun w2 hb=>?_);refine jU (v:=.tuple #[I6 (k:Int),Bv true]) (by simp[results,Tryz.results176,go_sem]) rfl ⟨by rw[HX.out];rfl,HW.out.trans (hb.mono HW.out.size)⟩
   | false =>
    rw[hb] at hq;have HX:Hid (e6r x (k+1)=R):=(hno (of_decide_eq_false hb)).symm.trans HT.out;clear hyes hno hb;go_wp2_with (go_at_call 133;refine jy (HN.out _) fun w2 hb=>?_);exact⟨⟨k+1,by go_num,by omega,by omega,HX.out,HW.out.trans (hb.mono HW.out.size)⟩,by simp[intOf];omega⟩
  ·
   obtain rfl:k=8:=by omega
   have HX:Hid (R=none):=HT.out.symm.trans (f2u x);clear HT;go_wp2_with fail;refine jU (v:=.tuple #[I6 0,Bv false]) (by simp[results,Tryz.results176,go_sem]) rfl ⟨by rw[HX.out];rfl,HW.out⟩
theorem e7z (R g cap:Nat) (T:List Tok) (f:Nat) (hT:TokOk T) (hTl:T.length<=310)
  (hB:∀ (lv:Nat) (s:Rd) (q:Rd × Int) (w:World),lv<=6->YQ T s->Jy T f (.bin lv) s=some q->qj w R g cap T s->Cz 22 #[rpR R,I6 (lv:Int)] w (d7m R g cap T q w))
  (hWd:∀ (s:Rd) (q:Rd × Int) (w:World),YQ T s->(tokAt T s.i).k=3->fjR T f (d9b T s (tokAt T s.i))=some q->qj w R g cap T s->Cz 177 #[rpR R,e7q (tokAt T s.i)] w (d7m R g cap T q w))
  (s:Rd) (q:Rd × Int) (w:World) (hI:YQ T s) (hq:Jy T (f+1) .first s=some q) (jq:qj w R g cap T s) :
  Cz 134 #[rpR R] w (d7m R g cap T q w):=by
 obtain⟨Po,hPo⟩:=nM (d7m R g cap T q w);rw[<-hPo];have J5:=zh hPo;clear hPo;rw[e7v] at hq;unfold d7z at hq;dsimp only at hq;have hl:=hI.l;have hn:=hI.n;have hd0:=hI.d0;have hd1:=hI.d1;have he:=hI.e;obtain⟨i,N,A,d,p,er⟩:=s;dsimp only at hl hn hd0 hd1 he hq;subst he;obtain⟨t,ht⟩:=nM (tokAt T i);have hNW:=fun W h=>d7b R g cap T ⟨i,N,A,d,p,0⟩ W h hl (by omega)
 have hDP:=fun W h=>d8p R g cap T ⟨i,N,A,d,p,0⟩ t W h (by dsimp only;omega)
 have hWR:=fun W=>d6s R g cap T ⟨i,N,A,d,p,0⟩ t 10 W
 have hWW:=fun q W h1 h2 h=>hWd ⟨i,N,A,d,p,0⟩ q W hI h1 h2 h
 have lt0:=fun h=>d6r hT hl h
 dsimp only at hNW hWW;rw[<-ht] at hNW hq lt0 hWW;have hdk:=@d7u ⟨i,N,A,d,p,0⟩ t;have hNM:=fun W=>e1u t.x W
 obtain⟨tk,tx,tp,ty,tz⟩:=t;dsimp only at hNW lt0 hq hWW hNM;have HNW:=zh hNW;clear hNW ht hWd;go_enter Tryz.func134,Tryz.ntmps134
 go_upto_region 1 with fail
 have hgw:g<w.heap.size:=jq.toks.z;have j7:Kp R w w:=Kp.refl R w;go_wp2_with fail;refine jy (HNW.out _ jq) fun s1 hb=>?_
 replace j7:=j7.below jq.z hb;replace jq:=jq.below hb;obtain⟨J3,J2,Q3,Q0,JZ⟩:=QJ jq;clear hb;clear HNW
 go_upto_region 2 with fail
 obtain⟨s2,X,j6,qw,j8,zX⟩:=qy s1 (.cells #[I6 tk,Sg tx,I6 (tp:Int),Bv false,Sg ty,Sg tz] 54);have j9:=JW j6;have qJ:=j7.below jq.z j9;have yX:=qZ (b:=X) j6 qw;have oX:=d6v jq j9 (b:=X) (by omega) zX;replace jq:=jq.below j9;clear j9;obtain⟨J3,J2,Q3,Q0,JZ⟩:=QJ jq;replace j7:=qJ;clear qJ;rw[<-j6];try rw[<-qw]
 clear j6 j8 qw;by_cases k1:tk=1
 case pos =>
  rw[if_pos k1] at hq;have HX:Hid (q=(⟨i+1,N,A,d,p,0⟩:Rd).add { nd5 1 with qa:=ty,qd:=tz }):=(jA hq).symm;have b1:(tk==1)=true:=by simpa using k1
  clear hDP hWR hWW lt0 hdk hNM hB hI hT hq k1;have Q7:=jq.fz 1;have q6:IntKind.i64.wrap ((i:Int)+1)=(i:Int)+1:=IntWalk.i64_in _ (by omega)
  go_upto_region 6 with fail
  obtain⟨s3,j6⟩:∃ s,s=s2.setCell ⟨R,1,none⟩ (I6 (((i:Int)+1))):=⟨_,rfl⟩;have j8:s3.heap.size=s2.heap.size:=by rw[j6];simp
  replace yX:∀ j,s3.cell? ⟨X,j,none⟩=([I6 tk,Sg tx,I6 (tp:Int),Bv false,Sg ty,Sg tz]:List Value)[j]?:=Jv j6 (qz yX (Ne.symm oX.ne));replace j7:Kp R w s3:=by rw[j6];exact j7.setR (by decide)
  replace jq:qj s3 R g cap T ⟨(i+1),N,A,d,p,0⟩:=by rw[j6];exact jq.setI _ _ (by first | rfl | omega)
  rw[<-j6];clear j6 j8;obtain⟨J3,J2,Q3,Q0,JZ⟩:=QJ jq;clear q6 Q7;go_wp2_with fail;refine(d6z R g cap T ⟨i+1,N,A,d,p,0⟩ { nd5 1 with qa:=ty,qd:=tz } _ jq (by dsimp only;omega)).mono ?_;rintro e s99 ⟨rfl,hRB,hKb⟩;go_wp2_with fail;show Po _ _;rw[J5.out,HX.out];exact⟨rfl,hRB,j7.trans hKb⟩
 rw[if_neg k1] at hq;have b1:(tk==1)=false:=by simpa using k1
 clear k1;by_cases k2:tk=2
 case pos =>
  rw[if_pos k2] at hq;have HX:Hid (q=(⟨i+1,N,A,d,p,0⟩:Rd).add { nd5 2 with s:=tx }):=(jA hq).symm;have b2:(tk==2)=true:=by simpa using k2
  clear hDP hWR hWW lt0 hdk hNM hB hI hT hq k2;have Q7:=jq.fz 1;have q6:IntKind.i64.wrap ((i:Int)+1)=(i:Int)+1:=IntWalk.i64_in _ (by omega)
  go_upto_region 9 with fail
  obtain⟨s4,j6⟩:∃ s,s=s2.setCell ⟨R,1,none⟩ (I6 (((i:Int)+1))):=⟨_,rfl⟩;have j8:s4.heap.size=s2.heap.size:=by rw[j6];simp
  replace yX:∀ j,s4.cell? ⟨X,j,none⟩=([I6 tk,Sg tx,I6 (tp:Int),Bv false,Sg ty,Sg tz]:List Value)[j]?:=Jv j6 (qz yX (Ne.symm oX.ne));replace j7:Kp R w s4:=by rw[j6];exact j7.setR (by decide)
  replace jq:qj s4 R g cap T ⟨(i+1),N,A,d,p,0⟩:=by rw[j6];exact jq.setI _ _ (by first | rfl | omega)
  rw[<-j6];clear j6 j8;obtain⟨J3,J2,Q3,Q0,JZ⟩:=QJ jq;clear q6 Q7;go_wp2_with fail;refine(d6z R g cap T ⟨i+1,N,A,d,p,0⟩ { nd5 2 with s:=tx } _ jq (by dsimp only;omega)).mono ?_;rintro e s99 ⟨rfl,hRB,hKb⟩;go_wp2_with fail;show Po _ _;rw[J5.out,HX.out];exact⟨rfl,hRB,j7.trans hKb⟩
 rw[if_neg k2] at hq;have b2:(tk==2)=false:=by simpa using k2
 clear k2;by_cases k10:tk=10
 case pos =>
  rw[if_pos k10] at hq;have HX:Hid (q=(⟨i+1,N,A,d,p,0⟩:Rd).add { nd5 4 with o:=((List.range 8).find? fun j=>decide (1<=j)&&decide (XQ j=tx)).getD 0 }):=(jA hq).symm;have b10:(tk==10)=true:=by simpa using k10
  have Xv:=zh hNM;clear hDP hWR hWW lt0 hdk hNM hB hI hT hq k10;have Q7:=jq.fz 1;have q6:IntKind.i64.wrap ((i:Int)+1)=(i:Int)+1:=IntWalk.i64_in _ (by omega)
  go_upto_region 12 with fail
  obtain⟨s5,j6⟩:∃ s,s=s2.setCell ⟨R,1,none⟩ (I6 (((i:Int)+1))):=⟨_,rfl⟩;have j8:s5.heap.size=s2.heap.size:=by rw[j6];simp
  replace yX:∀ j,s5.cell? ⟨X,j,none⟩=([I6 tk,Sg tx,I6 (tp:Int),Bv false,Sg ty,Sg tz]:List Value)[j]?:=Jv j6 (qz yX (Ne.symm oX.ne));replace j7:Kp R w s5:=by rw[j6];exact j7.setR (by decide)
  replace jq:qj s5 R g cap T ⟨(i+1),N,A,d,p,0⟩:=by rw[j6];exact jq.setI _ _ (by first | rfl | omega)
  rw[<-j6];clear j6 j8;obtain⟨J3,J2,Q3,Q0,JZ⟩:=QJ jq;clear q6 Q7;go_wp2_with fail;refine jy (Xv.out _) fun s98 hb=>?_
  replace j7:=j7.below jq.z hb;replace jq:=jq.below hb;obtain⟨J3,J2,Q3,Q0,JZ⟩:=QJ jq;clear hb;unfold nmV;go_wp2_with fail;refine(d6z R g cap T ⟨i+1,N,A,d,p,0⟩ { nd5 4 with o:=((List.range 8).find? fun j=>decide (1<=j)&&decide (XQ j=tx)).getD 0 } _ jq (by dsimp only;omega)).mono ?_;rintro e s99 ⟨rfl,hRB,hKb⟩;go_wp2_with fail;show Po _ _;rw[J5.out,HX.out];exact⟨rfl,hRB,j7.trans hKb⟩
 rw[if_neg k10] at hq;have b10:(tk==10)=false:=by simpa using k10
 clear k10;by_cases k5:tk=5
 case pos =>
  rw[if_pos k5] at hq;have b5:(tk==5)=true:=by simpa using k5
  have l1:=lt0 (by rw[k5];decide);clear k5;by_cases hd:(!(Rd.deeper ⟨i,N,A,d,p,0⟩ ⟨tk,tx,tp,ty,tz⟩).2)=true
  ·
   rw[if_pos hd] at hq;have HX:Hid (q=((Rd.deeper ⟨i,N,A,d,p,0⟩ ⟨tk,tx,tp,ty,tz⟩).1,0)):=(jA hq).symm;have hdb:(Rd.deeper ⟨i,N,A,d,p,0⟩ ⟨tk,tx,tp,ty,tz⟩).2=false:=by simpa using hd
   rw[hdb] at hDP;have HDP:=zh hDP;clear hDP hWR hWW lt0 hdk hNM hB hI hT hq hd hdb l1;generalize (Rd.deeper ⟨i,N,A,d,p,0⟩ ⟨tk,tx,tp,ty,tz⟩).1=sd at *;go_wp2_with fail;refine(HDP.out _ jq).mono ?_;rintro e s99 ⟨rfl,hRB,hKb⟩;go_wp2_with fail;show Po _ _;rw[J5.out,HX.out];exact⟨rfl,hRB,j7.trans hKb⟩
  rw[if_neg hd] at hq;obtain⟨e1,hd2⟩:=hdk hd;have hdb:(Rd.deeper ⟨i,N,A,d,p,0⟩ ⟨tk,tx,tp,ty,tz⟩).2=true:=by simpa using hd
  rw[hdb,e1] at hDP;rw[e1] at hq;dsimp only at hDP hq hd2;have HDP:=zh hDP;have hI2:YQ T ⟨i+1,N,A,d+1,p,0⟩:=⟨l1,Nat.le_succ_of_le hI.n,Nat.le_succ_of_le hI.a,hI.f,by show 0<=d+1;omega,hd2,rfl⟩;replace hq:(Jy T f (.bin 1) ⟨i+1,N,A,d+1,p,0⟩).map (fun q=>d9c T q.1 q.2)=some q:=hq
  cases hp:Jy T f (.bin 1) ⟨i+1,N,A,d+1,p,0⟩ with
  | none=>rw[hp] at hq;cases hq
  | some q2 =>
  obtain⟨⟨i2,N2,A2,d2,p2,e2⟩,b⟩:=q2;rw[hp] at hq;replace hq:some (d9c T ⟨i2,N2,A2,d2,p2,e2⟩ b)=some q:=hq;unfold d9c at hq;dsimp only at hq;have HB2:=zh (fun W=>hB 1 ⟨i+1,N,A,d+1,p,0⟩ _ W (by omega) hI2 hp);have HI3:=zh (fun he=>YQ.next hT hI2 rfl hp he);have HT0:=zh hT;clear hDP hWR hWW lt0 hdk hNM hB hI hT hp hI2 hd hdb e1;go_wp2_with fail;refine(HDP.out _ jq).mono ?_;rintro e s6 ⟨rfl,hRB,hKb⟩;replace j7:=j7.trans hKb;clear hKb;replace jq:qj s6 R g cap T ⟨i,N,A,(d+1),p,0⟩:=hRB;clear hRB;obtain⟨J3,J2,Q3,Q0,JZ⟩:=QJ jq;have Q7:=jq.fz 1;have q6:IntKind.i64.wrap ((i:Int)+1)=(i:Int)+1:=IntWalk.i64_in _ (by omega)
  go_upto_region 18 with fail
  obtain⟨s7,j6⟩:∃ s,s=s6.setCell ⟨R,1,none⟩ (I6 (((i:Int)+1))):=⟨_,rfl⟩;have j8:s7.heap.size=s6.heap.size:=by rw[j6];simp
  replace j7:Kp R w s7:=by rw[j6];exact j7.setR (by decide)
  replace jq:qj s7 R g cap T ⟨(i+1),N,A,(d+1),p,0⟩:=by rw[j6];exact jq.setI _ _ (by first | rfl | omega)
  rw[<-j6];clear j6 j8;obtain⟨J3,J2,Q3,Q0,JZ⟩:=QJ jq;clear q6 Q7;clear HDP;go_wp2_with fail;refine(HB2.out _ jq).mono ?_;rintro e s8 ⟨rfl,hRB,hKb⟩;replace j7:=j7.trans hKb;clear hKb;replace jq:qj s8 R g cap T ⟨i2,N2,A2,d2,p2,e2⟩:=hRB;clear hRB;obtain⟨J3,J2,Q3,Q0,JZ⟩:=QJ jq;by_cases he2:e2=0
  case neg =>
   rw[if_pos he2] at hq;have HX:Hid (q=(⟨i2,N2,A2,d2,p2,e2⟩,0)):=(jA hq).symm;have hx:(e2 != 0)=true:=by simpa using he2
   clear hq he2;go_wp2_with fail;show Po _ _;rw[J5.out,HX.out];exact⟨rfl,jq,j7⟩
  subst he2;rw[if_neg (by simp)] at hq;have hI4:=HI3.out rfl;have hl2:=hI4.l;have hd3:=hI4.d0;have hd4:=hI4.d1;dsimp only at hl2 hd3 hd4;clear hI4 HI3 HB2;obtain⟨m,hm⟩:=nM (tokAt T i2);have hNW:=fun W h=>d7b R g cap T ⟨i2,N2,A2,d2,p2,0⟩ W h hl2 (by omega)
  dsimp only at hNW;rw[<-hm] at hNW hq;clear hm;obtain⟨mk,mx,mp,my,mz⟩:=m;dsimp only at hNW hq;have HNW:=zh hNW;have F0:=e3v mk mx mp my mz;clear hNW;go_wp2_with fail;refine jy (HNW.out _ jq) fun s9 hb=>?_
  replace j7:=j7.below jq.z hb;replace jq:=jq.below hb;obtain⟨J3,J2,Q3,Q0,JZ⟩:=QJ jq;clear hb;by_cases e3:mk=6
  case neg =>
   rw[if_pos e3] at hq;have HX:Hid (q=((⟨i2,N2,A2,d2,p2,0⟩:Rd).wrong ⟨mk,mx,mp,my,mz⟩ 10,0)):=(jA hq).symm;have e4:(mk != 6)=true:=by simpa using e3
   clear hq e3;go_wp2_with fail;refine jy (HNW.out _ jq) fun s10 hb=>?_
   replace j7:=j7.below jq.z hb;replace jq:=jq.below hb;obtain⟨J3,J2,Q3,Q0,JZ⟩:=QJ jq;clear hb;go_wp2_with fail;refine(d6s R g cap T ⟨i2,N2,A2,d2,p2,0⟩ ⟨mk,mx,mp,my,mz⟩ 10 _ jq).mono ?_;rintro e s99 ⟨rfl,hRB,hKb⟩;go_wp2_with fail;show Po _ _;rw[J5.out,HX.out];exact⟨rfl,hRB,j7.trans hKb⟩
  rw[if_neg (fun h=>h e3)] at hq;have HX:Hid (q=((⟨i2+1,N2,A2,d2-1,p2,0⟩:Rd),b)):=(jA hq).symm;have e4:(mk != 6)=false:=by simpa using e3
  clear hq e3 HNW;have Q7:=jq.fz 1;have q6:IntKind.i64.wrap ((i2:Int)+1)=(i2:Int)+1:=IntWalk.i64_in _ (by omega)
  go_upto_region 24 with fail
  obtain⟨s11,j6⟩:∃ s,s=s9.setCell ⟨R,1,none⟩ (I6 (((i2:Int)+1))):=⟨_,rfl⟩;have j8:s11.heap.size=s9.heap.size:=by rw[j6];simp
  replace j7:Kp R w s11:=by rw[j6];exact j7.setR (by decide)
  replace jq:qj s11 R g cap T ⟨(i2+1),N2,A2,d2,p2,0⟩:=by rw[j6];exact jq.setI _ _ (by first | rfl | omega)
  rw[<-j6];clear j6 j8;obtain⟨J3,J2,Q3,Q0,JZ⟩:=QJ jq;clear q6 Q7;have fR4:=jq.fz 4;have q6:IntKind.i64.wrap (d2-1)=d2-1:=IntWalk.i64_in _ (by omega)
  go_upto_region 25 with fail
  obtain⟨s12,j6⟩:∃ s,s=s11.setCell ⟨R,4,none⟩ (I6 ((d2-1))):=⟨_,rfl⟩;have j8:s12.heap.size=s11.heap.size:=by rw[j6];simp
  replace j7:Kp R w s12:=by rw[j6];exact j7.setR (by decide)
  replace jq:qj s12 R g cap T ⟨(i2+1),N2,A2,(d2-1),p2,0⟩:=by rw[j6];exact jq.setD _ _ (by first | rfl | omega)
  rw[<-j6];clear j6 j8;obtain⟨J3,J2,Q3,Q0,JZ⟩:=QJ jq;clear q6 fR4;go_wp2_with fail;show Po _ _;rw[J5.out,HX.out];exact⟨rfl,jq,j7⟩
 rw[if_neg k5] at hq;have b5:(tk==5)=false:=by simpa using k5
 clear k5;by_cases k3:tk=3
 case pos =>
  rw[if_pos k3] at hq;have b3:(tk==3)=true:=by simpa using k3
  have HWW:=zh (fun W h=>hWW q W k3 hq h);clear hDP hWR hWW lt0 hdk hNM hB hI hT hq k3;go_wp2_with fail;refine(HWW.out _ jq).mono ?_;rintro e s99 ⟨rfl,hRB,hKb⟩;go_wp2_with fail;show Po _ _;rw[J5.out];exact⟨rfl,hRB,j7.trans hKb⟩
 rw[if_neg k3] at hq;have b3:(tk==3)=false:=by simpa using k3
 have HX:Hid (q=((⟨i,N,A,d,p,0⟩:Rd).wrong ⟨tk,tx,tp,ty,tz⟩ 10,0)):=(jA hq).symm;have HWR:=zh hWR;clear hDP hWR hWW lt0 hdk hNM hB hI hT hq k3;go_wp2_with fail;refine(HWR.out _ jq).mono ?_;rintro e s99 ⟨rfl,hRB,hKb⟩;go_wp2_with fail;show Po _ _;rw[J5.out,HX.out];exact⟨rfl,hRB,j7.trans hKb⟩
variable {W W':World} {R g cap:Nat} {T:List Tok} {s:Rd}
structure LAt (w W:World) (R:Nat) (v:Value) (l:List Int):Prop where
 o:W.ownsRow w.heap.size 3 1 v l.length (JV l)
 b:∀ b,v.ownBlock=some b->qW W R b
theorem LAt.kp {w:World} {v:Value} {l:List Int} (h:LAt w W R v l) (k:Kp R W W'):LAt w W' R v l:=by
 refine⟨⟨h.o.1,h.o.2.imp id ?_⟩,fun b hb=>k.oth (h.b b hb)⟩
 rintro ⟨q,c2,cur,hv,h1,h2,h3⟩;exact⟨q,c2,cur,hv,h1,(k.kept q (h.b q (by rw[hv];rfl))).2.trans h2,h3⟩
theorem LAt.below {w:World} {v:Value} {l:List Int} (h:LAt w W R v l) (hz:R<W.heap.size) (k:Bl W W'):LAt w W' R v l:=h.kp ((Kp.refl R W).below hz k)
theorem LAt.set {w:World} {v:Value} {l:List Int} {c j:Nat} {x:Value} (h:LAt w W R v l) (o:qW W R c) (hc:∀ b,v.ownBlock=some b->c≠b):LAt w (W.setCell ⟨c,j,none⟩ x) R v l:=by
 refine⟨⟨h.o.1,h.o.2.imp id ?_⟩,fun b hb=>(h.b b hb).set o⟩
 rintro ⟨q,c2,cur,hv,h1,h2,h3⟩;exact⟨q,c2,cur,hv,h1,(d7e (hc q (by rw[hv];rfl))).trans h2,h3⟩
theorem e4p {w:World} {v:Value} {l:List Int} {row:Option Nat} (h:qj W R g cap T s) (hg:g<w.heap.size) (hl:LAt w W R v l) (hr:row=v.ownBlock) (hG:W.grownBy W' row):qj W' R g cap T s:=by
 subst hr;have hb:=hl.b;have hlt:=hl.o.lt;obtain⟨nv,av,h⟩:=h;have e:W'.heap[R]?=W.heap[R]?:=hG.block R h.z (fun e=>(hb R e.symm).ne rfl);have eg:W'.heap[g]?=W.heap[g]?:=hG.block g h.tk.z (fun e=>by have:=(hlt g e.symm).1;omega);have e2:∀ q,nv.ownBlock=some q->W'.heap[q]?=W.heap[q]?:=fun q hq=>hG.block q (h.on.lt q hq).2 (fun e=>(hb q e.symm).n2 nv h.c2 hq)
 have e3:∀ q,av.ownBlock=some q->W'.heap[q]?=W.heap[q]?:=fun q hq=>hG.block q (h.oa.lt q hq).2 (fun e=>(hb q e.symm).n3 av h.c3 hq)
 refine⟨nv,av,(d6q e _).trans h.c0,(d6q e _).trans h.c1,(d6q e _).trans h.c2,(d6q e _).trans h.c3,(d6q e _).trans h.c4,(d6q e _).trans h.c5,(d6q e _).trans h.c6,fun j=>(e1q e _).trans (h.fz j),h.tk.same eg hG.size,h.gR,?_,?_,h.ap,jF h.z hG.size⟩
 ·
  refine⟨h.on.1,h.on.2.imp id ?_⟩;rintro ⟨q,c2,cur,hv,h1,h2,h3⟩;exact⟨q,c2,cur,hv,h1,(e2 q (by rw[hv];rfl)).trans h2,h3⟩
 ·
  refine⟨h.oa.1,h.oa.2.imp id ?_⟩;rintro ⟨q,c2,cur,hv,h1,h2,h3⟩;exact⟨q,c2,cur,hv,h1,(e3 q (by rw[hv];rfl)).trans h2,h3⟩
theorem d9d {w:World} {v:Value} {l:List Int} {row:Option Nat} (h:qj W R g cap T s) (hl:LAt w W R v l) (hr:row=v.ownBlock) (hG:W.grownBy W' row) {b:Nat} (o:qW W R b):qW W' R b:=by
 subst hr;have e:W'.heap[R]?=W.heap[R]?:=hG.block R h.z (fun e=>(hl.b R e.symm).ne rfl);exact⟨jF o.z hG.size,o.ne,fun u hu=>o.n2 u ((d6q e _).symm.trans hu),fun u hu=>o.n3 u ((d6q e _).symm.trans hu)⟩
theorem e4q {w:World} {v:Value} {l:List Int} {row:Option Nat} (h:qj W R g cap T s) (k:Kp R w W) (hl:LAt w W R v l) (hr:row=v.ownBlock) (hG:W.grownBy W' row):Kp R w W' :=
 ⟨hG.os.trans k.os,hG.tape.trans k.tape,hG.output.trans k.output,jG k.size hG.size,fun b ob=>⟨d9d h hl hr hG (k.oth ob),(hG.block b (k.oth ob).z (fun e=>by
  have:=(hl.o.lt b (by rw[<-hr];exact e.symm)).1;have:=ob.z
  omega)).trans (k.kept b ob).2⟩⟩
theorem LAt.grown {w:World} {v v':Value} {l l':List Int} {row:Option Nat} (h:qj W R g cap T s) (hw:w.heap.size<=W.heap.size) (hl:LAt w W R v l) (hr:row=v.ownBlock) (hG:W.grownBy W' row) (ho:W'.ownsRow w.heap.size 3 1 v' l'.length (JV l')) (hn:c2n W v v'):LAt w W' R v' l':=by
 refine⟨ho,fun b hb=>?_⟩
 rcases hn b hb with h2 | h2
 ·
  exact d9d h hl hr hG (hl.b b h2)
 ·
  subst hr;have e:W'.heap[R]?=W.heap[R]?:=hG.block R h.z (fun e=>(hl.b R e.symm).ne rfl);obtain⟨nv,av,h⟩:=h;refine⟨(ho.lt b hb).2,by have:=h.z;omega,fun u hu e1=>?_,fun u hu e1=>?_⟩
  ·
   obtain rfl:=jA (h.c2.symm.trans ((d6q e _).symm.trans hu));have:=(h.on.lt b e1).2;omega
  ·
   obtain rfl:=jA (h.c3.symm.trans ((d6q e _).symm.trans hu));have:=(h.oa.lt b e1).2;omega
