import Derived.Test.YtibiacmbljgmhaaGreatDoorAst8
namespace Go.Proofs.YtibiacmbljgmhaaGreatDoor
set_option linter.all false
open Go.RowKit Go.Shelf
structure Tok where
 k:Int
 x:jW
 p:Nat
 qa:jW
 qd:jW
deriving Inhabited
def QK (l:List UInt8):jW:=⟨l.toArray⟩
def d7f (b:UInt8):Bool:=a2a b || Nt.isDig b || b==36 || b==95
def d8m (c:UInt8):Int:=if c=40 then 5 else if c=41 then 6 else if c=44 then 7 else if c=58 then 8 else if c=33 then 9 else if c=43\/c=45\/c=42\/c=47\/c=94\/c=38\/c=61\/c=60\/c=62\/c=37 then 4 else 0
def Y6 (l:List UInt8) (a:Nat):Nat:=a+((l.drop a).takeWhile Nt.isDig).length
def txE:List UInt8->List UInt8->Nat->Option (List UInt8 × Nat)
 | [],_,_=>none
 | c :: r,acc,n=>if c≠34 then txE r (acc ++ [c]) (n+1) else
  match r with
  | d :: r2=>if d=34 then txE r2 (acc ++ [34]) (n+2) else some (acc,n+1)
  | []=>some (acc,n+1)
def d7q (l:List UInt8):List UInt8:=(List.range 8).foldl (fun b i=>if (XQ i).size > b.length/\(XQ i).data.toList.isPrefixOf l then (XQ i).data.toList else b) []
section
variable (D:List UInt8->jW × jW × Int)
def e6a:Tok:=⟨0,⟨#[]⟩,0,⟨#[]⟩,⟨#[]⟩⟩
def d7l (l:List UInt8) (a0:Nat):Tok × Nat × Int :=
 let a:=a0+((l.drop a0).takeWhile (· == 32)).length
 match l.drop a with
 | []=>({ e6a with p:=a },a,0)
 | c :: r =>
  if Nt.isDig c then
   let t1:=Y6 l a
   let t2:=if l.getD t1 0=46/\t1+1<l.length/\Nt.isDig (l.getD (t1+1) 0) then Y6 l (t1+1) else t1
   let q:=D ((l.drop a).take (t2-a))
   if q.2.2=0 then (⟨1,QK ((l.drop a).take (t2-a)),a,q.1,q.2.1⟩,t2,0) else (e6a,a,q.2.2)
  else if c=34 then
   match txE r [] 1 with
   | some (x,n)=>if b7h (QK x) then (⟨2,QK x,a,⟨#[]⟩,⟨#[]⟩⟩,a+n,0) else (e6a,a,10)
   | none=>(e6a,a,10)
  else if c=35 then
   if d7q (c :: r)=[] then (e6a,a,10) else (⟨10,QK (d7q (c :: r)),a,⟨#[]⟩,⟨#[]⟩⟩,a+(d7q (c :: r)).length,0)
  else if d7f c then
   let n:=((c :: r).takeWhile d7f).length
   (⟨3,QK ((c :: r).take n),a,⟨#[]⟩,⟨#[]⟩⟩,a+n,0)
  else if (c :: r).take 2=[60,62]\/(c :: r).take 2=[60,61]\/(c :: r).take 2=[62,61] then (⟨4,QK ((c :: r).take 2),a,⟨#[]⟩,⟨#[]⟩⟩,a+2,0)
  else if d8m c=0 then (e6a,a,10)
  else (⟨d8m c,QK [c],a,⟨#[]⟩,⟨#[]⟩⟩,a+1,0)
def e2o (l:List UInt8):Nat->Nat->List Tok->List Tok × Nat × Int
 | 0,_,out=>(out,0,0)
 | n+1,a,out =>
  let r:=d7l D l a
  if r.2.2≠0 then ([],r.2.1,r.2.2) else if r.1.k=0 then (out ++ [r.1],0,0) else e2o l n r.2.1 (out ++ [r.1])
def e2p (l:List UInt8):List Tok × Nat × Int:=if 300<l.length then ([],0,9) else e2o D l (l.length+2) 0 []
end
structure Rd where
 i:Nat
 N:List Nd
 A:List Int
 d:Int
 p:Nat
 e:Int
def rd0:Rd:=⟨0,[],[],0,0,0⟩
def nd5 (k:Int):Nd:=⟨k,0,0,0,false,⟨#[]⟩,⟨#[]⟩,⟨#[]⟩,false,Jj,Jj⟩
def Rd.wrong (s:Rd) (t:Tok) (e:Int):Rd:=if s.e=0 then { s with p:=t.p,e:=e } else s
def Rd.add (s:Rd) (n:Nd):Rd × Int:=({ s with N:=s.N ++ [n] },s.N.length)
def opsT:List (List UInt8):=[[43],[45],[42],[47],[94],[38],[61],[60,62],[60],[60,61],[62],[62,61]]
def e6p (t:Tok) (lv:Int):Int:=if t.k≠4 then 0 else match (List.range 12).find? (fun i=>decide (opsT.getD i []=t.x.data.toList)&&decide (Y5 8 (i+1)=lv)) with | some i=>i+1 | none=>0
def d8f (l:List UInt8) (sh:jW):Rf × Int :=
 let f:=l.head? == some 36
 let l1:=if f then l.tail else l
 let k:=(l1.takeWhile X1).length
 let g:=decide (0<k)&&decide (l1.getD k 0=36)&&decide (k<l1.length)
 let l2:=if g then l1.take k++l1.drop (k+1) else l1
 let q:=e2f (QK l2)
 if q.2.2=0 then (⟨sh,q.1,q.2.1,f,g⟩,0) else (Jj,q.2.2)
def e0m (a b:Rf):Rf × Rf:=if a.c > b.c then ({ a with c:=b.c,fc:=b.fc },{ b with c:=a.c,fc:=a.fc }) else (a,b)
def e0n (a b:Rf):Rf × Rf:=if a.r > b.r then ({ a with r:=b.r,fr:=b.fr },{ b with r:=a.r,fr:=a.fr }) else (a,b)
def X5 (a b:Rf):Rf × Rf:=let x:=e0m a b;e0n x.1 x.2
inductive Job where
 | bin (lv:Nat)
 | binL (lv:Nat) (a:Int)
 | minus
 | pct
 | pctL (a:Int)
 | first
 | argsL (l:List Int)
def tokAt (T:List Tok) (i:Nat):Tok:=T.getD i e6a
def e0o (T:List Tok) (s:Rd) (w:Tok) (sh:jW):Rd × Int :=
 let a:=d8f w.x.data.toList sh
 if a.2≠0 then (s.wrong w a.2,0) else
 let s1:={ s with i:=s.i+1 }
 if (tokAt T s1.i).k≠8 then s1.add { nd5 5 with r:=a.1 } else
 let s2:={ s1 with i:=s1.i+1 }
 let w2:=tokAt T s2.i
 if w2.k≠3 then (s2.wrong w2 10,0) else
 let b:=d8f w2.x.data.toList ⟨#[]⟩
 if b.2≠0 then (s2.wrong w2 b.2,0) else
 let o:=X5 a.1 b.1
 if (o.2.c-o.1.c+1)*(o.2.r-o.1.r+1) > 200 then (s2.wrong w2 7,0) else
 ({ s2 with i:=s2.i+1 }).add { nd5 6 with r:=o.1,t:=o.2 }
def Rd.deeper (s:Rd) (t:Tok):Rd × Bool:=if s.d+1 > 24 then ((({ s with d:=s.d+1 } : Rd).wrong t 8),false) else ({ s with d:=s.d+1 },true)
inductive Fj where
 | done (q:Rd × Int)
 | paren (s:Rd)
 | call (s:Rd) (x:jW)
def d9b (T:List Tok) (s:Rd) (t:Tok):Fj :=
 let n:=tokAt T (s.i+1)
 if n.k=5 then
  if !b9e t.x.data.toList then .done (s.wrong t 10,0) else
  if !(s.deeper t).2 then .done ((s.deeper t).1,0) else .call { (s.deeper t).1 with i:=(s.deeper t).1.i+2 } t.x
 else if n.k≠9/\(t.x.data.toList=a7f\/t.x.data.toList=a4h) then .done (({ s with i:=s.i+1 } : Rd).add { nd5 3 with tr:=decide (t.x.data.toList=a7f) })
 else if n.k=9 then
  if !b4n t.x then .done (s.wrong t 10,0) else
  if (tokAt T (s.i+2)).k≠3 then .done (({ s with i:=s.i+2 } : Rd).wrong (tokAt T (s.i+2)) 10,0) else .done (e0o T { s with i:=s.i+2 } (tokAt T (s.i+2)) t.x)
 else .done (e0o T s t ⟨#[]⟩)
def d7z (T:List Tok) (s:Rd):Fj :=
 let t:=tokAt T s.i
 if t.k=1 then .done (({ s with i:=s.i+1 } : Rd).add { nd5 1 with qa:=t.qa,qd:=t.qd })
 else if t.k=2 then .done (({ s with i:=s.i+1 } : Rd).add { nd5 2 with s:=t.x })
 else if t.k=10 then .done (({ s with i:=s.i+1 } : Rd).add { nd5 4 with o:=((List.range 8).find? fun j=>decide (1<=j)&&decide (XQ j=t.x)).getD 0 })
 else if t.k=5 then if !(s.deeper t).2 then .done ((s.deeper t).1,0) else .paren { (s.deeper t).1 with i:=(s.deeper t).1.i+1 }
 else if t.k=3 then d9b T s t
 else .done (s.wrong t 10,0)
def d9c (T:List Tok) (s:Rd) (a:Int):Rd × Int:=if s.e≠0 then (s,0) else if (tokAt T s.i).k≠6 then (s.wrong (tokAt T s.i) 10,0) else ({ s with i:=s.i+1,d:=s.d-1 },a)
def d8g (s:Rd) (c:Int) (x:jW):Rd × Int:=if s.e≠0 then (s,0) else ({ s with d:=s.d-1 } : Rd).add { nd5 9 with s:=x,b:=c,a:=if 0<c then (s.A.length:Int)-c else 0 }
def Jy (T:List Tok):Nat->Job->Rd->Option (Rd × Int)
 | 0,_,_=>none
 | f+1,.bin lv,s=>if 5<lv then Jy T f .minus s else match Jy T f (.bin (lv+1)) s with
  | none=>none
  | some (s1,a)=>Jy T f (.binL lv a) s1
 | f+1,.binL lv a,s=>if s.e≠0 then some (s,0) else
  if e6p (tokAt T s.i) lv=0 then some (s,a) else
  match Jy T f (.bin (lv+1)) { s with i:=s.i+1 } with
  | none=>none
  | some (s1,b)=>if s1.e≠0 then some (s1,0) else let r:=s1.add { nd5 8 with o:=e6p (tokAt T s.i) lv,a:=a,b:=b };Jy T f (.binL lv r.2) r.1
 | f+1,.minus,s =>
  let t:=tokAt T s.i
  if t.k≠4\/t.x.data.toList≠[45] then Jy T f .pct s else
  let g:=s.deeper t
  if !g.2 then some (g.1,0) else
  match Jy T f .minus { g.1 with i:=g.1.i+1 } with
  | none=>none
  | some (s1,a)=>if s1.e≠0 then some (s1,0) else some (({ s1 with d:=s1.d-1 } : Rd).add { nd5 7 with o:=13,a:=a })
 | f+1,.pct,s=>match Jy T f .first s with
  | none=>none
  | some (s1,a)=>Jy T f (.pctL a) s1
 | f+1,.pctL a,s=>if s.e≠0 then some (s,0) else
  let t:=tokAt T s.i
  if t.k≠4\/t.x.data.toList≠[37] then some (s,a) else let r:=({ s with i:=s.i+1 } : Rd).add { nd5 7 with o:=14,a:=a };Jy T f (.pctL r.2) r.1
 | f+1,.first,s=>match d7z T s with
  | .done q=>some q
  | .paren s1=>match Jy T f (.bin 1) s1 with
   | none=>none
   | some (s2,a)=>some (d9c T s2 a)
  | .call s1 x=>match Jy T f (.argsL []) s1 with
   | none=>none
   | some (s2,c)=>some (d8g s2 c x)
 | f + 1, .argsL l, s =>   -- the arguments' tops so far; at the end they are put c9o, and their count is told
  if (tokAt T s.i).k=6/\l=[] then some ({ s with i:=s.i+1 },0) else
  if l.length=20 then some (s.wrong (tokAt T s.i) 2,0) else
  match Jy T f (.bin 1) s with
  | none=>none
  | some (s1,a)=>if s1.e≠0 then some (s1,0) else
   if (tokAt T s1.i).k=6 then some ({ s1 with i:=s1.i+1,A:=s1.A++(l ++ [a]) },((l ++ [a]).length:Int)) else
   if (tokAt T s1.i).k≠7 then some (s1.wrong (tokAt T s1.i) 10,0) else Jy T f (.argsL (l ++ [a])) { s1 with i:=s1.i+1 }
def f2f (D:List UInt8->jW × jW × Int) (l:List UInt8) (f:Nat):Option (List Nd × List Int × Nat × Int) :=
 let q:=e2p D l
 if q.2.2≠0 then some ([],[],q.2.1,q.2.2) else
 match Jy q.1 f (.bin 1) rd0 with
 | none=>none
 | some (s,_) =>
  let s1:=if s.e=0/\(tokAt q.1 s.i).k≠0 then s.wrong (tokAt q.1 s.i) 10 else s
  if s1.e≠0 then some ([],[],s1.p,s1.e) else some (s1.N,s1.A,0,0)
structure TokOk (T:List Tok):Prop where
 h1:1<=T.length
 fit:∀ t ∈ T,t.qa.size<=100/\t.qd.size<=100/\t.x.size<=500
 lst:∀ i,i<T.length->((tokAt T i).k=0 ↔ i+1=T.length)
structure Jk (T:List Tok) (x:Nat) (s s':Rd):Prop where
 n:s'.N.length+s.i<=s'.i+s.N.length
 a:s'.A.length+s.i<=s'.i+s.A.length+x
 i:s.i<=s'.i
 l:s'.i<T.length
 f:∀ m ∈ s'.N,J8 m
theorem Jk.refl {T:List Tok} {x:Nat} {s:Rd} (hl:s.i<T.length) (hf:∀ m ∈ s.N,J8 m):Jk T x s s:=⟨by omega,by omega,by omega,hl,hf⟩
theorem Jk.trans {T:List Tok} {x y:Nat} {s s1 s2:Rd} (h1:Jk T x s s1) (h2:Jk T y s1 s2):Jk T (x+y) s s2 :=
 ⟨by have:=h1.n;have:=h2.n;omega,by have:=h1.a;have:=h2.a;omega,by have:=h1.i;have:=h2.i;omega,h2.l,h2.f⟩
theorem d6x {T:List Tok} {x:Nat} {s s':Rd} {t:Tok} {e:Int} (h:Jk T x s s'):Jk T x s (s'.wrong t e):=by
 unfold Rd.wrong
 split
 ·
  exact⟨h.n,h.a,h.i,h.l,h.f⟩
 ·
  exact h
theorem d7j {T:List Tok} {x:Nat} {s s':Rd} {n:Nd} (h:Jk T x s s') (h2:s'.N.length+1+s.i<=s'.i+s.N.length) (hn:J8 n):Jk T x s (s'.add n).1:=by
 refine⟨?_,h.a,h.i,h.l,fun m hm=>?_⟩
 ·
  show (s'.N ++ [n]).length+s.i<=s'.i+s.N.length;rw[jM,List.length_singleton];omega
 ·
  rcases List.mem_append.1 hm with h3 | h3
  ·
   exact h.f m h3
  ·
   rw[List.mem_singleton.1 h3];exact hn
theorem Xx (k:Int):J8 (nd5 k):=by refine⟨?_,?_,?_,?_,?_⟩<;>(show (ByteArray.mk #[]).size<=_;decide)
theorem d8n {T:List Tok} (hT:TokOk T) {i:Nat} (hi:i<T.length):(tokAt T i).qa.size<=100/\(tokAt T i).qd.size<=100/\(tokAt T i).x.size<=500:=by
 refine hT.fit _ ?_;unfold tokAt;rw[jJ,jH hi];exact List.getElem_mem hi
theorem d6r {T:List Tok} (hT:TokOk T) {i:Nat} (hi:i<T.length) (hk:(tokAt T i).k≠0):i+1<T.length:=by
 have:=hT.lst i hi;have h2 : ¬ i+1=T.length:=fun h=>hk (this.2 h)
 omega
theorem e7l (l:List UInt8) (sh:jW) (hs:sh.size<=100):(d8f l sh).1.sh.size<=100:=by
 have h:∀ (q:Nat × Nat × Nat) (f g:Bool),(if q.2.2=0 then ((⟨sh,q.1,q.2.1,f,g⟩:Rf),(0:Int)) else (Jj,(q.2.2:Int))).1.sh.size<=100:=fun q f g=>by
  split
  ·
   exact hs
  ·
   show (ByteArray.mk #[]).size<=100;decide
 exact h _ _ _
theorem e9f (a b:Rf):(e0m a b).1.sh=a.sh/\(e0m a b).2.sh=b.sh:=by unfold e0m;split<;>exact⟨rfl,rfl⟩
theorem e9g (a b:Rf):(e0n a b).1.sh=a.sh/\(e0n a b).2.sh=b.sh:=by unfold e0n;split<;>exact⟨rfl,rfl⟩
theorem f0u (a b:Rf):(X5 a b).1.sh=a.sh/\(X5 a b).2.sh=b.sh:=by
 unfold X5;dsimp only;have h1:=e9f a b;have h2:=e9g (e0m a b).1 (e0m a b).2;exact⟨h2.1.trans h1.1,h2.2.trans h1.2⟩
theorem e2q {T:List Tok} (hT:TokOk T) {x:Nat} {s s0:Rd} {w:Tok} {sh:jW} (h:Jk T x s0 s) (hw:(tokAt T s.i).k≠0) (hs:sh.size<=100):Jk T x s0 (e0o T s w sh).1:=by
 have l1:=d6r hT h.l hw;have q1:Jk T x s0 { s with i:=s.i+1 }:=⟨by have:=h.n;show s.N.length+s0.i<=s.i+1+s0.N.length;omega,by have:=h.a;show s.A.length+s0.i<=s.i+1+s0.A.length+x;omega,by have:=h.i;show s0.i<=s.i+1;omega,l1,h.f⟩;have hb:=e7l w.x.data.toList sh hs;unfold e0o;dsimp only
 split
 ·
  exact d6x h
 ·
  split
  ·
   refine d7j q1 (by have:=h.n;show s.N.length+1+s0.i<=s.i+1+s0.N.length;omega) ?_;exact⟨(Xx 5).1,(Xx 5).2.1,(Xx 5).2.2.1,hb,(Xx 5).2.2.2.2⟩
  ·
   rename_i hk
   have l2:=d6r hT l1 (by intro h0;rw[h0] at hk;exact hk (by omega));have q2:Jk T x s0 { s with i:=s.i+1+1 }:=⟨by have:=h.n;show s.N.length+s0.i<=s.i+1+1+s0.N.length;omega,by have:=h.a;show s.A.length+s0.i<=s.i+1+1+s0.A.length+x;omega,by have:=h.i;show s0.i<=s.i+1+1;omega,l2,h.f⟩
   split
   ·
    exact d6x q2
   ·
    rename_i hk3
    split
    ·
     exact d6x q2
    ·
     split
     ·
      exact d6x q2
     ·
      have l3:=d6r hT l2 (by intro h0;rw[h0] at hk3;exact hk3 (by omega));have q3:Jk T x s0 { s with i:=s.i+1+1+1 }:=⟨by have:=h.n;show s.N.length+s0.i<=s.i+1+1+1+s0.N.length;omega,by have:=h.a;show s.A.length+s0.i<=s.i+1+1+1+s0.A.length+x;omega,by have:=h.i;show s0.i<=s.i+1+1+1;omega,l3,h.f⟩;refine d7j q3 (by have:=h.n;show s.N.length+1+s0.i<=s.i+1+1+1+s0.N.length;omega) ?_;have o:=f0u (d8f w.x.data.toList sh).1 (d8f (tokAt T (s.i+1+1)).x.data.toList ⟨#[]⟩).1;exact⟨(Xx 6).1,(Xx 6).2.1,(Xx 6).2.2.1,by show (X5 _ _).1.sh.size<=100;rw[o.1];exact hb,by show (X5 _ _).2.sh.size<=100;rw[o.2];exact e7l _ _ (by decide)⟩
theorem d8o {T:List Tok} {x:Nat} {s0 s:Rd} {t:Tok} (h:Jk T x s0 s):Jk T x s0 (s.deeper t).1:=by
 have q:Jk T x s0 { s with d:=s.d+1 }:=⟨h.n,h.a,h.i,h.l,h.f⟩;unfold Rd.deeper
 split
 ·
  exact d6x q
 ·
  exact q
theorem d9q {s:Rd} {t:Tok} : (s.deeper t).1.i=s.i/\(s.deeper t).1.N=s.N/\(s.deeper t).1.A=s.A:=by
 unfold Rd.deeper Rd.wrong
 split
 ·
  dsimp only
  split<;>exact⟨rfl,rfl,rfl⟩
 ·
  exact⟨rfl,rfl,rfl⟩
theorem d7i {T:List Tok} (hT:TokOk T) {x:Nat} {s0 s:Rd} {d:Int} (h:Jk T x s0 s) (hk:(tokAt T s.i).k≠0):Jk T x s0 { s with i:=s.i+1,d:=d }/\s.N.length+1+s0.i<=s.i+1+s0.N.length :=
 ⟨⟨by have:=h.n;show s.N.length+s0.i<=s.i+1+s0.N.length;omega,by have:=h.a;show s.A.length+s0.i<=s.i+1+s0.A.length+x;omega,by have:=h.i;show s0.i<=s.i+1;omega,d6r hT h.l hk,h.f⟩,by have:=h.n;omega⟩
def Job.x:Job->Nat
 | .argsL l=>l.length
 | _=>0
theorem e9h {s:jW} (h:b4n s=true):s.size<=100:=by
 have h2:s.data.toList.length<=12:=by
  unfold b4n c8a at h;simp only[Bool.and_eq_true,decide_eq_true_eq] at h;omega
 have:s.size=s.data.toList.length:=rfl;omega
theorem e7m {T:List Tok} (hT:TokOk T) {s:Rd} (hl:s.i<T.length) (hf:∀ m ∈ s.N,J8 m) (hk:(tokAt T s.i).k≠0) :
  match d9b T s (tokAt T s.i) with
  | .done q=>Jk T 0 s q.1
  | .paren _=>True
  | .call s1 x=>s1.i=s.i+2/\s1.i<T.length/\s1.N=s.N/\s1.A=s.A/\x.size<=500:=by
 have G0:Jk T 0 s s:=Jk.refl hl hf;have ht:=d8n hT hl;have l1:=d6r hT hl hk;unfold d9b;dsimp only;by_cases h5:(tokAt T (s.i+1)).k=5
 ·
  rw[if_pos h5];have l2:=d6r hT l1 (by rw[h5];omega);by_cases hn:(!b9e (tokAt T s.i).x.data.toList)=true
  ·
   rw[if_pos hn];exact d6x G0
  ·
   rw[if_neg hn];by_cases hd:(!(s.deeper (tokAt T s.i)).2)=true
   ·
    rw[if_pos hd];exact d8o G0
   ·
    rw[if_neg hd];obtain⟨di,dn,da⟩:=d9q (s:=s) (t:=tokAt T s.i);exact⟨by dsimp only;rw[di],by dsimp only;rw[di];exact l2,dn,da,ht.2.2⟩
 ·
  rw[if_neg h5];by_cases h9:(tokAt T (s.i+1)).k≠9/\((tokAt T s.i).x.data.toList=a7f\/(tokAt T s.i).x.data.toList=a4h)
  ·
   rw[if_pos h9];obtain⟨q1,q2⟩:=d7i hT (d:=s.d) G0 hk;exact d7j q1 (by dsimp only;omega) ⟨(Xx 3).1,(Xx 3).2.1,(Xx 3).2.2.1,(Xx 3).2.2.2.1,(Xx 3).2.2.2.2⟩
  ·
   rw[if_neg h9];by_cases h9:(tokAt T (s.i+1)).k=9
   ·
    rw[if_pos h9];have l2:=d6r hT l1 (by rw[h9];omega);by_cases hn:(!b4n (tokAt T s.i).x)=true
    ·
     rw[if_pos hn];exact d6x G0
    ·
     rw[if_neg hn];have g2:Jk T 0 s { s with i:=s.i+2 }:=⟨by dsimp only;omega,by dsimp only;omega,by dsimp only;omega,l2,hf⟩;by_cases h3:(tokAt T (s.i+2)).k≠3
     ·
      rw[if_pos h3];exact d6x g2
     ·
      rw[if_neg h3];exact e2q hT g2 (by dsimp only;omega) (e9h (by simpa using hn))
   ·
    rw[if_neg h9];exact e2q hT G0 hk (by decide)
theorem e0y {T:List Tok} (hT:TokOk T) {s:Rd} (hl:s.i<T.length) (hf:∀ m ∈ s.N,J8 m) :
  match d7z T s with
  | .done q=>Jk T 0 s q.1
  | .paren s1=>s1.i=s.i+1/\s1.i<T.length/\s1.N=s.N/\s1.A=s.A
  | .call s1 x=>s1.i=s.i+2/\s1.i<T.length/\s1.N=s.N/\s1.A=s.A/\x.size<=500:=by
 have G0:Jk T 0 s s:=Jk.refl hl hf;have ht:=d8n hT hl;unfold d7z;dsimp only;by_cases k1:(tokAt T s.i).k=1
 ·
  rw[if_pos k1];obtain⟨q1,q2⟩:=d7i hT (d:=s.d) G0 (by rw[k1];omega);exact d7j q1 (by dsimp only;omega) ⟨ht.1,ht.2.1,(Xx 1).2.2.1,(Xx 1).2.2.2.1,(Xx 1).2.2.2.2⟩
 rw[if_neg k1];by_cases k2:(tokAt T s.i).k=2
 ·
  rw[if_pos k2];obtain⟨q1,q2⟩:=d7i hT (d:=s.d) G0 (by rw[k2];omega);exact d7j q1 (by dsimp only;omega) ⟨(Xx 2).1,(Xx 2).2.1,ht.2.2,(Xx 2).2.2.2.1,(Xx 2).2.2.2.2⟩
 rw[if_neg k2];by_cases k3:(tokAt T s.i).k=10
 ·
  rw[if_pos k3];obtain⟨q1,q2⟩:=d7i hT (d:=s.d) G0 (by rw[k3];omega);exact d7j q1 (by dsimp only;omega) ⟨(Xx 4).1,(Xx 4).2.1,(Xx 4).2.2.1,(Xx 4).2.2.2.1,(Xx 4).2.2.2.2⟩
 rw[if_neg k3];by_cases k4:(tokAt T s.i).k=5
 ·
  rw[if_pos k4];have l1:=d6r hT hl (by rw[k4];omega);by_cases hd:(!(s.deeper (tokAt T s.i)).2)=true
  ·
   rw[if_pos hd];exact d8o G0
  ·
   rw[if_neg hd];obtain⟨di,dn,da⟩:=d9q (s:=s) (t:=tokAt T s.i);exact⟨by dsimp only;rw[di],by dsimp only;rw[di];exact l1,dn,da⟩
 rw[if_neg k4];by_cases k5:(tokAt T s.i).k=3
 ·
  rw[if_pos k5];have:=e7m hT hl hf (by rw[k5];omega)
  revert this
  cases hw:d9b T s (tokAt T s.i) with
  | done q=>exact id
  | paren s1=>exact fun _=>(by
    exfalso;unfold d9b at hw;dsimp only at hw
    (repeat' split at hw)<;>cases hw)
  | call s1 x=>exact id
 ·
  rw[if_neg k5];exact d6x G0
theorem e6b {T:List Tok} (hT:TokOk T) {s s2:Rd} {a:Int} (g:Jk T 0 s s2):Jk T 0 s (d9c T s2 a).1:=by
 unfold d9c
 split
 ·
  exact g
 ·
  split
  ·
   exact d6x g
  ·
   rename_i h6
   exact(d7i hT (d:=s2.d-1) g (by intro h0;rw[h0] at h6;exact h6 (by omega))).1
theorem e7n {T:List Tok} {s s2:Rd} {c:Int} {x:jW} (g:Jk T 0 s s2) (h:s2.N.length+1+s.i<=s2.i+s.N.length) (hx:x.size<=500):Jk T 0 s (d8g s2 c x).1:=by
 unfold d8g
 split
 ·
  exact g
 ·
  have g3:Jk T 0 s { s2 with d:=s2.d-1 }:=⟨g.n,g.a,g.i,g.l,g.f⟩;exact d7j g3 h ⟨(Xx 9).1,(Xx 9).2.1,hx,(Xx 9).2.2.2.1,(Xx 9).2.2.2.2⟩
theorem d7a {T:List Tok} (hT:TokOk T):∀ (f:Nat) (j:Job) (s:Rd) (s':Rd) (r:Int),Jy T f j s=some (s',r)->s.i<T.length->(∀ m ∈ s.N,J8 m)->Jk T j.x s s':=by
 intro f
 induction f with
 | zero=>intro j s s' r h;cases h
 | succ f ih =>
  intro j s s' r h hl hf;have G0:Jk T 0 s s:=Jk.refl hl hf
  cases j with
  | bin lv =>
   simp only[Jy] at h
   split at h
   ·
    have g:=ih .minus _ _ _ h hl hf;exact g
   ·
    split at h
    ·
     cases h
    ·
     rename_i s1 a h1
     have g1:Jk T 0 s s1:=ih (.bin (lv+1)) _ _ _ h1 hl hf;have g2:Jk T 0 s1 s':=ih (.binL lv a) _ _ _ h g1.l g1.f;exact g1.trans g2
  | binL lv a =>
   simp only[Jy] at h
   split at h
   ·
    cases h;exact G0
   ·
    split at h
    ·
     cases h;exact G0
    ·
     rename_i hop
     have hk:(tokAt T s.i).k≠0:=by
      intro h0;apply hop;unfold e6p;rw[if_pos (by omega)]
     obtain⟨q1,q2⟩:=d7i hT (d:=s.d) G0 hk
     split at h
     ·
      cases h
     ·
      rename_i s1 b h1
      have g1:Jk T 0 _ s1:=ih (.bin (lv+1)) _ _ _ h1 q1.l q1.f
      split at h
      ·
       cases h;exact q1.trans g1
      ·
       have g2:=d7j (n:={ nd5 8 with o:=e6p (tokAt T s.i) lv,a:=a,b:=b }) (q1.trans g1) (by have:=g1.n;dsimp only at this;omega) ⟨(Xx 8).1,(Xx 8).2.1,(Xx 8).2.2.1,(Xx 8).2.2.2.1,(Xx 8).2.2.2.2⟩;have g3:Jk T 0 _ s':=ih (.binL lv _) _ _ _ h g2.l g2.f;exact g2.trans g3
  | minus =>
   simp only[Jy] at h
   split at h
   ·
    have g:=ih .pct _ _ _ h hl hf;exact g
   ·
    rename_i hc
    have hk:(tokAt T s.i).k≠0:=fun h0=>hc (Or.inl (by omega))
    have g0:Jk T 0 s (s.deeper (tokAt T s.i)).1:=d8o G0
    split at h
    ·
     cases h;exact g0
    ·
     obtain⟨di,dn,da⟩:=d9q (s:=s) (t:=tokAt T s.i);obtain⟨q1,q2⟩:=d7i hT (d:=(s.deeper (tokAt T s.i)).1.d) g0 (by rw[di];exact hk)
     split at h
     ·
      cases h
     ·
      rename_i s1 a h1
      have g1:Jk T 0 _ s1:=ih .minus _ _ _ h1 q1.l q1.f
      split at h
      ·
       cases h;exact q1.trans g1
      ·
       have g2:Jk T 0 s { s1 with d:=s1.d-1 }:=⟨(q1.trans g1).n,(q1.trans g1).a,(q1.trans g1).i,g1.l,g1.f⟩;have g3:=d7j (n:={ nd5 7 with o:=13,a:=a }) g2 (by have:=g1.n;dsimp only at this |-;rw[di] at this;rw[di] at q2;omega) ⟨(Xx 7).1,(Xx 7).2.1,(Xx 7).2.2.1,(Xx 7).2.2.2.1,(Xx 7).2.2.2.2⟩
       cases h;exact g3
  | pct =>
   simp only[Jy] at h
   split at h
   ·
    cases h
   ·
    rename_i s1 a h1
    have g1:Jk T 0 s s1:=ih .first _ _ _ h1 hl hf
    have g2:Jk T 0 s1 s':=ih (.pctL a) _ _ _ h g1.l g1.f;exact g1.trans g2
  | pctL a =>
   simp only[Jy] at h
   split at h
   ·
    cases h;exact G0
   ·
    split at h
    ·
     cases h;exact G0
    ·
     rename_i hc
     have hk:(tokAt T s.i).k≠0:=fun h0=>hc (Or.inl (by omega))
     obtain⟨q1,q2⟩:=d7i hT (d:=s.d) G0 hk;have g2:=d7j (n:={ nd5 7 with o:=14,a:=a }) q1 (by dsimp only;omega) ⟨(Xx 7).1,(Xx 7).2.1,(Xx 7).2.2.1,(Xx 7).2.2.2.1,(Xx 7).2.2.2.2⟩;have g3:Jk T 0 _ s':=ih (.pctL _) _ _ _ h g2.l g2.f;exact g2.trans g3
  | first =>
   show Jk T 0 s s';have hj:=e0y hT hl hf;simp only[Jy] at h
   revert hj h
   cases d7z T s with
   | done q=>intro h hj;cases h;exact hj
   | paren s1 =>
    intro h hj;obtain⟨j1,j2,j3,j4⟩:=hj;dsimp only at h
    split at h
    ·
     cases h
    ·
     rename_i s2 a h1
     have g1:Jk T 0 s1 s2:=ih (.bin 1) _ _ _ h1 j2 (by rw[j3];exact hf);have g2:Jk T 0 s s2:=⟨by have:=g1.n;rw[j3] at this;omega,by have:=g1.a;rw[j4] at this;omega,by have:=g1.i;omega,g1.l,g1.f⟩;have e:s'=(d9c T s2 a).1:=by rw[jA h]
     rw[e];exact e6b hT g2
   | call s1 x =>
    intro h hj;obtain⟨j1,j2,j3,j4,j5⟩:=hj;dsimp only at h
    split at h
    ·
     cases h
    ·
     rename_i s2 c h1
     have g1:Jk T 0 s1 s2:=ih (.argsL []) _ _ _ h1 j2 (by rw[j3];exact hf);have e1:=g1.n;rw[j3] at e1;have g2:Jk T 0 s s2:=⟨by omega,by have:=g1.a;rw[j4] at this;omega,by have:=g1.i;omega,g1.l,g1.f⟩;have e:s'=(d8g s2 c x).1:=by rw[jA h]
     rw[e];exact e7n g2 (by omega) j5
  | argsL l =>
   show Jk T l.length s s';simp only[Jy] at h
   split at h
   ·
    rename_i hc
    obtain⟨q1,q2⟩:=d7i hT (d:=s.d) (Jk.refl (x:=l.length) hl hf) (by rw[hc.1];omega)
    cases h;exact q1
   ·
    split at h
    ·
     cases h;exact d6x (Jk.refl hl hf)
    ·
     split at h
     ·
      cases h
     ·
      rename_i s1 a h1
      have g1:Jk T 0 s s1:=ih (.bin 1) _ _ _ h1 hl hf;have g1':Jk T l.length s s1:=⟨g1.n,by have:=g1.a;omega,g1.i,g1.l,g1.f⟩
      split at h
      ·
       cases h;exact g1'
      ·
       split at h
       ·
        rename_i hk6
        have l2:=d6r hT g1.l (by rw[hk6];omega)
        cases h
        refine⟨by have:=g1.n;dsimp only;omega,?_,by have:=g1.i;dsimp only;omega,l2,g1.f⟩;have:=g1.a;show (s1.A++(l ++ [a])).length+s.i<=s1.i+1+s.A.length+l.length;rw[jM,jM,List.length_singleton];omega
       ·
        split at h
        ·
         cases h;exact d6x g1'
        ·
         rename_i hk7
         have h7:(tokAt T s1.i).k≠0:=by intro h0;rw[h0] at hk7;exact hk7 (by omega)
         have l2:=d6r hT g1.l h7;have g2:Jk T (l.length+1) { s1 with i:=s1.i+1 } s':=by have:=ih (.argsL (l ++ [a])) _ _ _ h l2 g1.f;simpa [Job.x] using this
         have e1:=g1.n;have e2:=g1.a;have e3:=g1.i;have f1:=g2.n;have f2:=g2.a;have f3:=g2.i;dsimp only at f1 f2 f3;exact⟨by omega,by omega,by omega,g2.l,g2.f⟩
def e0d:Job->Nat
 | .bin lv=>25-2*lv
 | .binL _ _=>1
 | .minus=>10
 | .pct=>9
 | .pctL _=>7
 | .first=>8
 | .argsL _=>30
theorem e9i {T:List Tok} (hT:TokOk T):∀ (f:Nat) (j:Job) (s:Rd),s.i<T.length->(∀ m ∈ s.N,J8 m)->(∀ lv,j=.bin lv->lv<=6)->(∀ lv a,j=.binL lv a->lv<=5)->40*(T.length-s.i)+e0d j<f->∃ q,Jy T f j s=some q:=by
 intro f
 induction f with
 | zero=>intro j s _ _ _ _ h;omega
 | succ f ih =>
  intro j s hl hf hj hjL hm
  cases j with
  | bin lv =>
   have h6:=hj lv rfl;simp only[e0d] at hm;simp only[Jy]
   split
   ·
    exact ih .minus s hl hf (fun _ h=>by cases h) (fun _ _ h=>by cases h) (by simp only[e0d];omega)
   ·
    obtain⟨q,hq⟩:=ih (.bin (lv+1)) s hl hf (fun _ h=>by cases h;omega) (fun _ _ h=>by cases h) (by simp only[e0d];omega);have g:=d7a hT f _ s q.1 q.2 hq hl hf;rw[hq];have:=g.i;exact ih (.binL lv q.2) q.1 g.l g.f (fun _ h=>by cases h) (fun _ _ h=>by cases h;omega) (by simp only[e0d];omega)
  | binL lv a =>
   have h5:=hjL lv a rfl;simp only[e0d] at hm;simp only[Jy]
   split
   ·
    exact⟨_,rfl⟩
   ·
    split
    ·
     exact⟨_,rfl⟩
    ·
     rename_i hop
     have hk:(tokAt T s.i).k≠0:=by
      intro h0;apply hop;unfold e6p;rw[if_pos (by omega)]
     have l1:=d6r hT hl hk;obtain⟨q,hq⟩:=ih (.bin (lv+1)) { s with i:=s.i+1 } l1 hf (fun _ h=>by cases h;omega) (fun _ _ h=>by cases h) (by simp only[e0d];omega);have g:=d7a hT f _ _ q.1 q.2 hq l1 hf;rw[hq];have e:=g.i;dsimp only at e |-
     split
     ·
      exact⟨_,rfl⟩
     ·
      refine ih (.binL lv _) _ g.l (fun m hm2=>?_) (fun _ h=>by cases h) (fun _ _ h=>by cases h;omega) (by simp only[e0d];show 40*(T.length-q.1.i)+1<f;omega)
      rcases List.mem_append.1 hm2 with h | h
      ·
       exact g.f m h
      ·
       rw[List.mem_singleton.1 h];exact⟨(Xx 8).1,(Xx 8).2.1,(Xx 8).2.2.1,(Xx 8).2.2.2.1,(Xx 8).2.2.2.2⟩
  | minus =>
   simp only[e0d] at hm;simp only[Jy]
   split
   ·
    exact ih .pct s hl hf (fun _ h=>by cases h) (fun _ _ h=>by cases h) (by simp only[e0d];omega)
   ·
    rename_i hc
    have hk:(tokAt T s.i).k≠0:=fun h0=>hc (Or.inl (by omega))
    have l1:=d6r hT hl hk
    split
    ·
     exact⟨_,rfl⟩
    ·
     obtain⟨di,dn,da⟩:=d9q (s:=s) (t:=tokAt T s.i);obtain⟨q,hq⟩:=ih .minus { (s.deeper (tokAt T s.i)).1 with i:=(s.deeper (tokAt T s.i)).1.i+1 } (by dsimp only;rw[di];exact l1) (by dsimp only;rw[dn];exact hf) (fun _ h=>by cases h) (fun _ _ h=>by cases h) (by simp only[e0d];rw[di];omega);rw[hq];dsimp only
     split<;>exact⟨_,rfl⟩
  | pct =>
   simp only[e0d] at hm;simp only[Jy];obtain⟨q,hq⟩:=ih .first s hl hf (fun _ h=>by cases h) (fun _ _ h=>by cases h) (by simp only[e0d];omega)
   have g:=d7a hT f _ s q.1 q.2 hq hl hf;rw[hq];have:=g.i;exact ih (.pctL q.2) q.1 g.l g.f (fun _ h=>by cases h) (fun _ _ h=>by cases h) (by simp only[e0d];omega)
  | pctL a =>
   simp only[e0d] at hm;simp only[Jy]
   split
   ·
    exact⟨_,rfl⟩
   ·
    split
    ·
     exact⟨_,rfl⟩
    ·
     rename_i hc
     have hk:(tokAt T s.i).k≠0:=fun h0=>hc (Or.inl (by omega))
     have l1:=d6r hT hl hk;refine ih (.pctL _) _ l1 (fun m hm2=>?_) (fun _ h=>by cases h) (fun _ _ h=>by cases h) (by simp only[e0d];show 40*(T.length-(s.i+1))+7<f;omega)
     rcases List.mem_append.1 hm2 with h | h
     ·
      exact hf m h
     ·
      rw[List.mem_singleton.1 h];exact⟨(Xx 7).1,(Xx 7).2.1,(Xx 7).2.2.1,(Xx 7).2.2.2.1,(Xx 7).2.2.2.2⟩
  | first =>
   simp only[e0d] at hm;have hj2:=e0y hT hl hf;simp only[Jy]
   revert hj2
   cases d7z T s with
   | done q=>intro _;exact⟨_,rfl⟩
   | paren s1 =>
    intro h2;obtain⟨j1,j2,j3,j4⟩:=h2;obtain⟨q,hq⟩:=ih (.bin 1) s1 j2 (by rw[j3];exact hf) (fun _ h=>by cases h;omega) (fun _ _ h=>by cases h) (by simp only[e0d];omega);dsimp only;rw[hq];exact⟨_,rfl⟩
   | call s1 x =>
    intro h2;obtain⟨j1,j2,j3,j4,j5⟩:=h2;obtain⟨q,hq⟩:=ih (.argsL []) s1 j2 (by rw[j3];exact hf) (fun _ h=>by cases h) (fun _ _ h=>by cases h) (by simp only[e0d];omega);dsimp only;rw[hq];exact⟨_,rfl⟩
  | argsL l =>
   simp only[e0d] at hm;simp only[Jy]
   split
   ·
    exact⟨_,rfl⟩
   ·
    split
    ·
     exact⟨_,rfl⟩
    ·
     obtain⟨q,hq⟩:=ih (.bin 1) s hl hf (fun _ h=>by cases h;omega) (fun _ _ h=>by cases h) (by simp only[e0d];omega);have g:=d7a hT f _ s q.1 q.2 hq hl hf;rw[hq];have e:=g.i;dsimp only
     split
     ·
      exact⟨_,rfl⟩
     ·
      split
      ·
       exact⟨_,rfl⟩
      ·
       split
       ·
        exact⟨_,rfl⟩
       ·
        rename_i hk7
        have h7:(tokAt T q.1.i).k≠0:=by intro h0;rw[h0] at hk7;exact hk7 (by omega)
        have l2:=d6r hT g.l h7;exact ih (.argsL _) _ l2 g.f (fun _ h=>by cases h) (fun _ _ h=>by cases h) (by simp only[e0d];omega)
def DOk (D:List UInt8->jW × jW × Int):Prop:=∀ l,(D l).2.2=0->(D l).1.size<=100/\(D l).2.1.size<=100
theorem d7h {α:Type} (p:α->Bool) (l:List α):(l.takeWhile p).length<=l.length:=(List.takeWhile_sublist p).length_le
theorem e4k {l:List UInt8} {a:Nat} (h:a<=l.length):a<=Y6 l a/\Y6 l a<=l.length:=by
 unfold Y6;have:=d7h Nt.isDig (l.drop a);rw[List.length_drop] at this;omega
theorem f2g {l:List UInt8} {a:Nat} {c:UInt8} {r:List UInt8} (h:l.drop a=c :: r) (hc:Nt.isDig c=true):a<Y6 l a:=by
 unfold Y6;rw[h,List.takeWhile_cons,if_pos hc,List.length_cons];omega
theorem f0v:∀ (k:Nat) (l acc:List UInt8) (n:Nat) (x:List UInt8) (m:Nat),l.length<=k->txE l acc n=some (x,m)->n<m/\m<=n+l.length/\x.length<=acc.length+l.length:=by
 intro k
 induction k with
 | zero=>intro l acc n x m hk h;obtain rfl:=jT (Nat.le_zero.1 hk);simp[txE] at h
 | succ k ih =>
  intro l acc n x m hk h
  match l,hk,h with
  | [],_,h=>simp[txE] at h
  | c :: r,hk,h =>
   rw[txE.eq_def] at h;dsimp only at h
   split at h
   ·
    have:=ih r _ _ _ _ (by simpa using hk) h;simp at this |-
    omega
   ·
    split at h
    ·
     rename_i d r2
     split at h
     ·
      have:=ih r2 _ _ _ _ (by simp at hk;omega) h;simp at this |-
      omega
     ·
      obtain⟨rfl,rfl⟩:acc=x/\n+1=m:=by simpa using h
      simp
    ·
     obtain⟨rfl,rfl⟩:acc=x/\n+1=m:=by simpa using h
     simp
theorem e6q:(ByteArray.mk #[]).size<=100:=by decide
theorem f4g:(ByteArray.mk #[]).size<=500:=by decide
theorem d8i (l:List UInt8):(QK l).size=l.length:=rfl
theorem f0w (l:List UInt8):(d7q l).length<=l.length/\(d7q l).length<=12:=by
 unfold d7q
 have key:∀ (q:List Nat) (b:List UInt8),b.length<=l.length/\b.length<=12->(∀ i ∈ q,i<8) ->
   (q.foldl (fun b i=>if (XQ i).size > b.length/\(XQ i).data.toList.isPrefixOf l then (XQ i).data.toList else b) b).length<=l.length/\(q.foldl (fun b i=>if (XQ i).size > b.length/\(XQ i).data.toList.isPrefixOf l then (XQ i).data.toList else b) b).length<=12:=by
  intro q
  induction q with
  | nil=>intro b hb _;exact hb
  | cons i q ih =>
   intro b hb hq;refine ih _ ?_ (fun j hj=>hq j (List.mem_cons_of_mem _ hj));dsimp only
   split
   ·
    rename_i h
    refine⟨(List.isPrefixOf_iff_prefix.1 h.2).length_le,?_⟩;have hi:=hq i (List.mem_cons_self ..)
    match i,hi with
    | 0,_=>decide
    | 1,_=>decide
    | 2,_=>decide
    | 3,_=>decide
    | 4,_=>decide
    | 5,_=>decide
    | 6,_=>decide
    | 7,_=>decide
   ·
    exact hb
 exact key _ [] ⟨Nat.zero_le _,Nat.zero_le _⟩ (fun i hi=>by simpa using hi)
structure NxOk (l:List UInt8) (a0:Nat) (q:Tok × Nat × Int):Prop where
 fit:q.1.qa.size<=100/\q.1.qd.size<=100/\q.1.x.size<=500
 go:q.1.k≠0->a0<q.2.1
 tw:q.2.1<=l.length
theorem e7o {D:List UInt8->jW × jW × Int} (hD:DOk D) {l:List UInt8} {a0:Nat} (h0:a0<=l.length) (h3:l.length<=300) (he:(d7l D l a0).2.2=0):NxOk l a0 (d7l D l a0):=by
 have ha:a0<=a0+((l.drop a0).takeWhile (· == 32)).length/\a0+((l.drop a0).takeWhile (· == 32)).length<=l.length:=by
  have:=d7h (· == 32) (l.drop a0);rw[List.length_drop] at this;omega
 unfold d7l at he |-
 dsimp only at he |-
 generalize a0+((l.drop a0).takeWhile (· == 32)).length=a at *;obtain⟨ha1,ha2⟩:=ha
 cases hd:l.drop a with
 | nil =>
  rw[hd] at he;exact⟨⟨e6q,e6q,f4g⟩,fun h=>absurd rfl h,ha2⟩
 | cons c r =>
  rw[hd] at he
  have hlen:r.length+1+a=l.length:=by
   have:=congrArg List.length hd;rw[List.length_drop,List.length_cons] at this;omega
  dsimp only at he |-
  by_cases c1:Nt.isDig c=true
  ·
   rw[if_pos c1] at he |-
   have g1:=f2g hd c1;have g2:=e4k ha2;generalize hu:(if l.getD (Y6 l a) 0=46/\Y6 l a+1<l.length/\Nt.isDig (l.getD (Y6 l a+1) 0)=true then Y6 l (Y6 l a+1) else Y6 l a)=u at he |-
   have hu2:a<u/\u<=l.length:=by
    subst hu
    split
    ·
     rename_i h
     have:=e4k (l:=l) (a:=Y6 l a+1) (by omega);omega
    ·
     omega
   by_cases c5:(D (((c :: r)).take (u-a))).2.2=0
   ·
    rw[if_pos c5];refine⟨⟨(hD _ c5).1,(hD _ c5).2,?_⟩,fun _=>by dsimp only;omega,by dsimp only;omega⟩
    show ((c :: r).take (u-a)).length<=500;rw[List.length_take,List.length_cons];omega
   ·
    rw[if_neg c5] at he;exact absurd he c5
  rw[if_neg c1] at he |-
  by_cases c2:c=34
  ·
   rw[if_pos c2] at he |-
   cases ht:txE r [] 1 with
   | none=>rw[ht] at he;simp at he
   | some q =>
    obtain⟨x,n⟩:=q;rw[ht] at he;dsimp only at he |-
    have hx:=f0v r.length r [] 1 x n (jC _) ht;by_cases c3:b7h (QK x)=true
    ·
     rw[if_pos c3];exact⟨⟨e6q,e6q,by show x.length<=500;simp at hx;omega⟩,fun _=>by dsimp only;omega,by dsimp only;omega⟩
    ·
     rw[if_neg c3] at he;simp at he
  rw[if_neg c2] at he |-
  by_cases c3:c=35
  ·
   rw[if_pos c3] at he |-
   have hb:=f0w (c :: r);generalize d7q (c :: r)=q at he hb |-
   by_cases c4:q=[]
   ·
    rw[if_pos c4] at he;simp at he
   ·
    rw[if_neg c4];have:0<q.length:=List.length_pos_iff.2 c4;rw[List.length_cons] at hb;exact⟨⟨e6q,e6q,by show q.length<=500;omega⟩,fun _=>by dsimp only;omega,by dsimp only;omega⟩
  rw[if_neg c3] at he |-
  by_cases c4:d7f c=true
  ·
   rw[if_pos c4];have h1:=d7h d7f (c :: r);have h2:0<((c :: r).takeWhile d7f).length:=by rw[List.takeWhile_cons,if_pos c4];simp
   rw[List.length_cons] at h1;exact⟨⟨e6q,e6q,by show ((c :: r).take _).length<=500;rw[List.length_take,List.length_cons];omega⟩,fun _=>by dsimp only;omega,by dsimp only;omega⟩
  rw[if_neg c4] at he |-
  by_cases c5:(c :: r).take 2=[60,62]\/(c :: r).take 2=[60,61]\/(c :: r).take 2=[62,61]
  ·
   rw[if_pos c5];have h2:((c :: r).take 2).length=2:=by rcases c5 with h | h | h<;>rw[h]<;>rfl
   have h3:=h2;rw[List.length_take,List.length_cons] at h3;exact⟨⟨e6q,e6q,by show ((c :: r).take 2).length<=500;omega⟩,fun _=>by dsimp only;omega,by dsimp only;omega⟩
  rw[if_neg c5] at he |-
  by_cases c6:d8m c=0
  ·
   rw[if_pos c6] at he;simp at he
  ·
   rw[if_neg c6];exact⟨⟨e6q,e6q,by show [c].length<=500;simp⟩,fun _=>by dsimp only;omega,by dsimp only;omega⟩
def f2h (t:Tok):Prop:=t.qa.size<=100/\t.qd.size<=100/\t.x.size<=500
theorem f2i {D:List UInt8->jW × jW × Int} (hD:DOk D) {l:List UInt8} (h3:l.length<=300) :
  ∀ (n a:Nat) (out:List Tok),a<=l.length->l.length-a+1<n->(∀ t ∈ out,f2h t/\t.k≠0)->(e2o D l n a out).2.2=0 ->
   ∃ r t,(e2o D l n a out).1=out++r ++ [t]/\t.k=0/\f2h t/\(∀ x ∈ r,f2h x/\x.k≠0)/\r.length<=l.length-a:=by
 intro n
 induction n with
 | zero=>intro a out _ h;omega
 | succ n ih =>
  intro a out ha hn ho he;rw[e2o] at he |-
  try dsimp only at he |-
  by_cases c1:(d7l D l a).2.2≠0
  ·
   rw[if_pos c1] at he;exact absurd he c1
  rw[if_neg c1] at he |-
  have q:=e7o hD ha h3 (by simpa using c1);by_cases c2:(d7l D l a).1.k=0
  ·
   rw[if_pos c2];exact⟨[],_,by simp,c2,q.fit,by simp,by simp⟩
  rw[if_neg c2] at he |-
  have g:=q.go c2;have g2:=q.tw
  obtain⟨r,t,e,hk,hf,hr,hl⟩:=ih (d7l D l a).2.1 (out ++ [(d7l D l a).1]) g2 (by omega) (by
   intro t ht
   rcases List.mem_append.1 ht with h | h
   ·
    exact ho t h
   ·
    rw[List.mem_singleton.1 h];exact⟨q.fit,c2⟩) he
  refine⟨(d7l D l a).1 :: r,t,by rw[e];simp,hk,hf,?_,by rw[List.length_cons];omega⟩;intro x hx
  rcases List.mem_cons.1 hx with h | h
  ·
   rw[h];exact⟨q.fit,c2⟩
  ·
   exact hr x h
theorem f2j {D:List UInt8->jW × jW × Int} (hD:DOk D) {l:List UInt8} (he:(e2p D l).2.2=0) :
  ∃ r t,(e2p D l).1=r ++ [t]/\t.k=0/\f2h t/\(∀ x ∈ r,f2h x/\x.k≠0)/\r.length<=l.length/\l.length<=300:=by
 unfold e2p at he |-
 by_cases c:300<l.length
 ·
  rw[if_pos c] at he;simp at he
 ·
  rw[if_neg c] at he |-
  obtain⟨r,t,e,hk,hf,hr,hl⟩:=f2i hD (by omega) _ 0 [] (Nat.zero_le _) (by omega) (by simp) he;exact⟨r,t,by simpa using e,hk,hf,hr,by simpa using hl,by omega⟩
theorem e7p {D:List UInt8->jW × jW × Int} (hD:DOk D) {l:List UInt8} (he:(e2p D l).2.2=0) :
  TokOk (e2p D l).1/\(e2p D l).1.length<=l.length+1/\l.length<=300:=by
 obtain⟨r,t,e,hk,hf,hr,hl,h3⟩:=f2j hD he;rw[e];refine⟨⟨by simp,?_,?_⟩,by simpa using hl,h3⟩
 ·
  intro x hx
  rcases List.mem_append.1 hx with h | h
  ·
   exact(hr x h).1
  ·
   rw[List.mem_singleton.1 h];exact hf
 ·
  intro i hi;rw[jM,List.length_singleton] at hi |-
  unfold tokAt;rw[jJ];by_cases c:i<r.length
  ·
   rw[List.getElem?_append_left c,jH c];exact⟨fun h=>absurd h (hr _ (List.getElem_mem c)).2,fun h=>by omega⟩
  ·
   obtain rfl:i=r.length:=by omega
   rw[List.getElem?_append_right (jC _)];simp[hk]
theorem e9j {D:List UInt8->jW × jW × Int} (hD:DOk D) (l:List UInt8) (f:Nat) (hf:20000<=f) :
  ∃ q,f2f D l f=some q/\q.1.length<=301/\q.2.1.length<=301/\∀ m ∈ q.1,J8 m:=by
 unfold f2f;dsimp only;by_cases c:(e2p D l).2.2≠0
 ·
  rw[if_pos c];exact⟨_,rfl,by simp,by simp,by simp⟩
 rw[if_neg c];obtain⟨hT,h1,h3⟩:=e7p hD (by simpa using c);have h0:rd0.i<(e2p D l).1.length:=by have:=hT.h1;show 0<_;omega
 have hn:∀ m ∈ rd0.N,J8 m:=by intro m hm;cases hm
 obtain⟨q,hq⟩:=e9i hT f (.bin 1) rd0 h0 hn (fun lv h=>by cases h;omega) (fun _ _ h=>by cases h) (by
  have:rd0.i=0:=rfl;simp only[e0d]
  omega)
 obtain⟨s,a⟩:=q;have g:=d7a hT f (.bin 1) rd0 s a hq h0 hn;rw[hq];dsimp only;have gn:=g.n;have ga:=g.a;have gl:=g.l;have z1:rd0.N.length=0:=rfl;have z2:rd0.A.length=0:=rfl;have z3:rd0.i=0:=rfl;have z4:(Job.bin 1).x=0:=rfl;generalize hs:(if s.e=0/\(tokAt (e2p D l).1 s.i).k≠0 then s.wrong (tokAt (e2p D l).1 s.i) 10 else s)=s1
 have e1:s1.N=s.N/\s1.A=s.A:=by
  subst hs
  split
  ·
   unfold Rd.wrong;split<;>exact⟨rfl,rfl⟩
  ·
   exact⟨rfl,rfl⟩
 by_cases c2:s1.e≠0
 ·
  rw[if_pos c2];exact⟨_,rfl,by simp,by simp,by simp⟩
 ·
  rw[if_neg c2];refine⟨_,rfl,?_,?_,?_⟩
  ·
   dsimp only;rw[e1.1];omega
  ·
   dsimp only;rw[e1.2];omega
  ·
   dsimp only;rw[e1.1];exact g.f
