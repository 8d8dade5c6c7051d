import Derived.Test.YtibiacmbljgmhaaGreatDoorPar1
import Derived.Test.YtibiacmbljgmhaaGreatDoorAst40
namespace Go.Proofs.YtibiacmbljgmhaaGreatDoor
open Go.RowKit Go.Shelf
set_option linter.all false
abbrev tokL (t:Tok):List Value:=[I6 t.k,Sg t.x,I6 t.p,Bv false,Sg t.qa,Sg t.qd]
abbrev e7q (t:Tok):Value:=.agg #[I6 t.k,Sg t.x,I6 t.p,Bv false,Sg t.qa,Sg t.qd]
structure ToksAt (W:World) (g cap:Nat) (T:List Tok):Prop where
 cells:∀ k t,T[k]?=some t->∀ j u,(tokL t)[j]?=some u->W.cell? ⟨g,k*6+j,none⟩=some u
 z:g<W.heap.size
structure RAt (W:World) (R g cap:Nat) (T:List Tok) (s:Rd) (nv av:Value):Prop where
 c0:W.cell? ⟨R,0,none⟩=some (.slice (some ⟨g,0,none⟩) T.length cap)
 c1:W.cell? ⟨R,1,none⟩=some (I6 s.i)
 c2:W.cell? ⟨R,2,none⟩=some nv
 c3:W.cell? ⟨R,3,none⟩=some av
 c4:W.cell? ⟨R,4,none⟩=some (I6 s.d)
 c5:W.cell? ⟨R,5,none⟩=some (I6 s.p)
 c6:W.cell? ⟨R,6,none⟩=some (I6 s.e)
 fz:∀ j,W.frozen? ⟨R,j,none⟩=false
 tk:ToksAt W g cap T
 gR:g<R
 on:W.ownsRow (R+1) 69 19 nv s.N.length (nodeL s.N)
 oa:W.ownsRow (R+1) 3 1 av s.A.length (JV s.A)
 ap:∀ b,nv.ownBlock=some b->av.ownBlock=some b->False
 z:R<W.heap.size
def qj (W:World) (R g cap:Nat) (T:List Tok) (s:Rd):Prop:=∃ nv av,RAt W R g cap T s nv av
structure qW (W:World) (R b:Nat):Prop where
 z:b<W.heap.size
 ne:b≠R
 n2:∀ u,W.cell? ⟨R,2,none⟩=some u->u.ownBlock≠some b
 n3:∀ u,W.cell? ⟨R,3,none⟩=some u->u.ownBlock≠some b
structure Kp (R:Nat) (w w':World):Prop where
 os:w'.os=w.os
 tape:w'.tape=w.tape
 output:w'.output=w.output
 size:w.heap.size<=w'.heap.size
 kept:∀ b,qW w R b->qW w' R b/\w'.heap[b]?=w.heap[b]?
theorem Kp.refl (R:Nat) (w:World):Kp R w w:=⟨rfl,rfl,rfl,jC _,fun _ h=>⟨h,rfl⟩⟩
theorem Kp.trans {R:Nat} {a b c:World} (h1:Kp R a b) (h2:Kp R b c):Kp R a c :=
 ⟨h2.os.trans h1.os,h2.tape.trans h1.tape,h2.output.trans h1.output,jG h1.size h2.size,fun x h=>⟨(h2.kept x (h1.kept x h).1).1,(h2.kept x (h1.kept x h).1).2.trans (h1.kept x h).2⟩⟩
theorem d6q {W W':World} {b:Nat} (h:W'.heap[b]?=W.heap[b]?) (j:Nat):W'.cell? ⟨b,j,none⟩=W.cell? ⟨b,j,none⟩:=by unfold World.cell?;dsimp only;rw[h]
theorem e1q {W W':World} {b:Nat} (h:W'.heap[b]?=W.heap[b]?) (j:Nat):W'.frozen? ⟨b,j,none⟩=W.frozen? ⟨b,j,none⟩:=by unfold World.frozen?;dsimp only;rw[h]
theorem Kp.cell {R:Nat} {w w':World} {b j:Nat} {v:Value} (h:Kp R w w') (o:qW w R b) (k:w.cell? ⟨b,j,none⟩=some v):w'.cell? ⟨b,j,none⟩=some v:=(d6q (h.kept b o).2 j).trans k
theorem Kp.frz {R:Nat} {w w':World} {b j:Nat} {v:Bool} (h:Kp R w w') (o:qW w R b) (k:w.frozen? ⟨b,j,none⟩=v):w'.frozen? ⟨b,j,none⟩=v:=(e1q (h.kept b o).2 j).trans k
theorem Kp.oth {R:Nat} {w w':World} {b:Nat} (h:Kp R w w') (o:qW w R b):qW w' R b:=(h.kept b o).1
variable {W W':World} {R g cap:Nat} {T:List Tok} {s:Rd}
theorem ToksAt.same (h:ToksAt W g cap T) (hk:W'.heap[g]?=W.heap[g]?) (hz:W.heap.size<=W'.heap.size):ToksAt W' g cap T :=
 ⟨fun k t ht j u hu=>(d6q hk _).trans (h.cells k t ht j u hu),jF h.z hz⟩
theorem RAt.below {nv av:Value} (h:RAt W R g cap T s nv av) (hb:Bl W W'):RAt W' R g cap T s nv av :=
 ⟨q9 hb h.c0 h.z,q9 hb h.c1 h.z,q9 hb h.c2 h.z,q9 hb h.c3 h.z,q9 hb h.c4 h.z,q9 hb h.c5 h.z,q9 hb h.c6 h.z,fun j=>QW hb (h.fz j) h.z,h.tk.same (hb.block g h.tk.z) hb.size,h.gR,a1g h.on hb,a1g h.oa hb,h.ap,jF h.z hb.size⟩
theorem QJ {W:World} {R g cap:Nat} {T:List Tok} {i:Nat} {N:List Nd} {A:List Int} {d:Int} {p:Nat} {e:Int} (h:qj W R g cap T ⟨i,N,A,d,p,e⟩):W.cell? ⟨R,0,none⟩=some (.slice (some ⟨g,0,none⟩) T.length cap)/\W.cell? ⟨R,1,none⟩=some (I6 (i:Int))/\W.cell? ⟨R,4,none⟩=some (I6 d)/\W.cell? ⟨R,5,none⟩=some (I6 (p:Int))/\W.cell? ⟨R,6,none⟩=some (I6 e):=by
 obtain⟨nv,av,h⟩:=h;exact⟨h.c0,h.c1,h.c4,h.c5,h.c6⟩
theorem qj.below (h:qj W R g cap T s) (hb:Bl W W'):qj W' R g cap T s:=by
 obtain⟨nv,av,h⟩:=h;exact⟨nv,av,h.below hb⟩
theorem qj.z (h:qj W R g cap T s):R<W.heap.size:=by
 obtain⟨nv,av,h⟩:=h;exact h.z
theorem qj.k0 (h:qj W R g cap T s):W.cell? ⟨R,0,none⟩=some (.slice (some ⟨g,0,none⟩) T.length cap):=by obtain⟨nv,av,h⟩:=h;exact h.c0
theorem qj.k1 (h:qj W R g cap T s):W.cell? ⟨R,1,none⟩=some (I6 s.i):=by obtain⟨nv,av,h⟩:=h;exact h.c1
theorem qj.k4 (h:qj W R g cap T s):W.cell? ⟨R,4,none⟩=some (I6 s.d):=by obtain⟨nv,av,h⟩:=h;exact h.c4
theorem qj.k5 (h:qj W R g cap T s):W.cell? ⟨R,5,none⟩=some (I6 s.p):=by obtain⟨nv,av,h⟩:=h;exact h.c5
theorem qj.k6 (h:qj W R g cap T s):W.cell? ⟨R,6,none⟩=some (I6 s.e):=by obtain⟨nv,av,h⟩:=h;exact h.c6
theorem qj.fz (h:qj W R g cap T s) (j:Nat):W.frozen? ⟨R,j,none⟩=false:=by obtain⟨nv,av,h⟩:=h;exact h.fz j
theorem qW.below {b:Nat} (o:qW W R b) (hz:R<W.heap.size) (hb:Bl W W'):qW W' R b :=
 ⟨jF o.z hb.size,o.ne,fun u h=>o.n2 u ((hb.cell (p:=⟨R,2,none⟩) hz).symm.trans h),fun u h=>o.n3 u ((hb.cell (p:=⟨R,3,none⟩) hz).symm.trans h)⟩
theorem Kp.below {w:World} (h:Kp R w W) (hz:R<W.heap.size) (hb:Bl W W'):Kp R w W' :=
 h.trans ⟨hb.os,hb.tape,hb.output,hb.size,fun b o=>⟨o.below hz hb,hb.block b o.z⟩⟩
theorem d6v (h:qj W R g cap T s) (hb:Bl W W') {b:Nat} (h1:W.heap.size<=b) (h2:b<W'.heap.size):qW W' R b:=by
 obtain⟨nv,av,h⟩:=h;have h':=h.below hb;refine⟨h2,by have:=h.z;omega,fun u hu e=>?_,fun u hu e=>?_⟩
 ·
  obtain rfl:=jA (h'.c2.symm.trans hu);have:=(h.on.lt b e).2;omega
 ·
  obtain rfl:=jA (h'.c3.symm.trans hu);have:=(h.oa.lt b e).2;omega
theorem qj.toks (h:qj W R g cap T s):qW W R g:=by
 obtain⟨nv,av,h⟩:=h;refine⟨h.tk.z,by have:=h.gR;omega,fun u hu e=>?_,fun u hu e=>?_⟩
 ·
  obtain rfl:=jA (h.c2.symm.trans hu);have:=(h.on.lt g e).1;have:=h.gR;omega
 ·
  obtain rfl:=jA (h.c3.symm.trans hu);have:=(h.oa.lt g e).1;have:=h.gR;omega
theorem d7e {W:World} {p:Addr} {v:Value} {b:Nat} (h:p.block≠b):(W.setCell p v).heap[b]?=W.heap[b]?:=Below.heap_setCell W p v b (Ne.symm h)
theorem qj.set {b j:Nat} {v:Value} (h:qj W R g cap T s) (o:qW W R b) (hg:b≠g):qj (W.setCell ⟨b,j,none⟩ v) R g cap T s:=by
 obtain⟨nv,av,h⟩:=h;have e:(W.setCell ⟨b,j,none⟩ v).heap[R]?=W.heap[R]?:=d7e o.ne;have eg:(W.setCell ⟨b,j,none⟩ v).heap[g]?=W.heap[g]?:=d7e hg;have hs:(W.setCell ⟨b,j,none⟩ v).heap.size=W.heap.size:=by simp
 have e2:∀ q,nv.ownBlock=some q->(W.setCell ⟨b,j,none⟩ v).heap[q]?=W.heap[q]?:=fun q hq=>d7e (fun e=>o.n2 nv h.c2 (by rw[hq];exact congrArg some e.symm))
 have e3:∀ q,av.ownBlock=some q->(W.setCell ⟨b,j,none⟩ v).heap[q]?=W.heap[q]?:=fun q hq=>d7e (fun e=>o.n3 av h.c3 (by rw[hq];exact congrArg some e.symm))
 refine⟨nv,av,(d6q e _).trans h.c0,(d6q e _).trans h.c1,(d6q e _).trans h.c2,(d6q e _).trans h.c3,(d6q e _).trans h.c4,(d6q e _).trans h.c5,(d6q e _).trans h.c6,fun j=>(e1q e _).trans (h.fz j),h.tk.same eg (by rw[hs];exact jC _),h.gR,?_,?_,h.ap,by rw[hs];exact h.z⟩
 ·
  refine⟨h.on.1,h.on.2.imp id ?_⟩;rintro ⟨q,c2,cur,hv,h1,h2,h3⟩;exact⟨q,c2,cur,hv,h1,(e2 q (by rw[hv];rfl)).trans h2,h3⟩
 ·
  refine⟨h.oa.1,h.oa.2.imp id ?_⟩;rintro ⟨q,c2,cur,hv,h1,h2,h3⟩;exact⟨q,c2,cur,hv,h1,(e3 q (by rw[hv];rfl)).trans h2,h3⟩
theorem qW.set {b c j:Nat} {v:Value} (o:qW W R b) (h:qW W R c):qW (W.setCell ⟨c,j,none⟩ v) R b:=by
 have e:(W.setCell ⟨c,j,none⟩ v).heap[R]?=W.heap[R]?:=d7e h.ne;exact⟨by simpa using o.z,o.ne,fun u hu=>o.n2 u ((d6q e _).symm.trans hu),fun u hu=>o.n3 u ((d6q e _).symm.trans hu)⟩
theorem Kp.set {w:World} {c j:Nat} {v:Value} (h:Kp R w W) (o:qW W R c) (hc:w.heap.size<=c):Kp R w (W.setCell ⟨c,j,none⟩ v) :=
 ⟨h.os,h.tape,h.output,by simpa using h.size,fun b ob=>⟨(h.oth ob).set o,(d7e (fun e=>by have:=ob.z;dsimp only at e;omega)).trans (h.kept b ob).2⟩⟩
theorem RAt.cell {nv av:Value} (h:RAt W R g cap T s nv av) (j:Nat) (v:Value) (s':Rd) (hN:s'.N=s.N) (hA:s'.A=s.A)
  (h1:(W.setCell ⟨R,j,none⟩ v).cell? ⟨R,1,none⟩=some (I6 s'.i)) (h4:(W.setCell ⟨R,j,none⟩ v).cell? ⟨R,4,none⟩=some (I6 s'.d)) (h5:(W.setCell ⟨R,j,none⟩ v).cell? ⟨R,5,none⟩=some (I6 s'.p)) (h6:(W.setCell ⟨R,j,none⟩ v).cell? ⟨R,6,none⟩=some (I6 s'.e))
  (hj:j≠0/\j≠2/\j≠3):RAt (W.setCell ⟨R,j,none⟩ v) R g cap T s' nv av:=by
 refine⟨stO h.c0 hj.1,h1,stO h.c2 hj.2.1,stO h.c3 hj.2.2,h4,h5,h6,fun k=>frz_set.trans (h.fz k),h.tk.same (d7e (by have:=h.gR;dsimp only;omega)) (by simp),h.gR,?_,?_,h.ap,by simpa using h.z⟩
 ·
  rw[hN];exact ownsRow_setCell_below h.on (Nat.lt_succ_self R) _
 ·
  rw[hA];exact ownsRow_setCell_below h.oa (Nat.lt_succ_self R) _
theorem f3o {W:World} {b o:Nat} {u v:Value} (h:W.cell? ⟨b,o,none⟩=some u) (hf:W.frozen? ⟨b,o,none⟩=false):(W.setCell ⟨b,o,none⟩ v).cell? ⟨b,o,none⟩=some v:=a0z h hf
theorem qj.setI (h:qj W R g cap T s) (y:Int) (x:Nat) (hy:y=x):qj (W.setCell ⟨R,1,none⟩ (I6 y)) R g cap T { s with i:=x }:=by
 rw[hy];obtain⟨nv,av,h⟩:=h;exact⟨nv,av,h.cell 1 _ { s with i:=x } rfl rfl (f3o h.c1 (h.fz 1)) (stO h.c4 (by decide)) (stO h.c5 (by decide)) (stO h.c6 (by decide)) (by decide)⟩
theorem qj.setD (h:qj W R g cap T s) (y:Int) (x:Int) (hy:y=x):qj (W.setCell ⟨R,4,none⟩ (I6 y)) R g cap T { s with d:=x }:=by
 rw[hy];obtain⟨nv,av,h⟩:=h;exact⟨nv,av,h.cell 4 _ { s with d:=x } rfl rfl (stO h.c1 (by decide)) (f3o h.c4 (h.fz 4)) (stO h.c5 (by decide)) (stO h.c6 (by decide)) (by decide)⟩
theorem qj.setP (h:qj W R g cap T s) (y:Int) (x:Nat) (hy:y=x):qj (W.setCell ⟨R,5,none⟩ (I6 y)) R g cap T { s with p:=x }:=by
 rw[hy];obtain⟨nv,av,h⟩:=h;exact⟨nv,av,h.cell 5 _ { s with p:=x } rfl rfl (stO h.c1 (by decide)) (stO h.c4 (by decide)) (f3o h.c5 (h.fz 5)) (stO h.c6 (by decide)) (by decide)⟩
theorem qj.setE (h:qj W R g cap T s) (y:Int) (x:Int) (hy:y=x):qj (W.setCell ⟨R,6,none⟩ (I6 y)) R g cap T { s with e:=x }:=by
 rw[hy];obtain⟨nv,av,h⟩:=h;exact⟨nv,av,h.cell 6 _ { s with e:=x } rfl rfl (stO h.c1 (by decide)) (stO h.c4 (by decide)) (stO h.c5 (by decide)) (f3o h.c6 (h.fz 6)) (by decide)⟩
theorem qW.setR {b j:Nat} {v:Value} (o:qW W R b) (hj:j≠2/\j≠3):qW (W.setCell ⟨R,j,none⟩ v) R b:=by
 have e:∀ q,q≠j->(W.setCell ⟨R,j,none⟩ v).cell? ⟨R,q,none⟩=W.cell? ⟨R,q,none⟩:=fun q hq=>by simp[go_sem,Ne.symm hq]
 exact⟨by simpa using o.z,o.ne,fun u hu=>o.n2 u ((e 2 (Ne.symm hj.1)).symm.trans hu),fun u hu=>o.n3 u ((e 3 (Ne.symm hj.2)).symm.trans hu)⟩
theorem Kp.setR {w:World} {j:Nat} {v:Value} (h:Kp R w W) (hj:j≠2/\j≠3):Kp R w (W.setCell ⟨R,j,none⟩ v) :=
 ⟨h.os,h.tape,h.output,by simpa using h.size,fun b ob=>⟨(h.oth ob).setR hj,(d7e (fun e=>(h.oth ob).ne e.symm)).trans (h.kept b ob).2⟩⟩
theorem RAt.setN {W1:World} {nv av nv':Value} {M:List Nd} (h:RAt W R g cap T s nv av) (hg:W.grownBy W1 nv.ownBlock) (ho:W1.ownsRow (R+1) 69 19 nv' M.length (nodeL M)) (hn:c2n W nv nv') :
  RAt (W1.setCell ⟨R,2,none⟩ nv') R g cap T { s with N:=M } nv' av:=by
 have hP:∀ b,nv.ownBlock=some b->R≠b:=fun b hr e=>by have:=(h.on.lt b hr).1;omega
 have hz:=h.z;have hgz:=h.gR;have eg:W1.heap[g]?=W.heap[g]?:=hg.block g h.tk.z (fun e=>by have:=(h.on.lt g e.symm).1;omega)
 exact⟨a0h (Jw hg h.c0 hP) (by omega),a0h (Jw hg h.c1 hP) (by omega),a0z (Jw hg h.c2 hP) (a0m hg hz (h.fz 2) hP),a0h (Jw hg h.c3 hP) (by omega),a0h (Jw hg h.c4 hP) (by omega),a0h (Jw hg h.c5 hP) (by omega),a0h (Jw hg h.c6 hP) (by omega),
  fun j=>frz_set.trans (a0m hg hz (h.fz j) hP),(h.tk.same eg hg.size).same (d7e (by dsimp only;omega)) (by simp),h.gR,
  ownsRow_setCell_below ho (Nat.lt_succ_self R) _,ownsRow_setCell_below (a2q h.oa hg h.ap) (Nat.lt_succ_self R) _,a4t h.oa h.ap hn,by have:=hg.size;simp;omega⟩
theorem RAt.setA {W1:World} {nv av av':Value} {B:List Int} (h:RAt W R g cap T s nv av) (hg:W.grownBy W1 av.ownBlock) (ho:W1.ownsRow (R+1) 3 1 av' B.length (JV B)) (hn:c2n W av av') :
  RAt (W1.setCell ⟨R,3,none⟩ av') R g cap T { s with A:=B } nv av':=by
 have hP:∀ b,av.ownBlock=some b->R≠b:=fun b hr e=>by have:=(h.oa.lt b hr).1;omega
 have hz:=h.z;have hgz:=h.gR;have eg:W1.heap[g]?=W.heap[g]?:=hg.block g h.tk.z (fun e=>by have:=(h.oa.lt g e.symm).1;omega)
 exact⟨a0h (Jw hg h.c0 hP) (by omega),a0h (Jw hg h.c1 hP) (by omega),a0h (Jw hg h.c2 hP) (by omega),a0z (Jw hg h.c3 hP) (a0m hg hz (h.fz 3) hP),a0h (Jw hg h.c4 hP) (by omega),a0h (Jw hg h.c5 hP) (by omega),a0h (Jw hg h.c6 hP) (by omega),
  fun j=>frz_set.trans (a0m hg hz (h.fz j) hP),(h.tk.same eg hg.size).same (d7e (by dsimp only;omega)) (by simp),h.gR,
  ownsRow_setCell_below (a2q h.on hg (fun b x y=>h.ap b y x)) (Nat.lt_succ_self R) _,ownsRow_setCell_below ho (Nat.lt_succ_self R) _,(fun b x y=>a4t h.on (fun b x y=>h.ap b y x) hn b y x),by have:=hg.size;simp;omega⟩
theorem Kp.grownN {W1:World} {nv av nv':Value} (h:RAt W R g cap T s nv av) (hg:W.grownBy W1 nv.ownBlock) (hn:c2n W nv nv'):Kp R W (W1.setCell ⟨R,2,none⟩ nv'):=by
 have hP:∀ b,nv.ownBlock=some b->R≠b:=fun b hr e=>by have:=(h.on.lt b hr).1;omega
 have hz:=h.z;refine⟨hg.os,hg.tape,hg.output,by simpa using hg.size,fun b o=>?_⟩
 have e1:W1.heap[b]?=W.heap[b]?:=hg.block b o.z (fun e=>o.n2 nv h.c2 e.symm);refine⟨⟨by have:=hg.size;have:=o.z;simp;omega,o.ne,fun u hu e=>?_,fun u hu=>o.n3 u ?_⟩,(d7e (fun e=>o.ne e.symm)).trans e1⟩
 ·
  have:=a0z (v:=nv') (Jw hg h.c2 hP) (a0m hg hz (h.fz 2) hP);obtain rfl:=jA (this.symm.trans hu)
  rcases hn b e with h3 | h3
  ·
   exact o.n2 nv h.c2 h3
  ·
   have:=o.z;omega
 ·
  have:=a0h (v:=nv') (o':=2) (Jw hg h.c3 hP) (by omega);exact h.c3.trans (this.symm.trans hu)
theorem Kp.grownA {W1:World} {nv av av':Value} (h:RAt W R g cap T s nv av) (hg:W.grownBy W1 av.ownBlock) (hn:c2n W av av'):Kp R W (W1.setCell ⟨R,3,none⟩ av'):=by
 have hP:∀ b,av.ownBlock=some b->R≠b:=fun b hr e=>by have:=(h.oa.lt b hr).1;omega
 have hz:=h.z;refine⟨hg.os,hg.tape,hg.output,by simpa using hg.size,fun b o=>?_⟩
 have e1:W1.heap[b]?=W.heap[b]?:=hg.block b o.z (fun e=>o.n3 av h.c3 e.symm);refine⟨⟨by have:=hg.size;have:=o.z;simp;omega,o.ne,fun u hu=>o.n2 u ?_,fun u hu e=>?_⟩,(d7e (fun e=>o.ne e.symm)).trans e1⟩
 ·
  have:=a0h (v:=av') (o':=3) (Jw hg h.c2 hP) (by omega);exact h.c2.trans (this.symm.trans hu)
 ·
  have:=a0z (v:=av') (Jw hg h.c3 hP) (a0m hg hz (h.fz 3) hP);obtain rfl:=jA (this.symm.trans hu)
  rcases hn b e with h3 | h3
  ·
   exact o.n3 av h.c3 h3
  ·
   have:=o.z;omega
set_option maxHeartbeats 4000000
set_option maxRecDepth 100000
abbrev rpR (R:Nat):Value:=.pointer (some ⟨R,0,none⟩)
theorem e4m {T:List Tok} {i:Nat} (h:i<T.length):T[i]?=some (tokAt T i):=by
 unfold tokAt;rw[jJ,jH h];rfl
theorem qj.cells {W:World} {R g cap:Nat} {T:List Tok} {s:Rd} (h:qj W R g cap T s) {i:Nat} (hi:i<T.length):∀ j u,(tokL (tokAt T i))[j]?=some u->W.cell? ⟨g,i*6+j,none⟩=some u:=by
 obtain⟨nv,av,h⟩:=h;exact h.tk.cells i _ (e4m hi)
theorem d7b (R g cap:Nat) (T:List Tok) (s:Rd) (w:World) (jq:qj w R g cap T s) (hi:s.i<T.length) (hT:T.length<=1000) :
  Ca 23 #[rpR R] w (e7q (tokAt T s.i)):=by
 have hcl:=jq.cells hi;have k0:=jq.k0;have k1:=jq.k1;have hz:=jq.z;obtain⟨i,N,A,d,p,er⟩:=s;dsimp only at *;obtain⟨tk,htk⟩:=nM (tokAt T i);rw[<-htk] at hcl |-
 clear htk;obtain⟨k,x,q,y,z⟩:=tk;have kT0:=hcl 0 _ rfl;have kT1:=hcl 1 _ rfl;have kT2:=hcl 2 _ rfl;have kT3:=hcl 3 _ rfl;have kT4:=hcl 4 _ rfl;have kT5:=hcl 5 _ rfl;rw[Nat.add_zero] at kT0;generalize T.length=L at *;clear jq hcl;have hi2:(i:Int)<(L:Int):=by omega
 have hg:g<w.heap.size:=World.block_lt_of_cell? _ _ kT0;go_enter Tryz.func23,Tryz.ntmps23
 go_upto_region 1 with fail
 obtain⟨s1,C,j6,qq,j8,zC⟩:=qy w (.cells #[I6 0,S0,I6 0,Bv false,S0,S0] 54);have yC:=qZ (b:=C) j6 qq;have fC:=Qq (b:=C) j6 qq;have lC:w.heap.size<=C:=by omega
 have j7:=qQ bR j6;rw[<-j6];try rw[<-qq]
 clear j6 j8 qq;replace k0:=q9 j7 k0 hz;replace k1:=q9 j7 k1 hz;replace kT0:=q9 j7 kT0 hg;replace kT1:=q9 j7 kT1 hg;replace kT2:=q9 j7 kT2 hg;replace kT3:=q9 j7 kT3 hg;replace kT4:=q9 j7 kT4 hg;replace kT5:=q9 j7 kT5 hg
 go_region
 all_goals go_wp2
 all_goals refine jU (v:=.agg #[I6 k,Sg x,I6 (q:Int),Bv false,Sg y,Sg z]) (by simp[results,Tryz.results23,go_sem,yC,zC]) rfl ⟨rfl,?_⟩
 all_goals exact(Below.drew (Q8 (j7.setCell lC _) lC))
theorem d6s (R g cap:Nat) (T:List Tok) (s:Rd) (t:Tok) (c:Int) (w:World) (jq:qj w R g cap T s) :
  Cz 24 #[rpR R,e7q t,I6 c] w fun e w'=>e=.returned (I6 0)/\qj w' R g cap T (s.wrong t c)/\Kp R w w':=by
 obtain⟨i,N,A,d,p,er⟩:=s;obtain⟨k,x,q,y,z⟩:=t;unfold Rd.wrong;dsimp only;by_cases h0:er=0
 ·
  subst h0;rw[if_pos rfl];have fR5:=jq.fz 5;have fR6:=jq.fz 6;go_enter Tryz.func24,Tryz.ntmps24
  go_upto_region 1 with fail
  have hgw:g<w.heap.size:=jq.toks.z;have j7:Kp R w w:=Kp.refl R w;have J3:w.cell? ⟨R,0,none⟩=some (.slice (some ⟨g,0,none⟩) T.length cap):=jq.k0;have J2:w.cell? ⟨R,1,none⟩=some (I6 i):=jq.k1;have Q3:w.cell? ⟨R,4,none⟩=some (I6 d):=jq.k4;have Q0:w.cell? ⟨R,5,none⟩=some (I6 p):=jq.k5;have JZ:w.cell? ⟨R,6,none⟩=some (I6 0):=jq.k6;obtain⟨s2,X,j6,qw,j8,zX⟩:=qy w (.cells #[I6 k,Sg x,I6 (q:Int),Bv false,Sg y,Sg z] 54);have j9:=JW j6;have qJ:=j7.below jq.z j9;have yX:=qZ (b:=X) j6 qw;have lX:w.heap.size<=X:=by have:=j7.size;omega
  have oX:=d6v jq j9 (b:=X) (by omega) zX;replace jq:=jq.below j9;clear j9;clear J3 J2 Q3 Q0 JZ;obtain⟨J3,J2,Q3,Q0,JZ⟩:=QJ jq;replace j7:=qJ;clear qJ;rw[<-j6];try rw[<-qw]
  clear j6 j8 qw;replace fR5:=jq.fz 5;replace fR6:=jq.fz 6;go_wp2_with fail;obtain⟨s3,j6⟩:∃ s,s=s2.setCell ⟨R,5,none⟩ (I6 ((q:Int))):=⟨_,rfl⟩;have j8:s3.heap.size=s2.heap.size:=by rw[j6];simp
  replace yX:∀ j,s3.cell? ⟨X,j,none⟩=([I6 k,Sg x,I6 (q:Int),Bv false,Sg y,Sg z]:List Value)[j]?:=Jv j6 (qz yX (Ne.symm oX.ne));replace zX:X<s3.heap.size:=(by omega);replace oX:qW s3 R X:=(by rw[j6];exact oX.setR (by decide));replace j7:Kp R w s3:=by rw[j6];exact j7.setR (by decide)
  replace jq:qj s3 R g cap T ⟨i,N,A,d,q,0⟩:=by rw[j6];exact jq.setP _ _ (by first | rfl | omega)
  rw[<-j6];clear j6 j8;clear J3 J2 Q3 Q0 JZ;obtain⟨J3,J2,Q3,Q0,JZ⟩:=QJ jq;obtain⟨s4,j6⟩:∃ s,s=s3.setCell ⟨R,6,none⟩ (I6 c):=⟨_,rfl⟩;have j8:s4.heap.size=s3.heap.size:=by rw[j6];simp
  replace yX:∀ j,s4.cell? ⟨X,j,none⟩=([I6 k,Sg x,I6 (q:Int),Bv false,Sg y,Sg z]:List Value)[j]?:=Jv j6 (qz yX (Ne.symm oX.ne));replace zX:X<s4.heap.size:=(by omega);replace oX:qW s4 R X:=(by rw[j6];exact oX.setR (by decide));replace j7:Kp R w s4:=by rw[j6];exact j7.setR (by decide)
  replace jq:qj s4 R g cap T ⟨i,N,A,d,q,c⟩:=by rw[j6];exact jq.setE _ _ (by first | rfl | omega)
  rw[<-j6];clear j6 j8;clear J3 J2 Q3 Q0 JZ;obtain⟨J3,J2,Q3,Q0,JZ⟩:=QJ jq
  go_ret
  exact⟨rfl,jq,j7⟩
 ·
  rw[if_neg h0];have h1:(er==0)=false:=by simpa using h0
  clear h0;go_enter Tryz.func24,Tryz.ntmps24
  go_upto_region 1 with fail
  have hgw:g<w.heap.size:=jq.toks.z;have j7:Kp R w w:=Kp.refl R w;have J3:w.cell? ⟨R,0,none⟩=some (.slice (some ⟨g,0,none⟩) T.length cap):=jq.k0;have J2:w.cell? ⟨R,1,none⟩=some (I6 i):=jq.k1;have Q3:w.cell? ⟨R,4,none⟩=some (I6 d):=jq.k4;have Q0:w.cell? ⟨R,5,none⟩=some (I6 p):=jq.k5;have JZ:w.cell? ⟨R,6,none⟩=some (I6 er):=jq.k6;obtain⟨s5,X,j6,qw,j8,zX⟩:=qy w (.cells #[I6 k,Sg x,I6 (q:Int),Bv false,Sg y,Sg z] 54);have j9:=JW j6;have qJ:=j7.below jq.z j9;have yX:=qZ (b:=X) j6 qw;have lX:w.heap.size<=X:=by have:=j7.size;omega
  have oX:=d6v jq j9 (b:=X) (by omega) zX;replace jq:=jq.below j9;clear j9;clear J3 J2 Q3 Q0 JZ;obtain⟨J3,J2,Q3,Q0,JZ⟩:=QJ jq;replace j7:=qJ;clear qJ;rw[<-j6];try rw[<-qw]
  clear j6 j8 qw;go_wp2
  go_ret
  exact⟨rfl,jq,j7⟩
theorem d8p (R g cap:Nat) (T:List Tok) (s:Rd) (t:Tok) (w:World) (jq:qj w R g cap T s) (hd : -1000<=s.d/\s.d<=1000) :
  Cz 104 #[rpR R,e7q t] w fun e w'=>e=.returned (Bv (s.deeper t).2)/\qj w' R g cap T (s.deeper t).1/\Kp R w w':=by
 have HW:=zh (fun s w h=>d6s R g cap T s t 8 w h);obtain⟨i,N,A,d,p,er⟩:=s;unfold Rd.deeper;dsimp only at hd |-
 obtain⟨k,x,q,y,z⟩:=t;have q1:IntKind.i64.wrap (d+1)=d+1:=IntWalk.i64_in _ (by omega);by_cases h0:d+1 > 24
 ·
  rw[if_pos h0];go_enter Tryz.func104,Tryz.ntmps104
  go_upto_region 1 with fail
  have hgw:g<w.heap.size:=jq.toks.z;have j7:Kp R w w:=Kp.refl R w;have J3:w.cell? ⟨R,0,none⟩=some (.slice (some ⟨g,0,none⟩) T.length cap):=jq.k0;have J2:w.cell? ⟨R,1,none⟩=some (I6 i):=jq.k1;have Q3:w.cell? ⟨R,4,none⟩=some (I6 d):=jq.k4;have Q0:w.cell? ⟨R,5,none⟩=some (I6 p):=jq.k5;have JZ:w.cell? ⟨R,6,none⟩=some (I6 er):=jq.k6;obtain⟨s6,X,j6,qw,j8,zX⟩:=qy w (.cells #[I6 k,Sg x,I6 (q:Int),Bv false,Sg y,Sg z] 54);have j9:=JW j6;have qJ:=j7.below jq.z j9;have yX:=qZ (b:=X) j6 qw;have lX:w.heap.size<=X:=by have:=j7.size;omega
  have oX:=d6v jq j9 (b:=X) (by omega) zX;replace jq:=jq.below j9;clear j9;clear J3 J2 Q3 Q0 JZ;obtain⟨J3,J2,Q3,Q0,JZ⟩:=QJ jq;replace j7:=qJ;clear qJ;rw[<-j6];try rw[<-qw]
  clear j6 j8 qw;have fR4:=jq.fz 4
  go_upto_region 2 with fail
  obtain⟨s7,j6⟩:∃ s,s=s6.setCell ⟨R,4,none⟩ (I6 ((d+1))):=⟨_,rfl⟩;have j8:s7.heap.size=s6.heap.size:=by rw[j6];simp
  replace yX:∀ j,s7.cell? ⟨X,j,none⟩=([I6 k,Sg x,I6 (q:Int),Bv false,Sg y,Sg z]:List Value)[j]?:=Jv j6 (qz yX (Ne.symm oX.ne));replace zX:X<s7.heap.size:=(by omega);replace oX:qW s7 R X:=(by rw[j6];exact oX.setR (by decide));replace j7:Kp R w s7:=by rw[j6];exact j7.setR (by decide)
  replace jq:qj s7 R g cap T ⟨i,N,A,(d+1),p,er⟩:=by rw[j6];exact jq.setD _ _ (by first | rfl | omega)
  rw[<-j6];clear j6 j8;clear J3 J2 Q3 Q0 JZ;obtain⟨J3,J2,Q3,Q0,JZ⟩:=QJ jq;replace Q3:s7.cell? ⟨R,4,none⟩=some (I6 ((d+1))):=Q3;clear q1;go_wp2_with fail;refine(HW.out _ _ jq).mono ?_;rintro e s9 ⟨rfl,hRB,hKb⟩;go_wp2
  go_ret
  exact⟨rfl,hRB,j7.trans hKb⟩
 ·
  rw[if_neg h0];go_enter Tryz.func104,Tryz.ntmps104
  go_upto_region 1 with fail
  have hgw:g<w.heap.size:=jq.toks.z;have j7:Kp R w w:=Kp.refl R w;have J3:w.cell? ⟨R,0,none⟩=some (.slice (some ⟨g,0,none⟩) T.length cap):=jq.k0;have J2:w.cell? ⟨R,1,none⟩=some (I6 i):=jq.k1;have Q3:w.cell? ⟨R,4,none⟩=some (I6 d):=jq.k4;have Q0:w.cell? ⟨R,5,none⟩=some (I6 p):=jq.k5;have JZ:w.cell? ⟨R,6,none⟩=some (I6 er):=jq.k6;obtain⟨s8,X,j6,qw,j8,zX⟩:=qy w (.cells #[I6 k,Sg x,I6 (q:Int),Bv false,Sg y,Sg z] 54);have j9:=JW j6;have qJ:=j7.below jq.z j9;have yX:=qZ (b:=X) j6 qw;have lX:w.heap.size<=X:=by have:=j7.size;omega
  have oX:=d6v jq j9 (b:=X) (by omega) zX;replace jq:=jq.below j9;clear j9;clear J3 J2 Q3 Q0 JZ;obtain⟨J3,J2,Q3,Q0,JZ⟩:=QJ jq;replace j7:=qJ;clear qJ;rw[<-j6];try rw[<-qw]
  clear j6 j8 qw;have fR4:=jq.fz 4
  go_upto_region 2 with fail
  obtain⟨s9,j6⟩:∃ s,s=s8.setCell ⟨R,4,none⟩ (I6 ((d+1))):=⟨_,rfl⟩;have j8:s9.heap.size=s8.heap.size:=by rw[j6];simp
  replace yX:∀ j,s9.cell? ⟨X,j,none⟩=([I6 k,Sg x,I6 (q:Int),Bv false,Sg y,Sg z]:List Value)[j]?:=Jv j6 (qz yX (Ne.symm oX.ne));replace zX:X<s9.heap.size:=(by omega);replace oX:qW s9 R X:=(by rw[j6];exact oX.setR (by decide));replace j7:Kp R w s9:=by rw[j6];exact j7.setR (by decide)
  replace jq:qj s9 R g cap T ⟨i,N,A,(d+1),p,er⟩:=by rw[j6];exact jq.setD _ _ (by first | rfl | omega)
  rw[<-j6];clear j6 j8;clear J3 J2 Q3 Q0 JZ;obtain⟨J3,J2,Q3,Q0,JZ⟩:=QJ jq;replace Q3:s9.cell? ⟨R,4,none⟩=some (I6 ((d+1))):=Q3;clear q1;go_wp2
  go_ret
  exact⟨rfl,jq,j7⟩
set_option maxHeartbeats 8000000
theorem eqG {W W':World} {row:Option Nat} {b:Nat} {l:List Value} (hg:W.grownBy W' row) (y:∀ j,W.cell? ⟨b,j,none⟩=l[j]?) (z:b<W.heap.size) (hr:∀ g,row=some g->b≠g):∀ j,W'.cell? ⟨b,j,none⟩=l[j]? :=
 fun j=>(hg.cell_far ⟨b,j,none⟩ z (fun e=>hr b e.symm rfl)).trans (y j)
theorem d6z (R g cap:Nat) (T:List Tok) (s:Rd) (n:Nd) (w:World) (jq:qj w R g cap T s) (hN:s.N.length<=1000) :
  Cz 55 #[rpR R,Y2 n] w fun e w'=>e=.returned (I6 (s.N.length:Int))/\qj w' R g cap T (s.add n).1/\Kp R w w':=by
 obtain⟨nv,av,hr⟩:=jq;obtain⟨K19,hz19,HK19⟩:=Y9;obtain⟨bn,cn,rfl⟩:=a0l hr.on;have HRR:=zh hr;have zR:=hr.z;obtain⟨L,hL⟩:=nM s.N.length;have hc2:=hr.c2;rw[<-hL] at hc2 hN |-
 have HL:=zh hL;have hLM:((s.N) ++ [n]).length=L+1:=by rw[jM,<-hL];rfl
 have HLM:=zh hLM;have e1:IntKind.i64.wrap ((L:Int)+1-1)=(L:Int):=by rw[show (L:Int)+1-1=(L:Int) by omega];exact IntWalk.i64_in _ (by omega)
 clear hr hLM hL;go_enter Tryz.func55,Tryz.ntmps55
 go_upto_region 1 with fail
 obtain⟨s1,X,j6,qw,j8,zX⟩:=qy w (.cells (Qk n).toArray 69);have j9:=JW j6;have hAX:w.heap.size<=X:=by omega
 have yX:=qZ (b:=X) j6 qw;have LX:=Qv HK19 yX;have j7:=qQ bR j6;rw[<-j6];try rw[<-qw]
 clear j6 j8 qw;have HX:=zh (HRR.out.below j9);have Q6:=zh ((Kp.refl R w).below zR j9);have oX:=d6v (g:=g) (cap:=cap) (T:=T) (s:=s) ⟨_,_,HRR.out⟩ j9 (b:=X) (by omega) zX;have kc2:=q9 j9 hc2 zR;have fc2:s1.frozen? ⟨R,2,none⟩=false:=HX.out.fz 2;have HXD:Hid (∀ y,(Value.slice bn s.N.length cn).ownBlock=some y->X≠y):=fun y hy e=>oX.n2 _ HX.out.c2 (by rw[hy,e])
 have HRD:Hid (∀ y,(Value.slice bn s.N.length cn).ownBlock=some y->R≠y):=fun y hy e=>by have:=(HX.out.on.lt y hy).1;omega
 have hRX:R≠X:=Ne.symm oX.ne;have zR1:=HX.out.z;have hbase:R+1<=s1.heap.size:=zR1;clear j9 hc2 zR hAX;have HLX:Hid (∀ W,(∀ j,W.cell? ⟨X,j,none⟩=(Qk n:List Value)[j]?)->Sem.run Tryz.prog (loadCellsFrom ⟨X,0,none⟩ 0 K19 #[]) W=.ok #[I6 n.k,I6 n.o,I6 n.a,I6 n.b,Bv n.qn,Sg n.qa,Sg n.qd,Sg n.s,Bv n.tr,Sg n.r.sh,I6 n.r.c,I6 n.r.r,Bv n.r.fc,Bv n.r.fr,Sg n.t.sh,I6 n.t.c,I6 n.t.r,Bv n.t.fc,Bv n.t.fr] W):=fun W y=>eqL HK19 rfl y
 have HF:=QX j7;clear j7;refine wp_region_held_drew (S:=fun w'=>Sem.run Tryz.prog (loadCellsFrom ⟨X,0,none⟩ 0 K19 #[]) w'=.ok #[I6 n.k,I6 n.o,I6 n.a,I6 n.b,Bv n.qn,Sg n.qa,Sg n.qd,Sg n.s,Bv n.tr,Sg n.r.sh,I6 n.r.c,I6 n.r.r,Bv n.r.fc,Bv n.r.fr,Sg n.t.sh,I6 n.t.c,I6 n.t.r,Bv n.t.fc,Bv n.t.fr] w') (by kernel_rfl) JD (fun jx=>?_)
 refine tk 0 ?_;refine tk 1 ?_;refine tk 2 ?_;refine tk 3 ?_;refine tk 4 ?_;refine tk 6 ?_;refine wpAnyH_ready (rs:=[5,7]) (by kernel_rfl) (by simp) ?_;refine AllReadyH.cons rfl (fun K hK=>?_) (AllReadyH.cons rfl (fun K hK=>?_) AllReadyH.nil)
 focus
  go_simp;try (go_wp2_with fail)
  refine hK.out _ _ JD (fun jx=>?_)
  clear hK K;try simp only[pz]
  refine Jq 7 (by kernel_rfl) rfl fun K hK=>?_
  (refine a3n (by rfl) _ (by rfl) n (by rfl) ?_)
  refine hK.out _ _ JD (fun jx=>?_)
  clear hK K;try simp only[pz]
 rotate_left 1
 focus
  (refine a3n (by rfl) _ (by rfl) n (by rfl) ?_)
  refine hK.out _ _ JD (fun jx=>?_)
  clear hK K;try simp only[pz]
  refine Jq 5 (by kernel_rfl) rfl fun K hK=>?_
  go_simp;try (go_wp2_with fail)
  refine hK.out _ _ JD (fun jx=>?_)
  clear hK K;try simp only[pz]
 rotate_left 1
 all_goals
  refine Jq 8 (by kernel_rfl) rfl fun K hK=>?_
  (refine a6i (by rfl) _ _ (by rfl) (base:=R+1) (v:=.slice bn s.N.length cn) (N:=s.N) (M:=[n]) (by rw[<-HL.out];rfl) (HX.out.on.alloc _) (by rfl) (a4u s1 n _) (by rw[<-HL.out];omega) (by simp) (by simp;omega) ?_;intro v2 wf J0 jj hnear2;rw[HLM.out] at J0;obtain⟨b2,c2,rfl⟩:=a0l J0;have pfd:=a0m jj (alZ zR1) (alF zR1 fc2) HRD.out;have pcd:=Jw jj (a0b (W:=s1) kc2) HRD.out)
  refine hK.out _ _ JD (fun jx=>?_)
  clear hK K;try simp only[pz]
  refine tk 9 ?_;refine tk 10 ?_;refine tk 11 ?_;refine Jq 12 (by kernel_rfl) rfl fun K hK=>?_
  go_simp;try (go_wp2_with fail)
  refine hK.out _ _ JD (fun jx=>?_)
  clear hK K;try simp only[pz]
  refine wpAnyH_done (by kernel_rfl) ?_ _;have hg3:(World.alloc s1 (.cells (Qk n).toArray 69)).grownBy wf (Value.slice bn s.N.length cn).ownBlock:=⟨jj.os,jj.tape,jj.output,jj.size,jj.block⟩;have HX2:=zh (HX.out.below (X7 (o:=.cells (Qk n).toArray 69) bR));have HF2:=zh (RAt.setN HX2.out hg3 (M:=s.N ++ [n]) (by rw[HLM.out];exact J0) hnear2);have HK2:=zh ((Q6.out.below zR1 (X7 (o:=.cells (Qk n).toArray 69) bR)).trans (Kp.grownN HX2.out hg3 hnear2));go_wp2
  go_ret
  exact⟨rfl,⟨_,_,HF2.out⟩,HK2.out⟩
set_option maxHeartbeats 16000000
theorem e2u (n:Nat) (w:World) (h1:n<12) :
  Ca 105 #[I6 ((n+1:Nat):Int)] w (Sg (QK (opsT.getD n []))):=by
 have h:n=0\/n=1\/n=2\/n=3\/n=4\/n=5\/n=6\/n=7\/n=8\/n=9\/n=10\/n=11:=by omega
 clear h1
 rcases h with rfl | rfl | rfl | rfl | rfl | rfl | rfl | rfl | rfl | rfl | rfl | rfl
 all_goals
  go_enter Tryz.func105,Tryz.ntmps105
  go_wp2
  go_ret
  exact⟨rfl,by repeat (with_reducible first | exact Below.refl _ _ | apply X7 | apply Below.drew)⟩
def e7r (x:List UInt8) (lv:Int) (k:Nat):Option Nat:=((List.range 12).drop k).find? (fun i=>decide (opsT.getD i []=x)&&decide (Y5 8 (i+1)=lv))
theorem e9l {x:List UInt8} {lv:Int} : e7r x lv 12=none:=rfl
theorem e2v {k:Nat} (h:k<12):(List.range 12).drop k=k :: (List.range 12).drop (k+1):=by
 rw[List.drop_eq_getElem_cons (by rw[List.length_range];exact h),List.getElem_range]
theorem e9m {x:List UInt8} {lv:Int} {k:Nat} (h:k<12) (h1:opsT.getD k []=x) (h2:Y5 8 ((k:Int)+1)=lv):e7r x lv k=some k:=by
 unfold e7r;rw[e2v h,List.find?_cons,jD h1,jD h2];rfl
theorem f0z {x:List UInt8} {lv:Int} {k:Nat} (h:k<12) (h1 : ¬ (opsT.getD k []=x/\Y5 8 ((k:Int)+1)=lv)):e7r x lv k=e7r x lv (k+1):=by
 unfold e7r;rw[e2v h,List.find?_cons]
 have:(decide (opsT.getD k []=x)&&decide (Y5 8 ((k:Int)+1)=lv))=false:=by
  rw[Bool.and_eq_false_iff];by_cases h2:opsT.getD k []=x
  ·
   exact Or.inr (jE (fun h3=>h1 ⟨h2,h3⟩))
  ·
   exact Or.inl (jE h2)
 rw[this]
def f2n (o:Option Nat):Int:=match o with
 | some i=>(i:Int)+1
 | none=>0
theorem e9n {t:Tok} {lv:Int} (h:t.k=4):e6p t lv=f2n (e7r t.x.data.toList lv 0):=by
 unfold e6p f2n e7r;rw[if_neg (by rw[h];simp)];rfl
theorem e7s {t:Tok} {lv:Int} (h:t.k≠4):e6p t lv=0:=by
 unfold e6p;rw[if_pos h]
def f2o (t0:World) (x:List UInt8) (lv:Int) (R:Int) (i:Value) (wr:World):Prop:=∃ k:Nat,i=I6 ((k+1:Nat):Int)/\k<=12/\f2n (e7r x lv k)=R/\Bl t0 wr
theorem e1r (t:Tok) (lv:Int) (w:World) :
  Ca 54 #[e7q t,I6 lv] w (I6 (e6p t lv)):=by
 obtain⟨V,hV⟩:=nM (e6p t lv);rw[<-hV];have hy:=@e9n t lv;have hn:=@e7s t lv;rw[<-hV] at hy hn;clear hV;obtain⟨kk,x,p,y,z⟩:=t;dsimp only at hy hn;by_cases h4:kk=4
 case neg =>
  have HV:=zh (hn h4);have h5:(kk != 4)=true:=by simpa using h4
  clear hy hn h4;go_enter Tryz.func54,Tryz.ntmps54
  go_upto_region 1 with fail
  obtain⟨s1,X,j6,qw,j8,zX⟩:=qy w (.cells #[I6 kk,Sg x,I6 (p:Int),Bv false,Sg y,Sg z] 54);have yX:=qZ (b:=X) j6 qw;have j7:=qQ bR j6;rw[<-j6];try rw[<-qw]
  clear j6 j8 qw;go_wp2
  go_ret
  exact⟨a1c HV.out.symm,j7⟩
 have HV:=zh (hy h4);subst h4;clear hy hn;obtain⟨xl,hxl⟩:=nM x.data.toList;rw[<-hxl] at HV;have HXL:=zh hxl;clear hxl;go_enter Tryz.func54,Tryz.ntmps54
 go_upto_region 1 with fail
 obtain⟨s2,X,j6,qw,j8,zX⟩:=qy w (.cells #[I6 4,Sg x,I6 (p:Int),Bv false,Sg y,Sg z] 54);have hN:=Qz (b:=X) j6 qw;have Qx:=hN 0 _ rfl;have Qj:=hN 1 _ rfl;have X0:=hN 2 _ rfl;have QQ:=hN 3 _ rfl;have QY:=hN 4 _ rfl;have QV:=hN 5 _ rfl;clear hN;have j7:=qQ bR j6;rw[<-j6];try rw[<-qw]
 clear j6 j8 qw;go_wp2_with fail
 go_loopw [5] (f2o s2 xl lv V) (fun i _=>20-(intOf i).toNat)
 case atStart=>exact⟨0,rfl,by omega,HV.out.symm,Below.refl _ _⟩
 case round =>
  obtain⟨k,rfl,hk,hT,hW⟩:=hrel;have HT:=zh hT;have HW:=zh hW;clear hT;replace Qx:=q9 hW Qx zX;replace Qj:=q9 hW Qj zX;replace X0:=q9 hW X0 zX;replace QQ:=q9 hW QQ zX;replace QY:=q9 hW QY zX;replace QV:=q9 hW QV zX;replace zX:=jw hW zX;replace j7:=bT j7 hW;clear hW;by_cases hlt:k<12
  ·
   have hsg:=fun w=>e2u k w hlt
   have hlv:=fun w=>a3w { nd5 8 with o:=(k:Int)+1 } w
   have hyes:=@e9m xl lv k hlt;have hno:=@f0z xl lv k hlt;dsimp only[nd5,Jj] at hlv
   have hq:((QK (opsT.getD k [])).toList==x.toList)=decide (opsT.getD k []=xl):=by
    rw[Bool.eq_iff_iff,beq_iff_eq,decide_eq_true_iff,jI,jI,HXL.out];rfl
   have hlr:=e6u 8 ((k:Int)+1);generalize Y5 8 ((k:Int)+1)=lk at *;have hk12:k+1<=12:=by omega
   have hc:(((k+1:Nat):Int)<=12):=by omega
   cases hqb:decide (opsT.getD k []=xl) with
   | true =>
    rw[hqb] at hq;have hqe:=jB hqb;by_cases hl:lk=lv
    ·
     have HR:Hid (V=(k:Int)+1):=by
      show V=_;rw[<-HT.out,hyes hqe hl];rfl
     subst hl;have HSG:=zh hsg;have HLV:=zh hlv;clear hyes hno hqb hqe hsg hlv;generalize QK (opsT.getD k [])=sg at *
     go_upto_region 6 with fail
     have HF:=QX j7;clear j7;refine wrp (S:=fun w'=>w'.cell? ⟨X,0,none⟩=some (I6 4)/\w'.cell? ⟨X,1,none⟩=some (Sg x)/\w'.cell? ⟨X,2,none⟩=some (I6 (p:Int))/\w'.cell? ⟨X,3,none⟩=some (Bv false)/\w'.cell? ⟨X,4,none⟩=some (Sg y)/\w'.cell? ⟨X,5,none⟩=some (Sg z)) (by kernel_rfl) (fun w' hx=>JT) (fun Q6 jx=>?_);refine tk 0 ?_;refine tk 2 ?_;refine tk 3 ?_;refine Jq 1 (by kernel_rfl) rfl fun K hK=>?_
     go_simp
     (go_at_call 105;refine jy (HSG.out _) fun x3 qk=>?_;obtain⟨qx,jk,qK⟩:=Q4 wr qk)
     try (go_wp2_with fail)
     refine hK.out _ _ (X2 Q6) (fun jx=>?_);clear hK K;try simp only[pz]
     refine tk 4 ?_;refine tk 5 ?_;refine tk 6 ?_;refine tk 7 ?_;refine tk 9 ?_;refine Jq 8 (by kernel_rfl) rfl fun K hK=>?_
     go_simp
     (go_at_call 106;refine jy (HLV.out _) fun x3 qk=>?_;obtain⟨qx,jk,qK⟩:=Q4 wr qk)
     try (go_wp2_with fail)
     refine hK.out _ _ (X2 Q6) (fun jx=>?_);clear hK K;try simp only[pz]
     refine tk 10 ?_;refine tk 11 ?_;refine wpAnyH_done (by kernel_rfl) ?_ _;replace Qx:=(jk X 0 zX).trans Qx;replace Qj:=(jk X 1 zX).trans Qj;replace X0:=(jk X 2 zX).trans X0;replace QQ:=(jk X 3 zX).trans QQ;replace QY:=(jk X 4 zX).trans QY;replace QV:=(jk X 5 zX).trans QV;replace zX:=jw qx zX;have j7:=HF.out _ qx;clear HF jk qK qx;go_wp2
     go_ret
     exact⟨a1c (by rw[HR.out];try omega),j7⟩
    ·
     have HR:Hid (f2n (e7r xl lv (k+1))=V):=by
      show _=V;rw[<-hno (fun h=>hl h.2)];exact HT.out
     have hlb:(lk==lv)=false:=by simpa using hl
     have HSG:=zh hsg;have HLV:=zh hlv;clear hyes hno hqb hqe hsg hlv hl;generalize QK (opsT.getD k [])=sg at *
     go_upto_region 6 with fail
     have HF:=QX j7;clear j7;refine wrp (S:=fun w'=>w'.cell? ⟨X,0,none⟩=some (I6 4)/\w'.cell? ⟨X,1,none⟩=some (Sg x)/\w'.cell? ⟨X,2,none⟩=some (I6 (p:Int))/\w'.cell? ⟨X,3,none⟩=some (Bv false)/\w'.cell? ⟨X,4,none⟩=some (Sg y)/\w'.cell? ⟨X,5,none⟩=some (Sg z)) (by kernel_rfl) (fun w' hx=>JT) (fun Q6 jx=>?_);refine tk 0 ?_;refine tk 2 ?_;refine tk 3 ?_;refine Jq 1 (by kernel_rfl) rfl fun K hK=>?_
     go_simp
     (go_at_call 105;refine jy (HSG.out _) fun x4 qk=>?_;obtain⟨qx,jk,qK⟩:=Q4 wr qk)
     try (go_wp2_with fail)
     refine hK.out _ _ (X2 Q6) (fun jx=>?_);clear hK K;try simp only[pz]
     refine tk 4 ?_;refine tk 5 ?_;refine tk 6 ?_;refine tk 7 ?_;refine tk 9 ?_;refine Jq 8 (by kernel_rfl) rfl fun K hK=>?_
     go_simp
     (go_at_call 106;refine jy (HLV.out _) fun x4 qk=>?_;obtain⟨qx,jk,qK⟩:=Q4 wr qk)
     try (go_wp2_with fail)
     refine hK.out _ _ (X2 Q6) (fun jx=>?_);clear hK K;try simp only[pz]
     refine tk 10 ?_;refine tk 11 ?_;refine wpAnyH_done (by kernel_rfl) ?_ _;have HTT:=zh qx;replace Qx:=(jk X 0 zX).trans Qx;replace Qj:=(jk X 1 zX).trans Qj;replace X0:=(jk X 2 zX).trans X0;replace QQ:=(jk X 3 zX).trans QQ;replace QY:=(jk X 4 zX).trans QY;replace QV:=(jk X 5 zX).trans QV;replace zX:=jw qx zX;have j7:=HF.out _ qx;clear HF jk qK qx;go_wp2
     go_roundw
     case rel=>exact⟨k+1,by go_num,hk12,HR.out,HW.out.trans (HTT.out.mono HW.out.size)⟩
     case measure=>simp[intOf];omega
   | false =>
    rw[hqb] at hq
    have HR:Hid (f2n (e7r xl lv (k+1))=V):=by
     show _=V;rw[<-hno (fun h=>(of_decide_eq_false hqb) h.1)];exact HT.out
    have HSG:=zh hsg;clear hyes hno hqb hsg hlv;generalize QK (opsT.getD k [])=sg at *
    go_upto_region 6 with fail
    have HF:=QX j7;clear j7;refine wrp (S:=fun w'=>w'.cell? ⟨X,0,none⟩=some (I6 4)/\w'.cell? ⟨X,1,none⟩=some (Sg x)/\w'.cell? ⟨X,2,none⟩=some (I6 (p:Int))/\w'.cell? ⟨X,3,none⟩=some (Bv false)/\w'.cell? ⟨X,4,none⟩=some (Sg y)/\w'.cell? ⟨X,5,none⟩=some (Sg z)) (by kernel_rfl) (fun w' hx=>JT) (fun Q6 jx=>?_);refine tk 0 ?_;refine tk 2 ?_;refine tk 3 ?_;refine Jq 1 (by kernel_rfl) rfl fun K hK=>?_
    go_simp
    (go_at_call 105;refine jy (HSG.out _) fun x5 qk=>?_;obtain⟨qx,jk,qK⟩:=Q4 wr qk)
    try (go_wp2_with fail)
    refine hK.out _ _ (X2 Q6) (fun jx=>?_);clear hK K;try simp only[pz]
    refine tk 4 ?_;refine tk 5 ?_;refine Q5 6 ?_;refine Q5 7 ?_;refine Q5 8 ?_;refine Q5 9 ?_;refine Q5 10 ?_;refine tk 11 ?_;refine wpAnyH_done (by kernel_rfl) ?_ _;have HTT:=zh qx;replace Qx:=(jk X 0 zX).trans Qx;replace Qj:=(jk X 1 zX).trans Qj;replace X0:=(jk X 2 zX).trans X0;replace QQ:=(jk X 3 zX).trans QQ;replace QY:=(jk X 4 zX).trans QY;replace QV:=(jk X 5 zX).trans QV;replace zX:=jw qx zX;have j7:=HF.out _ qx;clear HF jk qK qx;go_wp2
    go_roundw
    case rel=>exact⟨k+1,by go_num,hk12,HR.out,HW.out.trans (HTT.out.mono HW.out.size)⟩
    case measure=>simp[intOf];omega
  ·
   obtain rfl:k=12:=by omega
   have HR:Hid (V=0):=by
    show V=0;rw[<-HT.out,e9l];rfl
   clear HT;go_wp2
   go_ret
   exact⟨a1c HR.out.symm,j7⟩
