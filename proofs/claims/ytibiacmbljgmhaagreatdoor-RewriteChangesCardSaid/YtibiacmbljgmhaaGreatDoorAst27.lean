import Derived.Test.YtibiacmbljgmhaaGreatDoorAst25
namespace Go.Proofs.YtibiacmbljgmhaaGreatDoor
open Go.RowKit Go.Shelf
set_option linter.all false
noncomputable def nsB (N M:List Nd):Bool:=@decide (N=M) (Classical.propDecidable _)
noncomputable def sameB (N M:List Nd) (A B:List Int):Bool:=nsB N M&&decide (A=B)
theorem b3x {N M:List Nd} (h:N=M):nsB N M=true:=by unfold nsB;exact @decide_eq_true _ (Classical.propDecidable _) h
theorem b9c {N M:List Nd} (h:N≠M):nsB N M=false:=by unfold nsB;exact @decide_eq_false _ (Classical.propDecidable _) h
def a7z {α:Type} (t0:World) (N M:List α) (r:Value) (wr:World):Prop:=∃ k:Nat,k<=N.length/\r=I6 k/\(∀ j,j<k->N[j]?=M[j]?)/\Bl t0 wr
theorem a5s {α:Type} {N M:List α} (hl:N.length=M.length) (h:∀ j,j<N.length->N[j]?=M[j]?):N=M:=List.ext_getElem? fun j=>by
 by_cases hj:j<N.length
 ·
  exact h j hj
 ·
  rw[List.getElem?_eq_none (by omega),List.getElem?_eq_none (by omega)]
theorem a5t {α:Type} {N M:List α} {k:Nat} {x y:α} (h1:N[k]?=some x) (h2:M[k]?=some y) (h:x≠y):N≠M:=fun e=>by
 rw[e,h2] at h1;exact h (jA h1).symm
theorem a4r {A:List Int} {k:Nat} (h:k<A.length):A[k]?=some (A.getD k 0):=by rw[jJ,jH h];rfl
set_option maxHeartbeats 8000000
set_option maxRecDepth 100000
theorem a4s (u v:Value) (N M:List Int) (w:World) (hN:IntsAt w u N) (hM:IntsAt w v M) (hl:N.length<=1000) (hl2:M.length<=1000) :
  Ca 138 #[u,v] w (Bv (decide (N=M))):=by
 have JY:=Qw;obtain⟨bn,cn,rfl,hN2⟩:=hN.slice;obtain⟨bm,cm,rfl,hM2⟩:=hM.slice;have HNN:=zh hN2;have HMM:=zh hM2;obtain⟨R,hR⟩:=nM (decide (N=M));rw[<-hR];have HYES:Hid (N=M->R=true):=fun h=>hR.trans (jD h)
 have HNO:Hid (N≠M->R=false):=fun h=>hR.trans (jE h)
 have HGE:=zh (fun k (h:k<N.length)=>a4r h);have HGE2:=zh (fun k (h:k<M.length)=>a4r h);have HALL:=zh (fun (hl:N.length=M.length) h=>a5s (N:=N) (M:=M) hl h);obtain⟨L,hL⟩:=nM N.length;obtain⟨K,hK⟩:=nM M.length;rw[<-hL,<-hK] at HALL |-
 rw[<-hL] at HGE hl HNN;rw[<-hK] at HGE2 hl2 HMM;have XW:=zh hL;have HNE:Hid (L≠K->N≠M):=fun h e=>h (by rw[hL,hK,e])
 clear hR hN hM hN2 hM2 hL hK;have hB:=Below.refl w.heap.size w;by_cases hlk:L=K
 ·
  subst hlk;go_enter Tryz.func138,Tryz.ntmps138;go_wp2_with fail
  go_loopw [13] (a7z w N M) (fun r _=>L-(intOf r).toNat)
  case atStart=>exact⟨0,Nat.zero_le _,rfl,fun j h=>absurd h (Nat.not_lt_zero _),Below.refl _ _⟩
  case round =>
   obtain⟨k,hk,rfl,hall,hW⟩:=hrel;rw[<-XW.out] at hk;by_cases hlt:k<L
   ·
    have hn:=HGE.out k hlt;have hm:=HGE2.out k hlt;obtain⟨gn,on,rfl,hcn⟩:=HNN.out k hlt;obtain⟨gm,om,rfl,hcm⟩:=HMM.out k hlt;have q1:=q9 hW hcn (Xk hcn);have q2:=q9 hW hcm (Xk hcm);have HALW:=zh hall;have HW:=zh hW;generalize N.getD k 0=x at *;generalize M.getD k 0=y at *;have HMN:=zh (fun h=>a5t hn hm h);have Xv:Hid (x=y->∀ j,j<k+1->N[j]?=M[j]?):=fun e j hj=>if e2:j=k then by rw[e2,hn,hm,e] else HALW.out j (by omega)
    clear hcn hcm hall hW hn hm;by_cases hb:x=y
    ·
     subst hb;have HN2:=zh (Xv.out rfl);have j7:=HW.out
     go_upto_region 6 with fail
     have HF:=QX j7;clear j7;refine wp_region_held_drew (S:=fun w'=>w'.cell? ⟨gn,on+k,none⟩=some (I6 x)/\w'.cell? ⟨gm,om+k,none⟩=some (I6 x)) (by kernel_rfl) JS (fun jx=>?_);refine tk 0 ?_;refine tk 1 ?_;refine tk 2 ?_;refine tk 3 ?_;refine tk 4 ?_;refine tk 5 ?_;refine tk 6 ?_;refine tk 7 ?_;refine tk 8 ?_;refine wpAnyH_done (by kernel_rfl) ?_ _;go_wp2
     go_roundw
     case rel=>exact⟨k+1,by rw[<-XW.out];omega,by go_num,HN2.out,HW.out.drew⟩
     case measure=>simp[intOf];omega
    ·
     have HR:=zh (HNO.out (HMN.out hb));have hxy:(x != y)=true:=by simpa using hb
     have j7:=HW.out
     go_upto_region 6 with fail
     have HF:=QX j7;clear j7;refine wp_region_held_drew (S:=fun w'=>w'.cell? ⟨gn,on+k,none⟩=some (I6 x)/\w'.cell? ⟨gm,om+k,none⟩=some (I6 y)) (by kernel_rfl) JS (fun jx=>?_);refine tk 0 ?_;refine tk 1 ?_;refine tk 2 ?_;refine tk 3 ?_;refine tk 4 ?_;refine tk 5 ?_;refine tk 6 ?_;refine tk 7 ?_;refine tk 8 ?_;refine wpAnyH_done (by kernel_rfl) ?_ _;go_wp2
     go_ret
     exact⟨J4 HR.out.symm,HW.out.drew⟩
   ·
    obtain rfl:k=L:=by omega
    have HR:=zh (HYES.out (HALL.out (by trivial) (fun j hj=>hall j hj)));clear hall;go_wp2
    go_ret
    exact⟨J4 HR.out.symm,hW⟩
 ·
  have HR:=zh (HNO.out (HNE.out hlk));have hlk2:((L:Int) != (K:Int))=true:=by simp;omega
  clear hlk;go_enter Tryz.func138,Tryz.ntmps138;go_wp2
  go_ret
  exact⟨J4 HR.out.symm,hB⟩
structure WAt (W:World) (P base:Nat) (u v:Value) (s:Ms) (dv tv:Value):Prop where
 c0:W.cell? ⟨P,0,none⟩=some u
 c1:W.cell? ⟨P,1,none⟩=some v
 c2:W.cell? ⟨P,2,none⟩=some dv
 c3:W.cell? ⟨P,3,none⟩=some tv
 c4:W.cell? ⟨P,4,none⟩=some (I6 s.args)
 f2:W.frozen? ⟨P,2,none⟩=false
 f3:W.frozen? ⟨P,3,none⟩=false
 f4:W.frozen? ⟨P,4,none⟩=false
 od:W.ownsRow base 3 1 dv s.deps.length (JV s.deps)
 ot:W.ownsRow base 3 1 tv s.tops.length (JV s.tops)
 ap:∀ g,dv.ownBlock=some g->tv.ownBlock=some g->False
 pb:P<base
 bw:base<=W.heap.size
theorem WAt.pz {W:World} {P base:Nat} {u v:Value} {s:Ms} {dv tv:Value} (h:WAt W P base u v s dv tv):P<W.heap.size:=jF h.pb h.bw
theorem WAt.below {W W':World} {P base:Nat} {u v:Value} {s:Ms} {dv tv:Value} (h:WAt W P base u v s dv tv) (hb:Bl W W'):WAt W' P base u v s dv tv :=
 ⟨q9 hb h.c0 h.pz,q9 hb h.c1 h.pz,q9 hb h.c2 h.pz,q9 hb h.c3 h.pz,q9 hb h.c4 h.pz,QW hb h.f2 h.pz,QW hb h.f3 h.pz,QW hb h.f4 h.pz,a1g h.od hb,a1g h.ot hb,h.ap,h.pb,jG h.bw hb.size⟩
theorem WAt.drew {W:World} {P base:Nat} {u v:Value} {s:Ms} {dv tv:Value} (h:WAt W P base u v s dv tv):WAt W.drew P base u v s dv tv :=
 ⟨h.c0,h.c1,h.c2,h.c3,h.c4,h.f2,h.f3,h.f4,h.od.drew,h.ot.drew,h.ap,h.pb,h.bw⟩
theorem frz_set {W:World} {p q:Addr} {v:Value} : (W.setCell p v).frozen? q=W.frozen? q:=by simp[go_sem]
theorem a0z {W:World} {b o:Nat} {u v:Value} (h:W.cell? ⟨b,o,none⟩=some u) (hf:W.frozen? ⟨b,o,none⟩=false):(W.setCell ⟨b,o,none⟩ v).cell? ⟨b,o,none⟩=some v:=by simp[go_sem,h,hf]
theorem a0h {W:World} {b o o':Nat} {u v:Value} (h:W.cell? ⟨b,o,none⟩=some u) (ho:o'≠o):(W.setCell ⟨b,o',none⟩ v).cell? ⟨b,o,none⟩=some u:=by
 rw[<-h];simp[go_sem,ho]
theorem WAt.setArgs {W:World} {P base:Nat} {u v:Value} {s:Ms} {dv tv:Value} (h:WAt W P base u v s dv tv) (x:Int):WAt (W.setCell ⟨P,4,none⟩ (I6 x)) P base u v ⟨s.deps,s.tops,x⟩ dv tv :=
 ⟨a0h h.c0 (by omega),a0h h.c1 (by omega),a0h h.c2 (by omega),a0h h.c3 (by omega),a0z h.c4 h.f4,frz_set.trans h.f2,frz_set.trans h.f3,frz_set.trans h.f4,
  ownsRow_setCell_below h.od h.pb _,ownsRow_setCell_below h.ot h.pb _,h.ap,h.pb,by simpa using h.bw⟩
theorem Jw {W W':World} {row:Option Nat} {b o:Nat} {x:Value} (hg:W.grownBy W' row) (h:W.cell? ⟨b,o,none⟩=some x) (hr:∀ g,row=some g->b≠g):W'.cell? ⟨b,o,none⟩=some x :=
 (hg.cell_far ⟨b,o,none⟩ (World.block_lt_of_cell? _ _ h) (fun e=>hr b e.symm rfl)).trans h
theorem a0m {W W':World} {row:Option Nat} {b o:Nat} {x:Bool} (hg:W.grownBy W' row) (hb:b<W.heap.size) (h:W.frozen? ⟨b,o,none⟩=x) (hr:∀ g,row=some g->b≠g):W'.frozen? ⟨b,o,none⟩=x :=
 (hg.frozen_far ⟨b,o,none⟩ hb (fun e=>hr b e.symm rfl)).trans h
theorem WAt.setTops {W W1:World} {P base:Nat} {u v:Value} {s:Ms} {dv tv tv':Value} {T:List Int} {row:Option Nat} (h:WAt W P base u v s dv tv) (hg:W.grownBy W1 row) (hrow:∀ g,row=some g->tv.ownBlock=some g)
  (ho:W1.ownsRow base 3 1 tv' T.length (JV T)) (hap:∀ g,tv'.ownBlock=some g->tv.ownBlock=some g\/W.heap.size<=g):WAt (W1.setCell ⟨P,3,none⟩ tv') P base u v ⟨s.deps,T,s.args⟩ dv tv':=by
 have hP:∀ g,row=some g->P≠g:=fun g hr e=>by
  have:=(h.ot.lt g (hrow g hr)).1;have:=h.pb;omega
 have hz:=h.pz
 refine⟨a0h (Jw hg h.c0 hP) (by omega),a0h (Jw hg h.c1 hP) (by omega),a0h (Jw hg h.c2 hP) (by omega),a0z (Jw hg h.c3 hP) (a0m hg hz h.f3 hP),a0h (Jw hg h.c4 hP) (by omega),
  frz_set.trans (a0m hg hz h.f2 hP),frz_set.trans (a0m hg hz h.f3 hP),frz_set.trans (a0m hg hz h.f4 hP),?_,ownsRow_setCell_below ho h.pb _,?_,h.pb,by have:=h.bw;have:=hg.size;simp;omega⟩
 ·
  refine ownsRow_setCell_below (h.od.kept hg ?_) h.pb _
  cases hd:dv.ownBlock with
  | none=>exact Or.inl rfl
  | some g=>exact Or.inr (fun e=>h.ap g hd (hrow g e.symm))
 ·
  intro g h1 h2
  rcases hap g h2 with h3 | h3
  ·
   exact h.ap g h1 h3
  ·
   have:=(h.od.lt g h1).2;omega
theorem WAt.setDeps {W W1:World} {P base:Nat} {u v:Value} {s:Ms} {dv tv dv':Value} {D:List Int} {row:Option Nat} (h:WAt W P base u v s dv tv) (hg:W.grownBy W1 row) (hrow:∀ g,row=some g->dv.ownBlock=some g)
  (ho:W1.ownsRow base 3 1 dv' D.length (JV D)) (hap:∀ g,dv'.ownBlock=some g->dv.ownBlock=some g\/W.heap.size<=g):WAt (W1.setCell ⟨P,2,none⟩ dv') P base u v ⟨D,s.tops,s.args⟩ dv' tv:=by
 have hP:∀ g,row=some g->P≠g:=fun g hr e=>by
  have:=(h.od.lt g (hrow g hr)).1;have:=h.pb;omega
 have hz:=h.pz
 refine⟨a0h (Jw hg h.c0 hP) (by omega),a0h (Jw hg h.c1 hP) (by omega),a0z (Jw hg h.c2 hP) (a0m hg hz h.f2 hP),a0h (Jw hg h.c3 hP) (by omega),a0h (Jw hg h.c4 hP) (by omega),
  frz_set.trans (a0m hg hz h.f2 hP),frz_set.trans (a0m hg hz h.f3 hP),frz_set.trans (a0m hg hz h.f4 hP),ownsRow_setCell_below ho h.pb _,?_,?_,h.pb,by have:=h.bw;have:=hg.size;simp;omega⟩
 ·
  refine ownsRow_setCell_below (h.ot.kept hg ?_) h.pb _
  cases hd:tv.ownBlock with
  | none=>exact Or.inl rfl
  | some g=>exact Or.inr (fun e=>h.ap g (hrow g e.symm) hd)
 ·
  intro g h1 h2
  rcases hap g h1 with h3 | h3
  ·
   exact h.ap g h3 h2
  ·
   have:=(h.ot.lt g h2).2;omega
theorem a8a {W:World} {base:Nat} {t:TypeId} {bt:Option Addr} {ct T o:Nat} {l:List Int} (h:W.ownsRow base t 1 (.slice bt T ct) T (JV l)) (ho:o<=T):W.ownsRow base t 1 (.slice bt o ct) o (JV (l.take o)):=by
 have hl:=h.1;rw[List.length_map,Nat.mul_one] at hl;refine⟨by rw[List.length_map,List.length_take];omega,?_⟩
 rcases h.2 with ⟨hv,h0⟩ | ⟨g,cap,cur,hv,hb,hg,h1,h2,h3,h4⟩
 ·
  have:=hv;obtain⟨rfl,rfl,rfl⟩:bt=none/\T=0/\ct=0:=by simpa using hv
  obtain rfl:o=0:=by omega
  exact Or.inl ⟨rfl,rfl⟩
 ·
  obtain⟨rfl,rfl⟩:bt=some ⟨g,0,none⟩/\ct=cap:=by simpa using hv
  refine Or.inr ⟨g,ct,cur,rfl,hb,hg,by omega,h2,h3,?_⟩;rw[Nat.mul_one] at h4 |-
  rw[JV,List.map_take,<-JV,<-h4,List.take_take,Nat.min_eq_left ho]
theorem a8b {W:World} {base:Nat} {t:TypeId} {bt:Option Addr} {ct T o:Nat} {l:List Int} (h:W.ownsRow base t 1 (.slice bt T ct) T (JV l)) (ho:o<=T):IntsAt W (.slice (if ct=o then bt else bt.map (fun a=>a.add o)) (T-o) (ct-o)) (l.drop o):=by
 obtain⟨hl,hi⟩:=IntsAt.of_owns h
 rcases hi with ⟨hv,rfl⟩ | ⟨g,oo,cap,hv,h1,h2,hc⟩
 ·
  obtain⟨rfl,rfl,rfl⟩:bt=none/\T=0/\ct=0:=by simpa using hv
  obtain rfl:o=0:=by omega
  exact Or.inl ⟨by simp,by simp⟩
 ·
  obtain⟨rfl,_,rfl⟩:bt=some ⟨g,oo,none⟩/\T=l.length/\ct=cap:=by simpa using hv
  by_cases e:ct=o
  ·
   rw[if_pos e];have e2:l.drop o=[]:=List.drop_eq_nil_of_le (by omega);rw[e2];exact Or.inr ⟨g,oo,ct-o,by simp;omega,by simp,by omega,fun k hk=>by simp at hk⟩
  ·
   rw[if_neg e];have hlen:(l.drop o).length=T-o:=by rw[List.length_drop,hl]
   refine Or.inr ⟨g,oo+o,ct-o,by rw[hlen];simp[Addr.add_lit],by rw[hlen];omega,by omega,fun k hk=>?_⟩
   rw[hlen] at hk;rw[Nat.add_assoc,hc (o+k) (by omega),jJ,jJ,List.getElem?_drop]
def a9w (C:Bool) (N:List Sh) (A:List Int) (s:Ms) (n:Sh):Option Ms:=if C then a7i N A s n else none
def a2e (o:Option Ms) (P base:Nat) (u v:Value) (w:World) (e:Ending) (w':World):Prop :=
 (match o with | none=>e=.returned (Bv false) | some s'=>e=.returned (Bv true)/\∃ dv tv,WAt w' P base u v s' dv tv)/\Below P w w'
theorem a2n {o:Option Ms} {P base:Nat} {u v:Value} {w w':World} (h:o=none) (hb:Below P w w'):a2e o P base u v w (.returned (Bv false)) w':=by subst h;exact⟨rfl,hb⟩
theorem a8c {o:Option Ms} {s:Ms} {P base:Nat} {u v dv tv:Value} {w w':World} (h:o=some s) (hw:WAt w' P base u v s dv tv) (hb:Below P w w'):a2e o P base u v w (.returned (Bv true)) w':=by subst h;exact⟨⟨rfl,_,_,hw⟩,hb⟩
theorem b1v {A:List Int} {s:Ms} {n:Sh} (h:n.k≠9):a1f A s n=true:=by unfold a1f;rw[jE h];rfl
theorem b4a {A:List Int} {s:Ms} {n:Sh} (h : ¬ 0<n.b):a1f A s n=true:=by unfold a1f;rw[jE h,Bool.and_false,Bool.false_and];rfl
theorem b1w {A:List Int} {s:Ms} {n:Sh} (h9:n.k=9) (h:0<n.b) (hn : ¬ (n.a=s.args/\n.b<=A.length-s.args)):a1f A s n=false:=by
 unfold a1f;by_cases h1:n.a=s.args
 ·
  have h2 : ¬ n.b<=A.length-s.args:=fun h2=>hn ⟨h1,h2⟩
  simp[h9,h,h2]
 ·
  simp[h9,h,h1]
theorem b6t {A:List Int} {s:Ms} {n:Sh} (h1:n.a=s.args) (h2:n.b<=A.length-s.args):a1f A s n=true:=by
 unfold a1f;rw[jD h1,jD h2];simp
theorem a6d {N:List Sh} {A:List Int} {s:Ms} {n:Sh} (h:s.tops.length<(Xj A n).length):a7i N A s n=none:=by
 unfold a7i;by_cases hA:a1f A s n=false
 ·
  rw[if_pos hA]
 ·
  rw[if_neg hA,if_pos h]
theorem a6e {N:List Sh} {A:List Int} {s:Ms} {n:Sh} {o:Nat} (ho:s.tops.length=o+(Xj A n).length) (h:s.tops.drop o≠Xj A n):a7i N A s n=none:=by
 unfold a7i;by_cases hA:a1f A s n=false
 ·
  rw[if_pos hA]
 ·
  rw[if_neg hA,if_neg (by omega),show s.tops.length-(Xj A n).length=o by omega,if_neg h]
theorem a6s {N:List Sh} {A:List Int} {s:Ms} {n:Sh} (h:a1f A s n=false):a7i N A s n=none:=by unfold a7i;rw[if_pos h]
theorem a9x {N:List Sh} {A:List Int} {s:Ms} {n:Sh} {o:Nat} (ha:a1f A s n=true) (ho:s.tops.length=o+(Xj A n).length) (h:s.tops.drop o=Xj A n):a7i N A s n=some ⟨s.deps ++ [b3j N A s.deps n],s.tops.take o ++ [(s.deps.length:Int)],s.args+a0n n⟩:=by
 unfold a7i;rw[if_neg (by rw[ha];exact Bool.noConfusion),if_neg (by omega),show s.tops.length-(Xj A n).length=o by omega,if_pos h]
theorem IntsAt.kept {W W':World} {v:Value} {A:List Int} (h:IntsAt W v A) (hk:∀ g o x,v.ownBlock=some g->W.cell? ⟨g,o,none⟩=some x->W'.cell? ⟨g,o,none⟩=some x):IntsAt W' v A:=by
 rcases h with h | ⟨g,o,cap,rfl,h1,h2,hc⟩
 ·
  exact Or.inl h
 ·
  exact Or.inr ⟨g,o,cap,rfl,h1,h2,fun k hk2=>hk g _ _ rfl (hc k hk2)⟩
theorem a6f {W0:World} {base T o k ct:Nat} {t:TypeId} {bt:Option Addr} {l:List Value} (h:W0.ownsRow base t 1 (.slice bt T ct) T l) (hT:T=o+k) (W:World):Sem.run Tryz.prog (Instr.slice 23 (.slice bt (o+k) ct) none (some (I6 (o:Int))) none) W=.ok (.slice bt o ct) W:=by
 have hct:T<=ct:=by
  rcases h.2 with ⟨hv,h0⟩ | ⟨g,cap,cur,hv,_,_,h1,_⟩
  ·
   omega
  ·
   obtain⟨_,rfl⟩:bt=some ⟨g,0,none⟩/\ct=cap:=by simpa using hv
   exact h1
 have hoc:(o:Int)<=ct:=by omega
 have he:(if ct=0 then bt else bt.map (fun a=>a.add 0))=bt:=by
  rcases h.2 with ⟨hv,h0⟩ | ⟨g,cap,cur,hv,_⟩
  ·
   obtain⟨rfl,_⟩:bt=none/\T=0/\ct=0:=by simpa using hv
   simp
  ·
   obtain⟨rfl,_⟩:bt=some ⟨g,0,none⟩/\ct=cap:=by simpa using hv
   simp[Addr.add_lit]
 simp[go_sem,hoc,he]
theorem IntsAt.empty {W W':World} {v:Value} {A:List Int} (h:IntsAt W v A) (h0:A=[]):IntsAt W' v A:=by
 rcases h with h | ⟨g,o,cap,rfl,h1,h2,hc⟩
 ·
  exact Or.inl h
 ·
  exact Or.inr ⟨g,o,cap,rfl,h1,h2,fun k hk=>by rw[h0] at hk;simp at hk⟩
