import Derived.Test.YtibiacmbljgmhaaGreatDoorRdr8
import Derived.Laws.Tables
namespace Go.Proofs.YtibiacmbljgmhaaGreatDoor
open Go.RowKit Go.Shelf
set_option linter.all false
def NdAt (W:World) (X:Nat) (n:Nd):Prop:=∀ j u,(Qk n)[j]?=some u->W.cell? ⟨X,j,none⟩=some u
theorem NdAt.of {W:World} {X:Nat} {n:Nd} (k0:W.cell? ⟨X,0,none⟩=some (I6 n.k)) (k1:W.cell? ⟨X,1,none⟩=some (I6 n.o)) (k2:W.cell? ⟨X,2,none⟩=some (I6 n.a)) (k3:W.cell? ⟨X,3,none⟩=some (I6 n.b)) (k4:W.cell? ⟨X,4,none⟩=some (Bv n.qn)) (k5:W.cell? ⟨X,5,none⟩=some (Sg n.qa)) (k6:W.cell? ⟨X,6,none⟩=some (Sg n.qd)) (k7:W.cell? ⟨X,7,none⟩=some (Sg n.s)) (k8:W.cell? ⟨X,8,none⟩=some (Bv n.tr)) (k9:W.cell? ⟨X,9,none⟩=some (Sg n.r.sh)) (k10:W.cell? ⟨X,10,none⟩=some (I6 n.r.c)) (k11:W.cell? ⟨X,11,none⟩=some (I6 n.r.r)) (k12:W.cell? ⟨X,12,none⟩=some (Bv n.r.fc)) (k13:W.cell? ⟨X,13,none⟩=some (Bv n.r.fr)) (k14:W.cell? ⟨X,14,none⟩=some (Sg n.t.sh)) (k15:W.cell? ⟨X,15,none⟩=some (I6 n.t.c)) (k16:W.cell? ⟨X,16,none⟩=some (I6 n.t.r)) (k17:W.cell? ⟨X,17,none⟩=some (Bv n.t.fc)) (k18:W.cell? ⟨X,18,none⟩=some (Bv n.t.fr)):NdAt W X n:=by
 intro j u hu
 match j,hu with
 | 0,hu=>exact k0.trans hu
 | 1,hu=>exact k1.trans hu
 | 2,hu=>exact k2.trans hu
 | 3,hu=>exact k3.trans hu
 | 4,hu=>exact k4.trans hu
 | 5,hu=>exact k5.trans hu
 | 6,hu=>exact k6.trans hu
 | 7,hu=>exact k7.trans hu
 | 8,hu=>exact k8.trans hu
 | 9,hu=>exact k9.trans hu
 | 10,hu=>exact k10.trans hu
 | 11,hu=>exact k11.trans hu
 | 12,hu=>exact k12.trans hu
 | 13,hu=>exact k13.trans hu
 | 14,hu=>exact k14.trans hu
 | 15,hu=>exact k15.trans hu
 | 16,hu=>exact k16.trans hu
 | 17,hu=>exact k17.trans hu
 | 18,hu=>exact k18.trans hu
theorem b0b (W:World) (b o:Nat) (x:Value):W.grownBy (W.setCell ⟨b,o,none⟩ x) (some b):=⟨by first | rfl | simp,by first | rfl | simp,by first | rfl | simp,by simp,fun k _ hk=>heap_setCell (fun e=>hk (by rw[e]))⟩
structure GAt (W:World) (P base:Nat) (N:List Nd) (A:List Int) (u v:Value):Prop where
 c0:W.cell? ⟨P,0,none⟩=some u
 c1:W.cell? ⟨P,1,none⟩=some v
 f0:W.frozen? ⟨P,0,none⟩=false
 f1:W.frozen? ⟨P,1,none⟩=false
 ou:W.ownsRow base 69 19 u N.length (nodeL N)
 ov:W.ownsRow base 3 1 v A.length (JV A)
 uv:∀ g,u.ownBlock=some g->v.ownBlock=some g->False
 up:∀ g,u.ownBlock=some g->P≠g
 vp:∀ g,v.ownBlock=some g->P≠g
 pb:base<=P
 pz:P<W.heap.size
theorem GAt.below {W W':World} {P base:Nat} {N:List Nd} {A:List Int} {u v:Value} (h:GAt W P base N A u v) (hb:Bl W W'):GAt W' P base N A u v :=
 ⟨q9 hb h.c0 h.pz,q9 hb h.c1 h.pz,QW hb h.f0 h.pz,QW hb h.f1 h.pz,a1g h.ou hb,a1g h.ov hb,h.uv,h.up,h.vp,h.pb,jF h.pz hb.size⟩
theorem GAt.set {W W1:World} {P base:Nat} {N M:List Nd} {A:List Int} {u v:Value} (h:GAt W P base N A u v) (hg:W.grownBy W1 u.ownBlock) (ho:W1.ownsRow base 69 19 u M.length (nodeL M)):GAt W1 P base M A u v :=
 ⟨Jw hg h.c0 h.up,Jw hg h.c1 h.up,a0m hg h.pz h.f0 h.up,a0m hg h.pz h.f1 h.up,ho,a2q h.ov hg h.uv,h.uv,h.up,h.vp,h.pb,jF h.pz hg.size⟩
def e0p {α:Type} (f:α->α) (N:List α) (k:Nat):List α:=(N.take k).map f++N.drop k
theorem e2x {α:Type} (f:α->α) (N:List α):e0p f N 0=N:=by simp[e0p]
theorem e4r {α:Type} (f:α->α) (N:List α):e0p f N N.length=N.map f:=by simp[e0p]
theorem d7p {α:Type} (f:α->α) (N:List α) (k:Nat):(e0p f N k).length=N.length:=by simp[e0p];omega
theorem e1w {α:Type} (f:α->α) {N:List α} {k:Nat} {n:α} (h:N[k]?=some n):(e0p f N k)[k]?=some n:=by
 have hk:=(List.getElem?_eq_some_iff.1 h).1;unfold e0p;rw[List.getElem?_append_right (by simp;omega),List.getElem?_drop,List.length_map,List.length_take,Nat.min_eq_left (by omega),show k+(k-k)=k by omega,h]
theorem d9e {α:Type} (f:α->α) {N:List α} {k:Nat} {n:α} (h:N[k]?=some n):e0p f N (k+1)=(e0p f N k).set k (f n):=by
 obtain⟨hk,e⟩:=List.getElem?_eq_some_iff.1 h;have ht:N.take (k+1)=N.take k ++ [n]:=by rw[List.take_add_one,h,Option.toList_some]
 have hl:((N.take k).map f).length=k:=by simp;omega
 unfold e0p;rw[ht,List.map_append,List.drop_eq_getElem_cons hk,List.set_append_right _ _ (by omega),hl,Nat.sub_self,List.set_cons_zero,List.append_assoc];rfl
theorem e2y {α:Type} (f:α->α) {N:List α} {k:Nat} {n:α} (h:N[k]?=some n) (hf:f n=n):e0p f N (k+1)=e0p f N k:=by
 rw[d9e f h,hf];apply List.ext_getElem?;intro j;rw[List.getElem?_set];by_cases e:k=j
 ·
  subst e;rw[if_pos rfl,e1w f h,if_pos];exact(List.getElem?_eq_some_iff.1 (e1w f h)).1
 ·
  rw[if_neg e]
theorem e8e {W:World} {base:Nat} {e:TypeId} {size n:Nat} {v:Value} {xs:List Value} (h:W.ownsRow base e size v n xs) (hn:0<n):∃ g cap,v=.slice (some ⟨g,0,none⟩) n cap:=by
 rcases h.2 with ⟨_,h0⟩ | ⟨g,cap,cur,hv,_⟩
 ·
  omega
 ·
  exact⟨g,cap,hv⟩
def d8s (N:List Nd) (A:List Int) (c:Int) (w:World) (e:Ending) (w':World):Prop:=(∃ us vs,e=.returned (.tuple #[.agg #[us,vs],I6 c])/\NodesAt w' us N/\IntsAt w' vs A)/\Bl w w'
theorem e4s {c:Int} {w w':World} (hb:Bl w w'):d8s [] [] c w (.returned (.tuple #[.agg #[.slice none 0 0,.slice none 0 0],I6 c])) w':=⟨⟨_,_,rfl,Or.inl ⟨rfl,rfl⟩,Or.inl ⟨rfl,rfl⟩⟩,hb⟩
def f2y (t0:World) (O base:Nat) (f:Nd->Nd) (N:List Nd) (A:List Int) (u v:Value) (r:Value) (wr:World):Prop:=∃ k:Nat,k<=N.length/\r=I6 k/\GAt wr O base (e0p f N k) A u v/\Below base t0 wr
theorem e1d {W:World} {base:Nat} {e:TypeId} {size n:Nat} {v:Value} {xs:List Value} (h:W.ownsRow base e size v n xs) (hn:0<n):∃ g o cap,v=.slice (some ⟨g,o,none⟩) n cap/\Hid (o=0):=by
 obtain⟨g,cap,hv⟩:=e8e h hn;exact⟨g,0,cap,hv,zh rfl⟩
