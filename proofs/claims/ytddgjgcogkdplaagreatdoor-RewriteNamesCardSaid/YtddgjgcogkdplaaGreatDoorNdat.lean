/-
  
  
-/
import Derived.Test.YtddgjgcogkdplaaGreatDoorRdrg
namespace Go.Proofs.YtddgjgcogkdplaaGreatDoor
open Go.RowKit Go.Shelf
set_option linter.unusedSimpArgs false
set_option linter.unusedVariables false
def NdAt (W:World) (X:Nat) (n:Nd):Prop:=∀ j u,(ndL n)[j]?=some u->W.cell? ⟨X,j,none⟩=some u
theorem NdAt.load {W:World} {X K:Nat} {n:Nd} (hK:Hid (K=19)) (h:NdAt W X n):Sem.run Tryz.prog (loadCellsFrom ⟨X,0,none⟩ 0 K #[]) W=.ok #[I6 n.k,I6 n.o,I6 n.a,I6 n.b,.bool n.qn,.string n.qa,.string n.qd,.string n.s,.bool n.tr,.string n.r.sh,I6 n.r.c,I6 n.r.r,.bool n.r.fc,.bool n.r.fr,.string n.t.sh,I6 n.t.c,I6 n.t.r,.bool n.t.fc,.bool n.t.fr] W :=
 a0p W X 0 hK n (fun j u hu=>by rw[Nat.zero_add];exact h j u hu)
theorem NdAt.of {W:World} {X:Nat} {n:Nd} (k0:W.cell? ⟨X,0,none⟩=some (I6 n.k)) (k1:W.cell? ⟨X,1,none⟩=some (I6 n.o)) (k2:W.cell? ⟨X,2,none⟩=some (I6 n.a)) (k3:W.cell? ⟨X,3,none⟩=some (I6 n.b)) (k4:W.cell? ⟨X,4,none⟩=some (.bool n.qn)) (k5:W.cell? ⟨X,5,none⟩=some (.string n.qa)) (k6:W.cell? ⟨X,6,none⟩=some (.string n.qd)) (k7:W.cell? ⟨X,7,none⟩=some (.string n.s)) (k8:W.cell? ⟨X,8,none⟩=some (.bool n.tr)) (k9:W.cell? ⟨X,9,none⟩=some (.string n.r.sh)) (k10:W.cell? ⟨X,10,none⟩=some (I6 n.r.c)) (k11:W.cell? ⟨X,11,none⟩=some (I6 n.r.r)) (k12:W.cell? ⟨X,12,none⟩=some (.bool n.r.fc)) (k13:W.cell? ⟨X,13,none⟩=some (.bool n.r.fr)) (k14:W.cell? ⟨X,14,none⟩=some (.string n.t.sh)) (k15:W.cell? ⟨X,15,none⟩=some (I6 n.t.c)) (k16:W.cell? ⟨X,16,none⟩=some (I6 n.t.r)) (k17:W.cell? ⟨X,17,none⟩=some (.bool n.t.fc)) (k18:W.cell? ⟨X,18,none⟩=some (.bool n.t.fr)):NdAt W X n:=by
 intro j u hu
 match j,hu with
 | 0,hu=>exact k0.trans hu
 | 1,hu=>exact k1.trans hu
 | 2,hu=>exact k2.trans hu
 | 3,hu=>exact k3.trans hu
 | 4,hu=>exact k4.trans hu
 | 5,hu=>exact k5.trans hu
 | 6,hu=>exact k6.trans hu
 | 7,hu=>exact k7.trans hu
 | 8,hu=>exact k8.trans hu
 | 9,hu=>exact k9.trans hu
 | 10,hu=>exact k10.trans hu
 | 11,hu=>exact k11.trans hu
 | 12,hu=>exact k12.trans hu
 | 13,hu=>exact k13.trans hu
 | 14,hu=>exact k14.trans hu
 | 15,hu=>exact k15.trans hu
 | 16,hu=>exact k16.trans hu
 | 17,hu=>exact k17.trans hu
 | 18,hu=>exact k18.trans hu
theorem b0b (W:World) (b o:Nat) (x:Value):W.grownBy (W.setCell ⟨b,o,none⟩ x) (some b):=⟨by first | rfl | simp,by first | rfl | simp,by first | rfl | simp,by simp,fun k _ hk=>heap_setCell (fun e=>hk (by rw[e]))⟩
theorem b0c {W W0:World} {base base0 size n n0:Nat} {e e0:TypeId} {xs xs0:List Value} {v x:Value} {b o:Nat} (h:W.ownsRow base e size v n xs) (h0:W0.ownsRow base0 e0 size v n0 xs0) (hb:W0.heap.size<=b):(W.setCell ⟨b,o,none⟩ x).ownsRow base e size v n xs:=by
 refine h.kept (b0b W b o x) ?_
 cases hv:v.ownBlock with
 | none=>exact Or.inl rfl
 | some g=>exact Or.inr (fun e=>by have:=(h0.lt g hv).2;have:g=b:=Option.some.inj e;omega)
set_option maxHeartbeats 64000000
set_option maxRecDepth 100000
structure GAt (W:World) (P base:Nat) (N:List Nd) (A:List Int) (u v:Value):Prop where
 c0:W.cell? ⟨P,0,none⟩=some u
 c1:W.cell? ⟨P,1,none⟩=some v
 f0:W.frozen? ⟨P,0,none⟩=false
 f1:W.frozen? ⟨P,1,none⟩=false
 ou:W.ownsRow base 69 19 u N.length (nodeL N)
 ov:W.ownsRow base 3 1 v A.length (intL A)
 uv:∀ g,u.ownBlock=some g->v.ownBlock=some g->False
 up:∀ g,u.ownBlock=some g->P≠g
 vp:∀ g,v.ownBlock=some g->P≠g
 pb:base<=P
 pz:P<W.heap.size
theorem GAt.below {W W':World} {P base:Nat} {N:List Nd} {A:List Int} {u v:Value} (h:GAt W P base N A u v) (hb:Bl W W'):GAt W' P base N A u v :=
 ⟨a0f hb h.c0 h.pz,a0f hb h.c1 h.pz,a0g hb h.f0 h.pz,a0g hb h.f1 h.pz,a1g h.ou hb,a1g h.ov hb,h.uv,h.up,h.vp,h.pb,Nat.lt_of_lt_of_le h.pz hb.size⟩
theorem GAt.set {W W1:World} {P base:Nat} {N M:List Nd} {A:List Int} {u v:Value} (h:GAt W P base N A u v) (hg:W.grownBy W1 u.ownBlock) (ho:W1.ownsRow base 69 19 u M.length (nodeL M)):GAt W1 P base M A u v :=
 ⟨a0a hg h.c0 h.up,a0a hg h.c1 h.up,a0m hg h.pz h.f0 h.up,a0m hg h.pz h.f1 h.up,ho,a2q h.ov hg h.uv,h.uv,h.up,h.vp,h.pb,Nat.lt_of_lt_of_le h.pz hg.size⟩
theorem GAt.setNew {W W0:World} {P base:Nat} {N:List Nd} {A:List Int} {u v:Value} (h:GAt W P base N A u v) (h0:GAt W0 P base N A u v) {b o:Nat} {x:Value} (hb:W0.heap.size<=b):GAt (W.setCell ⟨b,o,none⟩ x) P base N A u v:=by
 have hz:=h0.pz;exact⟨a0e h.c0 (by dsimp only;omega),a0e h.c1 (by dsimp only;omega),frz_set.trans h.f0,frz_set.trans h.f1,b0c h.ou h0.ou hb,b0c h.ov h0.ov hb,h.uv,h.up,h.vp,h.pb,by simpa using h.pz⟩
def e0p {α:Type} (f:α->α) (N:List α) (k:Nat):List α:=(N.take k).map f++N.drop k
theorem e2x {α:Type} (f:α->α) (N:List α):e0p f N 0=N:=by simp[e0p]
theorem e4r {α:Type} (f:α->α) (N:List α):e0p f N N.length=N.map f:=by simp[e0p]
theorem d7p {α:Type} (f:α->α) (N:List α) (k:Nat):(e0p f N k).length=N.length:=by simp[e0p];omega
theorem e1w {α:Type} (f:α->α) {N:List α} {k:Nat} {n:α} (h:N[k]?=some n):(e0p f N k)[k]?=some n:=by
 have hk:=(List.getElem?_eq_some_iff.1 h).1;unfold e0p;rw[List.getElem?_append_right (by simp;omega),List.getElem?_drop,List.length_map,List.length_take,Nat.min_eq_left (by omega),show k+(k-k)=k by omega,h]
theorem d9e {α:Type} (f:α->α) {N:List α} {k:Nat} {n:α} (h:N[k]?=some n):e0p f N (k+1)=(e0p f N k).set k (f n):=by
 obtain⟨hk,e⟩:=List.getElem?_eq_some_iff.1 h;have ht:N.take (k+1)=N.take k ++ [n]:=by rw[List.take_add_one,h,Option.toList_some]
 have hl:((N.take k).map f).length=k:=by simp;omega
 unfold e0p;rw[ht,List.map_append,List.drop_eq_getElem_cons hk,List.set_append_right _ _ (by omega),hl,Nat.sub_self,List.set_cons_zero,List.append_assoc];rfl
theorem e2y {α:Type} (f:α->α) {N:List α} {k:Nat} {n:α} (h:N[k]?=some n) (hf:f n=n):e0p f N (k+1)=e0p f N k:=by
 rw[d9e f h,hf];apply List.ext_getElem?;intro j;rw[List.getElem?_set];by_cases e:k=j
 ·
  subst e;rw[if_pos rfl,e1w f h,if_pos];exact(List.getElem?_eq_some_iff.1 (e1w f h)).1
 ·
  rw[if_neg e]
theorem NdAt.set9 {W:World} {X:Nat} {n:Nd} (h:NdAt W X n) (hf:W.frozen? ⟨X,9,none⟩=false) (x:ByteArray):NdAt (W.setCell ⟨X,9,none⟩ (.string x)) X { n with r:={ n.r with sh:=x } }:=by
 intro j u hu;by_cases e:j=9
 ·
  subst e;obtain rfl:Value.string x=u:=Option.some.inj hu;exact a0z (h 9 _ rfl) hf
 ·
  rw[show ndL { n with r:={ n.r with sh:=x } }=(ndL n).set 9 (.string x) from rfl,List.getElem?_set_ne (by omega)] at hu;exact a0h (h j u hu) (by omega)
theorem e8e {W:World} {base:Nat} {e:TypeId} {size n:Nat} {v:Value} {xs:List Value} (h:W.ownsRow base e size v n xs) (hn:0<n):∃ g cap,v=.slice (some ⟨g,0,none⟩) n cap:=by
 rcases h.2 with ⟨_,h0⟩ | ⟨g,cap,cur,hv,_⟩
 ·
  omega
 ·
  exact⟨g,cap,hv⟩
def e1c (old fresh:ByteArray) (n:Nd):Nd:=if (n.k=5\/n.k=6)/\n.r.sh=old/\old≠⟨#[]⟩ then { n with r:={ n.r with sh:=fresh } } else n
def d8s (N:List Nd) (A:List Int) (c:Int) (w:World) (e:Ending) (w':World):Prop:=(∃ us vs,e=.returned (.tuple #[.agg #[us,vs],I6 c])/\NodesAt w' us N/\IntsAt w' vs A)/\Bl w w'
theorem e4s {c:Int} {w w':World} (hb:Bl w w'):d8s [] [] c w (.returned (.tuple #[.agg #[.slice none 0 0,.slice none 0 0],I6 c])) w':=⟨⟨_,_,rfl,Or.inl ⟨rfl,rfl⟩,Or.inl ⟨rfl,rfl⟩⟩,hb⟩
def d8t (N:List Nd) (A:List Int) (old fresh:ByteArray):List Nd × List Int × Int:=if a0w N A=false then ([],[],3) else if b4n fresh=false then ([],[],11) else (N.map (e1c old fresh),A,0)
def f2y (t0:World) (O base:Nat) (f:Nd->Nd) (N:List Nd) (A:List Int) (u v:Value) (r:Value) (wr:World):Prop:=∃ k:Nat,k<=N.length/\r=I6 k/\GAt wr O base (e0p f N k) A u v/\Below base t0 wr
theorem e1d {W:World} {base:Nat} {e:TypeId} {size n:Nat} {v:Value} {xs:List Value} (h:W.ownsRow base e size v n xs) (hn:0<n):∃ g o cap,v=.slice (some ⟨g,o,none⟩) n cap/\Hid (o=0):=by
 obtain⟨g,cap,hv⟩:=e8e h hn;exact⟨g,0,cap,hv,zh rfl⟩
theorem d8u {ops:Array Oper} {rest:List Oper} {o:Oper} {a:Act} {w:World} {Q:Exit->Act->World->Prop} (hgd:o.guard=none) (x y:Operand) (ho:o.op=.store 69 x y) (hd:o.dst=none)
  {base k K:Nat} {g on n cap:Nat} {N:List Nd} (m:Nd) (hK:Hid (K=19)) (hon:Hid (on=0)) (hown:w.ownsRow base 69 19 (.slice (some ⟨g,on,none⟩) n cap) n (nodeL N)) (hk:k<N.length) (hx:a.eval x=.pointer (some ⟨g,on+k*K,none⟩)) (hy:a.eval y=ndV m)
  (h:∀ w',w'.ownsRow base 69 19 (.slice (some ⟨g,on,none⟩) n cap) n (nodeL (N.set k m))->w.grownBy w' (some g)->w'.heap.size=w.heap.size->wpList Tryz.prog ops Q rest a w'):wpList Tryz.prog ops Q (o :: rest) a w:=by
 obtain rfl:=hon.out;obtain rfl:=hK.out;exact d8r hgd x y ho hd m hown hk (by rw[hx,Nat.zero_add]) hy h
theorem toL_iff {a b:ByteArray} : a.toList=b.toList ↔ a=b:=by
 constructor
 ·
  intro h;rw[ByteArray.toList_eq,ByteArray.toList_eq] at h;obtain⟨a⟩:=a;obtain⟨b⟩:=b;exact congrArg ByteArray.mk (Array.toList_inj.1 h)
 ·
  rintro rfl;rfl
theorem e8f {n:Nd} {old fresh:ByteArray} (h:(n.k==5)=true\/(n.k==6)=true) (hs:(n.r.sh.toList==old.toList)=true) (ho:old.toList.isEmpty=false):e1c old fresh n={ n with r:={ n.r with sh:=fresh } } :=
 if_pos ⟨by simpa using h,toL_iff.1 (by simpa using hs),fun e=>by subst e;rw[ByteArray.toList_eq] at ho;simp at ho⟩
theorem f2z {n:Nd} {old fresh:ByteArray} (h:((n.k==5)=false/\(n.k==6)=false)\/(n.r.sh.toList==old.toList)=false\/old.toList.isEmpty=true):e1c old fresh n=n:=if_neg (fun⟨h1,h2,h3⟩=>by
 rcases h with ⟨h5,h6⟩ | h | h
 ·
  rcases h1 with e | e
  ·
   rw[e] at h5;cases h5
  ·
   rw[e] at h6;cases h6
 ·
  rw[h2] at h;simp at h
 ·
  refine h3 (toL_iff.1 ?_)
  rw[show old.toList=[] by simpa using h,ByteArray.toList_eq])
theorem e8g (n:Nd) (old fresh:ByteArray):((n.k==5)=true/\(n.r.sh.toList==old.toList)=true/\old.toList.isEmpty=false)\/((n.k==5)=false/\(n.k==6)=true/\(n.r.sh.toList==old.toList)=true/\old.toList.isEmpty=false) \/
  (e1c old fresh n=n/\(((n.k==5)=false/\(n.k==6)=false)\/((n.k==5)=true/\(n.r.sh.toList==old.toList)=false)\/((n.k==5)=true/\(n.r.sh.toList==old.toList)=true/\old.toList.isEmpty=true)\/((n.k==5)=false/\(n.k==6)=true/\(n.r.sh.toList==old.toList)=false)\/((n.k==5)=false/\(n.k==6)=true/\(n.r.sh.toList==old.toList)=true/\old.toList.isEmpty=true))):=by
 have hr:=@f2z n old fresh;generalize e1c old fresh n=x at hr |-
 revert hr
 cases (n.k==5)<;>cases (n.k==6)<;>cases (n.r.sh.toList==old.toList)<;>cases old.toList.isEmpty<;>simp
theorem d9f (u v:Value) (N:List Nd) (A:List Int) (old fresh:ByteArray) (w:World) (hN:NodesAt w u N) (hA:IntsAt w v A) (hf:∀ n ∈ N,Fits n) (hl:A.length<=1000) (hl2:N.length<=1000) (hs1:old.size<=maxLen) (hs2:fresh.size<=maxLen) :
  Calls Tryz.prog 19 #[.agg #[u,v],.string old,.string fresh] w (d8s (d8t N A old fresh).1 (d8t N A old fresh).2.1 (d8t N A old fresh).2.2 w):=by
 have hud:=hUd;obtain⟨K19,hz19,HK19⟩:=a0q;have hr:=fun w hN hA=>a3t u v N A w hN hA hf hl hl2
 have hnm:=fun w=>b2o fresh w hs2
 have HCP:=zh (fun w hN hA=>e1v u v N A w hN hA (by omega) (by omega));have HN:=zh hN;have HA:=zh hA;obtain⟨Po,hPo⟩:=nM (d8s (d8t N A old fresh).1 (d8t N A old fresh).2.1 (d8t N A old fresh).2.2 w);rw[<-hPo]
 cases hR:a0w N A with
 | false =>
  rw[hR] at hr;have HR:=zh hr;have HPO:Hid (Po=d8s [] [] 3 w):=zh (hPo.trans (by unfold d8t;rw[if_pos hR]));clear hr hR hN hA hf hPo hnm;go_enter Tryz.func19,Tryz.ntmps19
  go_upto_region 1 with fail
  obtain⟨s1,F,R,hws,hdF,hdR,hsz,zF,zR⟩:=nm2 w (.cells #[u,v] 25) (.cells #[.slice none 0 0,.slice none 0 0] 25);have hN:=bx1 (b:=F) hws hdF;have kF0:=hN 0 _ rfl;have kF1:=hN 1 _ rfl;clear hN;have hN:=bx0 (b:=R) hws (by simp[hdR]);have hM:=bf0 (b:=R) hws (by simp[hdR]);have kR0:=hN 0 _ rfl;have kR1:=hN 1 _ rfl;have fR0:=hM 0;have fR1:=hM 1;clear hN hM;have lR:w.heap.size<=R:=by omega
  have hBo:=bs2 bR hws;rw[<-hws];try rw[<-hdR]
  try rw[<-hdF]
  clear hws hsz hdF hdR;go_wp2_with fail;refine cAn (HR.out _ (HN.out.below hBo) (HA.out.below hBo)) fun w5 hb=>?_
  replace kF0:=a0f hb kF0 zF;replace kF1:=a0f hb kF1 zF;replace zF:=zHl hb zF;replace kR0:=a0f hb kR0 zR;replace kR1:=a0f hb kR1 zR;replace fR0:=a0g hb fR0 zR;replace fR1:=a0g hb fR1 zR;replace zR:=zHl hb zR;replace hBo:=f4s hBo hb;clear hb;go_wp2_with fail;refine bodyPost_ret (v:=.tuple #[.agg #[.slice none 0 0,.slice none 0 0],I6 3]) (by simp[results,Tryz.results19,go_sem,kR0,kR1,fR0,fR1,zR]) rfl ?_;rw[HPO.out];exact e4s (sc2 hBo lR)
 | true =>
  have hS:=b3v hR;rw[hR] at hr;have HR:=zh hr
  cases hM:b4n fresh with
  | false =>
   rw[hM] at hnm;have HNM:=zh hnm;have HPO:Hid (Po=d8s [] [] 11 w):=zh (hPo.trans (by unfold d8t;rw[if_neg (by rw[hR];simp),if_pos hM]));clear hr hR hM hN hA hf hPo hnm hS;go_enter Tryz.func19,Tryz.ntmps19
   go_upto_region 1 with fail
   obtain⟨s2,F,R,hws,hdF,hdR,hsz,zF,zR⟩:=nm2 w (.cells #[u,v] 25) (.cells #[.slice none 0 0,.slice none 0 0] 25);have hN:=bx1 (b:=F) hws hdF;have kF0:=hN 0 _ rfl;have kF1:=hN 1 _ rfl;clear hN;have hN:=bx0 (b:=R) hws (by simp[hdR]);have hM:=bf0 (b:=R) hws (by simp[hdR]);have kR0:=hN 0 _ rfl;have kR1:=hN 1 _ rfl;have fR0:=hM 0;have fR1:=hM 1;clear hN hM;have lR:w.heap.size<=R:=by omega
   have hBo:=bs2 bR hws;rw[<-hws];try rw[<-hdR]
   try rw[<-hdF]
   clear hws hsz hdF hdR;go_wp2_with fail;refine cAn (HR.out _ (HN.out.below hBo) (HA.out.below hBo)) fun w5 hb=>?_
   replace kF0:=a0f hb kF0 zF;replace kF1:=a0f hb kF1 zF;replace zF:=zHl hb zF;replace kR0:=a0f hb kR0 zR;replace kR1:=a0f hb kR1 zR;replace fR0:=a0g hb fR0 zR;replace fR1:=a0g hb fR1 zR;replace zR:=zHl hb zR;replace hBo:=f4s hBo hb;clear hb;go_wp2_with fail;refine cAn (HNM.out _) fun w6 hb=>?_
   replace kF0:=a0f hb kF0 zF;replace kF1:=a0f hb kF1 zF;replace zF:=zHl hb zF;replace kR0:=a0f hb kR0 zR;replace kR1:=a0f hb kR1 zR;replace fR0:=a0g hb fR0 zR;replace fR1:=a0g hb fR1 zR;replace zR:=zHl hb zR;replace hBo:=f4s hBo hb;clear hb;go_wp2_with fail;refine bodyPost_ret (v:=.tuple #[.agg #[.slice none 0 0,.slice none 0 0],I6 11]) (by simp[results,Tryz.results19,go_sem,kR0,kR1,fR0,fR1,zR]) rfl ?_;rw[HPO.out];exact e4s (sc2 hBo lR)
  | true =>
   rw[hM] at hnm;have HNM:=zh hnm;have HPO:Hid (Po=d8s (N.map (e1c old fresh)) A 0 w):=zh (hPo.trans (by unfold d8t;rw[if_neg (by rw[hR];simp),if_neg (by rw[hM];simp)]));have HGE:Hid (∀ k,k<N.length->∃ n,N[k]?=some n):=fun k h=>⟨_,List.getElem?_eq_getElem h⟩
   obtain⟨LN,hLN⟩:=nM N.length;obtain⟨LA,hLA⟩:=nM A.length;have hl3:=hS.1;rw[<-hLN] at HGE hl2 hl3;rw[<-hLA] at hl;have HLN:=zh hLN;have HLA:=zh hLA;clear hr hR hM hN hA hf hPo hnm hS hLN hLA;go_enter Tryz.func19,Tryz.ntmps19
   go_upto_region 1 with fail
   obtain⟨s3,F,R,hws,hdF,hdR,hsz,zF,zR⟩:=nm2 w (.cells #[u,v] 25) (.cells #[.slice none 0 0,.slice none 0 0] 25);have hN:=bx1 (b:=F) hws hdF;have kF0:=hN 0 _ rfl;have kF1:=hN 1 _ rfl;clear hN;have lF:w.heap.size<=F:=by omega
   have hN:=bx0 (b:=R) hws (by simp[hdR]);have hM:=bf0 (b:=R) hws (by simp[hdR]);have kR0:=hN 0 _ rfl;have kR1:=hN 1 _ rfl;have fR0:=hM 0;have fR1:=hM 1;clear hN hM;have lR:w.heap.size<=R:=by omega
   have hBo:=bs2 bR hws;rw[<-hws];try rw[<-hdR]
   try rw[<-hdF]
   clear hws hsz hdF hdR;go_wp2_with fail;refine cAn (HR.out _ (HN.out.below hBo) (HA.out.below hBo)) fun w5 hb=>?_
   replace kF0:=a0f hb kF0 zF;replace kF1:=a0f hb kF1 zF;replace zF:=zHl hb zF;replace kR0:=a0f hb kR0 zR;replace kR1:=a0f hb kR1 zR;replace fR0:=a0g hb fR0 zR;replace fR1:=a0g hb fR1 zR;replace zR:=zHl hb zR;replace hBo:=f4s hBo hb;clear hb;go_wp2_with fail;refine cAn (HNM.out _) fun w6 hb=>?_
   replace kF0:=a0f hb kF0 zF;replace kF1:=a0f hb kF1 zF;replace zF:=zHl hb zF;replace kR0:=a0f hb kR0 zR;replace kR1:=a0f hb kR1 zR;replace fR0:=a0g hb fR0 zR;replace fR1:=a0g hb fR1 zR;replace zR:=zHl hb zR;replace hBo:=f4s hBo hb;clear hb;go_wp2_with fail;have HZ:Hid (∀ W,Below w6.heap.size w6 W->Bl w W):=fun W h=>bT hBo h
   have HR1:Hid (∀ W,Below w6.heap.size w6 W->W.cell? ⟨R,0,none⟩=some (.slice none 0 0)/\W.cell? ⟨R,1,none⟩=some (.slice none 0 0)/\W.frozen? ⟨R,0,none⟩=false/\W.frozen? ⟨R,1,none⟩=false):=fun W h=>⟨(h.cell (p:=⟨R,0,none⟩) zR).trans kR0,(h.cell (p:=⟨R,1,none⟩) zR).trans kR1,(h.frozen (p:=⟨R,0,none⟩) zR).trans fR0,(h.frozen (p:=⟨R,1,none⟩) zR).trans fR1⟩
   have HLR:=zh lR;have HR6:=zh zR;refine(HCP.out _ (HN.out.below hBo) (HA.out.below hBo)).mono ?_;rintro e w7 ⟨⟨us,vs,rfl,ho1,ho2,huv⟩,hb⟩;rw[<-HLN.out] at ho1;rw[<-HLA.out] at ho2;obtain⟨g,on,cap,rfl,HON⟩:=e1d ho1 hl3;obtain⟨ba,ca,rfl⟩:=a0l ho2;have HO1:=zh ho1;have HO2:=zh ho2;have HUV:=zh huv;have HB7:Hid (Below w6.heap.size w6 w7):=zh hb;clear ho1 ho2 huv;replace kF0:=a0f hb kF0 zF;replace kF1:=a0f hb kF1 zF;replace zF:=zHl hb zF;replace kR0:=a0f hb kR0 zR;replace kR1:=a0f hb kR1 zR;replace fR0:=a0g hb fR0 zR;replace fR1:=a0g hb fR1 zR;replace zR:=zHl hb zR;replace hBo:=f4s hBo hb;clear hb;go_wp2_with fail;obtain⟨s4,O,hws,hdO,hsz,zO⟩:=nm1 w7 (.cells #[.slice (some ⟨g,on,none⟩) LN cap,.slice ba LA ca] 25);have hUp:=up1 hws;have hAO:w7.heap.size<=O:=by omega
   replace kF0:=a0f hUp kF0 zF;replace kF1:=a0f hUp kF1 zF;replace zF:=zHl hUp zF;replace kR0:=a0f hUp kR0 zR;replace kR1:=a0f hUp kR1 zR;replace fR0:=a0g hUp fR0 zR;replace fR1:=a0g hUp fR1 zR;replace zR:=zHl hUp zR;have hN:=bx0 (b:=O) hws hdO;have hM:=bf0 (b:=O) hws hdO;have kO0:=hN 0 _ rfl;have kO1:=hN 1 _ rfl;have fO0:=hM 0;have fO1:=hM 1;clear hN hM;have lO:w.heap.size<=O:=by have:=hBo.size;omega
   replace hBo:=bs1 hBo hws;rw[<-hws];try rw[<-hdO]
   clear hws hsz hdO;have HGA:Hid (GAt s4 O w6.heap.size N A (.slice (some ⟨g,on,none⟩) LN cap) (.slice ba LA ca)):=⟨kO0,kO1,fO0,fO1,by rw[<-HLN.out];exact a1g HO1.out hUp,by rw[<-HLA.out];exact a1g HO2.out hUp,HUV.out,fun y hy e=>by have:=(HO1.out.lt y hy).2;omega,fun y hy e=>by have:=(HO2.out.lt y hy).2;omega,by have:=HB7.out.size;omega,zO⟩;have HBO:Hid (Below w6.heap.size w6 s4):=HB7.out.trans (hUp.mono HB7.out.size);obtain⟨t1,ht1⟩:=nM s4;subst ht1;obtain⟨t0,ht0⟩:=nM w6;rw[<-ht0] at HZ HR1 HR6 HGA HBO HO1 HO2 HB7;obtain⟨b6,hb6⟩:=nM t0.heap.size;rw[<-hb6] at HZ HR1 HR6 HGA HBO HO1 HO2 HB7;have q0:=HGA.out.c0;have zO:=HGA.out.pz;clear ht0 hb6 hud hUp hAO hBo kF0 kF1 zF lF kR0 kR1 fR0 fR1 zR lR kO0 kO1 fO0 fO1 lO HO1 HO2 HB7 HR HNM HCP HN HA HUV;go_wp2_with fail
   go_loopw [9] (f2y t0 O b6 (e1c old fresh) N A (.slice (some ⟨g,on,none⟩) LN cap) (.slice ba LA ca)) (fun r _=>LN-(intOf r).toNat)
   case atStart=>exact⟨0,Nat.zero_le _,rfl,by rw[e2x];exact HGA.out,HBO.out⟩
   case round =>
    obtain⟨k,hk,rfl,hga,hW⟩:=hrel;rw[<-HLN.out] at hk;have HW:=zh hW;have HWK:=zh hga;have q0:=hga.c0;have zO:=hga.pz;have hBo:=HZ.out _ hW;clear hW hga HGA HBO;by_cases hlt:k<LN
    ·
     obtain⟨n,hn⟩:=HGE.out k hlt;obtain⟨bq,cq,hq,hcs⟩:=(NodesAt.of_owns HWK.out.ou).2.slice;obtain⟨gn,om,rfl,hcn⟩:=hcs k n (e1w _ hn);obtain⟨⟨rfl,rfl⟩,-,-⟩:(g=gn/\on=om)/\LN=(e0p (e1c old fresh) N k).length/\cap=cq:=by simpa using hq
     have LN0:=a0p wr g (on+k*K19) HK19 n (fun j u hu=>by rw[HK19.out];exact hcn j u hu);have HN0:=zh hn;clear hcn hcs hq hn
     go_upto_region 10 with (refine a0c rfl _ _ rfl rfl _ _ _ rfl rfl rfl (by rfl) (by rfl) (by rfl) ?_)
     obtain⟨s5,X,hws,hdX,hsz,zX⟩:=nm1 wr (.cells #[I6 n.k,I6 n.o,I6 n.a,I6 n.b,.bool n.qn,.string n.qa,.string n.qd,.string n.s,.bool n.tr,.string n.r.sh,I6 n.r.c,I6 n.r.r,.bool n.r.fc,.bool n.r.fr,.string n.t.sh,I6 n.t.c,I6 n.t.r,.bool n.t.fc,.bool n.t.fr] 69);have hUp:=up1 hws;have hAX:wr.heap.size<=X:=by omega
     have hN:=bx0 (b:=X) hws hdX;have hM:=bf0 (b:=X) hws hdX;have kX0:=hN 0 _ rfl;have kX1:=hN 1 _ rfl;have kX2:=hN 2 _ rfl;have kX3:=hN 3 _ rfl;have kX4:=hN 4 _ rfl;have kX5:=hN 5 _ rfl;have kX6:=hN 6 _ rfl;have kX7:=hN 7 _ rfl;have kX8:=hN 8 _ rfl;have kX9:=hN 9 _ rfl;have kX10:=hN 10 _ rfl;have kX11:=hN 11 _ rfl;have kX12:=hN 12 _ rfl;have kX13:=hN 13 _ rfl;have kX14:=hN 14 _ rfl;have kX15:=hN 15 _ rfl;have kX16:=hN 16 _ rfl;have kX17:=hN 17 _ rfl;have kX18:=hN 18 _ rfl;have fX0:=hM 0;have fX1:=hM 1;have fX2:=hM 2;have fX3:=hM 3;have fX4:=hM 4;have fX5:=hM 5;have fX6:=hM 6;have fX7:=hM 7;have fX8:=hM 8;have fX9:=hM 9;have fX10:=hM 10;have fX11:=hM 11;have fX12:=hM 12;have fX13:=hM 13;have fX14:=hM 14;have fX15:=hM 15;have fX16:=hM 16;have fX17:=hM 17;have fX18:=hM 18;clear hN hM;have lX:w.heap.size<=X:=by have:=hBo.size;omega
     have LX:=a0o s5 X HK19 kX0 kX1 kX2 kX3 kX4 kX5 kX6 kX7 kX8 kX9 kX10 kX11 kX12 kX13 kX14 kX15 kX16 kX17 kX18;replace hBo:=bs1 hBo hws;rw[<-hws];try rw[<-hdX]
     clear hws hsz hdX;clear LN0;obtain⟨we,hwe⟩:=nM s5;subst hwe;have HND:Hid (NdAt we X n):=NdAt.of kX0 kX1 kX2 kX3 kX4 kX5 kX6 kX7 kX8 kX9 kX10 kX11 kX12 kX13 kX14 kX15 kX16 kX17 kX18;have HWX:=zh (HWK.out.below hUp);have HBX:Hid (Below b6 t0 we):=HW.out.trans (hUp.mono (Nat.le_trans HWK.out.pb (Nat.le_of_lt HWK.out.pz)));have HXA:=zh hAX;have HBX6:Hid (b6<=X):=zh (by have:=HWK.out.pz;have:=HWK.out.pb;omega);have hXO:X≠O:=by have:=HWK.out.pz;omega
     have x0:=kX0;have x9:=kX9;have xf9:=fX9;have q0:=HWX.out.c0;have zO:=HWX.out.pz;have HFX9:=zh fX9;have HZX:=zh zX;clear hUp hAX hBo LX;clear kX0 fX0;clear kX1 fX1;clear kX2 fX2;clear kX3 fX3;clear kX4 fX4;clear kX5 fX5;clear kX6 fX6;clear kX7 fX7;clear kX8 fX8;clear kX9 fX9;clear kX10 fX10;clear kX11 fX11;clear kX12 fX12;clear kX13 fX13;clear kX14 fX14;clear kX15 fX15;clear kX16 fX16;clear kX17 fX17;clear kX18 fX18
     rcases e8g n old fresh with ⟨h5,hs,ho⟩ | ⟨h5,h6,hs,ho⟩ | ⟨hrn,hrest⟩
     case' inl =>
      have HRN:=zh (e8f (fresh:=fresh) (Or.inl h5) hs ho);have hs9:=hs
     case' inr.inl =>
      have HRN:=zh (e8f (fresh:=fresh) (Or.inr h6) hs ho);have hs9:=hs
     case inr.inr =>
      have HRN:=zh hrn;clear hrn
      rcases hrest with ⟨h5,h6⟩ | ⟨h5,hs⟩ | ⟨h5,hs,ho⟩ | ⟨h5,h6,hs⟩ | ⟨h5,h6,hs,ho⟩
      all_goals
       go_wp2_with fail
       go_roundw
       case rel=>exact⟨k+1,by rw[<-HLN.out];omega,by go_num,by rw[e2y _ HN0.out HRN.out];exact HWX.out,HBX.out⟩
       case measure=>simp[intOf];omega
     all_goals
      go_upto_region 12 with fail
      obtain⟨ws,hws⟩:∃ z,z=we.setCell ⟨X,9,none⟩ (.string fresh):=⟨_,rfl⟩;have hNX:NdAt ws X (e1c old fresh n):=by rw[hws,HRN.out];exact HND.out.set9 HFX9.out _
      have hGX:GAt ws O b6 (e0p (e1c old fresh) N k) A (.slice (some ⟨g,on,none⟩) LN cap) (.slice ba LA ca):=by rw[hws];exact GAt.setNew HWX.out HWK.out HXA.out
      have hBW:Below b6 t0 ws:=by rw[hws];exact HBX.out.setCell HBX6.out _
      rw[<-hws];clear hws x0 x9 xf9 h5 hs ho hs9 HRN HWX HBX HND HFX9;obtain⟨m,hm⟩:=nM (e1c old fresh n);rw[<-hm] at hNX;have HM:=zh hm;clear hm;have LX:=hNX.load HK19;have HGX:=zh hGX;have HBW:=zh hBW;have q0:=hGX.c0;have zO:=hGX.pz;clear hNX hGX hBW;go_wp2_with (refine d8u rfl _ _ rfl rfl (base:=b6) (N:=e0p (e1c old fresh) N k) m HK19 HON (by have:=HGX.out.ou;rwa [d7p,<-HLN.out] at this) (by rw[d7p,<-HLN.out];exact hlt) (by rfl) (by rfl) ?_;intro wf hown2 hgrow2 hsz2)
      go_roundw
      case rel =>
       refine⟨k+1,by rw[<-HLN.out];omega,by go_num,?_,a3m HBW.out HGX.out.ou (Nat.le_refl _) (Nat.le_trans HGX.out.pb (Nat.le_of_lt HGX.out.pz)) hgrow2⟩;rw[d9e _ HN0.out,<-HM.out];exact HGX.out.set hgrow2 (by rw[List.length_set,d7p,<-HLN.out];exact hown2)
      case measure=>simp[intOf];omega
    ·
     obtain rfl:k=LN:=by omega
     have hga:GAt wr O b6 (N.map (e1c old fresh)) A (.slice (some ⟨g,on,none⟩) k cap) (.slice ba LA ca):=by
      have h:=HWK.out
      rwa [show e0p (e1c old fresh) N k=N.map (e1c old fresh) by rw[HLN.out,e4r]] at h
     have HGF:=zh hga;obtain⟨kR0,kR1,fR0,fR1⟩:=HR1.out _ HW.out;have zR:=a0j kR0;have q1:=hga.c1;clear hga;go_wp2_with fail;refine bodyPost_ret (v:=.tuple #[.agg #[.slice (some ⟨g,on,none⟩) k cap,.slice ba LA ca],I6 0]) (by simp[results,Tryz.results19,go_sem,kR0,kR1,fR0,fR1,zR,q0,q1]) rfl ?_;rw[HPO.out];exact⟨⟨_,_,rfl,(NodesAt.of_owns (ownsRow_setCell_below (ownsRow_setCell_below HGF.out.ou HR6.out _) HR6.out _)).2,(IntsAt.of_owns (ownsRow_setCell_below (ownsRow_setCell_below HGF.out.ov HR6.out _) HR6.out _)).2⟩,(hBo.setCell HLR.out _).setCell HLR.out _⟩
end Go.Proofs.YtddgjgcogkdplaaGreatDoor
