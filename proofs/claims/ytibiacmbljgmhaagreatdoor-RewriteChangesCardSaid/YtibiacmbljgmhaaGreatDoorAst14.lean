import Derived.Test.YtibiacmbljgmhaaGreatDoorAst10
import Derived.Laws.AppendOwn
set_option maxHeartbeats 8000000
set_option maxRecDepth 100000
namespace Go.Proofs.YtibiacmbljgmhaaGreatDoor
open Go.RowKit Go.Shelf
set_option linter.all false
def IntsAt (W:World) (v:Value) (A:List Int):Prop :=
 (v=.slice none 0 0/\A=[])\/∃ g o cap:Nat,v=.slice (some ⟨g,o,none⟩) A.length cap/\A.length<=cap/\cap<=maxLen /\
  ∀ k,k<A.length->W.cell? ⟨g,o+k,none⟩=some (I6 (A.getD k 0))
def NodesAt (W:World) (v:Value) (N:List Nd):Prop :=
 (v=.slice none 0 0/\N=[])\/∃ g o cap:Nat,v=.slice (some ⟨g,o,none⟩) N.length cap/\N.length<=cap/\cap<=maxLen /\
  ∀ (k:Nat) (n:Nd),N[k]?=some n->∀ j u,(Qk n)[j]?=some u->W.cell? ⟨g,o+k*19+j,none⟩=some u
theorem Xk {W:World} {p:Addr} {v:Value} (h:W.cell? p=some v):p.block<W.heap.size:=World.block_lt_of_cell? _ _ h
theorem IntsAt.below {W W':World} {v:Value} {A:List Int} (h:IntsAt W v A) (hb:Bl W W'):IntsAt W' v A:=by
 rcases h with h | ⟨g,o,cap,hv,h1,h2,hc⟩
 ·
  exact Or.inl h
 ·
  exact Or.inr ⟨g,o,cap,hv,h1,h2,fun k hk=>q9 hb (hc k hk) (Xk (hc k hk))⟩
theorem NodesAt.below {W W':World} {v:Value} {N:List Nd} (h:NodesAt W v N) (hb:Bl W W'):NodesAt W' v N:=by
 rcases h with h | ⟨g,o,cap,hv,h1,h2,hc⟩
 ·
  exact Or.inl h
 ·
  exact Or.inr ⟨g,o,cap,hv,h1,h2,fun k n hk j u hu=>q9 hb (hc k n hk j u hu) (Xk (hc k n hk j u hu))⟩
def qX (n:Nd):Sh:=⟨n.k,n.a,n.b,Y5 n.k n.o⟩
def NewOr (A:List Int) (w:World) (v r:Value):Prop:=∀ g,r.ownBlock=some g->(A≠[]/\v.ownBlock=some g)\/w.heap.size<=g
theorem NewOr.of_size {A:List Int} {w:World} {v:Value} {g o a b:Nat} (h:w.heap.size<=g):NewOr A w v (.slice (some ⟨g,o,none⟩) a b):=fun x hx=>by
 have:g=x:=by simpa [Value.ownBlock] using hx
 exact Or.inr (by omega)
theorem NewOr.none {A:List Int} {w:World} {v:Value} {a b:Nat} : NewOr A w v (.slice none a b):=fun x hx=>by simp[Value.ownBlock] at hx
theorem NewOr.same {A:List Int} {w:World} {g o o' a b c d:Nat} (hA:A≠[]):NewOr A w (.slice (some ⟨g,o,Option.none⟩) a b) (.slice (some ⟨g,o',Option.none⟩) c d):=fun x hx=>Or.inl ⟨hA,by simpa [Value.ownBlock] using hx⟩
def b5j (A:List Int) (n:Sh) (v:Value) (w:World) (e:Ending) (w':World):Prop:=(∃ r,e=.returned r/\IntsAt w' r (Xj A n)/\(Xj A n=[]\/NewOr A w v r))/\Bl w w'
theorem a5o (w:World) (g:Nat) (x:Int) (t:TypeId) (hg:g=w.heap.size):IntsAt (w.alloc (.cells #[I6 x] t)) (.slice (some ⟨g,0,none⟩) 1 1) [x]:=by
 subst hg;refine Or.inr ⟨_,_,_,rfl,jC _,by unfold maxLen;omega,fun k hk=>?_⟩
 match k,hk with
 | 0,_=>simp[go_sem]
theorem b1n (w:World) (g:Nat) (x y:Int) (t:TypeId) (hg:g=w.heap.size):IntsAt (w.alloc (.cells #[I6 x,I6 y] t)) (.slice (some ⟨g,0,none⟩) 2 2) [x,y]:=by
 subst hg;refine Or.inr ⟨_,_,_,rfl,jC _,by unfold maxLen;omega,fun k hk=>?_⟩
 match k,hk with
 | 0,_=>simp[go_sem]
 | 1,_=>simp[go_sem]
theorem IntsAt.sub {W:World} {g o cap a b:Nat} {A:List Int} (hc:∀ k,k<A.length->W.cell? ⟨g,o+k,none⟩=some (I6 (A.getD k 0))) (h:a+b<=A.length) (hb:b<=cap) (hm:cap<=maxLen):IntsAt W (.slice (some ⟨g,o+a,none⟩) b cap) ((A.drop a).take b):=by
 have hl:((A.drop a).take b).length=b:=by simp;omega
 refine Or.inr ⟨g,o+a,cap,by rw[hl],by rw[hl];exact hb,hm,fun k hk=>?_⟩
 rw[hl] at hk;have:=hc (a+k) (by omega);rw[Nat.add_assoc,this]
 congr 2
 rw[jJ,jJ,List.getElem?_take_of_lt hk,List.getElem?_drop]
theorem a5p (u v:Value) (A:List Int) (n:Nd) (w:World) (hA:IntsAt w v A) (hk:d7y A (qX n)) (hz:n.k=9->0<=n.b/\(n.b=0->n.a=0)) (hl:A.length<=1000) :
  Cz 137 #[.agg #[u,v],Y2 n] w (b5j A (qX n) v w):=by
 have JY:=Qw;obtain⟨Po,hPo⟩:=nM (b5j A (qX n) v w);rw[<-hPo];have J5:=zh hPo;have hB:=Below.refl w.heap.size w;have HA:=zh hA;have HK:=zh hk;have HZ:=zh hz;clear hPo hA hk hz;by_cases h7:n.k=7
 ·
  have g7:(n.k==7)=true:=by simpa using h7
  have HX:Hid (Xj A (qX n)=[n.a]):=if_pos h7;clear h7;go_enter Tryz.func137,Tryz.ntmps137
  go_wp2
  show Po _ _;rw[J5.out];refine⟨⟨_,rfl,?_,?_⟩,?_⟩
  ·
   rw[HX.out];exact a5o _ (w.heap.size+1+1) _ _ (by simp)
  ·
   exact Or.inr (NewOr.of_size (by omega))
  ·
   exact X7 (X7 (X7 hB))
 have g7:(n.k==7)=false:=by simpa using h7
 by_cases h8:n.k=8
 ·
  have g8:(n.k==8)=true:=by simpa using h8
  have HX:Hid (Xj A (qX n)=[n.a,n.b]):=(if_neg h7).trans (if_pos h8);clear h7 h8;go_enter Tryz.func137,Tryz.ntmps137
  go_wp2
  show Po _ _;rw[J5.out];refine⟨⟨_,rfl,?_,?_⟩,?_⟩
  ·
   rw[HX.out];exact b1n _ (w.heap.size+1+1) _ _ _ (by simp)
  ·
   exact Or.inr (NewOr.of_size (by omega))
  ·
   exact X7 (X7 (X7 hB))
 have g8:(n.k==8)=false:=by simpa using h8
 by_cases h9:n.k=9
 ·
  have g9:(n.k==9)=true:=by simpa using h9
  have HX:Hid (Xj A (qX n)=(A.drop n.a.toNat).take n.b.toNat):=(if_neg h7).trans ((if_neg h8).trans (if_pos h9));obtain⟨z1,z2⟩:=HZ.out h9;have z3:=HK.out h9;obtain⟨k,o,a,b,qn,qa,qd,x,tr,r,t⟩:=n;dsimp only at h7 h8 h9 g7 g8 g9 z1 z2;obtain⟨b',rfl⟩:∃ b':Nat,b=b':=⟨b.toNat,by omega⟩
  have za:0<=a/\a+b'<=A.length:=by
   by_cases hb:0<b'
   ·
    exact z3 (by show 0<(b':Int);omega)
   ·
    rw[z2 (by omega)];omega
  obtain⟨a',rfl⟩:∃ a':Nat,a=a':=⟨a.toNat,by omega⟩;have hab:a'+b'<=A.length:=by omega
  have hX2:Hid (Xj A (qX ⟨k,o,(a':Int),(b':Int),qn,qa,qd,x,tr,r,t⟩)=(A.drop a').take b'):=HX.out;clear HX z1 z2 z3 HZ HK h7 h8 h9 za
  rcases HA.out with ⟨rfl,hn⟩ | ⟨g,oo,cap,rfl,h1,h2,hc⟩
  ·
   have hl0:A.length=0:=by rw[hn];rfl
   obtain rfl:b'=0:=by omega
   obtain rfl:a'=0:=by omega
   clear hn hl0 hab hl;go_enter Tryz.func137,Tryz.ntmps137
   go_wp2
   show Po _ _;rw[J5.out];refine⟨⟨_,rfl,?_,?_⟩,X7 (X7 hB)⟩
   ·
    rw[hX2.out];exact Or.inl ⟨rfl,by simp⟩
   ·
    exact Or.inr NewOr.none
  ·
   have h2':=h2;unfold maxLen at h2;have H2:=zh h2';obtain⟨L,hL⟩:=nM A.length;rw[<-hL] at hc h1 hab hl |-
   have HC:=zh hc;have HL:=zh h1;have XW:=zh hL;have HAB:=zh hab;have e1:a'<=cap:=by omega
   have e2:a'+b'<=cap:=by omega
   clear hc h1 hL hab h2';go_enter Tryz.func137,Tryz.ntmps137
   go_wp2
   all_goals show Po _ _
   all_goals rw[J5.out]
   all_goals refine⟨⟨_,rfl,?_,(if hA0:A=[] then Or.inl (by rw[hX2.out,hA0];simp) else Or.inr (NewOr.same hA0))⟩,X7 (X7 hB)⟩
   all_goals rw[hX2.out]
   all_goals first
    | (refine(IntsAt.sub (W:=w) (o:=oo) (a:=a') (b:=b') (fun k hk=>HC.out k (by rw[XW.out];exact hk)) (by rw[<-XW.out];exact HAB.out) (by omega) (by have:=H2.out;omega)).below (X7 (X7 hB)))
    | (
      obtain rfl:b'=0:=by omega
      exact Or.inr ⟨g,oo,0,by simp,by simp,by unfold maxLen;omega,fun k hk=>by simp at hk⟩)
 ·
  have g9:(n.k==9)=false:=by simpa using h9
  have HX:Hid (Xj A (qX n)=[]):=(if_neg h7).trans ((if_neg h8).trans (if_neg h9));clear h7 h8 h9;go_enter Tryz.func137,Tryz.ntmps137
  go_wp2
  show Po _ _;rw[J5.out];refine⟨⟨_,rfl,?_,?_⟩,?_⟩
  ·
   rw[HX.out];exact Or.inl ⟨rfl,rfl⟩
  ·
   exact Or.inr NewOr.none
  ·
   exact X7 (X7 hB)
theorem b5k {n c:Nd} {i:Nat} (h:n.k=9):brk (qX n) (qX c) i=false:=if_pos h
theorem a9c {n c:Nd} {i:Nat} (h:n.k=8) (hi:i=1):brk (qX n) (qX c) i=decide (Y5 c.k c.o<=Y5 n.k n.o):=by
 unfold brk qX;dsimp only;rw[if_neg (by omega),if_pos ⟨h,hi⟩]
theorem b1o {n c:Nd} {i:Nat} (h9:n.k≠9) (h : ¬ (n.k=8/\i=1)):brk (qX n) (qX c) i=decide (Y5 c.k c.o<Y5 n.k n.o):=by
 unfold brk qX;dsimp only;rw[if_neg h9,if_neg h]
theorem c2s (n c:Nd) (i:Nat) (w:World) :
  Ca 181 #[Y2 n,Y2 c,I6 (i:Int)] w (Bv (brk (qX n) (qX c) i)):=by
 have JY:=Qw;obtain⟨K19,hz19,HK19⟩:=Y9;have HN:=zh (fun w=>a1z n w);have HC:=zh (fun w=>a1z c w);by_cases h9:n.k=9
 ·
  rw[b5k h9];have g9:(n.k==9)=true:=by simpa using h9
  have hB:=Below.refl w.heap.size w;clear h9 HN HC;go_enter Tryz.func181,Tryz.ntmps181
  go_wp2
  go_ret
  exact⟨rfl,X7 (X7 hB)⟩
 have g9:(n.k==9)=false:=by simpa using h9
 by_cases h81:n.k=8/\i=1
 ·
  rw[a9c h81.1 h81.2];obtain⟨h8,rfl⟩:=h81;have g8:(n.k==8)=true:=by simpa using h8
  generalize Y5 n.k n.o=x at *;generalize Y5 c.k c.o=y at *;clear h8 h9;go_enter Tryz.func181,Tryz.ntmps181
  go_upto_region 1 with fail
  obtain⟨s1,A,B,j6,jz,J7,j8,zA,zB⟩:=YJ w (.cells (Qk n).toArray 69) (.cells (Qk c).toArray 69);have yA:=Y4 (b:=A) j6 jz;have yB:=qZ (b:=B) j6 (by simp[J7]);have LA:=Qv HK19 yA;have LB:=Qv HK19 yB;have j7:=Yz bR j6;rw[<-j6];try rw[<-J7]
  try rw[<-jz]
  clear j6 j8 jz J7
  go_upto_region 4 with fail
  have HF:=QX j7;clear j7;refine wrp (S:=fun w'=>(∀ j,w'.cell? ⟨A,j,none⟩=(Qk n)[j]?)/\(∀ j,w'.cell? ⟨B,j,none⟩=(Qk c)[j]?)/\Sem.run Tryz.prog (loadCellsFrom ⟨A,0,none⟩ 0 K19 #[]) w'=.ok #[I6 n.k,I6 n.o,I6 n.a,I6 n.b,Bv n.qn,Sg n.qa,Sg n.qd,Sg n.s,Bv n.tr,Sg n.r.sh,I6 n.r.c,I6 n.r.r,Bv n.r.fc,Bv n.r.fr,Sg n.t.sh,I6 n.t.c,I6 n.t.r,Bv n.t.fc,Bv n.t.fr] w'/\Sem.run Tryz.prog (loadCellsFrom ⟨B,0,none⟩ 0 K19 #[]) w'=.ok #[I6 c.k,I6 c.o,I6 c.a,I6 c.b,Bv c.qn,Sg c.qa,Sg c.qd,Sg c.s,Bv c.tr,Sg c.r.sh,I6 c.r.c,I6 c.r.r,Bv c.r.fc,Bv c.r.fr,Sg c.t.sh,I6 c.t.c,I6 c.t.r,Bv c.t.fc,Bv c.t.fr] w') (by kernel_rfl) (fun w' hx=>jZ) (fun Q6 jx=>?_)
  refine tk 0 ?_;refine tk 2 ?_;refine Jq 1 (by kernel_rfl) rfl fun K hK=>?_
  go_simp
  (go_at_call 178;refine jy (HC.out _) fun x2 qk=>?_;obtain⟨qx,jk,qK⟩:=Q4 s1 qk)
  try (go_wp2_with fail)
  refine hK.out _ _ (X2 Q6) (fun jx=>?_);clear hK K;try simp only[pz]
  refine Jq 3 (by kernel_rfl) rfl fun K hK=>?_
  go_simp
  (go_at_call 178;refine jy (HN.out _) fun x2 qk=>?_;obtain⟨qx,jk,qK⟩:=Q4 s1 qk)
  try (go_wp2_with fail)
  refine hK.out _ _ (X2 Q6) (fun jx=>?_);clear hK K;try simp only[pz]
  refine tk 4 ?_;refine tk 5 ?_;refine wpAnyH_done (by kernel_rfl) ?_ _
  all_goals go_wp2
  all_goals first | go_ret | go_ret2
  all_goals exact⟨rfl,HF.out _ (by assumption)⟩
 ·
  rw[b1o h9 h81];generalize Y5 n.k n.o=x at *;generalize Y5 c.k c.o=y at *;by_cases h8:n.k=8
  ·
   have g8:(n.k==8)=true:=by simpa using h8
   have hi:((i:Int)==1)=false:=by
    have:i≠1:=fun h=>h81 ⟨h8,h⟩
    simp;omega
   clear h8 h9 h81;go_enter Tryz.func181,Tryz.ntmps181
   go_upto_region 1 with fail
   obtain⟨s3,A,B,j6,jz,J7,j8,zA,zB⟩:=YJ w (.cells (Qk n).toArray 69) (.cells (Qk c).toArray 69);have yA:=Y4 (b:=A) j6 jz;have yB:=qZ (b:=B) j6 (by simp[J7]);have LA:=Qv HK19 yA;have LB:=Qv HK19 yB;have j7:=Yz bR j6;rw[<-j6];try rw[<-J7]
   try rw[<-jz]
   clear j6 j8 jz J7
   go_upto_region 5 with fail
   have HF:=QX j7;clear j7;refine wrp (S:=fun w'=>(∀ j,w'.cell? ⟨A,j,none⟩=(Qk n)[j]?)/\(∀ j,w'.cell? ⟨B,j,none⟩=(Qk c)[j]?)/\Sem.run Tryz.prog (loadCellsFrom ⟨A,0,none⟩ 0 K19 #[]) w'=.ok #[I6 n.k,I6 n.o,I6 n.a,I6 n.b,Bv n.qn,Sg n.qa,Sg n.qd,Sg n.s,Bv n.tr,Sg n.r.sh,I6 n.r.c,I6 n.r.r,Bv n.r.fc,Bv n.r.fr,Sg n.t.sh,I6 n.t.c,I6 n.t.r,Bv n.t.fc,Bv n.t.fr] w'/\Sem.run Tryz.prog (loadCellsFrom ⟨B,0,none⟩ 0 K19 #[]) w'=.ok #[I6 c.k,I6 c.o,I6 c.a,I6 c.b,Bv c.qn,Sg c.qa,Sg c.qd,Sg c.s,Bv c.tr,Sg c.r.sh,I6 c.r.c,I6 c.r.r,Bv c.r.fc,Bv c.r.fr,Sg c.t.sh,I6 c.t.c,I6 c.t.r,Bv c.t.fc,Bv c.t.fr] w') (by kernel_rfl) (fun w' hx=>jZ) (fun Q6 jx=>?_)
   refine tk 0 ?_;refine tk 2 ?_;refine Jq 1 (by kernel_rfl) rfl fun K hK=>?_
   go_simp
   (go_at_call 178;refine jy (HC.out _) fun x4 qk=>?_;obtain⟨qx,jk,qK⟩:=Q4 s3 qk)
   try (go_wp2_with fail)
   refine hK.out _ _ (X2 Q6) (fun jx=>?_);clear hK K;try simp only[pz]
   refine Jq 3 (by kernel_rfl) rfl fun K hK=>?_
   go_simp
   (go_at_call 178;refine jy (HN.out _) fun x4 qk=>?_;obtain⟨qx,jk,qK⟩:=Q4 s3 qk)
   try (go_wp2_with fail)
   refine hK.out _ _ (X2 Q6) (fun jx=>?_);clear hK K;try simp only[pz]
   refine tk 4 ?_;refine tk 5 ?_;refine wpAnyH_done (by kernel_rfl) ?_ _
   all_goals go_wp2
   all_goals first | go_ret | go_ret2
   all_goals exact⟨rfl,HF.out _ (by assumption)⟩
  ·
   have g8:(n.k==8)=false:=by simpa using h8
   clear h8 h9 h81;go_enter Tryz.func181,Tryz.ntmps181
   go_upto_region 1 with fail
   obtain⟨s5,A,B,j6,jz,J7,j8,zA,zB⟩:=YJ w (.cells (Qk n).toArray 69) (.cells (Qk c).toArray 69);have yA:=Y4 (b:=A) j6 jz;have yB:=qZ (b:=B) j6 (by simp[J7]);have LA:=Qv HK19 yA;have LB:=Qv HK19 yB;have j7:=Yz bR j6;rw[<-j6];try rw[<-J7]
   try rw[<-jz]
   clear j6 j8 jz J7
   go_upto_region 5 with fail
   have HF:=QX j7;clear j7;refine wrp (S:=fun w'=>(∀ j,w'.cell? ⟨A,j,none⟩=(Qk n)[j]?)/\(∀ j,w'.cell? ⟨B,j,none⟩=(Qk c)[j]?)/\Sem.run Tryz.prog (loadCellsFrom ⟨A,0,none⟩ 0 K19 #[]) w'=.ok #[I6 n.k,I6 n.o,I6 n.a,I6 n.b,Bv n.qn,Sg n.qa,Sg n.qd,Sg n.s,Bv n.tr,Sg n.r.sh,I6 n.r.c,I6 n.r.r,Bv n.r.fc,Bv n.r.fr,Sg n.t.sh,I6 n.t.c,I6 n.t.r,Bv n.t.fc,Bv n.t.fr] w'/\Sem.run Tryz.prog (loadCellsFrom ⟨B,0,none⟩ 0 K19 #[]) w'=.ok #[I6 c.k,I6 c.o,I6 c.a,I6 c.b,Bv c.qn,Sg c.qa,Sg c.qd,Sg c.s,Bv c.tr,Sg c.r.sh,I6 c.r.c,I6 c.r.r,Bv c.r.fc,Bv c.r.fr,Sg c.t.sh,I6 c.t.c,I6 c.t.r,Bv c.t.fc,Bv c.t.fr] w') (by kernel_rfl) (fun w' hx=>jZ) (fun Q6 jx=>?_)
   refine tk 0 ?_;refine tk 2 ?_;refine Jq 1 (by kernel_rfl) rfl fun K hK=>?_
   go_simp
   (go_at_call 178;refine jy (HC.out _) fun x6 qk=>?_;obtain⟨qx,jk,qK⟩:=Q4 s5 qk)
   try (go_wp2_with fail)
   refine hK.out _ _ (X2 Q6) (fun jx=>?_);clear hK K;try simp only[pz]
   refine Jq 3 (by kernel_rfl) rfl fun K hK=>?_
   go_simp
   (go_at_call 178;refine jy (HN.out _) fun x6 qk=>?_;obtain⟨qx,jk,qK⟩:=Q4 s5 qk)
   try (go_wp2_with fail)
   refine hK.out _ _ (X2 Q6) (fun jx=>?_);clear hK K;try simp only[pz]
   refine tk 4 ?_;refine tk 5 ?_;refine wpAnyH_done (by kernel_rfl) ?_ _
   all_goals go_wp2
   all_goals first | go_ret | go_ret2
   all_goals exact⟨rfl,HF.out _ (by assumption)⟩
