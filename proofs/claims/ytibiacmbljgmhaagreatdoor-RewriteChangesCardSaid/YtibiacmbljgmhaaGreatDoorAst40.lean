import Derived.Test.YtibiacmbljgmhaaGreatDoorAst27
import Derived.Laws.AppendOwnNone
namespace Go.Proofs.YtibiacmbljgmhaaGreatDoor
open Go.RowKit Go.Shelf
set_option linter.all false
theorem b9q {W:World} {g cap:Nat} {n:Nd} (h:∀ j u,(Qk n)[j]?=some u->W.cell? ⟨g,j,none⟩=some u) (h1:1<=cap) (h2:cap<=maxLen):NodesAt W (.slice (some ⟨g,0,none⟩) 1 cap) [n] :=
 Or.inr ⟨g,0,cap,rfl,h1,h2,fun k m hk j u hu=>by
  match k,hk with
  | 0,hk =>
   obtain rfl:n=m:=jA hk;have:=h j u hu
   simpa using this⟩
theorem c7p (w:World) (n:Nd) (t:TypeId):∀ j u,(Qk n)[j]?=some u->(w.alloc (.cells (Qk n).toArray t)).cell? ⟨w.heap.size,j,none⟩=some u:=fun j u hu=>by
 have h:=cell_of_row (w.alloc (.cells (Qk n).toArray t)) w.heap.size j (Qk n).toArray t (0,0) (by rw[<-World.alloc_eq];show (w.heap.push _)[w.heap.size]?=_;simp);rw[h];simpa using hu
theorem Tryz.infoNode:(Tryz.prog.info? 69).map (fun i=>(i.zero,i.size,i.bytes))=some (some (.agg #[I6 0,I6 0,I6 0,I6 0,Bv false,S0,S0,S0,Bv false,S0,I6 0,I6 0,Bv false,Bv false,S0,I6 0,I6 0,Bv false,Bv false]),19,176):=by kernel_rfl
theorem b9r (n:Nd):Instr.fill (fun i=>some (i*19,19)) ((Array.range (1*19)).map ((Value.agg #[I6 0,I6 0,I6 0,I6 0,Bv false,S0,S0,S0,Bv false,S0,I6 0,I6 0,Bv false,Bv false,S0,I6 0,I6 0,Bv false,Bv false]).cells[· % (Value.agg #[I6 0,I6 0,I6 0,I6 0,Bv false,S0,S0,S0,Bv false,S0,I6 0,I6 0,Bv false,Bv false,S0,I6 0,I6 0,Bv false,Bv false]).cells.size]!)) [(0,Y2 n)]=some (Qk n).toArray:=by kernel_rfl
abbrev nodeL (N:List Nd):List Value:=N.flatMap Qk
theorem a6h (n:Nd):(Qk n).length=19:=rfl
theorem b1z (N:List Nd):(nodeL N).length=N.length*19:=by
 induction N with
 | nil=>rfl
 | cons n N ih=>rw[nodeL,List.flatMap_cons,jM,a6h,<-nodeL,ih,List.length_cons];omega
theorem b9s (N M:List Nd):nodeL (N++M)=nodeL N++nodeL M:=List.flatMap_append ..
theorem b9t {N:List Nd} : ∀ {k:Nat} {n:Nd},N[k]?=some n->∀ {j:Nat} {u:Value},(Qk n)[j]?=some u->(nodeL N)[k*19+j]?=some u:=by
 induction N with
 | nil=>intro k n h;simp at h
 | cons m N ih =>
  intro k n h j u hj;rw[nodeL,List.flatMap_cons]
  cases k with
  | zero =>
   obtain rfl:m=n:=by simpa using h
   have hlt:j<(Qk m).length:=(List.getElem?_eq_some_iff.1 hj).1;rw[Nat.zero_mul,Nat.zero_add,List.getElem?_append_left hlt];exact hj
  | succ k =>
   have h2:N[k]?=some n:=by simpa using h
   rw[List.getElem?_append_right (by rw[a6h];omega),a6h,show (k+1)*19+j-19=k*19+j by omega];exact ih h2 hj
theorem c3d {N:List Nd} : ∀ {i:Nat} {u:Value},(nodeL N)[i]?=some u->∃ k n j,N[k]?=some n/\(Qk n)[j]?=some u/\i=k*19+j:=by
 induction N with
 | nil=>intro i u h;simp[nodeL] at h
 | cons m N ih =>
  intro i u h;rw[nodeL,List.flatMap_cons] at h;by_cases hi:i<19
  ·
   rw[List.getElem?_append_left (by rw[a6h];exact hi)] at h;exact⟨0,m,i,rfl,h,by omega⟩
  ·
   rw[List.getElem?_append_right (by rw[a6h];omega),a6h] at h;obtain⟨k,n,j,h1,h2,h3⟩:=ih h;exact⟨k+1,n,j,by simpa using h1,h2,by omega⟩
theorem b9u (N:List Nd):∀ u ∈ nodeL N,u.oneCell'=true:=by
 intro u h;obtain⟨n,_,h⟩:=List.mem_flatMap.1 h;simp only[Qk,List.mem_cons,List.not_mem_nil,or_false] at h
 rcases h with h | h | h | h | h | h | h | h | h | h | h | h | h | h | h | h | h | h | h<;>(subst h;rfl)
theorem NodesAt.of_owns {W:World} {v:Value} {n base:Nat} {t:TypeId} {N:List Nd} (h:W.ownsRow base t 19 v n (nodeL N)):n=N.length/\NodesAt W v N:=by
 have hl:=h.1;rw[b1z] at hl;have hn:n=N.length:=by omega
 refine⟨hn,?_⟩
 rcases h.2 with ⟨hv,h0⟩ | ⟨g,cap,cur,hv,_,hgg,hc,hm,_⟩
 ·
  exact Or.inl ⟨hv,jT (by omega)⟩
 ·
  refine Or.inr ⟨g,0,cap,by rw[hv,hn],by omega,hm,fun k m hk j u hj=>?_⟩
  have hc:=h.cells (g:=g) (by rw[hv];rfl) (k*19+j) u (b9t hk hj);rw[Addr.add_lit] at hc;rw[Nat.add_assoc];exact hc
theorem b6y {W:World} {g o:Nat} {N:List Nd} (hc:∀ (k:Nat) (n:Nd),N[k]?=some n->∀ j u,(Qk n)[j]?=some u->W.cell? ⟨g,o+k*19+j,none⟩=some u):∀ j u,(nodeL N)[j]?=some u->W.cell? ((⟨g,o,none⟩:Addr).add j)=some u:=by
 intro j u hu;obtain⟨k,n,i,h1,h2,rfl⟩:=c3d hu;rw[Addr.add_lit,<-Nat.add_assoc];exact hc k n h1 i u h2
structure FAt (W:World) (P base:Nat) (N:List Nd) (A T:List Int) (u v t:Value):Prop where
 c0:W.cell? ⟨P,0,none⟩=some u
 c1:W.cell? ⟨P,1,none⟩=some v
 f0:W.frozen? ⟨P,0,none⟩=false
 f1:W.frozen? ⟨P,1,none⟩=false
 ou:W.ownsRow base 69 19 u N.length (nodeL N)
 ov:W.ownsRow base 3 1 v A.length (JV A)
 ot:W.ownsRow base 3 1 t T.length (JV T)
 uv:∀ g,u.ownBlock=some g->v.ownBlock=some g->False
 ut:∀ g,u.ownBlock=some g->t.ownBlock=some g->False
 vt:∀ g,v.ownBlock=some g->t.ownBlock=some g->False
 pb:P<base
 bw:base<=W.heap.size
theorem FAt.pz {W:World} {P base:Nat} {N:List Nd} {A T:List Int} {u v t:Value} (h:FAt W P base N A T u v t):P<W.heap.size:=jF h.pb h.bw
theorem FAt.below {W W':World} {P base:Nat} {N:List Nd} {A T:List Int} {u v t:Value} (h:FAt W P base N A T u v t) (hb:Bl W W'):FAt W' P base N A T u v t :=
 ⟨q9 hb h.c0 h.pz,q9 hb h.c1 h.pz,QW hb h.f0 h.pz,QW hb h.f1 h.pz,a1g h.ou hb,a1g h.ov hb,a1g h.ot hb,h.uv,h.ut,h.vt,h.pb,jG h.bw hb.size⟩
theorem FAt.nodes {W:World} {P base:Nat} {N:List Nd} {A T:List Int} {u v t:Value} (h:FAt W P base N A T u v t):NodesAt W u N:=(NodesAt.of_owns h.ou).2
theorem FAt.args {W:World} {P base:Nat} {N:List Nd} {A T:List Int} {u v t:Value} (h:FAt W P base N A T u v t):IntsAt W v A:=(IntsAt.of_owns h.ov).2
theorem FAt.tops {W:World} {P base:Nat} {N:List Nd} {A T:List Int} {u v t:Value} (h:FAt W P base N A T u v t):IntsAt W t T:=(IntsAt.of_owns h.ot).2
theorem a2q {W W1:World} {base size n:Nat} {e:TypeId} {xs:List Value} {u v:Value} (h:W.ownsRow base e size v n xs) (hg:W.grownBy W1 u.ownBlock) (hne:∀ g,u.ownBlock=some g->v.ownBlock=some g->False):W1.ownsRow base e size v n xs:=by
 refine h.kept hg ?_
 cases hd:v.ownBlock with
 | none=>exact Or.inl rfl
 | some g=>exact Or.inr (fun e=>hne g e.symm hd)
abbrev c2n (W:World) (v v':Value):Prop:=∀ g,v'.ownBlock=some g->v.ownBlock=some g\/W.heap.size<=g
theorem b9v {W:World} {v v':Value} (h:v'.ownBlock=v.ownBlock\/v'.ownBlock=some W.heap.size):c2n W v v':=by
 intro g hg
 rcases h with h | h
 ·
  exact Or.inl (by rw[<-h];exact hg)
 ·
  rw[h] at hg;exact Or.inr (by simpa using Nat.le_of_eq (jA hg))
theorem a4t {W:World} {base size n:Nat} {e:TypeId} {xs:List Value} {u u' v:Value} (hv:W.ownsRow base e size v n xs) (h:∀ g,u.ownBlock=some g->v.ownBlock=some g->False) (hn:c2n W u u'):∀ g,u'.ownBlock=some g->v.ownBlock=some g->False:=by
 intro g h1 h2
 rcases hn g h1 with h3 | h3
 ·
  exact h g h3 h2
 ·
  have:=(hv.lt g h2).2;omega
theorem FAt.setN {W W1:World} {P base:Nat} {N M:List Nd} {A T:List Int} {u v t u':Value} (h:FAt W P base N A T u v t) (hg:W.grownBy W1 u.ownBlock) (ho:W1.ownsRow base 69 19 u' M.length (nodeL M)) (hn:c2n W u u') :
  FAt (W1.setCell ⟨P,0,none⟩ u') P base M A T u' v t:=by
 have hP:∀ g,u.ownBlock=some g->P≠g:=fun g hr e=>by have:=(h.ou.lt g hr).1;have:=h.pb;omega
 have hz:=h.pz
 exact⟨a0z (Jw hg h.c0 hP) (a0m hg hz h.f0 hP),a0h (Jw hg h.c1 hP) (by omega),frz_set.trans (a0m hg hz h.f0 hP),frz_set.trans (a0m hg hz h.f1 hP),
  ownsRow_setCell_below ho h.pb _,ownsRow_setCell_below (a2q h.ov hg h.uv) h.pb _,ownsRow_setCell_below (a2q h.ot hg h.ut) h.pb _,a4t h.ov h.uv hn,a4t h.ot h.ut hn,h.vt,h.pb,by have:=h.bw;have:=hg.size;simp;omega⟩
theorem FAt.setA {W W1:World} {P base:Nat} {N:List Nd} {A B T:List Int} {u v t v':Value} (h:FAt W P base N A T u v t) (hg:W.grownBy W1 v.ownBlock) (ho:W1.ownsRow base 3 1 v' B.length (JV B)) (hn:c2n W v v') :
  FAt (W1.setCell ⟨P,1,none⟩ v') P base N B T u v' t:=by
 have hP:∀ g,v.ownBlock=some g->P≠g:=fun g hr e=>by have:=(h.ov.lt g hr).1;have:=h.pb;omega
 have hz:=h.pz
 exact⟨a0h (Jw hg h.c0 hP) (by omega),a0z (Jw hg h.c1 hP) (a0m hg hz h.f1 hP),frz_set.trans (a0m hg hz h.f0 hP),frz_set.trans (a0m hg hz h.f1 hP),
  ownsRow_setCell_below (a2q h.ou hg (fun g a b=>h.uv g b a)) h.pb _,ownsRow_setCell_below ho h.pb _,ownsRow_setCell_below (a2q h.ot hg h.vt) h.pb _,(fun g a b=>a4t h.ou (fun g a b=>h.uv g b a) hn g b a),h.ut,a4t h.ot h.vt hn,h.pb,by have:=h.bw;have:=hg.size;simp;omega⟩
theorem a3m {w W W1:World} {base size n k:Nat} {e:TypeId} {xs:List Value} {u:Value} (hb:Below k w W) (ho:W.ownsRow base e size u n xs) (hk:k<=base) (hkw:k<=W.heap.size) (hg:W.grownBy W1 u.ownBlock):Below k w W1 :=
 hb.grown hg hkw (fun q hq=>jG hk (ho.lt q hq).1)
section
variable {w:World} {o:Oper} {a:Act} {ops:Array Oper}
theorem a4k {K:Act->World->Prop} {Q:Exit->Act->World->Prop} (s x:Operand) (ho:o.op=.call { callee:=.builtin .append,args:=#[s,x],argTypes:=#[22,22] })
  {base:Nat} {v xv:Value} {N M:List Nd} (hs:a.eval s=v) (hown:w.ownsRow base 69 19 v N.length (nodeL N)) (hx:a.eval x=xv) (hM:NodesAt w xv M) (hn:N.length<=100000) (hm:M.length<=100000) (hbase:base<=w.heap.size)
  (h:∀ v' w',w'.ownsRow base 69 19 v' (N++M).length (nodeL (N++M))->w.grownBy w' v.ownBlock->c2n w v v'->K (a.put o.dst v') w'):o.wp Tryz.prog a w K Q:=by
 obtain⟨i0,hi0,hz0,hz1,hz2⟩:=info_parts Tryz.infoNode
 rcases hM with ⟨rfl,rfl⟩ | ⟨g,oo,cap,rfl,h1,h2,hc⟩
 ·
  have hrun:=run_append_owned_none (P:=Tryz.prog) (w:=w) base 22 o.type 69 i0 19 Tryz.underlying22 hi0 v _ _ hown;unfold Oper.wp execOp;simp only[ho,resolve,invoke,builtin,Sem.run_bind,Sem.run_pure,Result.andThen_ok,List.map_toArray,List.map_cons,List.map_nil,hs,hx,hrun];exact h v w (by rw[List.append_nil];exact hown) ⟨rfl,rfl,rfl,jC _,fun _ _ _=>rfl⟩ (fun g hg=>Or.inl hg)
 ·
  obtain⟨v',w',hr,h3,h4,_,h5⟩:=run_append_own_at (P:=Tryz.prog) w base 22 o.type 69 i0 _ 19 176 Tryz.underlying22 hi0 hz0 hz1 hz2 rfl (by decide) v _ _ hown ⟨g,oo,none⟩ M.length cap (nodeL M) (b1z M) (b6y hc) (b9u M) (by unfold maxLen;omega) (by omega) hbase;unfold Oper.wp execOp;simp only[ho,resolve,invoke,builtin,Sem.run_bind,Sem.run_pure,Result.andThen_ok,List.map_toArray,List.map_cons,List.map_nil,hs,hx,hr];exact h v' w' (by rw[jM,b9s];exact h3) h4 (b9v h5)
theorem a8u {K:Act->World->Prop} {Q:Exit->Act->World->Prop} (s x:Operand) (ho:o.op=.call { callee:=.builtin .append,args:=#[s,x],argTypes:=#[23,23] })
  {base:Nat} {v xv:Value} {A B:List Int} (hs:a.eval s=v) (hown:w.ownsRow base 3 1 v A.length (JV A)) (hx:a.eval x=xv) (hM:IntsAt w xv B) (hn:A.length<=100000) (hm:B.length<=100000) (hbase:base<=w.heap.size)
  (h:∀ v' w',w'.ownsRow base 3 1 v' (A++B).length (JV (A++B))->w.grownBy w' v.ownBlock->c2n w v v'->K (a.put o.dst v') w'):o.wp Tryz.prog a w K Q:=by
 obtain⟨i0,hi0,hz0,hz1,hz2⟩:=info_parts Tryz.infoInt
 rcases hM with ⟨rfl,rfl⟩ | ⟨g,oo,cap,rfl,h1,h2,hc⟩
 ·
  have hrun:=run_append_owned_none (P:=Tryz.prog) (w:=w) base 23 o.type 3 i0 1 Tryz.underlying23 hi0 v _ _ hown;unfold Oper.wp execOp;simp only[ho,resolve,invoke,builtin,Sem.run_bind,Sem.run_pure,Result.andThen_ok,List.map_toArray,List.map_cons,List.map_nil,hs,hx,hrun];exact h v w (by rw[List.append_nil];exact hown) ⟨rfl,rfl,rfl,jC _,fun _ _ _=>rfl⟩ (fun g hg=>Or.inl hg)
 ·
  obtain⟨v',w',hr,h3,h4,_,h5⟩:=run_append_own_at (P:=Tryz.prog) w base 23 o.type 3 i0 _ 1 8 Tryz.underlying23 hi0 hz0 hz1 hz2 rfl (by decide) v _ _ hown ⟨g,oo,none⟩ B.length cap (JV B) (by rw[List.length_map,Nat.mul_one]) (a7x hc) (ints_oneCell _ _) (by unfold maxLen;omega) (by omega) hbase;unfold Oper.wp execOp;simp only[ho,resolve,invoke,builtin,Sem.run_bind,Sem.run_pure,Result.andThen_ok,List.map_toArray,List.map_cons,List.map_nil,hs,hx,hr];exact h v' w' (by rw[jM,JV,List.map_append];exact h3) h4 (b9v h5)
theorem a1k {rest:List Oper} {Q:Exit->Act->World->Prop} (hgd:o.guard=none) (s x:Operand) (ho:o.op=.call { callee:=.builtin .append,args:=#[s,x],argTypes:=#[22,22] })
  {base:Nat} {v xv:Value} {N M:List Nd} (hs:a.eval s=v) (hown:w.ownsRow base 69 19 v N.length (nodeL N)) (hx:a.eval x=xv) (hM:NodesAt w xv M) (hn:N.length<=100000) (hm:M.length<=100000) (hbase:base<=w.heap.size)
  (h:∀ v' w',w'.ownsRow base 69 19 v' (N++M).length (nodeL (N++M))->w.grownBy w' v.ownBlock->c2n w v v'->wpList Tryz.prog ops Q rest (a.put o.dst v') w'):wpList Tryz.prog ops Q (o :: rest) a w :=
 wpList_plain hgd fun _ hK=>a4k s x ho hs hown hx hM hn hm hbase fun v' w' h1 h2 h3=>hK _ _ (h v' w' h1 h2 h3)
theorem a1s {rest:List Oper} {Q:Exit->Act->World->Prop} (hgd:o.guard=none) (s x:Operand) (ho:o.op=.call { callee:=.builtin .append,args:=#[s,x],argTypes:=#[23,23] })
  {base:Nat} {v xv:Value} {A B:List Int} (hs:a.eval s=v) (hown:w.ownsRow base 3 1 v A.length (JV A)) (hx:a.eval x=xv) (hM:IntsAt w xv B) (hn:A.length<=100000) (hm:B.length<=100000) (hbase:base<=w.heap.size)
  (h:∀ v' w',w'.ownsRow base 3 1 v' (A++B).length (JV (A++B))->w.grownBy w' v.ownBlock->c2n w v v'->wpList Tryz.prog ops Q rest (a.put o.dst v') w'):wpList Tryz.prog ops Q (o :: rest) a w :=
 wpList_plain hgd fun _ hK=>a8u s x ho hs hown hx hM hn hm hbase fun v' w' h1 h2 h3=>hK _ _ (h v' w' h1 h2 h3)
theorem a6i {K:Act->World->Prop} {Q:Exit->Act->World->Prop} {E:Prop} (hgd:o.guard=none) (s x:Operand) (ho:o.op=.call { callee:=.builtin .append,args:=#[s,x],argTypes:=#[22,22] })
  {base:Nat} {v xv:Value} {N M:List Nd} (hs:a.eval s=v) (hown:w.ownsRow base 69 19 v N.length (nodeL N)) (hx:a.eval x=xv) (hM:NodesAt w xv M) (hn:N.length<=100000) (hm:M.length<=100000) (hbase:base<=w.heap.size)
  (h:∀ v' w',w'.ownsRow base 69 19 v' (N++M).length (nodeL (N++M))->w.grownBy w' v.ownBlock->c2n w v v'->K (a.put o.dst v') w'):if Region.wanted o (yielded ops a.tmps)=true then Oper.wp Tryz.prog o a w K Q else E:=by
 have hw:Region.wanted o (yielded ops a.tmps)=true:=by simp[Region.wanted,hgd]
 rw[if_pos hw];exact a4k s x ho hs hown hx hM hn hm hbase h
theorem a3n {K:Act->World->Prop} {Q:Exit->Act->World->Prop} {E:Prop} (hgd:o.guard=none) (x:Operand) (ho:o.op=.buildSlice 22 1 #[(0,x)]) (n:Nd) (hx:a.eval x=Y2 n)
  (h:K (a.put o.dst (.slice (some ⟨w.heap.size,0,none⟩) 1 1)) (w.alloc (.cells (Qk n).toArray 69))):if Region.wanted o (yielded ops a.tmps)=true then Oper.wp Tryz.prog o a w K Q else E:=by
 have hw:Region.wanted o (yielded ops a.tmps)=true:=by simp[Region.wanted,hgd]
 rw[if_pos hw];obtain⟨i0,hi0,hz0,hz1,hz2⟩:=info_parts Tryz.infoNode;refine wp_buildSlice 22 69 1 _ ho (Qk n).toArray i0 _ Tryz.underlying22 hi0 hz0 (by rw[hz1];decide) (by rw[hz1];decide) ?_ h;have e:((#[(0,x)]:Array (Nat × Operand)).map fun (i,x)=>(i,a.eval x)).toList=[(0,Y2 n)]:=by simp[hx]
 rw[hz1,e];exact b9r n
end
theorem a4u (w:World) (n:Nd) (t:TypeId):NodesAt (w.alloc (.cells (Qk n).toArray t)) (.slice (some ⟨w.heap.size,0,none⟩) 1 1) [n] :=
 b9q (fun j u hu=>c7p w n t j u hu) (jC _) (by unfold maxLen;omega)
def b9w (N:List Nd) (A:List Int) (w:World) (e:Ending) (w':World):Prop:=(∃ us vs,e=.returned (.agg #[us,vs])/\w'.ownsRow w.heap.size 69 19 us N.length (nodeL N)/\w'.ownsRow w.heap.size 3 1 vs A.length (JV A)/\(∀ g,us.ownBlock=some g->vs.ownBlock=some g->False))/\Bl w w'
theorem heap_setCell {W:World} {b o g:Nat} {v:Value} (h:b≠g):(W.setCell ⟨b,o,none⟩ v).heap[g]?=W.heap[g]?:=by
 simp[World.setCell,Array.getElem?_modify,h]
theorem a3o {W:World} {g:Nat} {t:TypeId} {fr:Nat × Nat} {K:Nat} (hK:Hid (K=19)) (n:Nd) (h:W.heap[g]?=some (.cells (Qk n).toArray t fr)) :
  Sem.run Tryz.prog (loadCellsFrom ⟨g,0,none⟩ 0 K #[]) W=.ok #[I6 n.k,I6 n.o,I6 n.a,I6 n.b,Bv n.qn,Sg n.qa,Sg n.qd,Sg n.s,Bv n.tr,Sg n.r.sh,I6 n.r.c,I6 n.r.r,Bv n.r.fc,Bv n.r.fr,Sg n.t.sh,I6 n.t.c,I6 n.t.r,Bv n.t.fc,Bv n.t.fr] W :=
 a0p W g 0 hK n (fun j u hu=>by rw[cell_of_row W g (0+j) _ t fr h,Nat.zero_add];simpa using hu)
theorem a1d {ops:Array Oper} {rest:List Oper} {o:Oper} {a:Act} {w:World} {Q:Exit->Act->World->Prop} (hgd:o.guard=none) (x y:Operand) (ho:o.op=.store 69 x y) (hd:o.dst=none)
  (g:Nat) (n:Nd) (t:TypeId) (zs:Array Value) (hx:a.eval x=.pointer (some ⟨g,0,none⟩)) (hy:a.eval y=Y2 n) (hg:w.heap[g]?=some (.cells zs t (0,0))) (hzs:zs.size=19)
  (h:wpList Tryz.prog ops Q rest a (w.setRow g (Qk n).toArray)):wpList Tryz.prog ops Q (o :: rest) a w :=
 wpList_store_rowTo hgd 69 x y ho hd g (Qk n).toArray hx hy t zs hg (by show _=some 19;kernel_rfl) (by rw[hzs];rfl) (by rw[<-Array.all_toList];rfl) h
theorem a2v {k:Nat} {w W:World} {g:Nat} {cs:Array Value} (h:Below k w W) (hk:k<=W.heap.size) (hg:k<=g):Below k w (W.setRow g cs):=by
 refine h.grown (row:=some g) ⟨rfl,rfl,rfl,by simp[World.setRow],fun i _ hi=>setRow_other W g i cs (fun e=>hi (by rw[e]))⟩ ?_ (fun q hq=>by cases hq;exact hg);exact hk
