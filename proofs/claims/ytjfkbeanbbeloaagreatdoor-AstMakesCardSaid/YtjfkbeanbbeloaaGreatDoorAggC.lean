/-
  
  
  
  
  
-/
import Derived.Lib.SmallJoins
import Derived.OpenShut
import Derived.Test.YtjfkbeanbbeloaaGreatDoorAst14
import Derived.Deep.Slices
import Derived.Lib.LaidU8
namespace Go.Proofs.YtjfkbeanbbeloaaGreatDoor
set_option linter.unusedSimpArgs false
set_option linter.unusedVariables false
open Go.ChangeShapes Go.WideShapes Go.ChangeAt Go.RowKit Go.ChangeMaps Go.Joins
section
variable {H:Type} {enc:TypeId × Value→H} {W:World} {base:Nat} {spare:Nat→Bool} {held:Bool}
theorem b1f : Tryz.prog.cellsOf 28=5:=by kernel_rfl
theorem b8n {α:Type} {l:List α} (h:l.length=5):∃ a b c d e,l=[a,b,c,d,e]:=by
 match l,h with
 | [a,b,c,d,e],_ => exact ⟨a,b,c,d,e,rfl⟩
theorem a3d {n:Nat} {t:TypeId} {c:Value} {y:DataW H × List MemPlace} (ht : Tryz.prog.underlying t=some .bool) (h:DataW.trod enc Tryz.prog W base spare held n t [c]=some y):∃ b:Bool,c=.bool b∧y=(.lit (.bool b),[]):=by
 obtain ⟨b,h1,hx⟩:=DataW.trod_bool ht h;simp at h1;exact ⟨b,h1,hx⟩
theorem a1u {n:Nat} {t:TypeId} {c:Value} {y:DataW H × List MemPlace} (ht : Tryz.prog.underlying t=some (.int .i64)) (h:DataW.trod enc Tryz.prog W base spare held n t [c]=some y):∃ k:Int,c=.int .i64 k∧y=(.lit (.int .i64 k),[])∧(Lit.int .i64 k).wf=true:=by
 obtain ⟨k,h1,hx,hw⟩:=DataW.trod_int ht h;simp at h1;exact ⟨k,h1,hx,hw⟩
theorem a2l {n:Nat} {t:TypeId} {c:Value} {y:DataW H × List MemPlace} (ht : Tryz.prog.underlying t=some .string) (h:DataW.trod enc Tryz.prog W base spare held n t [c]=some y):∃ s:ByteArray,c=.string s∧y=(.lit (.string s.data.toList),[])∧s.size≤maxLen:=by
 obtain ⟨s,h1,hx,hs⟩:=DataW.trod_string ht h;simp at h1;exact ⟨s,h1,hx,hs⟩
end
set_option maxRecDepth 100000
open Go.Deep
section
variable {H:Type} {enc:TypeId × Value→H} {W:World} {base:Nat} {spare:Nat→Bool} {held:Bool}
theorem b5e : Tryz.prog.cellsOf 30=19:=by kernel_rfl
theorem b1g : Tryz.prog.cellsOf 26=3:=by kernel_rfl
theorem b5f {α:Type} {l:List α} (h:l.length=3):∃ a b c,l=[a,b,c]:=by
 match l,h with
 | [a,b,c],_ => exact ⟨a,b,c,rfl⟩
theorem b1h {n:Nat} {cs:List Value} {y:DataW H × List MemPlace} (h:DataW.trod enc Tryz.prog W base spare held n 28 cs=some y):∃ r:Rf,cs=[.string r.sh,.int .i64 r.c,.int .i64 r.r,.bool r.fc,.bool r.fr]:=by
 obtain ⟨xs,n,_,hx,hl,hlen,hg⟩:=DataW.trod_struct Tryz.underlying28 h;obtain ⟨c0,c1,c2,c3,c4,rfl⟩:=b8n (l:=cs) (hl.trans b1f);obtain ⟨y0,y1,y2,y3,y4,rfl⟩:=b8n (l:=xs) hlen;have k1 : Tryz.prog.cellsOf 9=1:=by kernel_rfl
 have k2 : Tryz.prog.cellsOf 3=1:=by kernel_rfl
 have k3 : Tryz.prog.cellsOf 4=1:=by kernel_rfl
 have g0:=hg 0 _ rfl;have g1:=hg 1 _ rfl;have g2:=hg 2 _ rfl;have g3:=hg 3 _ rfl;have g4:=hg 4 _ rfl;simp [k1,k2,k3] at g0 g1 g2 g3 g4;obtain ⟨s,rfl,_,_⟩:=a2l Tryz.underlying9 g0;obtain ⟨a,rfl,_,_⟩:=a1u Tryz.underlying3 g1;obtain ⟨b,rfl,_,_⟩:=a1u Tryz.underlying3 g2;obtain ⟨x,rfl,_⟩:=a3d Tryz.underlying4 g3;obtain ⟨z,rfl,_⟩:=a3d Tryz.underlying4 g4;exact ⟨⟨s,a,b,x,z⟩,rfl⟩
theorem b8o {n:Nat} {cs:List Value} {y:DataW H × List MemPlace} (h:DataW.trod enc Tryz.prog W base spare held n 26 cs=some y):∃ (b:Bool) (s t:ByteArray),cs=[.bool b,.string s,.string t]:=by
 obtain ⟨xs,n,_,hx,hl,hlen,hg⟩:=DataW.trod_struct Tryz.underlying26 h;obtain ⟨c0,c1,c2,rfl⟩:=b5f (l:=cs) (hl.trans b1g);obtain ⟨y0,y1,y2,rfl⟩:=b5f (l:=xs) hlen;have k1 : Tryz.prog.cellsOf 9=1:=by kernel_rfl
 have k3 : Tryz.prog.cellsOf 4=1:=by kernel_rfl
 have g0:=hg 0 _ rfl;have g1:=hg 1 _ rfl;have g2:=hg 2 _ rfl;simp [k1,k3] at g0 g1 g2;obtain ⟨b,rfl,_⟩:=a3d Tryz.underlying4 g0;obtain ⟨s,rfl,_,_⟩:=a2l Tryz.underlying9 g1;obtain ⟨t,rfl,_,_⟩:=a2l Tryz.underlying9 g2;exact ⟨b,s,t,rfl⟩
theorem b3m {α:Type} {l:List α} (h:l.length=19):∃ a0 a1 a2 a3 a4 a5 a6 a7 a8 a9 a10 a11 a12 a13 a14 a15 a16 a17 a18,l=[a0,a1,a2,a3,a4,a5,a6,a7,a8,a9,a10,a11,a12,a13,a14,a15,a16,a17,a18]:=by
 match l,h with
 | [a0,a1,a2,a3,a4,a5,a6,a7,a8,a9,a10,a11,a12,a13,a14,a15,a16,a17,a18],_ => exact ⟨a0,a1,a2,a3,a4,a5,a6,a7,a8,a9,a10,a11,a12,a13,a14,a15,a16,a17,a18,rfl⟩
theorem c5c {α:Type} {l:List α} (h:l.length=9):∃ a0 a1 a2 a3 a4 a5 a6 a7 a8,l=[a0,a1,a2,a3,a4,a5,a6,a7,a8]:=by
 match l,h with
 | [a0,a1,a2,a3,a4,a5,a6,a7,a8],_ => exact ⟨a0,a1,a2,a3,a4,a5,a6,a7,a8,rfl⟩
theorem b6m {n:Nat} {cs:List Value} {y:DataW H × List MemPlace} (h:DataW.trod enc Tryz.prog W base spare held n 30 cs=some y):∃ m:Nd,cs=ndL m:=by
 obtain ⟨xs,n,_,hx,hl,hlen,hg⟩:=DataW.trod_struct Tryz.underlying30 h;obtain ⟨c0,c1,c2,c3,c4,c5,c6,c7,c8,c9,c10,c11,c12,c13,c14,c15,c16,c17,c18,rfl⟩:=b3m (l:=cs) (hl.trans b5e);obtain ⟨y0,y1,y2,y3,y4,y5,y6,y7,y8,rfl⟩:=c5c (l:=xs) hlen;have k1 : Tryz.prog.cellsOf 9=1:=by kernel_rfl
 have k2 : Tryz.prog.cellsOf 3=1:=by kernel_rfl
 have k3 : Tryz.prog.cellsOf 4=1:=by kernel_rfl
 have g0:=hg 0 _ rfl;have g1:=hg 1 _ rfl;have g2:=hg 2 _ rfl;have g3:=hg 3 _ rfl;have g4:=hg 4 _ rfl;have g5:=hg 5 _ rfl;have g6:=hg 6 _ rfl;have g7:=hg 7 _ rfl;have g8:=hg 8 _ rfl;simp [k1,k2,k3,b1g,b1f] at g0 g1 g2 g3 g4 g5 g6 g7 g8;obtain ⟨z0,rfl,_,_⟩:=a1u Tryz.underlying3 g0;obtain ⟨z1,rfl,_,_⟩:=a1u Tryz.underlying3 g1;obtain ⟨z2,rfl,_,_⟩:=a1u Tryz.underlying3 g2;obtain ⟨z3,rfl,_,_⟩:=a1u Tryz.underlying3 g3;obtain ⟨qn,qa,qd,hq⟩:=b8o g4;obtain ⟨s,rfl,_,_⟩:=a2l Tryz.underlying9 g5;obtain ⟨tr,rfl,_⟩:=a3d Tryz.underlying4 g6;obtain ⟨r,hr⟩:=b1h g7;obtain ⟨t,ht⟩:=b1h g8;simp only [List.cons.injEq,and_true] at hq hr ht;obtain ⟨rfl,rfl,rfl⟩:=hq;obtain ⟨rfl,rfl,rfl,rfl,rfl⟩:=hr;obtain ⟨rfl,rfl,rfl,rfl,rfl⟩:=ht;exact ⟨⟨z0,z1,z2,z3,qn,qa,qd,s,tr,r,t⟩,rfl⟩
instance:Inhabited Nd:=⟨⟨0,0,0,0,false,⟨#[]⟩,⟨#[]⟩,⟨#[]⟩,false,rf0,rf0⟩⟩
theorem a6r {r:Reach} {b0:Nat} {t e:TypeId} {a:Addr} {len cap:Nat} (ht : Tryz.prog.underlying t=some (.slice e)) (h:Cell.okWide Tryz.prog W r b0 t (.slice (some a) len cap)):a.spot=none:=by
 simp only [Cell.okWide,ht,Cell.ok] at h;exact h.2.2.2.1
theorem b8p {a:Addr} (h:a.spot=none):a=⟨a.block,a.off,none⟩:=by
 obtain ⟨b,o,s⟩:=a;dsimp only at h;subst h;rfl
end
theorem c2p {W : World} {d : List (DataW Unit)} (hd : d = (List.range 8).map fun i => .lit (.string (c2o i).data.toList)) (h : Lib.VarReads Tryz.prog W "abacist/value.names" (.agg d)) : NamesAt W := by
 obtain ⟨g,t,cs,fuel,p,hg,ht,hv,htr⟩:=h
 obtain rfl : 0 = g := Option.some.inj ((show Tryz.prog.globalNamed "abacist/value.names" = some 0 by kernel_rfl).symm.trans hg)
 obtain rfl : 102=t:=Option.some.inj ((show (Tryz.prog.globals[0]?).map (·.type)=some 102 by kernel_rfl).symm.trans ht);have k1 : Tryz.prog.cellsOf 9=1:=by kernel_rfl
 have hgn : Tryz.prog.globalNamed "abacist/value.names" = some 0 := by kernel_rfl
 simp only [World.var?,hgn,Option.bind_some] at hv
 cases hh:W.heap[0]? with
 | none => rw [hh] at hv;cases hv
 | some o =>
  rw [hh] at hv;have hlt:0 < W.heap.size:=(Array.getElem?_eq_some_iff.1 hh).1
  cases o with
  | cells row ty fr =>
   obtain rfl:row=cs:=by simpa using hv
   refine ⟨hlt,fun j hj => ?_⟩
   obtain ⟨fuel',dj,q,hdj,htj⟩:=Lib.array_elem Tryz.underlying102 htr j hj;rw [k1,Nat.mul_one] at htj;obtain ⟨s,hs,hx,_⟩:=DataW.trod_string Tryz.underlying9 htj;rw [hd,List.getElem?_map,List.getElem?_range hj] at hdj;have hdd:(DataW.lit (.string (c2o j).data.toList):DataW Unit)=dj:=by simpa using hdj
   have hsb:s.data.toList=(c2o j).data.toList:=by
    rw [← hdd] at hx;simp at hx;rw [← hx.1]
   have hse:s=c2o j:=by
    cases s with
    | mk sd =>
     cases hf:c2o j with
     | mk fd =>
      rw [hf] at hsb
      congr 1
      exact Array.toList_inj.1 hsb
   rw [cell_of_row W 0 j row ty fr hh]
   have h4:row.toList[j]?=some (.string s):=by
    have:=congrArg (·[0]?) hs;simpa [List.getElem?_take,List.getElem?_drop] using this
   rw [← hse];simpa using h4
  | _ => simp at hv
open Go.Shelf
structure Ac where
 k:Int
 n:Nd
 o:Int
 s:ByteArray
 c:Int
abbrev acL (a:Ac):List Value:=[.int .i64 a.k,.int .i64 a.n.k,.int .i64 a.n.o,.int .i64 a.n.a,.int .i64 a.n.b,.bool a.n.qn,.string a.n.qa,.string a.n.qd,.string a.n.s,.bool a.n.tr,.string a.n.r.sh,.int .i64 a.n.r.c,.int .i64 a.n.r.r,.bool a.n.r.fc,.bool a.n.r.fr,.string a.n.t.sh,.int .i64 a.n.t.c,.int .i64 a.n.t.r,.bool a.n.t.fc,.bool a.n.t.fr,.int .i64 a.o,.string a.s,.int .i64 a.c]
def ActsAt (W:World) (v:Value) (N:List Ac):Prop :=
 (v=.slice none 0 0∧N=[]) ∨ ∃ g o cap:Nat,v=.slice (some ⟨g,o,none⟩) N.length cap∧N.length≤cap∧cap≤maxLen ∧
  ∀ (k:Nat) (n:Ac),N[k]?=some n→∀ j u,(acL n)[j]?=some u→W.cell? ⟨g,o+k * 23+j,none⟩=some u
theorem ActsAt.below {W W':World} {v:Value} {N:List Ac} (h:ActsAt W v N) (hb:Below W.heap.size W W'):ActsAt W' v N:=by
 rcases h with h | ⟨g,o,cap,hv,h1,h2,hc⟩
 ·
  exact Or.inl h
 ·
  exact Or.inr ⟨g,o,cap,hv,h1,h2,fun k n hk j u hu => a0f hb (hc k n hk j u hu) (a0j (hc k n hk j u hu))⟩
def d3v (a:Ac):Prop:=a.n.s.data.size≤500∧a.s.data.size≤100∧a.n.r.sh.data.size≤100∧a.n.t.sh.data.size≤100∧a.n.qa.data.size≤100∧a.n.qd.data.size≤100
instance (a:Ac):Decidable (d3v a):=by unfold d3v;infer_instance
section
variable {H:Type} {enc:TypeId × Value→H} {W:World} {base:Nat} {spare:Nat→Bool} {held:Bool}
theorem d2x : Tryz.prog.cellsOf 32=23:=by kernel_rfl
theorem d2p {α:Type} {l:List α} (h:l.length=23):∃ a0 a1 a2 a3 a4 a5 a6 a7 a8 a9 a10 a11 a12 a13 a14 a15 a16 a17 a18 a19 a20 a21 a22,l=[a0,a1,a2,a3,a4,a5,a6,a7,a8,a9,a10,a11,a12,a13,a14,a15,a16,a17,a18,a19,a20,a21,a22]:=by
 match l,h with
 | [a0,a1,a2,a3,a4,a5,a6,a7,a8,a9,a10,a11,a12,a13,a14,a15,a16,a17,a18,a19,a20,a21,a22],_ => exact ⟨a0,a1,a2,a3,a4,a5,a6,a7,a8,a9,a10,a11,a12,a13,a14,a15,a16,a17,a18,a19,a20,a21,a22,rfl⟩
theorem d5y {α:Type} {l:List α} (h:l.length=5):∃ a b c d e,l=[a,b,c,d,e]:=by
 match l,h with
 | [a,b,c,d,e],_ => exact ⟨a,b,c,d,e,rfl⟩
theorem d3w {n:Nat} {cs:List Value} {y:DataW H × List MemPlace} (h:DataW.trod enc Tryz.prog W base spare held n 32 cs=some y):∃ m:Ac,cs=acL m:=by
 obtain ⟨xs,n,_,hx,hl,hlen,hg⟩:=DataW.trod_struct Tryz.underlying32 h;obtain ⟨c0,c1,c2,c3,c4,c5,c6,c7,c8,c9,c10,c11,c12,c13,c14,c15,c16,c17,c18,c19,c20,c21,c22,rfl⟩:=d2p (l:=cs) (hl.trans d2x);obtain ⟨y0,y1,y2,y3,y4,rfl⟩:=d5y (l:=xs) hlen;have k1 : Tryz.prog.cellsOf 9=1:=by kernel_rfl
 have k2 : Tryz.prog.cellsOf 3=1:=by kernel_rfl
 have g0:=hg 0 _ rfl;have g1:=hg 1 _ rfl;have g2:=hg 2 _ rfl;have g3:=hg 3 _ rfl;have g4:=hg 4 _ rfl;simp [k1,k2,b5e] at g0 g1 g2 g3 g4;obtain ⟨z0,rfl,_,_⟩:=a1u Tryz.underlying3 g0;obtain ⟨m,hm⟩:=b6m g1;obtain ⟨z2,rfl,_,_⟩:=a1u Tryz.underlying3 g2;obtain ⟨s,rfl,_,_⟩:=a2l Tryz.underlying9 g3;obtain ⟨z4,rfl,_,_⟩:=a1u Tryz.underlying3 g4;simp only [ndL,List.cons.injEq,and_true] at hm;obtain ⟨rfl,rfl,rfl,rfl,rfl,rfl,rfl,rfl,rfl,rfl,rfl,rfl,rfl,rfl,rfl,rfl,rfl,rfl,rfl⟩:=hm;exact ⟨⟨z0,m,z2,s,z4⟩,rfl⟩
instance:Inhabited Ac:=⟨⟨0,default,0,⟨#[]⟩,0⟩⟩
theorem d3x {r:Reach} {b0 fuel:Nat} {c:Value} {x:DataW H × List MemPlace} (hv:Cell.okWide Tryz.prog W r b0 22 c) (h:DataW.trod enc Tryz.prog W base spare held fuel 22 [c]=some x):∃ N,ActsAt W c N:=by
 rcases open_slice Tryz.underlying22 h with ⟨hc,_⟩ | ⟨a,len,cap,m,n,D,Pl,hc,_,h1,h2,hm,_,hx⟩
 ·
  obtain rfl:c=.slice none 0 0:=by simpa using hc
  exact ⟨[],Or.inl ⟨rfl,rfl⟩⟩
 ·
  obtain rfl:c=.slice (some a) len cap:=by simpa using hc
  have hs:=b8p (a6r Tryz.underlying22 hv);obtain ⟨g,o,hg,ho⟩:∃ g o,g=a.block∧o=a.off:=⟨_,_,rfl,rfl⟩;rw [← hg,← ho] at hs;subst hs;have hlm:len≤m:=by rw [hm];split <;> omega
  obtain ⟨F,hF⟩:=choose_lt (α:=Ac) (n:=len) (p:=fun i nd => ∀ j u,(acL nd)[j]?=some u→W.cell? ⟨g,o+i * 23+j,none⟩=some u) (fun i hi => by
   obtain ⟨cs',hc1,hc2⟩:=hx i (by omega);obtain ⟨nd,rfl⟩:=d3w hc2;refine ⟨nd,fun j u hu => ?_⟩
   rw [d2x] at hc1;obtain ⟨_,_,hcell⟩:=World.cells?_some hc1;have hj:j < 23:=(List.getElem?_eq_some_iff.1 hu).1;have h3:=hcell j hj;rw [hu,Addr.add_lit,Addr.add_lit] at h3
   exact h3)
  have hlen:((List.range len).map F).length=len:=by simp
  refine ⟨(List.range len).map F,Or.inr ⟨g,o,cap,by rw [hlen],by rw [hlen];exact h1,h2,fun k nd hk => ?_⟩⟩
  rw [List.getElem?_map] at hk
  have hkl:k < len:=by
   by_cases hlt:k < len
   ·
    exact hlt
   ·
    rw [List.getElem?_eq_none (by simp;omega)] at hk;cases hk
  rw [List.getElem?_range hkl] at hk;obtain rfl:F k=nd:=by simpa using hk
  exact hF k hkl
end
theorem d3y {H:Type} {enc:TypeId × Value→H} {W:World} {base:Nat} {spare:Nat→Bool} {held:Bool} {r:Reach} {b0:Nat} {v:Value} {d:DataW H} {p:List MemPlace} (hv:Value.okWide Tryz.prog W r b0 22 v) (h:DataW.Trod enc Tryz.prog W base spare held 22 v d p):∃ N,ActsAt W v N:=by
 have hv2:=hv;simp only [Value.okWide,Tryz.underlying22] at hv2;obtain ⟨fuel,hf⟩:=h
 have hc:v.cells.toList=[v]:=by
  cases v <;> first | rfl | (exfalso;simp [Cell.okWide,Cell.ok,Tryz.underlying22] at hv2)
 rw [hc] at hf;exact d3x hv2 hf
end Go.Proofs.YtjfkbeanbbeloaaGreatDoor
