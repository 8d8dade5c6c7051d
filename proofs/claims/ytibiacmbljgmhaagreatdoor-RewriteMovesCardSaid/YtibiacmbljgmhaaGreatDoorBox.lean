import Derived.Test.YtibiacmbljgmhaaGreatDoorMul
import Derived.Deep.RegionHeld3
import Derived.Lib.SliceRun
import Derived.Shelf.SlicesQ.Load
import Derived.KernelRfl
namespace Go.Proofs.YtibiacmbljgmhaaGreatDoor
open Go.RowKit Go.Shelf
set_option linter.all false
theorem a0k {W w1:World} (hb:Bl W w1):(∀ b o,b<W.heap.size->w1.cell? ⟨b,o,none⟩=W.cell? ⟨b,o,none⟩)/\(∀ b o,b<W.heap.size->w1.frozen? ⟨b,o,none⟩=W.frozen? ⟨b,o,none⟩) :=
 ⟨fun b o h=>hb.cell (p:=⟨b,o,none⟩) h,fun b o h=>hb.frozen (p:=⟨b,o,none⟩) h⟩
theorem alK {W:World} {o:Obj} {a:Addr} {v:Value} (h:W.cell? a=some v):(W.alloc o).cell? a=some v:=by rw[World.cell?_alloc_some _ _ _ (by rw[h];rfl),h]
theorem alZ {W:World} {o:Obj} {b:Nat} (z:b<W.heap.size):b<(W.alloc o).heap.size:=by simp;omega
theorem alF {W:World} {o:Obj} {b j:Nat} (z:b<W.heap.size) (h:W.frozen? ⟨b,j,none⟩=false):(W.alloc o).frozen? ⟨b,j,none⟩=false:=by simp[go_sem,z,h]
theorem stK {W:World} {p:Addr} {b o:Nat} {u v:Value} (h:W.cell? ⟨b,o,none⟩=some v) (hp:p.block≠b):(W.setCell p u).cell? ⟨b,o,none⟩=some v:=by rw[World.cell?_setCell_far _ _ _ _ hp,h]
theorem a0f {a w:World} {p:Addr} {v:Value} (hb:Bl a w) (h:a.cell? p=some v) (z:p.block<a.heap.size):w.cell? p=some v:=(hb.cell z).trans h
theorem a0g {a w:World} {p:Addr} {v:Bool} (hb:Bl a w) (h:a.frozen? p=v) (z:p.block<a.heap.size):w.frozen? p=v:=(hb.frozen z).trans h
theorem b5w {P:Program} {f:FuncId} {args:Array Value} {w:World} {r:Ending} (h:Calls P f args w fun e w'=>e=r/\w=w'):Calls P f args w fun e w'=>e=r/\Bl w w' :=
 h.mono fun _ _ ⟨he,hw⟩=>⟨he,hw ▸ Below.refl _ _⟩
theorem b5x {P:Program} {f:FuncId} {args:Array Value} {w:World} {r:Ending} (h:Calls P f args w fun e w'=>e=r/\w'=w):Calls P f args w fun e w'=>e=r/\Bl w w' :=
 h.mono fun _ _ ⟨he,hw⟩=>⟨he,hw ▸ Below.refl _ _⟩
theorem a0b {W:World} {o:Obj} {a:Addr} {v:Value} (h:W.cell? a=some v):(W.alloc o).cell? a=some v:=by rw[World.cell?_alloc_some _ _ _ (by rw[h];rfl),h]
theorem a0i {s W:World} {o:Obj} (h:Bl s W):Bl s (W.alloc o):=h.alloc h.size o
theorem c0x {s W:World} {p:Addr} {v:Value} (h:Bl s W) (hp:s.heap.size<=p.block):Bl s (W.setCell p v):=h.setCell hp v
theorem a0e {W:World} {p:Addr} {b o:Nat} {u v:Value} (h:W.cell? ⟨b,o,none⟩=some v) (hp:p.block≠b):(W.setCell p u).cell? ⟨b,o,none⟩=some v:=by rw[World.cell?_setCell_far _ _ _ _ hp,h]
theorem a0x {W:World} {a:Addr} {v:Value} (h:W.cell? a=some v):W.drew.cell? a=some v:=h
theorem bx0 {s W:World} {l:List Value} {t:TypeId} {b:Nat} (h:s=W.alloc (.cells l.toArray t)) (hb:b=W.heap.size):∀ j u,l[j]?=some u->s.cell? ⟨b,j,none⟩=some u:=fun j u hu=>by
 subst h hb;have hh:(W.alloc (.cells l.toArray t)).heap[W.heap.size]?=some (.cells l.toArray t):=by rw[<-World.alloc_eq];show (W.heap.push _)[W.heap.size]?=_;simp
 unfold World.cell?;rw[hh];simpa using hu
theorem bx1 {s W:World} {l:List Value} {t:TypeId} {b:Nat} {o:Obj} (h:s=(W.alloc (.cells l.toArray t)).alloc o) (hb:b=W.heap.size):∀ j u,l[j]?=some u->s.cell? ⟨b,j,none⟩=some u:=fun j u hu=>by rw[h];exact alK (bx0 rfl hb j u hu)
theorem bx2 {s W:World} {l:List Value} {t:TypeId} {b:Nat} {o o2:Obj} (h:s=((W.alloc (.cells l.toArray t)).alloc o).alloc o2) (hb:b=W.heap.size):∀ j u,l[j]?=some u->s.cell? ⟨b,j,none⟩=some u:=fun j u hu=>by rw[h];exact alK (bx1 rfl hb j u hu)
theorem bf0 {s W:World} {cs:Array Value} {t:TypeId} {b:Nat} (h:s=W.alloc (.cells cs t)) (hb:b=W.heap.size):∀ j,s.frozen? ⟨b,j,none⟩=false:=fun j=>by subst h hb;simp[go_sem]
theorem bf1 {s W:World} {cs:Array Value} {t:TypeId} {b:Nat} {o:Obj} (h:s=(W.alloc (.cells cs t)).alloc o) (hb:b=W.heap.size):∀ j,s.frozen? ⟨b,j,none⟩=false:=fun j=>by rw[h];exact alF (by rw[hb];simp) (bf0 rfl hb j)
theorem bf2 {s W:World} {cs:Array Value} {t:TypeId} {b:Nat} {o o2:Obj} (h:s=((W.alloc (.cells cs t)).alloc o).alloc o2) (hb:b=W.heap.size):∀ j,s.frozen? ⟨b,j,none⟩=false:=fun j=>by rw[h];exact alF (by rw[hb];simp;omega) (bf1 rfl hb j)
theorem bf3 {s W:World} {cs:Array Value} {t:TypeId} {b:Nat} {o o2 o3:Obj} (h:s=(((W.alloc (.cells cs t)).alloc o).alloc o2).alloc o3) (hb:b=W.heap.size):∀ j,s.frozen? ⟨b,j,none⟩=false:=fun j=>by rw[h];exact alF (by rw[hb];simp;omega) (bf2 rfl hb j)
theorem stS {W:World} {b o:Nat} {u v:Value} (h:W.cell? ⟨b,o,none⟩=some u):(W.setCell ⟨b,o,none⟩ v).cell? ⟨b,o,none⟩=some v:=by simp[go_sem,h]
theorem stO {W:World} {b o o':Nat} {u v:Value} (h:W.cell? ⟨b,o,none⟩=some u) (ho:o'≠o):(W.setCell ⟨b,o',none⟩ v).cell? ⟨b,o,none⟩=some u:=by rw[<-h];simp[go_sem,ho]
theorem eqA {W:World} {o:Obj} {b:Nat} {l:List Value} (y:∀ j,W.cell? ⟨b,j,none⟩=l[j]?) (z:b<W.heap.size):∀ j,(W.alloc o).cell? ⟨b,j,none⟩=l[j]?:=fun j=>((a0i bR).cell (p:=⟨b,j,none⟩) z).trans (y j)
theorem eqB {W W1:World} {b:Nat} {l:List Value} (hb:Bl W W1) (y:∀ j,W.cell? ⟨b,j,none⟩=l[j]?) (z:b<W.heap.size):∀ j,W1.cell? ⟨b,j,none⟩=l[j]?:=fun j=>(hb.cell (p:=⟨b,j,none⟩) z).trans (y j)
theorem eqS {W:World} {p:Addr} {v:Value} {b:Nat} {l:List Value} (y:∀ j,W.cell? ⟨b,j,none⟩=l[j]?) (h:p.block≠b):∀ j,(W.setCell p v).cell? ⟨b,j,none⟩=l[j]?:=fun j=>(World.cell?_setCell_far _ _ _ _ h).trans (y j)
theorem eqI {W:World} {i:Nat} {v:Value} {b:Nat} {l:List Value} (y:∀ j,W.cell? ⟨b,j,none⟩=l[j]?) (h:i<l.length):∀ j,(W.setCell ⟨b,i,none⟩ v).cell? ⟨b,j,none⟩=(l.set i v)[j]?:=fun j=>by
 by_cases e:i=j
 ·
  subst e;have hu:=y i;rw[jH h] at hu;rw[stS hu];simp[h]
 ·
  rw[List.getElem?_set_ne e,<-y j]
  cases hc:W.cell? ⟨b,j,none⟩ with
  | some u=>rw[stO hc e]
  | none=>simp[go_sem,e,hc]
theorem eqE {s W:World} {b:Nat} {l:List Value} (h:s=W) (y:∀ j,W.cell? ⟨b,j,none⟩=l[j]?):∀ j,s.cell? ⟨b,j,none⟩=l[j]?:=by subst h;exact y
theorem by0 {s W:World} {l:List Value} {t:TypeId} {b:Nat} (h:s=W.alloc (.cells l.toArray t)) (hb:b=W.heap.size):∀ j,s.cell? ⟨b,j,none⟩=l[j]?:=fun j=>by
 subst h hb;have hh:(W.alloc (.cells l.toArray t)).heap[W.heap.size]?=some (.cells l.toArray t):=by rw[<-World.alloc_eq];show (W.heap.push _)[W.heap.size]?=_;simp
 unfold World.cell?;rw[hh];simp
theorem by1 {s W:World} {l:List Value} {t:TypeId} {b:Nat} {o:Obj} (h:s=(W.alloc (.cells l.toArray t)).alloc o) (hb:b=W.heap.size):∀ j,s.cell? ⟨b,j,none⟩=l[j]?:=eqE h (eqA (by0 rfl hb) (by rw[hb];simp))
theorem by2 {s W:World} {l:List Value} {t:TypeId} {b:Nat} {o o2:Obj} (h:s=((W.alloc (.cells l.toArray t)).alloc o).alloc o2) (hb:b=W.heap.size):∀ j,s.cell? ⟨b,j,none⟩=l[j]?:=eqE h (eqA (by1 rfl hb) (by rw[hb];simp;omega))
theorem by3 {s W:World} {l:List Value} {t:TypeId} {b:Nat} {o o2 o3:Obj} (h:s=(((W.alloc (.cells l.toArray t)).alloc o).alloc o2).alloc o3) (hb:b=W.heap.size):∀ j,s.cell? ⟨b,j,none⟩=l[j]?:=eqE h (eqA (by2 rfl hb) (by rw[hb];simp;omega))
theorem eqL {P:Program} {W:World} {b K n:Nat} {l:List Value} (hK:Hid (K=n)) (hl:l.length=n) (y:∀ j,W.cell? ⟨b,j,none⟩=l[j]?):Sem.run P (loadCellsFrom ⟨b,0,none⟩ 0 K #[]) W=.ok l.toArray W :=
 run_loadCellsFrom_list P W ⟨b,0,none⟩ l K (hl.trans hK.out.symm) (fun j v h=>by rw[Addr.add_lit,Nat.zero_add,y j];exact h)
theorem eqM {W:World} {b K:Nat} {l:List Value} (hK:Hid (K=l.length)) (y:∀ j,W.cell? ⟨b,j,none⟩=l[j]?):Sem.run Tryz.prog (loadCellsFrom ⟨b,0,none⟩ 0 K #[]) W=.ok l.toArray W:=eqL hK rfl y
theorem bs1 {w s W:World} {o:Obj} (hb:Bl w W) (h:s=W.alloc o):Bl w s:=by rw[h];exact a0i hb
theorem bs2 {w s W:World} {o p:Obj} (hb:Bl w W) (h:s=(W.alloc o).alloc p):Bl w s:=by rw[h];exact a0i (a0i hb)
theorem bs3 {w s W:World} {o p q:Obj} (hb:Bl w W) (h:s=((W.alloc o).alloc p).alloc q):Bl w s:=by rw[h];exact a0i (a0i (a0i hb))
theorem bs4 {w s W:World} {o p q r:Obj} (hb:Bl w W) (h:s=(((W.alloc o).alloc p).alloc q).alloc r):Bl w s:=by rw[h];exact a0i (a0i (a0i (a0i hb)))
theorem bHb {s W x:World} (hbx:Bl W x) (h:Bl s W:=by first | assumption | exact(Below.refl _ _).drew | exact Below.refl _ _ | (repeat (with_reducible first | assumption | exact Below.refl _ _ | apply a0i | apply Below.drew))):Bl s x:=bT h hbx
theorem bAn (s:World) {W x:World} (hbx:Bl W x) (h:Bl s W:=by first | assumption | exact(Below.refl _ _).drew | exact Below.refl _ _ | (repeat (with_reducible first | assumption | exact Below.refl _ _ | apply a0i | apply Below.drew))):Bl s x/\(∀ b o,b<s.heap.size->x.cell? ⟨b,o,none⟩=s.cell? ⟨b,o,none⟩)/\(∀ b o,b<s.heap.size->x.frozen? ⟨b,o,none⟩=s.frozen? ⟨b,o,none⟩):=⟨bT h hbx,a0k (bT h hbx)⟩
theorem zHl {a p:Nat} {w v:World} (h:Below a w v) (z:p<w.heap.size):p<v.heap.size:=jF z h.size
theorem kHp {w v:World} {S:World->Prop} (H:Hid (∀ x,Bl w x->S x)) (h:Bl w v:=by repeat (with_reducible first | assumption | exact Below.refl _ _ | apply a0i | apply Below.drew)):S v:=H.out _ h
theorem szH {a b c:Nat} (h:a=b) (z:c<b):c<a:=h ▸ z
theorem sc2 {a b:Nat} {s W:World} {v0 v1:Value} {j0 j1:Nat} (h:Below a s W) (l:a<=b):Below a s ((W.setCell ⟨b,j0,none⟩ v0).setCell ⟨b,j1,none⟩ v1):=(h.setCell l _).setCell l _
theorem sc3 {a b:Nat} {s W:World} {v0 v1 v2:Value} {j0 j1 j2:Nat} (h:Below a s W) (l:a<=b):Below a s (((W.setCell ⟨b,j0,none⟩ v0).setCell ⟨b,j1,none⟩ v1).setCell ⟨b,j2,none⟩ v2):=((h.setCell l _).setCell l _).setCell l _
theorem sc4 {a b:Nat} {s W:World} {v0 v1 v2 v3:Value} {j0 j1 j2 j3:Nat} (h:Below a s W) (l:a<=b):Below a s ((((W.setCell ⟨b,j0,none⟩ v0).setCell ⟨b,j1,none⟩ v1).setCell ⟨b,j2,none⟩ v2).setCell ⟨b,j3,none⟩ v3):=(((h.setCell l _).setCell l _).setCell l _).setCell l _
theorem sc5 {a b:Nat} {s W:World} {v0 v1 v2 v3 v4:Value} {j0 j1 j2 j3 j4:Nat} (h:Below a s W) (l:a<=b):Below a s (((((W.setCell ⟨b,j0,none⟩ v0).setCell ⟨b,j1,none⟩ v1).setCell ⟨b,j2,none⟩ v2).setCell ⟨b,j3,none⟩ v3).setCell ⟨b,j4,none⟩ v4):=((((h.setCell l _).setCell l _).setCell l _).setCell l _).setCell l _
theorem cAn {P:Program} {f:FuncId} {args:Array Value} {w:World} {r:Ending} {Q:Ending->World->Prop} (h:Calls P f args w fun e w'=>e=r/\Bl w w') (k:∀ w',Bl w w'->Q r w'):Calls P f args w Q:=h.mono fun _ _ ⟨he,hb⟩=>he ▸ k _ hb
theorem hUd:undef=Value.tuple #[]:=rfl
theorem hFF {w s:World} (h:Bl w s):Hid (∀ W,Bl s W->Bl w W):=zh fun W hW=>bT h hW
theorem f4s {w s x:World} (h:Bl w s) (hb:Bl s x):Bl w x:=bT h hb
theorem ss1 {s W:World} {p0:Addr} {v0:Value} (h:s=W.setCell p0 v0):s.heap.size=W.heap.size:=by rw[h];simp
theorem fz1 {s W:World} {p0:Addr} {v0:Value} (h:s=W.setCell p0 v0) {q:Addr} {x:Bool} (k:W.frozen? q=x):s.frozen? q=x:=by rw[h];simpa [go_sem] using k
theorem ss2 {s W:World} {p0:Addr} {v0:Value} {p1:Addr} {v1:Value} (h:s=(W.setCell p0 v0).setCell p1 v1):s.heap.size=W.heap.size:=by rw[h];simp
theorem fz2 {s W:World} {p0:Addr} {v0:Value} {p1:Addr} {v1:Value} (h:s=(W.setCell p0 v0).setCell p1 v1) {q:Addr} {x:Bool} (k:W.frozen? q=x):s.frozen? q=x:=by rw[h];simpa [go_sem] using k
theorem ss3 {s W:World} {p0:Addr} {v0:Value} {p1:Addr} {v1:Value} {p2:Addr} {v2:Value} (h:s=((W.setCell p0 v0).setCell p1 v1).setCell p2 v2):s.heap.size=W.heap.size:=by rw[h];simp
theorem fz3 {s W:World} {p0:Addr} {v0:Value} {p1:Addr} {v1:Value} {p2:Addr} {v2:Value} (h:s=((W.setCell p0 v0).setCell p1 v1).setCell p2 v2) {q:Addr} {x:Bool} (k:W.frozen? q=x):s.frozen? q=x:=by rw[h];simpa [go_sem] using k
theorem ss4 {s W:World} {p0:Addr} {v0:Value} {p1:Addr} {v1:Value} {p2:Addr} {v2:Value} {p3:Addr} {v3:Value} (h:s=(((W.setCell p0 v0).setCell p1 v1).setCell p2 v2).setCell p3 v3):s.heap.size=W.heap.size:=by rw[h];simp
theorem fz4 {s W:World} {p0:Addr} {v0:Value} {p1:Addr} {v1:Value} {p2:Addr} {v2:Value} {p3:Addr} {v3:Value} (h:s=(((W.setCell p0 v0).setCell p1 v1).setCell p2 v2).setCell p3 v3) {q:Addr} {x:Bool} (k:W.frozen? q=x):s.frozen? q=x:=by rw[h];simpa [go_sem] using k
theorem ss5 {s W:World} {p0:Addr} {v0:Value} {p1:Addr} {v1:Value} {p2:Addr} {v2:Value} {p3:Addr} {v3:Value} {p4:Addr} {v4:Value} (h:s=((((W.setCell p0 v0).setCell p1 v1).setCell p2 v2).setCell p3 v3).setCell p4 v4):s.heap.size=W.heap.size:=by rw[h];simp
theorem fz5 {s W:World} {p0:Addr} {v0:Value} {p1:Addr} {v1:Value} {p2:Addr} {v2:Value} {p3:Addr} {v3:Value} {p4:Addr} {v4:Value} (h:s=((((W.setCell p0 v0).setCell p1 v1).setCell p2 v2).setCell p3 v3).setCell p4 v4) {q:Addr} {x:Bool} (k:W.frozen? q=x):s.frozen? q=x:=by rw[h];simpa [go_sem] using k
theorem ss6 {s W:World} {p0:Addr} {v0:Value} {p1:Addr} {v1:Value} {p2:Addr} {v2:Value} {p3:Addr} {v3:Value} {p4:Addr} {v4:Value} {p5:Addr} {v5:Value} (h:s=(((((W.setCell p0 v0).setCell p1 v1).setCell p2 v2).setCell p3 v3).setCell p4 v4).setCell p5 v5):s.heap.size=W.heap.size:=by rw[h];simp
theorem fz6 {s W:World} {p0:Addr} {v0:Value} {p1:Addr} {v1:Value} {p2:Addr} {v2:Value} {p3:Addr} {v3:Value} {p4:Addr} {v4:Value} {p5:Addr} {v5:Value} (h:s=(((((W.setCell p0 v0).setCell p1 v1).setCell p2 v2).setCell p3 v3).setCell p4 v4).setCell p5 v5) {q:Addr} {x:Bool} (k:W.frozen? q=x):s.frozen? q=x:=by rw[h];simpa [go_sem] using k
theorem f4t {s W:World} {p0:Addr} {v0:Value} {p1:Addr} {v1:Value} {p2:Addr} {v2:Value} {p3:Addr} {v3:Value} {p4:Addr} {v4:Value} {p5:Addr} {v5:Value} {p6:Addr} {v6:Value} {p7:Addr} {v7:Value} {p8:Addr} {v8:Value} {p9:Addr} {v9:Value} (h:s=(((((((((W.setCell p0 v0).setCell p1 v1).setCell p2 v2).setCell p3 v3).setCell p4 v4).setCell p5 v5).setCell p6 v6).setCell p7 v7).setCell p8 v8).setCell p9 v9):s.heap.size=W.heap.size:=by rw[h];simp
theorem f4u {s W:World} {p0:Addr} {v0:Value} {p1:Addr} {v1:Value} {p2:Addr} {v2:Value} {p3:Addr} {v3:Value} {p4:Addr} {v4:Value} {p5:Addr} {v5:Value} {p6:Addr} {v6:Value} {p7:Addr} {v7:Value} {p8:Addr} {v8:Value} {p9:Addr} {v9:Value} (h:s=(((((((((W.setCell p0 v0).setCell p1 v1).setCell p2 v2).setCell p3 v3).setCell p4 v4).setCell p5 v5).setCell p6 v6).setCell p7 v7).setCell p8 v8).setCell p9 v9) {q:Addr} {x:Bool} (k:W.frozen? q=x):s.frozen? q=x:=by rw[h];simpa [go_sem] using k
theorem nm1 (W:World) (o1:Obj):∃ s b1,s=W.alloc o1/\b1=W.heap.size/\s.heap.size=W.heap.size+1/\b1<s.heap.size:=⟨_,_,rfl,rfl,by simp,by simp⟩
theorem up1 {s W:World} {o1:Obj} (h:s=W.alloc o1):Bl W s:=by rw[h];exact a0i (Below.refl _ _)
theorem nm2 (W:World) (o1 o2:Obj):∃ s b1 b2,s=(W.alloc o1).alloc o2/\b1=W.heap.size/\b2=W.heap.size+1/\s.heap.size=W.heap.size+1+1/\b1<s.heap.size/\b2<s.heap.size:=⟨_,_,_,rfl,rfl,rfl,by simp,by first | (simp;done) | (simp;omega),by simp⟩
theorem up2 {s W:World} {o1 o2:Obj} (h:s=(W.alloc o1).alloc o2):Bl W s:=by rw[h];exact a0i (a0i (Below.refl _ _))
theorem nm3 (W:World) (o1 o2 o3:Obj):∃ s b1 b2 b3,s=((W.alloc o1).alloc o2).alloc o3/\b1=W.heap.size/\b2=W.heap.size+1/\b3=W.heap.size+1+1/\s.heap.size=W.heap.size+1+1+1/\b1<s.heap.size/\b2<s.heap.size/\b3<s.heap.size:=⟨_,_,_,_,rfl,rfl,rfl,rfl,by simp,by first | (simp;done) | (simp;omega),by first | (simp;done) | (simp;omega),by simp⟩
theorem nm4 (W:World) (o1 o2 o3 o4:Obj):∃ s b1 b2 b3 b4,s=(((W.alloc o1).alloc o2).alloc o3).alloc o4/\b1=W.heap.size/\b2=W.heap.size+1/\b3=W.heap.size+1+1/\b4=W.heap.size+1+1+1/\s.heap.size=W.heap.size+1+1+1+1/\b1<s.heap.size/\b2<s.heap.size/\b3<s.heap.size/\b4<s.heap.size:=⟨_,_,_,_,_,rfl,rfl,rfl,rfl,rfl,by simp,by first | (simp;done) | (simp;omega),by first | (simp;done) | (simp;omega),by first | (simp;done) | (simp;omega),by simp⟩
theorem pz:(∀ (a:Act) (t:Nat) (v:Value),a.put (some t) v={ a with tmps:=a.tmps.setIfInBounds t v })/\(∀ (a:Act) (v:Value),a.put none v=a)/\(∀ (l:List Value) (i:Nat) (v:Value),l.toArray.setIfInBounds i v=(l.set i v).toArray)/\(∀ (x y:Value) (l:List Value),(x :: l).set 0 y=y :: l)/\(∀ (x y:Value) (l:List Value) (i:Nat),(x :: l).set (i+1) y=x :: l.set i y)/\(∀ (l:List Oper) (i:Nat) (h:i<l.toArray.size),l.toArray[i]=l[i]'(by simpa using h))/\(∀ (x:Oper) (l:List Oper) (i:Nat) (h:i+1<(x :: l).length),(x :: l)[i+1]=l[i]'(by simpa using h))/\(∀ (x:Oper) (l:List Oper) (h:0<(x :: l).length),(x :: l)[0]=x) :=
 ⟨fun _ _ _=>rfl,fun _ _=>rfl,fun _ _ _=>by simp,fun _ _ _=>rfl,fun _ _ _ _=>rfl,fun _ _ _=>rfl,fun _ _ _ _=>rfl,fun _ _ _=>rfl⟩
section
variable {P:Program} {ops:Array Oper} {Q:Exit->Act->World->Prop} {md:Region.Mode} {S:World->Prop}
theorem tk (i:Nat) {oi:Oper} {v:Value} {fuel:Nat} {listed L':Array Bool} {a a':Act} {w:World} (h:wpAnyH P md ops Q S fuel L' a' w) (hi:ops[i]?=some oi:=by rfl) (hs:Region.noSelect ops=true:=by kernel_rfl) (hf:Region.free md ops listed i=true:=by kernel_rfl) (hr:(Region.ready md ops listed).contains i=true:=by kernel_rfl)
  (hy:YieldsIf P ops S oi v a:=by exact Or.inl ⟨by rfl,by (intro w hSw;(try dsimp only at hSw);go_simp;first | done | with_reducible rfl)⟩) (hQ:∀ c a w,Q (.panic c) (a.put oi.dst v) w->Q (.panic c) a w:=by exact fun _ _ _ h=>h) (hS:S w:=by assumption)
  (hL:listed.setIfInBounds i true=L':=by ((try simp only[pz]);first | done | rfl)) (hA:a.put oi.dst v=a':=by ((try simp only[pz]);first | done | rfl)):wpAnyH P md ops Q S (fuel+1) listed a w:=by
 subst hL hA;exact wpAnyH_take hi hs hf hr hQ hy hS h
theorem tSk (i:Nat) {oi:Oper} {fuel:Nat} {listed L':Array Bool} {a a':Act} {w:World} (h:wpAnyH P md ops Q S fuel L' a' w) (hi:ops[i]?=some oi:=by rfl) (hs:Region.noSelect ops=true:=by kernel_rfl) (hf:Region.free md ops listed i=true:=by kernel_rfl) (hr:(Region.ready md ops listed).contains i=true:=by kernel_rfl)
  (hQ:∀ c a w,Q (.panic c) (a.put oi.dst undef) w->Q (.panic c) a w:=by exact fun _ _ _ h=>h) (hS:S w:=by assumption) (hy:YieldsIf P ops S oi undef a:=by exact Or.inr ⟨by rfl,rfl⟩)
  (hL:listed.setIfInBounds i true=L':=by ((try simp only[pz]);first | done | rfl)) (hA:a.put oi.dst undef=a':=by ((try simp only[pz]);first | done | rfl)):wpAnyH P md ops Q S (fuel+1) listed a w:=by
 subst hL hA;exact wpAnyH_take hi hs hf hr hQ hy hS h
theorem wrp {id:Nat} {a:Act} {w:World} (hm:P.follows .mixedOrders=true) (hk:∀ w',Bl w w'->S w') (h:Hid (∀ w',Bl w w'->S w')->S w.drew->wpAnyH P .any ops Q S ops.size (Array.replicate ops.size false) a w.drew):(Code.region id ops true).wp P Q a w :=
 wp_region_held_drew hm (hk _ (Below.refl _ _).drew) (h hk)
theorem rd1 (i:Nat) {o:Oper} {fuel:Nat} {listed:Array Bool} {a:Act} {w:World} (hr:Region.ready md ops listed=[i]) (ho:ops[i]?=some o)
  (h:∀ K':Act->World->Prop,Shut (∀ a w,S w->(S w->wpAnyH P md ops Q S fuel (listed.setIfInBounds i true) a w)->K' a w)->if Region.wanted o (yielded ops a.tmps)=true then Oper.wp P o a w K' Q else K' (a.put o.dst undef) w):wpAnyH P md ops Q S (fuel+1) listed a w :=
 wpAnyH_ready hr (by simp) (AllReadyH.cons ho h AllReadyH.nil)
end
theorem jX {P:Prop} (h:P:=by ((try dsimp only);((repeat' apply And.intro)<;>first | assumption | exact HLX.out _ (fun j x h=>by first | exact h | exact(hcx _ _ zX).trans h | exact a0b ((hcx _ _ zX).trans h) | exact a0a hgrow2 (a0b ((hcx _ _ zX).trans h)) HXD.out | exact a0e (a0a hgrow2 (a0b ((hcx _ _ zX).trans h)) HXD.out) (by dsimp only;omega)) | go_keep | (rw[hcx _ _ (by assumption)];assumption)))):P:=h
theorem jY {P:Prop} (h:P:=by obtain⟨hcx,hfx⟩:=a0k hx;((try dsimp only);((repeat' apply And.intro)<;>first | assumption | exact yA | exact eqL HK19 rfl (yA) | exact fun j=>(hcx A j (by assumption)).trans (yA j) | exact eqL HK19 rfl (fun j=>(hcx A j (by assumption)).trans (yA j)) | exact eqS yA (by dsimp only;omega) | exact eqL HK19 rfl (eqS yA (by dsimp only;omega)) | exact eqS (fun j=>(hcx A j (by assumption)).trans (yA j)) (by dsimp only;omega) | exact eqL HK19 rfl (eqS (fun j=>(hcx A j (by assumption)).trans (yA j)) (by dsimp only;omega)) | exact yB | exact eqL HK19 rfl (yB) | exact fun j=>(hcx B j (by assumption)).trans (yB j) | exact eqL HK19 rfl (fun j=>(hcx B j (by assumption)).trans (yB j)) | exact eqS yB (by dsimp only;omega) | exact eqL HK19 rfl (eqS yB (by dsimp only;omega)) | exact eqS (fun j=>(hcx B j (by assumption)).trans (yB j)) (by dsimp only;omega) | exact eqL HK19 rfl (eqS (fun j=>(hcx B j (by assumption)).trans (yB j)) (by dsimp only;omega)) | ((repeat (with_reducible first | apply a0b | apply a0x | refine a0e ?_ (by (try dsimp only);omega)))<;>first | assumption | (rw[hcx _ _ (by assumption)];assumption))))):P:=h
theorem jZ {P:Prop} (h:P:=by ((try dsimp only);((repeat' apply And.intro)<;>first | assumption | exact HLX.out _ yX | exact HLX.out _ (fun j=>yX j) | exact HLX.out _ (eqA yX zX) | exact HLX.out _ (eqG hgrow2 (eqA yX zX) (alZ zX) HXD.out) | exact HLX.out _ (eqS (eqG hgrow2 (eqA yX zX) (alZ zX) HXD.out) hRX) | go_keep | (rw[hcx _ _ (by assumption)];assumption)))):P:=h
theorem JA {P:Prop} (h:P:=by ((try dsimp only);((repeat' apply And.intro)<;>first | assumption| exact a0p _ _ _ HK19 m HQ5.out | exact a0p _ _ _ HK19 m (fun i u hu=>(hcx _ _ zN).trans (HQ5.out i u hu)) | exact a0o _ A HK19 kA0 kA1 kA2 kA3 kA4 kA5 kA6 kA7 kA8 kA9 kA10 kA11 kA12 kA13 kA14 kA15 kA16 kA17 kA18 | (refine a0o _ _ HK19 ?_ ?_ ?_ ?_ ?_ ?_ ?_ ?_ ?_ ?_ ?_ ?_ ?_ ?_ ?_ ?_ ?_ ?_ ?_<;>(rw[hcx _ _ (by assumption)];assumption)) | ((repeat (with_reducible first | apply a0b | apply a0x | refine a0e ?_ (by (try dsimp only);omega)))<;>first | assumption | (rw[hcx _ _ (by assumption)];assumption))))):P:=h
theorem JB {P:Prop} (h:P:=by ((try dsimp only);((repeat' apply And.intro)<;>first | assumption | exact q0 | go_keep | (rw[hcx _ _ (by assumption)];assumption)))):P:=h
theorem JC {P:Prop} (h:P:=by ((try dsimp only);((repeat' apply And.intro)<;>first | assumption | exact p2 | exact a0b (W:=wc) p2 | exact a0a hgrow1 (a0b (W:=wc) p2) HPR.out | exact a0h (a0a hgrow1 (a0b (W:=wc) p2) HPR.out) (by omega) | go_keep | (rw[hcx _ _ (by assumption)];assumption)))):P:=h
theorem JD {P:Prop} (h:P:=by ((try dsimp only);((repeat' apply And.intro)<;>first | assumption| exact a0p _ _ _ HK19 m HQ5.out | exact a0p _ _ _ HK19 m (fun i u hu=>(hcx _ _ zN).trans (HQ5.out i u hu)) | exact yX | exact eqL HK19 rfl (yX) | exact fun j=>(hcx X j (by assumption)).trans (yX j) | exact eqL HK19 rfl (fun j=>(hcx X j (by assumption)).trans (yX j)) | exact eqS yX (by dsimp only;omega) | exact eqL HK19 rfl (eqS yX (by dsimp only;omega)) | exact eqS (fun j=>(hcx X j (by assumption)).trans (yX j)) (by dsimp only;omega) | exact eqL HK19 rfl (eqS (fun j=>(hcx X j (by assumption)).trans (yX j)) (by dsimp only;omega)) | ((repeat (with_reducible first | apply a0b | apply a0x | refine a0e ?_ (by (try dsimp only);omega)))<;>first | assumption | (rw[hcx _ _ (by assumption)];assumption))))):P:=h
theorem JE {P:Prop} (h:P:=by ((try dsimp only);((repeat' apply And.intro)<;>first | assumption| exact q4 | exact q1 | exact a0o _ X HK19 kX0 kX1 kX2 kX3 kX4 kX5 kX6 kX7 kX8 kX9 kX10 kX11 kX12 kX13 kX14 kX15 kX16 kX17 kX18 | (refine a0o _ _ HK19 ?_ ?_ ?_ ?_ ?_ ?_ ?_ ?_ ?_ ?_ ?_ ?_ ?_ ?_ ?_ ?_ ?_ ?_ ?_<;>(rw[hcx _ _ (by assumption)];assumption)) | ((repeat (with_reducible first | apply a0b | apply a0x | refine a0e ?_ (by (try dsimp only);omega)))<;>first | assumption | (rw[hcx _ _ (by assumption)];assumption))))):P:=h
theorem JF {P:Prop} (h:P:=by ((try dsimp only);((repeat' apply And.intro)<;>first | assumption| exact q0 | exact q1 | exact a0o _ X HK19 kX0 kX1 kX2 kX3 kX4 kX5 kX6 kX7 kX8 kX9 kX10 kX11 kX12 kX13 kX14 kX15 kX16 kX17 kX18 | (refine a0o _ _ HK19 ?_ ?_ ?_ ?_ ?_ ?_ ?_ ?_ ?_ ?_ ?_ ?_ ?_ ?_ ?_ ?_ ?_ ?_ ?_<;>(rw[hcx _ _ (by assumption)];assumption)) | ((repeat (with_reducible first | apply a0b | apply a0x | refine a0e ?_ (by (try dsimp only);omega)))<;>first | assumption | (rw[hcx _ _ (by assumption)];assumption))))):P:=h
theorem JG {P:Prop} (h:P:=by obtain⟨hcx,hfx⟩:=a0k hx;((try dsimp only);(first | go_keep | ((repeat' apply And.intro)<;>first | assumption | exact yA | exact fun j=>(hcx A j (by assumption)).trans (yA j) | exact eqS yA (by dsimp only;omega) | exact eqS (fun j=>(hcx A j (by assumption)).trans (yA j)) (by dsimp only;omega) | go_keep | (rw[hcx _ _ (by assumption)];assumption))))):P:=h
theorem JH {P:Prop} (h:P:=by ((try dsimp only);((repeat' apply And.intro)<;>first | assumption | exact kX3 | exact a0e kX3 (by dsimp only;omega) | go_keep | (rw[hcx _ _ (by assumption)];assumption)))):P:=h
theorem JI {P:Prop} (h:P:=by ((try dsimp only);((repeat' apply And.intro)<;>first | assumption | exact kF0 | exact kG0 | exact a0p _ _ _ HK19 n HQN.out | exact a0p _ _ _ HK19 m HQM.out | go_keep | (rw[hcx _ _ (by assumption)];assumption)))):P:=h
theorem JJ {P:Prop} (h:P:=by ((try dsimp only);((repeat' apply And.intro)<;>first | assumption | exact kF1 | exact kG1 | exact q1 | exact q2 | go_keep | (rw[hcx _ _ (by assumption)];assumption)))):P:=h
theorem JK {P:Prop} (h:P:=by ((try dsimp only);((repeat' apply And.intro)<;>first | assumption | exact q0 | exact q1 | go_keep | (rw[hcx _ _ (by assumption)];assumption)))):P:=h
theorem JL {P:Prop} (h:P:=by ((try dsimp only);((repeat' apply And.intro)<;>first | assumption | exact q1 | go_keep | (rw[hcx _ _ (by assumption)];assumption)))):P:=h
theorem JM {P:Prop} (h:P:=by ((try dsimp only);(go_keep))):P:=h
theorem JN {P:Prop} (h:P:=by obtain⟨hcx,hfx⟩:=a0k hx;((try dsimp only);(go_keep))):P:=h
end Go.Proofs.YtibiacmbljgmhaaGreatDoor
