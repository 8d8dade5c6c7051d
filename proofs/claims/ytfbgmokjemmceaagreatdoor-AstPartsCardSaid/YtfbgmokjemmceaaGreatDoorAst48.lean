import Derived.Test.YtfbgmokjemmceaaGreatDoorAst45
namespace Go.Proofs.YtfbgmokjemmceaaGreatDoor
open Go.RowKit Go.Shelf
set_option linter.unusedSimpArgs false
set_option linter.unusedVariables false
def NdAt (W:World) (X:Nat) (n:Nd):Prop:=∀ j u,(ndL n)[j]?=some u→W.cell? ⟨X,j,none⟩=some u
theorem NdAt.set2 {W:World} {X:Nat} {n:Nd} (h:NdAt W X n) (hf:W.frozen? ⟨X,2,none⟩=false) (x:Int):NdAt (W.setCell ⟨X,2,none⟩ (.int .i64 x)) X { n with a:=x }:=by
 intro j u hu;by_cases e:j=2
 ·
  subst e;obtain rfl:Value.int .i64 x=u:=Option.some.inj hu;exact a0z (h 2 _ rfl) hf
 ·
  rw [show ndL { n with a:=x }=(ndL n).set 2 (.int .i64 x) from rfl,List.getElem?_set_ne (by omega)] at hu;exact a0h (h j u hu) (by omega)
theorem NdAt.set3 {W:World} {X:Nat} {n:Nd} (h:NdAt W X n) (hf:W.frozen? ⟨X,3,none⟩=false) (x:Int):NdAt (W.setCell ⟨X,3,none⟩ (.int .i64 x)) X { n with b:=x }:=by
 intro j u hu;by_cases e:j=3
 ·
  subst e;obtain rfl:Value.int .i64 x=u:=Option.some.inj hu;exact a0z (h 3 _ rfl) hf
 ·
  rw [show ndL { n with b:=x }=(ndL n).set 3 (.int .i64 x) from rfl,List.getElem?_set_ne (by omega)] at hu;exact a0h (h j u hu) (by omega)
theorem NdAt.load {W:World} {X K:Nat} {n:Nd} (hK:Hid (K=19)) (h:NdAt W X n):Sem.run Tryz.prog (loadCellsFrom ⟨X,0,none⟩ 0 K #[]) W=.ok #[.int .i64 n.k,.int .i64 n.o,.int .i64 n.a,.int .i64 n.b,.bool n.qn,.string n.qa,.string n.qd,.string n.s,.bool n.tr,.string n.r.sh,.int .i64 n.r.c,.int .i64 n.r.r,.bool n.r.fc,.bool n.r.fr,.string n.t.sh,.int .i64 n.t.c,.int .i64 n.t.r,.bool n.t.fc,.bool n.t.fr] W :=
 a0p W X 0 hK n (fun j u hu => by rw [Nat.zero_add];exact h j u hu)
theorem NdAt.of {W:World} {X:Nat} {n:Nd} (k0:W.cell? ⟨X,0,none⟩=some (.int .i64 n.k)) (k1:W.cell? ⟨X,1,none⟩=some (.int .i64 n.o)) (k2:W.cell? ⟨X,2,none⟩=some (.int .i64 n.a)) (k3:W.cell? ⟨X,3,none⟩=some (.int .i64 n.b)) (k4:W.cell? ⟨X,4,none⟩=some (.bool n.qn)) (k5:W.cell? ⟨X,5,none⟩=some (.string n.qa)) (k6:W.cell? ⟨X,6,none⟩=some (.string n.qd)) (k7:W.cell? ⟨X,7,none⟩=some (.string n.s)) (k8:W.cell? ⟨X,8,none⟩=some (.bool n.tr)) (k9:W.cell? ⟨X,9,none⟩=some (.string n.r.sh)) (k10:W.cell? ⟨X,10,none⟩=some (.int .i64 n.r.c)) (k11:W.cell? ⟨X,11,none⟩=some (.int .i64 n.r.r)) (k12:W.cell? ⟨X,12,none⟩=some (.bool n.r.fc)) (k13:W.cell? ⟨X,13,none⟩=some (.bool n.r.fr)) (k14:W.cell? ⟨X,14,none⟩=some (.string n.t.sh)) (k15:W.cell? ⟨X,15,none⟩=some (.int .i64 n.t.c)) (k16:W.cell? ⟨X,16,none⟩=some (.int .i64 n.t.r)) (k17:W.cell? ⟨X,17,none⟩=some (.bool n.t.fc)) (k18:W.cell? ⟨X,18,none⟩=some (.bool n.t.fr)):NdAt W X n:=by
 intro j u hu
 match j,hu with
 | 0,hu => exact k0.trans hu
 | 1,hu => exact k1.trans hu
 | 2,hu => exact k2.trans hu
 | 3,hu => exact k3.trans hu
 | 4,hu => exact k4.trans hu
 | 5,hu => exact k5.trans hu
 | 6,hu => exact k6.trans hu
 | 7,hu => exact k7.trans hu
 | 8,hu => exact k8.trans hu
 | 9,hu => exact k9.trans hu
 | 10,hu => exact k10.trans hu
 | 11,hu => exact k11.trans hu
 | 12,hu => exact k12.trans hu
 | 13,hu => exact k13.trans hu
 | 14,hu => exact k14.trans hu
 | 15,hu => exact k15.trans hu
 | 16,hu => exact k16.trans hu
 | 17,hu => exact k17.trans hu
 | 18,hu => exact k18.trans hu
theorem b0b (W:World) (b o:Nat) (x:Value):W.grownBy (W.setCell ⟨b,o,none⟩ x) (some b):=⟨by first | rfl | simp,by first | rfl | simp,by first | rfl | simp,by simp,fun k _ hk => heap_setCell (fun e => hk (by rw [e]))⟩
theorem b0c {W W0:World} {base base0 size n n0:Nat} {e e0:TypeId} {xs xs0:List Value} {v x:Value} {b o:Nat} (h:W.ownsRow base e size v n xs) (h0:W0.ownsRow base0 e0 size v n0 xs0) (hb:W0.heap.size≤b):(W.setCell ⟨b,o,none⟩ x).ownsRow base e size v n xs:=by
 refine h.kept (b0b W b o x) ?_
 cases hv:v.ownBlock with
 | none => exact Or.inl rfl
 | some g => exact Or.inr (fun e => by have:=(h0.lt g hv).2;have:g=b:=Option.some.inj e;omega)
theorem FAt.setNew {W W0:World} {P base:Nat} {N:List Nd} {A T:List Int} {u v t:Value} (h:FAt W P base N A T u v t) (h0:FAt W0 P base N A T u v t) {b o:Nat} {x:Value} (hb:W0.heap.size≤b):FAt (W.setCell ⟨b,o,none⟩ x) P base N A T u v t:=by
 have hz:=h0.pz;exact ⟨a0e h.c0 (by dsimp only;omega),a0e h.c1 (by dsimp only;omega),frz_set.trans h.f0,frz_set.trans h.f1,b0c h.ou h0.ou hb,b0c h.ov h0.ov hb,b0c h.ot h0.ot hb,h.uv,h.ut,h.vt,h.pb,by simpa using h.bw⟩
end Go.Proofs.YtfbgmokjemmceaaGreatDoor
