/-
  
  
  
  
-/
import Derived.Test.YtfbgmokjemmceaaGreatDoorAst20
namespace Go.Proofs.YtfbgmokjemmceaaGreatDoor
open Go.RowKit Go.Shelf
set_option linter.unusedSimpArgs false
set_option linter.unusedVariables false
theorem cell_one_new (w:World) (x:Value) (t:TypeId):∀ (j:Nat) u,[x][j]?=some u→(w.alloc (.cells #[x] t)).cell? ((⟨w.heap.size,0,none⟩:Addr).add j)=some u:=by
 intro j u hj
 match j,hj with
 | 0,hj => simp at hj;subst hj;simp [Addr.add,go_sem]
theorem a1g {W W':World} {base:Nat} {e:TypeId} {size:Nat} {v:Value} {n:Nat} {xs:List Value} (h:W.ownsRow base e size v n xs) (hb:Below W.heap.size W W'):W'.ownsRow base e size v n xs:=by
 refine ⟨h.1,?_⟩
 rcases h.2 with h2 | ⟨g,cap,cur,hv,hbase,hg,hrest⟩
 ·
  exact Or.inl h2
 ·
  exact Or.inr ⟨g,cap,cur,hv,hbase,(hb.block g (Array.getElem?_eq_some_iff.1 hg).1).trans hg,hrest⟩
theorem a0l {W:World} {base:Nat} {e:TypeId} {size:Nat} {v:Value} {n:Nat} {xs:List Value} (h:W.ownsRow base e size v n xs):∃ (ba:Option Addr) (cap:Nat),v=.slice ba n cap:=by
 rcases h.2 with ⟨rfl,rfl⟩ | ⟨g,cap,cur,hv,_⟩
 ·
  exact ⟨none,0,rfl⟩
 ·
  exact ⟨_,cap,hv⟩
end Go.Proofs.YtfbgmokjemmceaaGreatDoor
namespace Go.Proofs.YtfbgmokjemmceaaGreatDoor
open Go.RowKit Go.Shelf
set_option linter.unusedSimpArgs false
set_option linter.unusedVariables false
end Go.Proofs.YtfbgmokjemmceaaGreatDoor
namespace Go.Proofs.YtfbgmokjemmceaaGreatDoor
open Go.RowKit Go.Shelf
set_option linter.unusedSimpArgs false
set_option linter.unusedVariables false
theorem a3i {A:List Int} (n:Sh) (hl:A.length≤1000):(kidsS A n).length≤1000:=by
 unfold kidsS;split
 ·
  simp
 ·
  split
  ·
   simp
  ·
   split
   ·
    simp;omega
   ·
    simp
end Go.Proofs.YtfbgmokjemmceaaGreatDoor
namespace Go.Proofs.YtfbgmokjemmceaaGreatDoor
open Go.RowKit Go.Shelf
set_option linter.unusedSimpArgs false
set_option linter.unusedVariables false
end Go.Proofs.YtfbgmokjemmceaaGreatDoor
