import Derived.Test.YtfbgmokjemmceaaGreatDoorAst18
namespace Go.Proofs.YtfbgmokjemmceaaGreatDoor
open Go.RowKit Go.Shelf
set_option linter.unusedSimpArgs false
set_option linter.unusedVariables false
abbrev intL (l:List Int):List Value:=l.map (Value.int .i64)
theorem IntsAt.of_owns {W:World} {v:Value} {n base:Nat} {t:TypeId} {A:List Int} (h:W.ownsRow base t 1 v n (intL A)):n=A.length∧IntsAt W v A:=by
 have hl:=h.1;rw [List.length_map,Nat.mul_one] at hl;refine ⟨hl.symm,?_⟩
 rcases h.2 with ⟨hv,h0⟩ | ⟨g,cap,cur,hv,_,hgg,hn,hm,_⟩
 ·
  exact Or.inl ⟨hv,List.eq_nil_of_length_eq_zero (by omega)⟩
 ·
  refine Or.inr ⟨g,0,cap,by rw [hv,hl],by omega,hm,fun k hk => ?_⟩
  have hc:=h.cells (g:=g) (by rw [hv];rfl) k (.int .i64 (A.getD k 0)) (by rw [List.getElem?_map,List.getElem?_eq_getElem hk,List.getD_eq_getElem?_getD,List.getElem?_eq_getElem hk];rfl);rw [Addr.add_lit] at hc;exact hc
theorem a7x {W:World} {g o:Nat} {A:List Int} (hc:∀ k,k < A.length→W.cell? ⟨g,o+k,none⟩=some (.int .i64 (A.getD k 0))):∀ j u,(intL A)[j]?=some u→W.cell? ((⟨g,o,none⟩:Addr).add j)=some u:=by
 intro j u hu;rw [List.getElem?_map] at hu
 cases h:A[j]? with
 | none => rw [h] at hu;cases hu
 | some x =>
  rw [h] at hu;obtain ⟨hj,_⟩:=List.getElem?_eq_some_iff.1 h;rw [Addr.add_lit,hc j hj,List.getD_eq_getElem?_getD,h];exact hu
theorem IntsAt.news {W:World} {v:Value} {A:List Int} (h:IntsAt W v A) (h0:0 < A.length):∃ g o cap,v=.slice (some ⟨g,o,none⟩) A.length cap∧A.length≤cap∧cap≤maxLen∧g < W.heap.size∧∀ k,k < A.length→W.cell? ⟨g,o+k,none⟩=some (.int .i64 (A.getD k 0)):=by
 rcases h with ⟨_,rfl⟩ | ⟨g,o,cap,hv,h1,h2,hc⟩
 ·
  simp at h0
 ·
  exact ⟨g,o,cap,hv,h1,h2,a0j (hc 0 h0),hc⟩
end Go.Proofs.YtfbgmokjemmceaaGreatDoor
