/-
  
  
-/
import Derived.Test.YtfbgmokjemmceaaGreatDoorAst21
import Derived.Test.YtfbgmokjemmceaaGreatDoorAst16
namespace Go.Proofs.YtfbgmokjemmceaaGreatDoor
open Go.RowKit Go.Shelf
set_option linter.unusedSimpArgs false
set_option linter.unusedVariables false
def cN (N:List Nd) (i:Nat):Bool:=match N[i]? with | some n => a1x n | none => false
theorem a3j {N:List Nd} {i:Nat} {n:Nd} (h:N[i]?=some n):cN N i=a1x n:=by unfold cN;rw [h]
def a0w (N:List Nd) (A:List Int):Bool:=a1w (cN N) (N.map shN) A
def a8t (N:List Nd) (A:List Int):Int:=if a0w N A then a4b (N.map shN) A else 0
def a5e (N:List Nd) (A:List Int) (i:Int):List Int:=if a0w N A=true∧0≤i∧i < N.length then kidsS A ((N.map shN).getD i.toNat default) else []
theorem a3k {n:Nd} (h:a1x n=true) (h9:n.k=9):0≤n.b∧n.b≤20∧(n.b=0→n.a=0):=by
 unfold a1x at h;rw [Bool.and_eq_true] at h;have h1:=h.1;unfold a4i at h1;rw [if_neg (by omega),if_neg (by omega),if_neg (by omega),if_neg (by omega),if_neg (by omega),if_neg (by omega),if_neg (by omega),if_neg (by omega),if_pos h9] at h1;simp only [Bool.and_eq_true,decide_eq_true_eq,Bool.not_eq_true',Bool.and_eq_false_iff,Bool.not_eq_false',decide_eq_false_iff_not] at h1;obtain ⟨h2,h3⟩:=h1;refine ⟨by omega,by omega,fun h0 => ?_⟩
 omega
theorem b8z {N:List Nd} (h:∀ i,i < N.length→cN N i=true):∀ n ∈ N,n.k=9→0≤n.b∧n.b≤20∧(n.b=0→n.a=0):=fun n hn h9 => by
 obtain ⟨i,hi⟩:=List.getElem?_of_mem hn;have hlt:=(List.getElem?_eq_some_iff.1 hi).1;have:=h i hlt;rw [a3j hi] at this;exact a3k this h9
theorem a9t {N:List Nd} : (∀ i,i < (N.map shN).length→cN N i=true)→∀ n ∈ N.map shN,n.k=9→0≤n.b:=fun h n hn h9 => by
 obtain ⟨m,hm,rfl⟩:=List.mem_map.1 hn;rw [List.length_map] at h;exact (b8z h m hm h9).1
end Go.Proofs.YtfbgmokjemmceaaGreatDoor
namespace Go.Proofs.YtfbgmokjemmceaaGreatDoor
open Go.RowKit Go.Shelf
set_option linter.unusedSimpArgs false
set_option linter.unusedVariables false
theorem a5f {N:List Nd} {A:List Int} (h:a0w N A=true) {m:Nat} {n:Nd} (hn:N[m]?=some n):kidsOk A (shN n)∧∀ c ∈ kidsS A (shN n),0≤c∧c < m:=by
 have hm:=(List.getElem?_eq_some_iff.1 hn).1;have:=a9b (C:=cN N) (N:=N.map shN) (A:=A) (a9t (N:=N)) h (m:=m) (by rw [List.length_map];exact hm);rw [a2m N m n hn] at this;exact this
def b9b (l:List Int) (w:World) (e:Ending) (w':World):Prop:=(∃ r,e=.returned r∧IntsAt w' r l)∧Below w.heap.size w w'
end Go.Proofs.YtfbgmokjemmceaaGreatDoor
