/-
  GRAPHS: what is asked of a graph, told as one list; the cells of a list of acts.
-/
import Derived.Test.YtbfifgnookpfdaaGra22
set_option linter.unusedSimpArgs false
set_option linter.unusedVariables false
namespace Go.Proofs.Ytbfifgnookpfdaa
open Go.RowKit Go.Shelf Go.Sort Go.Lib Go.Maps

/-- the cells of the first k acts. -/
def kys (N : List Ac) (k : Nat) : List Ce := (N.take k).map fun a => a.2.1
theorem kys_len {N : List Ac} {k : Nat} (h : k ≤ N.length) : (kys N k).length = k := by unfold kys; rw [List.length_map, List.length_take]; omega
theorem kys_succ (N : List Ac) (k : Nat) (h : k < N.length) : kys N (k + 1) = kys N k ++ [N[k].2.1] := keys_snoc N k h
theorem kys_nodup (N : List Ac) (k : Nat) (h : k < N.length) (hd : (kys N k).Nodup) (hn : N[k].2.1 ∉ kys N k) : (kys N (k + 1)).Nodup := keys_nodup N k h hd hn
theorem kys_all (N : List Ac) : kys N N.length = N.map fun a => a.2.1 := by unfold kys; rw [List.take_length]
theorem row_below {w w' : World} {base : Nat} {e : TypeId} {size : Nat} {v : Value} {n : Nat} {xs : List Value} (h : w.ownsRow base e size v n xs) (hb : Below w.heap.size w w') : w'.ownsRow base e size v n xs :=
  h.kept (row := none) ⟨hb.os, hb.tape, hb.output, hb.size, fun k hk _ => hb.block k hk⟩ (by cases v.ownBlock <;> simp)
theorem putAll_mem : ∀ (N : List Ac) (G : Ce → Option (List Ce)) (z : Ce) (l : List Ce), putAll N G z = some l → z ∈ N.map (fun a => a.2.1) ∨ G z = some l
  | [], _, _, _, h => Or.inr h
  | a :: N, G, z, l, h => by
    rcases putAll_mem N (putG G a.2.1 (onc a.2.2)) z l h with h | h
    · exact Or.inl (by rw [List.map_cons]; exact List.mem_cons_of_mem _ h)
    · unfold putG at h
      by_cases e : z = a.2.1
      · exact Or.inl (by rw [List.map_cons, e]; exact List.mem_cons_self ..)
      · rw [if_neg e] at h; exact Or.inr h
/-- of these cells, in order, each once, those that p tells. -/
def oncOf (ks : List Ce) (p : Ce → Bool) : List Ce := onc (ks.filter p)
theorem oncOf_len (ks : List Ce) (p : Ce → Bool) : (oncOf ks p).length ≤ ks.length := Nat.le_trans (onc_length _) (List.length_filter_le ..)
theorem told_of {p : Ce → Bool} {w w' : World} {e : Ending} (h : Told p w e w') (ks : List Ce) (hk : ∀ z, p z = true → z ∈ ks) : (∃ v, e = .returned v ∧ CsAt w' v (oncOf ks p)) ∧ Below w.heap.size w w' := by
  obtain ⟨⟨v, he, hv⟩, hb⟩ := h.is (l := oncOf ks p) (srt_onc _) (fun z => by
    unfold oncOf; rw [mem_onc, List.mem_filter]
    exact ⟨fun h => h.2, fun h => ⟨hk z h, h⟩⟩)
  exact ⟨⟨v, he, hv.1⟩, hb⟩
theorem edge_keys {N : List Ac} {x z : Ce} (h : edge (putAll N fun _ => none) x z = true) : z ∈ N.map fun a => a.2.1 := by
  unfold edge at h
  cases hg : putAll N (fun _ => none) z with
  | none => rw [hg] at h; cases h
  | some l => rcases putAll_mem N _ z l hg with h | h
              · exact h
              · cases h
theorem some_keys {N : List Ac} {z : Ce} (h : (putAll N (fun _ => none) z).isSome = true) : z ∈ N.map fun a => a.2.1 := by
  cases hg : putAll N (fun _ => none) z with
  | none => rw [hg] at h; cases h
  | some l => rcases putAll_mem N _ z l hg with h | h
              · exact h
              · cases h
/-- the same list twice. -/
theorem refCells_same (u v : Value) (l : List Ce) (w : World) (h : CsAt w u l) (h' : CsAt w v l) (hn : l.length ≤ 5864062014805) : Calls Try.prog 17 #[u, v] w fun e w' => e = .returned (.bool true) ∧ Below w.heap.size w w' := by
  have hr := refCells_any u v l l w h h' hn
  rwa [decide_eq_true rfl] at hr
section
variable {prog' : Program} {md : Region.Mode} {ops : Array Oper} {Q : Exit → Act → World → Prop} {S : World → Prop}
end
end Go.Proofs.Ytbfifgnookpfdaa
