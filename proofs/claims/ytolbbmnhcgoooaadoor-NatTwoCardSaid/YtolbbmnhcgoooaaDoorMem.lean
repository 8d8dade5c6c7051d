/-
  MEMORY THAT A CALL MAKES: blocks that are known whole, of numbers of one kind; a text made of bytes.
-/
import Derived.Below
import Derived.Laws.OwnMore
import Derived.Deep.Draws
import Derived.Deep.OwnRows
import Derived.Laws.Rows
import Derived.Laws.BytesArg
import Derived.Maps.AppendAt
import Derived.RangeFuncBox
import Derived.Deep.AppendLies
import Derived.Test.YtolbbmnhcgoooaaDoorTrim
import Derived.Test.YtolbbmnhcgoooaaDoorMath
namespace Go.Proofs.YtolbbmnhcgoooaaDoor
open Go.RowKit

/-- block g holds just the cells cs, of element type t. -/
def Blk (w : World) (g : Nat) (t : TypeId) (cs : Array Value) : Prop := w.heap[g]? = some (.cells cs t (0, 0))
/-- numbers of one kind, as cells. -/
def kV (k : IntKind) (l : List Nat) : Array Value := (l.map fun n : Nat => Value.int k (n : Int)).toArray

section
variable {w w' : World} {g : Nat} {t : TypeId} {cs : Array Value}
theorem Blk.lt (h : Blk w g t cs) : g < w.heap.size := by
  rcases Nat.lt_or_ge g w.heap.size with hlt | hge
  · exact hlt
  · unfold Blk at h; rw [Array.getElem?_eq_none hge] at h; cases h
theorem Blk.cell (h : Blk w g t cs) (i : Nat) : w.cell? ⟨g, i, none⟩ = cs[i]? := cell_of_row w g i cs t (0, 0) h
theorem Blk.frozen (h : Blk w g t cs) (i : Nat) : w.frozen? ⟨g, i, none⟩ = false := by
  unfold Blk at h
  simp [World.frozen?, h]
theorem Blk.new (w : World) (t : TypeId) (cs : Array Value) : Blk (w.alloc (.cells cs t)) w.heap.size t cs := by
  show (w.heap.push _)[w.heap.size]? = _
  simp
theorem Blk.drew (h : Blk w g t cs) : Blk w.drew g t cs := h
theorem Blk.drewN (h : Blk w g t cs) (n : Nat) : Blk (w.drewN n) g t cs := h
theorem Blk.alloc (h : Blk w g t cs) (o : Obj) : Blk (w.alloc o) g t cs := (Below.heap_alloc w o g h.lt).trans h
theorem Blk.put (h : Blk w g t cs) (i : Nat) (u : Value) : Blk (w.setCell ⟨g, i, none⟩ u) g t (cs.setIfInBounds i u) := by
  unfold Blk at h ⊢
  simp [World.setCell, Array.getElem?_modify, h]
theorem Blk.far (h : Blk w g t cs) {p : Addr} (hp : g ≠ p.block) (u : Value) : Blk (w.setCell p u) g t cs := (Below.heap_setCell w p u g hp).trans h
theorem Blk.below {B : Nat} (h : Blk w g t cs) (hb : Below B w w') (hg : g < B) : Blk w' g t cs := (hb.block g hg).trans h
theorem Blk.grown {row : Option Nat} (h : Blk w g t cs) (hb : w.grownBy w' row) (hg : some g ≠ row) : Blk w' g t cs := (hb.block g h.lt hg).trans h
theorem Blk.turned (h : Blk w g t cs) {row : Option Nat} (hg : w.grownBy w' row) (hr : ∀ r, row = some r → ∃ o : Obj, w.heap[r]? = some o ∧ o.isCells = false) : Blk w' g t cs :=
  h.grown hg (fun e => by
    obtain ⟨o, ho, hc⟩ := hr g e.symm
    unfold Blk at h
    rw [h] at ho; cases ho; cases hc)
end

theorem kV_size (k : IntKind) (l : List Nat) : (kV k l).size = l.length := by simp [kV]
theorem kV_get (k : IntKind) (l : List Nat) (i : Nat) : (kV k l)[i]? = l[i]?.map fun n : Nat => Value.int k (n : Int) := by simp [kV]
theorem kV_get_lt (k : IntKind) (l : List Nat) (i : Nat) (h : i < l.length) : (kV k l)[i]? = some (.int k ((l[i]'h : Nat) : Int)) := by
  rw [kV_get, List.getElem?_eq_getElem h]; rfl
theorem kV_set (k : IntKind) (l : List Nat) (i n : Nat) : (kV k l).setIfInBounds i (.int k (n : Int)) = kV k (l.set i n) := by
  simp [kV, List.map_set]
theorem kV_zeros (k : IntKind) (n : Nat) : madeCells #[Value.int k 0] n = kV k (List.replicate n 0) := by
  apply Array.ext
  · simp [madeCells, kV]
  · intro i h1 h2
    simp [madeCells, kV, Nat.mod_one]

/-- a slice that has just been made, of zeros. -/
theorem run_zeros {P : Program} (t e : TypeId) (k : IntKind) (bytes : Nat) (ht : P.underlying t = some (.slice e)) (hinfo : (P.info? e).map (fun i => (i.zero, i.size, i.bytes)) = some (some (.int k 0), 1, bytes))
    (n : Nat) (hbytes : bytes * n ≤ 281474976710656) (h63 : n ≤ 9223372036854775807) (w : World) :
    (Instr.makeSlice t (.int .i64 (n : Int)) (.int .i64 (n : Int))).run P w = .ok (.slice (some ⟨w.heap.size, 0, none⟩) n n) (w.alloc (.cells (kV k (List.replicate n 0)) e)) := by
  rw [← kV_zeros]
  exact run_make_row' t e (.int k 0) bytes ht hinfo rfl .i64 .i64 n hbytes h63 w

/-- a text out of bytes. -/
theorem run_text {P : Program} (src dst e : TypeId) (hs : P.underlying src = some (.slice e)) (he : P.underlying e = some (.int .u8)) (hd : P.underlying dst = some .string)
    (g n cap : Nat) (l : List Nat) (hl : l.length = n) (w : World) (h : Blk w g e (kV .u8 l)) :
    (convert src dst (.slice (some ⟨g, 0, none⟩) n cap)).run P w = .ok (.string ⟨(l.map UInt8.ofNat).toArray⟩) w := by
  have hx := run_convert_bytes_arg (P := P) w src e hs he g 0 n cap (l.map fun m : Nat => (m : Int)) (by simpa using hl) (fun i hi => by
    rw [Nat.zero_add, h.cell, kV_get_lt _ _ _ (by omega)]
    simp [List.getD, List.getElem?_eq_getElem (show i < l.length by omega)]) dst hd
  rw [hx]
  have e2 : strOfNums (l.map fun m : Nat => (m : Int)) = ⟨(l.map UInt8.ofNat).toArray⟩ := by
    have := strOfNums_data (l.map fun m : Nat => (m : Int))
    have e3 : ∀ (a b : ByteArray), a.data.toList = b.data.toList → a = b := fun a b hab => by
      obtain ⟨⟨x⟩⟩ := a; obtain ⟨⟨y⟩⟩ := b; simpa using hab
    apply e3
    rw [this]
    simp
  rw [e2]

theorem Tryd.infoU8 : (Tryd.prog.info? 5).map (fun i => (i.zero, i.size, i.bytes)) = some (some (.int .u8 0), 1, 1) := by kernel_rfl
theorem Tryd.infoU32 : (Tryd.prog.info? 47).map (fun i => (i.zero, i.size, i.bytes)) = some (some (.int .u32 0), 1, 4) := by kernel_rfl
theorem Tryd.infoInt : (Tryd.prog.info? 3).map (fun i => (i.zero, i.size, i.bytes)) = some (some (.int .i64 0), 1, 8) := by kernel_rfl
end Go.Proofs.YtolbbmnhcgoooaaDoor
