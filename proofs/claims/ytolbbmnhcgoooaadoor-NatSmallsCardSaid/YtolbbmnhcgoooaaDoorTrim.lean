/-
  THE WALKS OF TRIMMING: bytes 0 ahead are taken off, in the program and in the document's answer.
-/
import Derived.Test.YtolbbmnhcgoooaaDoorMath
import Derived.Test.YtolbbmnhcgoooaaDoorRows
import Derived.WalkKit
import Derived.WalkSpells
import Derived.WalkLawsBesides
import Derived.BigQuiet
import Derived.Deep.QuietTactic
import Derived.Lib.Hide
namespace Go.Proofs.YtolbbmnhcgoooaaDoor
open Go.RowKit

theorem ret_str {a b : ByteArray} (h : a = b) : Ending.returned (.string a) = .returned (.string b) := by rw [h]
theorem ret_int {k : IntKind} {a b : Int} (h : a = b) : Ending.returned (.int k a) = .returned (.int k b) := by rw [h]
theorem ret_bool {a b : Bool} (h : a = b) : Ending.returned (.bool a) = .returned (.bool b) := by rw [h]

set_option maxHeartbeats 400000 in
theorem refTrim_any (s : ByteArray) (w : World) :
    Calls Tryd.prog 15 #[.string s] w fun e w' => e = .returned (.string (Nt.E (Nt.V s))) ∧ w = w' := by
  go_enter Tryd.func15, Tryd.ntmps15
  go_wp2
  go_loop [0] (fun v => ∃ t : ByteArray, v = .string t ∧ t.size ≤ s.size ∧ Nt.V t = Nt.V s) (fun v => match v with | .string t => t.size | _ => 0)
  case atStart => exact ⟨s, rfl, Nat.le_refl _, rfl⟩
  case round =>
    obtain ⟨t, rfl, ht, hv⟩ := hrel
    have hV := Lib.hid hv
    clear hv
    by_cases h : 0 < t.size
    · by_cases h0 : (t[0]'h).toNat = 0
      · have hb : (((t[0]'h).toNat : Int) == 0) = true := by simp [h0]
        have hx := Lib.hid (Nt.V_tail t h h0)
        clear h0
        go_wp2
        refine ⟨⟨_, rfl, ?_, ?_⟩, ?_⟩
        · simp; omega
        · rw [hx.out, hV.out]
        · simp; omega
      · have hb : (((t[0]'h).toNat : Int) == 0) = false := by simp [h0]
        have hx := Lib.hid (Nt.E_V_head t h h0)
        clear h0
        go_wp2
        go_ret
        exact ⟨ret_str (by rw [← hV.out, hx.out]), rfl⟩
    · have hx := Lib.hid (Nt.E_V_nil t h)
      go_wp2
      go_ret
      exact ⟨ret_str (by rw [← hV.out, hx.out]), rfl⟩

set_option maxHeartbeats 400000 in
theorem trimLeftByte_any (s : ByteArray) (w : World) :
    Calls Tryd.prog 61 #[.string s, .int .u8 0] w fun e w' => e = .returned (.string (Nt.E (Nt.V s))) ∧ w = w' := by
  go_enter Tryd.func61, Tryd.ntmps61
  go_wp2
  go_loop [0] (fun v => ∃ t : ByteArray, v = .string t ∧ t.size ≤ s.size ∧ Nt.V t = Nt.V s) (fun v => match v with | .string t => t.size | _ => 0)
  case atStart => exact ⟨s, rfl, Nat.le_refl _, rfl⟩
  case round =>
    obtain ⟨t, rfl, ht, hv⟩ := hrel
    have hV := Lib.hid hv
    clear hv
    by_cases h : 0 < t.size
    · by_cases h0 : (t[0]'h).toNat = 0
      · have hb : (((t[0]'h).toNat : Int) == 0) = true := by simp [h0]
        have hx := Lib.hid (Nt.V_tail t h h0)
        clear h0
        go_wp2
        refine ⟨⟨_, rfl, ?_, ?_⟩, ?_⟩
        · simp; omega
        · rw [hx.out, hV.out]
        · simp; omega
      · have hb : (((t[0]'h).toNat : Int) == 0) = false := by simp [h0]
        have hx := Lib.hid (Nt.E_V_head t h h0)
        clear h0
        go_wp2
        go_ret
        exact ⟨ret_str (by rw [← hV.out, hx.out]), rfl⟩
    · have hx := Lib.hid (Nt.E_V_nil t h)
      go_wp2
      go_ret
      exact ⟨ret_str (by rw [← hV.out, hx.out]), rfl⟩

theorem E_V_of_toList {s : ByteArray} (h : s.toList = []) : s = Nt.E (Nt.V s) := by
  rw [ByteArray.toList_eq] at h
  exact (Nt.E_V_nil s (by show ¬ 0 < s.data.size; rw [← Array.length_toList, h]; simp)).symm
set_option maxRecDepth 100000 in
set_option maxHeartbeats 400000 in
theorem trimLeft_any (s : ByteArray) (w : World) :
    Calls Tryd.prog 43 #[.string s, .string ⟨#[0]⟩] w fun e w' => e = .returned (.string (Nt.E (Nt.V s))) ∧ w = w' := by
  go_enter Tryd.func43, Tryd.ntmps43
  go_wp2_with (go_at_call 61; refine (trimLeftByte_any _ _).mono ?_; rintro e w' ⟨rfl, rfl⟩)
  · have hn : s.toList = [] := by assumption
    go_ret
    exact ⟨ret_str (E_V_of_toList hn), rfl⟩
  · have h1 : ¬ s.toList = [] := by assumption
    have h2 : s.toList.isEmpty = true := by assumption
    exact absurd (by simpa using h2) h1
  · go_ret
    exact ⟨rfl, rfl⟩
set_option maxHeartbeats 400000 in
theorem natTrim_any (s : ByteArray) (w : World) :
    Calls Tryd.prog 14 #[.string s] w fun e w' => e = .returned (.string (Nt.E (Nt.V s))) ∧ w = w' := by
  go_enter Tryd.func14, Tryd.ntmps14
  go_wp2_with (go_at_call 43; refine (trimLeft_any _ _).mono ?_; rintro e w' ⟨rfl, rfl⟩)
  go_ret
  exact ⟨rfl, rfl⟩
end Go.Proofs.YtolbbmnhcgoooaaDoor
