/-
  LIMBS IN THE PROGRAM: any division; what the limbs' functions are owed is paid: DivMod, Gcd, Root.
-/
import Derived.Test.YtjbpipbmcicjiaaGreatDoorLong2
import Derived.Test.YtjbpipbmcicjiaaGreatDoorDivMod
import Derived.Test.YtjbpipbmcicjiaaGreatDoorRoot2
namespace Go.Proofs.YtjbpipbmcicjiaaGreatDoor
open Go.RowKit Go.Shelf

set_option maxRecDepth 100000 in
theorem divided_short (u A : Value) (Au : Option Addr) (m cu : Nat) (Aw : Option Addr) (n cw : Nat) (w : World) (hu : u = .slice Au m cu) (hv : A = .slice Aw n cw) (hmn : m < n) :
    Calls Tryz.prog 136 #[u, A] w fun e w' => e = .returned (.tuple #[.slice none 0 0, u]) ∧ w = w' := by
  subst hu hv
  have t2 : (m : Int) < (n : Int) := by omega
  go_enter Tryz.func136, Tryz.ntmps136
  go_wp2
  go_ret2
  exact ⟨rfl, rfl⟩
set_option maxRecDepth 100000 in
theorem divided_one (gu m cu gw cw U d : Nat) (w : World) (hm1 : 1 ≤ m) (hm : m ≤ 100000) (hU : U < 4294967296 ^ m) (hd0 : 0 < d) (hd1 : d < 4294967296)
    (hgu : gu < w.heap.size) (hcu : Lm w gu (Nt.wds U m)) (hcw : w.cell? ⟨gw, 0, none⟩ = some (.int .u32 (d : Int))) :
    Calls Tryz.prog 136 #[.slice (some ⟨gu, 0, none⟩) m cu, .slice (some ⟨gw, 0, none⟩) 1 cw] w fun e w' => (∃ q r, e = .returned (.tuple #[q, r]) ∧ Lim w' q (U / d) ∧ Lim w' r (U % d)) ∧ Below w.heap.size w w' := by
  have HD := Lib.hid (byLimb_any gu m cu U d w hm hU hd0 hd1 hgu hcu)
  have t2 : ¬ (m : Int) < 1 := by omega
  clear hU hcu
  go_enter Tryz.func136, Tryz.ntmps136
  go_wp2_with (go_at_call 157; refine HD.out.mono ?_; rintro e w1 ⟨⟨q, r, rfl, h1, h2⟩, h3⟩)
  go_ret2
  exact ⟨⟨q, r, rfl, h1, h2⟩, h3⟩
theorem Nt.limbs_few {N k : Nat} (h : 4294967296 ^ (k - 1) ≤ N) (hs : (Nt.E N).size ≤ 2000) : k ≤ 1000 := by
  have h7 := Nt.V_lt (Nt.E N)
  rw [Nt.V_E] at h7
  rw [Nt.pow32] at h
  have h8 := (Nat.pow_lt_pow_iff_right (by omega : 1 < 256)).1 (Nat.lt_of_le_of_lt h h7)
  omega
theorem divided_any (u v : Value) (U V : Nat) (w : World) (hu : Lim w u U) (hv : Lim w v V) (hV : 0 < V) (hsu : (Nt.E U).size ≤ 2000) (hsv : (Nt.E V).size ≤ 2000) :
    Calls Tryz.prog 136 #[u, v] w fun e w' => (∃ q r, e = .returned (.tuple #[q, r]) ∧ Lim w' q (U / V) ∧ Lim w' r (U % V)) ∧ Below w.heap.size w w' := by
  have hshort : ∀ (Au : Option Addr) (m cu : Nat) (Aw : Option Addr) (n cw : Nat), u = .slice Au m cu → v = .slice Aw n cw → m < n → U < V →
      Calls Tryz.prog 136 #[u, v] w fun e w' => (∃ q r, e = .returned (.tuple #[q, r]) ∧ Lim w' q (U / V) ∧ Lim w' r (U % V)) ∧ Below w.heap.size w w' := by
    intro Au m cu Aw n cw e1 e2 hmn hlt
    refine (divided_short u v Au m cu Aw n cw w e1 e2 hmn).mono ?_
    rintro e w' ⟨rfl, rfl⟩
    rw [Nat.div_eq_of_lt hlt, Nat.mod_eq_of_lt hlt]
    exact ⟨⟨_, _, rfl, Or.inl ⟨rfl, rfl⟩, hu⟩, Below.refl _ _⟩
  rcases hv with ⟨_, h0⟩ | ⟨gw, n, cw, ev, hncw, hgw, hcw, hVl, hVh⟩
  · omega
  · have hn1 : 1 ≤ n := by
      rcases Nat.eq_zero_or_pos n with h | h
      · rw [h, Nat.pow_zero] at hVl; omega
      · exact h
    have hV1 : 4294967296 ^ (n - 1) ≤ V := (by
      rcases hVh with h | h
      · omega
      · exact h)
    have hn := Nt.limbs_few hV1 hsv
    rcases hu with ⟨eu, hU0⟩ | ⟨gu, m, cu, eu, hmcu, hgu, hcu, hUl, hUh⟩
    · exact hshort _ _ _ _ _ _ eu ev (by omega) (by omega)
    · have hm : m ≤ 1000 := by
        rcases hUh with h | h
        · omega
        · exact Nt.limbs_few h hsu
      by_cases hmn : m < n
      · refine hshort _ _ _ _ _ _ eu ev hmn (Nat.lt_of_lt_of_le hUl (Nat.le_trans (Nat.pow_le_pow_right (by omega) (by omega)) hV1))
      · by_cases h1 : n = 1
        · subst h1
          rw [Nat.pow_one] at hVl
          have hc : w.cell? ⟨gw, 0, none⟩ = some (.int .u32 (V : Int)) := by
            have := hcw 0 (by rw [Nt.wds_length]; omega)
            rw [Nt.wds_get] at this
            rw [this, Nt.wd, Nat.pow_zero, Nat.div_one, Nat.mod_eq_of_lt hVl]
          rw [eu, ev]
          exact divided_one gu m cu gw cw U V w (by omega) (by omega) hUl hV hVl hgu hcu hc
        · rw [eu, ev]
          exact divided_long gu m cu gw n (n - 1) (n - 2) cw U V w (by omega) (by omega) (by omega) hm hUl hVl hV1 hgu hgw hcu hcw
theorem limbsOk : LimbsOk := ⟨limbsOf_any, limbsText_any, divided_any⟩
theorem divMod_ok : DivModOk := divMod_of limbsOk
end Go.Proofs.YtjbpipbmcicjiaaGreatDoor
