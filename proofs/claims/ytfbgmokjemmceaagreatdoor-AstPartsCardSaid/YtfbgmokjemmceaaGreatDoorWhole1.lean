/-
  
  
  
  
  
  
  
  
  
-/
import Derived.Test.YtfbgmokjemmceaaGreatDoorDec1
import Derived.Test.YtfbgmokjemmceaaGreatDoorBox
set_option maxHeartbeats 1000000
set_option maxRecDepth 100000
set_option linter.unusedSimpArgs false
set_option linter.unusedVariables false
namespace Go.Proofs.YtfbgmokjemmceaaGreatDoor
open Go.RowKit Go.Shelf
def sgn (neg:Bool) (n:Nat):Bool:=neg && decide (n≠0)
abbrev mkW (neg:Bool) (n:Nat):Value:=.agg #[.bool (sgn neg n),.string (Nt.E n)]
theorem c4o (neg:Bool):sgn neg 0=false:=by unfold sgn;simp
theorem c6v (neg:Bool) {n:Nat} (h:n≠0):sgn neg n=neg:=by unfold sgn;simp [h]
theorem a5a {a b:Bool} {x y:ByteArray} (h:a=b) (h':x=y):Ending.returned (.agg #[.bool a,.string x])=.returned (.agg #[.bool b,.string y]):=by rw [h,h']
theorem a5j (neg:Bool) (m:ByteArray) (w:World) :
  Calls Tryz.prog 71 #[.bool neg,.string m] w fun e w' => e=.returned (mkW neg (Nt.V m))∧Below w.heap.size w w':=by
 have HT:=Lib.hid (fun w => a0t m w);by_cases h0:Nt.V m=0
 ·
  have hv:=Lib.hid (c4o neg);have e0:Nt.E 0=⟨#[]⟩:=rfl;rw [h0,e0] at HT;rw [h0];clear h0
  cases neg
  all_goals
   go_enter Tryz.func71,Tryz.ntmps71;go_wp2_with (go_at_call 81;refine (HT.out _).mono ?_;rintro e w1 ⟨rfl,rfl⟩);refine bodyPost_ret (v:=.agg #[.bool false,.string ⟨#[]⟩]) (by simp [results,Tryz.results71,go_sem]) rfl ⟨a5a hv.out.symm e0.symm,?_⟩;exact (Below.refl _ _).alloc (Nat.le_refl _) _
 ·
  have hv:=Lib.hid (c6v neg h0);have hne:=a2h _ h0;have hne2:(Nt.E (Nt.V m)).toList.isEmpty=false:=by simpa using hne
  obtain ⟨n,hn⟩:∃ n,n=Nt.V m:=⟨_,rfl⟩;rw [← hn] at HT hv hne hne2 ⊢;obtain ⟨t,ht⟩:∃ t,t=Nt.E n:=⟨_,rfl⟩;rw [← ht] at HT hne hne2;have HTT:=Lib.hid ht;clear h0 hn ht
  cases neg
  ·
   go_enter Tryz.func71,Tryz.ntmps71;go_wp2_with (go_at_call 81;refine (HT.out _).mono ?_;rintro e w1 ⟨rfl,rfl⟩);refine bodyPost_ret (v:=.agg #[.bool false,.string t]) (by simp [results,Tryz.results71,go_sem]) rfl ⟨a5a hv.out.symm HTT.out,?_⟩;exact (Below.refl _ _).alloc (Nat.le_refl _) _
  ·
   go_enter Tryz.func71,Tryz.ntmps71;go_wp2_with (go_at_call 81;refine (HT.out _).mono ?_;rintro e w1 ⟨rfl,rfl⟩);refine bodyPost_ret (v:=.agg #[.bool true,.string t]) (by simp [results,Tryz.results71,go_sem]) rfl ⟨a5a hv.out.symm HTT.out,?_⟩;exact (Below.refl _ _).alloc (Nat.le_refl _) _
end Go.Proofs.YtfbgmokjemmceaaGreatDoor
set_option maxHeartbeats 1000000
set_option maxRecDepth 100000
namespace Go.Proofs.YtfbgmokjemmceaaGreatDoor
open Go.RowKit Go.Shelf
theorem b5c (neg:Bool) (m:ByteArray) (w:World) :
  Calls Tryz.prog 100 #[.agg #[.bool neg,.string m]] w fun e w' => e=.returned (mkW neg (Nt.V m))∧Below w.heap.size w w':=by
 have HM:=Lib.hid (fun w => a5j neg m w);obtain ⟨b,hb⟩:∃ b,b=sgn neg (Nt.V m):=⟨_,rfl⟩;obtain ⟨t,ht⟩:∃ t,t=Nt.E (Nt.V m):=⟨_,rfl⟩;have HM2:=Lib.hid (fun w => (by have h:=HM.out w;unfold mkW at h;rw [← hb,← ht] at h;exact h:Calls Tryz.prog 71 #[.bool neg,.string m] w fun e w' => e=.returned (.agg #[.bool b,.string t])∧Below w.heap.size w w'));have HBB:=Lib.hid hb;have HTT:=Lib.hid ht;clear hb ht HM;go_enter Tryz.func100,Tryz.ntmps100;go_wp2_with (go_at_call 71;refine (HM2.out _).mono ?_;rintro e w1 ⟨rfl,hb1⟩;obtain ⟨hc,hf⟩:=a0k hb1);refine bodyPost_ret (v:=.agg #[.bool b,.string t]) (by simp [results,Tryz.results100,go_sem,hc]) rfl ⟨a5a HBB.out HTT.out,?_⟩;exact (((((Below.refl w.heap.size w).alloc (Nat.le_refl _) _).alloc (by simp) _).trans (hb1.mono (by simp;omega))).setCell (by simp) _).setCell (by simp) _
end Go.Proofs.YtfbgmokjemmceaaGreatDoor
set_option maxHeartbeats 1000000
set_option maxRecDepth 100000
namespace Go.Proofs.YtfbgmokjemmceaaGreatDoor
open Go.RowKit Go.Shelf
theorem b8h (n:Int) (w:World) (h1 : -9223372036854775808≤n) (h2:n≤9223372036854775807) :
  Calls Tryz.prog 51 #[.int .i64 n] w fun e w' => e=.returned (mkW (decide (n < 0)) n.natAbs)∧Below w.heap.size w w':=by
 obtain ⟨k,hk⟩:∃ k,k=n.natAbs:=⟨_,rfl⟩;have HO:=Lib.hid (fun w => c1z k w (by omega));obtain ⟨t,ht⟩:∃ t,t=Nt.E k:=⟨_,rfl⟩;rw [← ht] at HO;rw [← hk];have htv:Nt.V t=k:=by rw [ht,Nt.V_E]
 have HM:=Lib.hid (fun (neg:Bool) w => (by have h:=a5j neg t w;rw [htv] at h;exact h:Calls Tryz.prog 71 #[.bool neg,.string t] w fun e w' => e=.returned (mkW neg k)∧Below w.heap.size w w'));obtain ⟨b,hb⟩:∃ b,b=sgn (decide (n < 0)) k:=⟨_,rfl⟩;have HBB:=Lib.hid hb;have HTT:=Lib.hid ht;by_cases hn:n < 0
 ·
  have hdn:decide (n < 0)=true:=by simpa using hn
  rw [hdn] at hb HBB;rw [hdn];have HM2:=Lib.hid (fun w => (by have h:=HM.out true w;unfold mkW at h;rw [← hb,← ht] at h;exact h:Calls Tryz.prog 71 #[.bool true,.string t] w fun e w' => e=.returned (.agg #[.bool b,.string t])∧Below w.heap.size w w'));have hnk:n=-(k:Int):=by omega
  subst hnk;have hk0:0 < k:=by omega
  have hk3:k≤9223372036854775808:=by omega
  obtain ⟨c,hc0⟩:∃ c,c=18446744073709551616 - k:=⟨_,rfl⟩;have q1:IntKind.u64.wrap (-(k:Int))=(c:Int):=by rw [IntKind.wrap_u64];omega
  have q2:IntKind.u64.wrap (-(c:Int))=(k:Int):=by rw [IntKind.wrap_u64];omega
  clear hk ht htv HM hb hdn hc0;go_enter Tryz.func51,Tryz.ntmps51
  go_wp2_with (first
   | (go_at_call 75;(with_reducible refine (HO.out _).mono ?_);rintro e w1 ⟨rfl,hb1⟩;obtain ⟨hc,hf⟩:=a0k hb1;have hz1:w.heap.size < w1.heap.size:=by have:=hb1.size;simp at this;omega)
   | (go_at_call 71;refine (HM2.out _).mono ?_;rintro e w2 ⟨rfl,hb2⟩;obtain ⟨hc2,hf2⟩:=a0k hb2))
  refine bodyPost_ret (v:=.agg #[.bool b,.string t]) (by simp [results,Tryz.results51,go_sem,hc,hc2,hz1]) rfl ⟨a5a HBB.out HTT.out,?_⟩;have h1:=((Below.refl w.heap.size w).alloc (Nat.le_refl _) (Obj.cells #[.bool false,.string ⟨#[]⟩] 77)).trans (hb1.mono (by simp));exact ((h1.trans (hb2.mono h1.size)).setCell (by simp) _).setCell (by simp) _
 ·
  have hdn:decide (n < 0)=false:=by simpa using hn
  rw [hdn] at hb HBB;rw [hdn];have HM2:=Lib.hid (fun w => (by have h:=HM.out false w;unfold mkW at h;rw [← hb,← ht] at h;exact h:Calls Tryz.prog 71 #[.bool false,.string t] w fun e w' => e=.returned (.agg #[.bool b,.string t])∧Below w.heap.size w w'));have hnk:n=(k:Int):=by omega
  subst hnk;have hk2:k < 9223372036854775808:=by omega
  clear hk ht htv HM hb hdn;go_enter Tryz.func51,Tryz.ntmps51
  go_wp2_with (first
   | (go_at_call 75;(with_reducible refine (HO.out _).mono ?_);rintro e w1 ⟨rfl,hb1⟩;obtain ⟨hc,hf⟩:=a0k hb1;have hz1:w.heap.size < w1.heap.size:=by have:=hb1.size;simp at this;omega)
   | (go_at_call 71;refine (HM2.out _).mono ?_;rintro e w2 ⟨rfl,hb2⟩;obtain ⟨hc2,hf2⟩:=a0k hb2))
  refine bodyPost_ret (v:=.agg #[.bool b,.string t]) (by simp [results,Tryz.results51,go_sem,hc,hc2,hz1]) rfl ⟨a5a HBB.out HTT.out,?_⟩;have h1:=((Below.refl w.heap.size w).alloc (Nat.le_refl _) (Obj.cells #[.bool false,.string ⟨#[]⟩] 77)).trans (hb1.mono (by simp));exact ((h1.trans (hb2.mono h1.size)).setCell (by simp) _).setCell (by simp) _
end Go.Proofs.YtfbgmokjemmceaaGreatDoor
namespace Go.Proofs.YtfbgmokjemmceaaGreatDoor
open Go.RowKit Go.Shelf
theorem c8t:∀ (a b:ByteArray),a.data.toList=b.data.toList→a=b:=fun a b hab => by
 obtain ⟨⟨x⟩⟩:=a;obtain ⟨⟨y⟩⟩:=b;simpa using hab
end Go.Proofs.YtfbgmokjemmceaaGreatDoor
namespace Go.Proofs.YtfbgmokjemmceaaGreatDoor
open Go.RowKit Go.Shelf
end Go.Proofs.YtfbgmokjemmceaaGreatDoor
namespace Go.Proofs.YtfbgmokjemmceaaGreatDoor
open Go.RowKit Go.Shelf
end Go.Proofs.YtfbgmokjemmceaaGreatDoor
namespace Go.Proofs.YtfbgmokjemmceaaGreatDoor
open Go.RowKit Go.Shelf
end Go.Proofs.YtfbgmokjemmceaaGreatDoor
namespace Go.Proofs.YtfbgmokjemmceaaGreatDoor
open Go.RowKit Go.Shelf
end Go.Proofs.YtfbgmokjemmceaaGreatDoor
namespace Go.Proofs.YtfbgmokjemmceaaGreatDoor
open Go.RowKit Go.Shelf
end Go.Proofs.YtfbgmokjemmceaaGreatDoor
