/-
  
  
  
  
  
-/
import Derived.Test.YtfbgmokjemmceaaGreatDoorDec1
set_option linter.unusedSimpArgs false
set_option linter.unusedVariables false
namespace Go.Proofs.YtfbgmokjemmceaaGreatDoor
open Go.RowKit Go.Shelf
def inG (c r:Int):Bool:=decide (1≤c) && decide (c≤52) && decide (1≤r) && decide (r≤99)
theorem a9p (c r:Int):inG c r=true ↔ 1≤c∧c≤52∧1≤r∧r≤99:=by
 unfold inG;simp only [Bool.and_eq_true,decide_eq_true_eq,and_assoc]
def a2u (b:UInt8):Bool:=decide (65≤b.toNat∧b.toNat≤90)
end Go.Proofs.YtfbgmokjemmceaaGreatDoor
set_option maxRecDepth 100000
namespace Go.Proofs.YtfbgmokjemmceaaGreatDoor
open Go.RowKit Go.Shelf
theorem a6b (c r:Int) (w:World) :
  Calls Tryz.prog 92 #[.int .i64 c,.int .i64 r] w fun e w' => e=.returned (.bool (inG c r))∧w'=w:=by
 go_enter Tryz.func92,Tryz.ntmps92
 go_wp2
 all_goals (go_ret;exact ⟨a0d (by unfold inG;simp;try omega),rfl⟩)
theorem a7o (c r:Int) (w:World) :
  Calls Tryz.prog 83 #[.int .i64 c,.int .i64 r] w fun e w' => e=.returned (.bool (inG c r))∧w'=w:=by
 go_enter Tryz.func83,Tryz.ntmps83
 go_wp2
 all_goals (go_ret;exact ⟨a0d (by unfold inG;simp;try omega),rfl⟩)
end Go.Proofs.YtfbgmokjemmceaaGreatDoor
namespace Go.Proofs.YtfbgmokjemmceaaGreatDoor
open Go.RowKit Go.Shelf
end Go.Proofs.YtfbgmokjemmceaaGreatDoor
set_option maxHeartbeats 1000000
set_option maxRecDepth 100000
namespace Go.Proofs.YtfbgmokjemmceaaGreatDoor
open Go.RowKit Go.Shelf
theorem a5l {s:ByteArray} (h:0 < s.size):s.data.toList.headD 0=s[0]:=by
 obtain ⟨⟨l⟩⟩:=s
 cases l with
 | nil => exact absurd h (by decide)
 | cons x l => rfl
def c6y (s:ByteArray) (i:Value):Prop:=∃ n:Nat,i=.int .i64 n∧n≤s.size∧(s.data.toList.take n).all a2u=true
theorem a6c {l:List UInt8} {n:Nat} (h:(l.take n).all a2u=true) (he:n=l.length ∨ ∃ h:n < l.length,a2u l[n]=false):(l.takeWhile a2u).length=n∧l.takeWhile a2u=l.take n∧l.dropWhile a2u=l.drop n:=by
 have hs:=List.take_append_drop n l
 have hd:∀ d,d=l.drop n→d.takeWhile a2u=[]∧d.dropWhile a2u=d:=by
  intro d hd
  rcases he with rfl | ⟨hn,hx⟩
  ·
   rw [List.drop_length] at hd;subst hd;exact ⟨rfl,rfl⟩
  ·
   subst hd;rw [List.drop_eq_getElem_cons hn];exact ⟨List.takeWhile_cons_of_neg (by rw [hx];decide),List.dropWhile_cons_of_neg (by rw [hx];decide)⟩
 obtain ⟨d1,d2⟩:=hd _ rfl
 have e:l.takeWhile a2u=l.take n∧l.dropWhile a2u=l.drop n:=by
  have h1:∀ x ∈ l.take n,a2u x=true:=List.all_eq_true.1 h;constructor
  ·
   rw [← hs,List.takeWhile_append_of_pos h1,d1,List.append_nil,hs]
  ·
   rw [← hs,List.dropWhile_append_of_pos h1,d2,hs]
 refine ⟨?_,e⟩;rw [e.1,List.length_take]
 rcases he with h | ⟨h,_⟩ <;> omega
theorem b8j {l:List UInt8} {n:Nat} (hn:n < l.length) (h:(l.take n).all a2u=true) (hx:a2u l[n]=true):(l.take (n+1)).all a2u=true:=by
 rw [List.take_succ_eq_append_getElem hn,List.all_append,h];simp [hx]
theorem a4p (s:ByteArray) (n:Nat) (h:n < s.size):s.data.toList[n]'(by simpa using h)=s[n]:=by
 obtain ⟨⟨l⟩⟩:=s;rfl
theorem a7p (s:ByteArray) (w:World) (hs:s.size≤maxLen) :
  Calls Tryz.prog 62 #[.string s] w fun e w' => e=.returned (.int .i64 ((s.data.toList.takeWhile a2u).length:Nat))∧w'=w:=by
 unfold maxLen at hs;have hud:undef=Value.tuple #[]:=rfl;have hl:s.data.toList.length=s.size:=by simp
 have HL:=Lib.hid hl;clear hl;go_enter Tryz.func62,Tryz.ntmps62
 go_wp2
 go_loop [3] (c6y s) (fun i => s.size - (intOf i).toNat)
 case atStart => exact ⟨0,rfl,by omega,rfl⟩
 case round =>
  obtain ⟨n,rfl,hn,ha⟩:=hrel;have HA:=Lib.hid ha;clear ha;by_cases hlt:n < s.size
  ·
   have hg:=Lib.hid (a4p s n hlt);by_cases h1:65≤s[n].toNat
   ·
    by_cases h2:s[n].toNat≤90
    ·
     have hu:Hid (a2u s[n]=true):=by show a2u s[n]=true;unfold a2u;simp;omega
     go_wp2
     refine ⟨⟨n+1,by go_num,by omega,?_⟩,by simp [intOf];omega⟩;exact b8j (by rw [HL.out];exact hlt) HA.out (by rw [hg.out];exact hu.out)
    ·
     have hu:Hid (a2u s[n]=false):=by show a2u s[n]=false;unfold a2u;simp;omega
     go_wp2
     go_ret
     have:=a6c HA.out (Or.inr ⟨by rw [HL.out];exact hlt,by rw [hg.out];exact hu.out⟩);exact ⟨a1c (by rw [this.1]),rfl⟩
   ·
    have hu:Hid (a2u s[n]=false):=by show a2u s[n]=false;unfold a2u;simp;omega
    go_wp2
    go_ret
    have:=a6c HA.out (Or.inr ⟨by rw [HL.out];exact hlt,by rw [hg.out];exact hu.out⟩);exact ⟨a1c (by rw [this.1]),rfl⟩
  ·
   have hn':n=s.size:=by omega
   go_wp2
   go_ret
   have:=a6c HA.out (Or.inl (by rw [HL.out];exact hn'));exact ⟨a1c (by rw [this.1,hn']),rfl⟩
end Go.Proofs.YtfbgmokjemmceaaGreatDoor
namespace Go.Proofs.YtfbgmokjemmceaaGreatDoor
open Go.RowKit Go.Shelf
def c9p (s:ByteArray):ByteArray:=⟨(s.data.toList.takeWhile a2u).toArray⟩
def c9o (s:ByteArray):ByteArray:=⟨(s.data.toList.dropWhile a2u).toArray⟩
end Go.Proofs.YtfbgmokjemmceaaGreatDoor
