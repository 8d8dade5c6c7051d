/-
  
  
  
  
-/
import Derived.Test.YtddgjgcogkdplaaGreatDoorCel1
import Derived.Laws.EntriesVeiled
namespace Go.Proofs.YtddgjgcogkdplaaGreatDoor
open Go.RowKit Go.Shelf
set_option linter.unusedSimpArgs false
set_option linter.unusedVariables false
def d7d (way:Int):Int:=if way=0 then 52 else if way=1 then 99 else 0
def d8b (way a n:Int):Bool:=decide (1<=a)&&decide (a<=d7d way)&&decide (1<=n)&&decide (n<=d7d way)
def plZ (q:Rf) (way:Int):Int:=if way=0 then q.c else q.r
def ptR (q:Rf) (way p:Int):Rf:=if way=0 then ⟨q.sh,p,q.r,q.fc,q.fr⟩ else ⟨q.sh,q.c,p,q.fc,q.fr⟩
def d7t (q:Rf):Bool:=a8g q.sh q.c q.r
def shP (p a n:Int):Int:=if a<=p then p+n else p
def dlP (p a n:Int):Int:=if a+n<=p then p-n else p
def e2b (q:Rf) (way a n:Int):Bool:=d7t q&&d8b way a n&&decide (shP (plZ q way) a n<=d7d way)
def e8m (q:Rf) (way a n:Int):Rf:=if e2b q way a n then ptR q way (shP (plZ q way) a n) else rf0
def d9n (q:Rf) (way a n:Int):Bool:=d7t q&&d8b way a n && !(decide (a<=plZ q way)&&decide (plZ q way<a+n))
def e8n (q:Rf) (way a n:Int):Rf:=if d9n q way a n then ptR q way (dlP (plZ q way) a n) else rf0
theorem d9t {way a n:Int} (h:d8b way a n=true):(way=0\/way=1)/\1<=a/\a<=d7d way/\1<=n/\n<=d7d way/\d7d way<=99/\52<=d7d way:=by
 unfold d8b at h;simp only[Bool.and_eq_true,decide_eq_true_eq] at h;obtain⟨⟨⟨h1,h2⟩,h3⟩,h4⟩:=h;by_cases hw:way=0
 ·
  have e:d7d way=52:=if_pos hw;omega
 ·
  by_cases hw2:way=1
  ·
   have e:d7d way=99:=by unfold d7d;rw[if_neg hw,if_pos hw2]
   omega
  ·
   have e:d7d way=0:=by unfold d7d;rw[if_neg hw,if_neg hw2]
   omega
theorem e4z {q:Rf} {way:Int} (h:d7t q=true) (hw:way=0\/way=1):1<=plZ q way/\plZ q way<=d7d way:=by
 have:=f0a h;unfold plZ d7d
 rcases hw with rfl | rfl
 ·
  simp;omega
 ·
  simp;omega
theorem e3d {q:Rf} {way a n:Int} (h:e2b q way a n=false):e8m q way a n=rf0:=by unfold e8m;rw[h];rfl
theorem e1i {q:Rf} {way a n:Int} (h:e2b q way a n=true):e8m q way a n=ptR q way (shP (plZ q way) a n):=by unfold e8m;rw[h];rfl
theorem e3e {q:Rf} {way a n:Int} (h:d9n q way a n=false):e8n q way a n=rf0:=by unfold e8n;rw[h];rfl
theorem d8w {q:Rf} {way a n:Int} (h:d9n q way a n=true):e8n q way a n=ptR q way (dlP (plZ q way) a n):=by unfold e8n;rw[h];rfl
set_option maxHeartbeats 4000000
set_option maxRecDepth 100000
def e4e (way:Int):Nat:=if way=0 then 153 else 155
def e4f (way:Int):Nat:=if way=0 then 154 else 156
def chV (way a n:Int):Value:=.agg #[I6 (d7d way),I6 a,I6 n,.func (.func (e4e way)) #[] #[],.func (.func (e4f way)) #[] #[]]
theorem d7g (way a n:Int) (w:World) (h:d8b way a n=true) :
  Calls Tryz.prog 122 #[I6 way,I6 a,I6 n] w fun e w'=>e=.returned (.tuple #[chV way a n,.bool true])/\Bl w w':=by
 have hud:=hUd;obtain⟨k0,k1,k2,k3,k4,k5,k6⟩:=d9t h;clear h
 rcases k0 with rfl | rfl
 ·
  have e:chV 0 a n=.agg #[I6 52,I6 a,I6 n,.func (.func 153) #[] #[],.func (.func 154) #[] #[]]:=rfl;rw[show d7d 0=52 from rfl] at *;rw[e];clear e k5 k6;go_enter Tryz.func122,Tryz.ntmps122;go_wp2_with fail;refine bodyPost_ret (v:=.tuple #[.agg #[I6 52,I6 a,I6 n,.func (.func 153) #[] #[],.func (.func 154) #[] #[]],.bool true]) (by simp[results,Tryz.results122,go_sem]) rfl ⟨rfl,?_⟩
  repeat (with_reducible first | exact Below.refl _ _ | apply a0i | refine c0x ?_ (by simp))
 ·
  have e:chV 1 a n=.agg #[I6 99,I6 a,I6 n,.func (.func 155) #[] #[],.func (.func 156) #[] #[]]:=rfl;rw[show d7d 1=99 from rfl] at *;rw[e];clear e k5 k6;go_enter Tryz.func122,Tryz.ntmps122;go_wp2_with fail;refine bodyPost_ret (v:=.tuple #[.agg #[I6 99,I6 a,I6 n,.func (.func 155) #[] #[],.func (.func 156) #[] #[]],.bool true]) (by simp[results,Tryz.results122,go_sem]) rfl ⟨rfl,?_⟩
  repeat (with_reducible first | exact Below.refl _ _ | apply a0i | refine c0x ?_ (by simp))
theorem d8x (q:Rf) (way z:Int) (w:World) (hz:plZ q way=z) :
  Calls Tryz.prog (e4e way) #[.agg #[.string q.sh,I6 q.c,I6 q.r,.bool q.fc,.bool q.fr]] w fun e w'=>e=.returned (I6 z)/\Bl w w':=by
 unfold e4e;by_cases h0:way=0
 ·
  rw[if_pos h0];obtain rfl:q.c=z:=by unfold plZ at hz;rwa [if_pos h0] at hz
  go_enter Tryz.func153,Tryz.ntmps153;go_wp2_with fail
  go_ret
  exact⟨rfl,(Below.refl _ _).alloc (Nat.le_refl _) _⟩
 ·
  rw[if_neg h0];obtain rfl:q.r=z:=by unfold plZ at hz;rwa [if_neg h0] at hz
  go_enter Tryz.func155,Tryz.ntmps155;go_wp2_with fail
  go_ret
  exact⟨rfl,(Below.refl _ _).alloc (Nat.le_refl _) _⟩
theorem e1j (q:Rf) (way z:Int) (t:Rf) (w:World) (ht:ptR q way z=t) :
  Calls Tryz.prog (e4f way) #[.agg #[.string q.sh,I6 q.c,I6 q.r,.bool q.fc,.bool q.fr],I6 z] w fun e w'=>e=.returned (.agg #[.string t.sh,I6 t.c,I6 t.r,.bool t.fc,.bool t.fr])/\Bl w w':=by
 unfold e4f;by_cases h0:way=0
 ·
  rw[if_pos h0];obtain rfl:(⟨q.sh,z,q.r,q.fc,q.fr⟩:Rf)=t:=by unfold ptR at ht;rwa [if_pos h0] at ht
  go_enter Tryz.func154,Tryz.ntmps154;go_wp2_with fail;refine bodyPost_ret (v:=.agg #[.string q.sh,I6 z,I6 q.r,.bool q.fc,.bool q.fr]) (by simp[results,Tryz.results154,go_sem]) rfl ⟨rfl,?_⟩;exact a0i (a0i (Below.refl _ _))
 ·
  rw[if_neg h0];obtain rfl:(⟨q.sh,q.c,z,q.fc,q.fr⟩:Rf)=t:=by unfold ptR at ht;rwa [if_neg h0] at ht
  go_enter Tryz.func156,Tryz.ntmps156;go_wp2_with fail;refine bodyPost_ret (v:=.agg #[.string q.sh,I6 q.c,I6 z,.bool q.fc,.bool q.fr]) (by simp[results,Tryz.results156,go_sem]) rfl ⟨rfl,?_⟩;exact a0i (a0i (Below.refl _ _))
theorem f0g (way:Int) (x:Value) (w:World):(callFunc (e4e way) #[x]).run Tryz.prog w=.ok (.enter (e4e way) #[x]) w:=by
 unfold e4e
 split<;>kernel_rfl
theorem f1q (way:Int) (x y:Value) (w:World):(callFunc (e4f way) #[x,y]).run Tryz.prog w=.ok (.enter (e4f way) #[x,y]) w:=by
 unfold e4f
 split<;>kernel_rfl
theorem f4c (x y:Value) (w:World):(callFunc 79 #[x,y]).run Tryz.prog w=.ok (.enter 79 #[x,y]) w:=by kernel_rfl
theorem f3q (x y:Value) (w:World):(callFunc 86 #[x,y]).run Tryz.prog w=.ok (.enter 86 #[x,y]) w:=by kernel_rfl
def tkP (p a n:Int):Int:=if a+n<=p then p-n else if a<=p then 0 else p
theorem d9v (L a n:Int) (g p:Nat) (z:Int) (w:World) (h1:0<=z) (h2:z<=1000) (h3:0<=n) (h4:n<=1000) :
  Calls Tryz.prog 79 #[.agg #[I6 L,I6 a,I6 n,.func (.func g) #[] #[],.func (.func p) #[] #[]],I6 z] w fun e w'=>e=.returned (I6 (shP z a n))/\Bl w w':=by
 unfold shP;by_cases h:a<=z
 ·
  rw[if_pos h];go_enter Tryz.func79,Tryz.ntmps79;go_wp2_with fail
  go_ret
  exact⟨rfl,a0i (Below.refl _ _)⟩
 ·
  rw[if_neg h];go_enter Tryz.func79,Tryz.ntmps79;go_wp2_with fail
  go_ret
  exact⟨rfl,a0i (Below.refl _ _)⟩
theorem d8c (L a n:Int) (g p:Nat) (z:Int) (w:World) (h1:0<=z) (h2:z<=1000) (h3:0<=n) (h4:n<=1000) (h5:0<=a) (h6:a<=1000) :
  Calls Tryz.prog 86 #[.agg #[I6 L,I6 a,I6 n,.func (.func g) #[] #[],.func (.func p) #[] #[]],I6 z] w fun e w'=>e=.returned (I6 (tkP z a n))/\Bl w w':=by
 unfold tkP;by_cases h:a+n<=z
 ·
  rw[if_pos h];go_enter Tryz.func86,Tryz.ntmps86;go_wp2_with fail
  go_ret
  exact⟨rfl,a0i (Below.refl _ _)⟩
 ·
  rw[if_neg h];by_cases h7:a<=z
  ·
   rw[if_pos h7];go_enter Tryz.func86,Tryz.ntmps86;go_wp2_with fail
   go_ret
   exact⟨rfl,a0i (Below.refl _ _)⟩
  ·
   rw[if_neg h7];go_enter Tryz.func86,Tryz.ntmps86;go_wp2_with fail
   go_ret
   exact⟨rfl,a0i (Below.refl _ _)⟩
end Go.Proofs.YtddgjgcogkdplaaGreatDoor
