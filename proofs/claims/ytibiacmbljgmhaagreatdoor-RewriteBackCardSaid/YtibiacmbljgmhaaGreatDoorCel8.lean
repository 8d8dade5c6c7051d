/-
  
  
  
  
  
  
  
  
  
  
  
  
  
  
  
  
  
  
  
-/
import Derived.Test.YtibiacmbljgmhaaGreatDoorCel1
import Derived.Laws.EntriesVeiled
namespace Go.Proofs.YtibiacmbljgmhaaGreatDoor
open Go.RowKit Go.Shelf
set_option linter.all false
def d7d (way:Int):Int:=if way=0 then 52 else if way=1 then 99 else 0
def d8b (way a n:Int):Bool:=decide (1<=a)&&decide (a<=d7d way)&&decide (1<=n)&&decide (n<=d7d way)
def plZ (q:Rf) (way:Int):Int:=if way=0 then q.c else q.r
def ptR (q:Rf) (way p:Int):Rf:=if way=0 then ⟨q.sh,p,q.r,q.fc,q.fr⟩ else ⟨q.sh,q.c,p,q.fc,q.fr⟩
def d7t (q:Rf):Bool:=a8g q.sh q.c q.r
def shP (p a n:Int):Int:=if a<=p then p+n else p
def dlP (p a n:Int):Int:=if a+n<=p then p-n else p
def e2b (q:Rf) (way a n:Int):Bool:=d7t q&&d8b way a n&&decide (shP (plZ q way) a n<=d7d way)
def e8m (q:Rf) (way a n:Int):Rf:=if e2b q way a n then ptR q way (shP (plZ q way) a n) else rf0
def d9n (q:Rf) (way a n:Int):Bool:=d7t q&&d8b way a n && !(decide (a<=plZ q way)&&decide (plZ q way<a+n))
def e8n (q:Rf) (way a n:Int):Rf:=if d9n q way a n then ptR q way (dlP (plZ q way) a n) else rf0
theorem d9t {way a n:Int} (h:d8b way a n=true):(way=0\/way=1)/\1<=a/\a<=d7d way/\1<=n/\n<=d7d way/\d7d way<=99/\52<=d7d way:=by
 unfold d8b at h;simp only[Bool.and_eq_true,decide_eq_true_eq] at h;obtain⟨⟨⟨h1,h2⟩,h3⟩,h4⟩:=h;by_cases hw:way=0
 ·
  have e:d7d way=52:=if_pos hw;omega
 ·
  by_cases hw2:way=1
  ·
   have e:d7d way=99:=by unfold d7d;rw[if_neg hw,if_pos hw2]
   omega
  ·
   have e:d7d way=0:=by unfold d7d;rw[if_neg hw,if_neg hw2]
   omega
theorem e4z {q:Rf} {way:Int} (h:d7t q=true) (hw:way=0\/way=1):1<=plZ q way/\plZ q way<=d7d way:=by
 have:=f0a h;unfold plZ d7d
 rcases hw with rfl | rfl
 ·
  simp;omega
 ·
  simp;omega
theorem e3d {q:Rf} {way a n:Int} (h:e2b q way a n=false):e8m q way a n=rf0:=by unfold e8m;rw[h];rfl
theorem e1i {q:Rf} {way a n:Int} (h:e2b q way a n=true):e8m q way a n=ptR q way (shP (plZ q way) a n):=by unfold e8m;rw[h];rfl
theorem e3e {q:Rf} {way a n:Int} (h:d9n q way a n=false):e8n q way a n=rf0:=by unfold e8n;rw[h];rfl
theorem d8w {q:Rf} {way a n:Int} (h:d9n q way a n=true):e8n q way a n=ptR q way (dlP (plZ q way) a n):=by unfold e8n;rw[h];rfl
def e1z (a b:Rf) (way x n:Int):Bool:=d7t a&&d7t b&&d8b way x n&&decide (plZ a way<=plZ b way)
def e0i (a b:Rf) (way x n:Int):Bool:=e1z a b way x n&&e2b a way x n
def e5a (a b:Rf) (way x n:Int):Rf:=if e0i a b way x n then e8m a way x n else rf0
def e5c (a b:Rf) (way x n:Int):Rf:=if e0i a b way x n then (if e2b b way x n then e8m b way x n else ptR b way (d7d way)) else rf0
theorem e6v {a b:Rf} {way x n:Int} (h:e0i a b way x n=false):e5a a b way x n=rf0/\e5c a b way x n=rf0:=by
 unfold e5a e5c;rw[h];exact⟨rfl,rfl⟩
theorem e8p {a b:Rf} {way x n:Int} (h:e0i a b way x n=true):e5a a b way x n=e8m a way x n/\e5c a b way x n=if e2b b way x n then e8m b way x n else ptR b way (d7d way):=by
 unfold e5a e5c;rw[h];exact⟨rfl,rfl⟩
theorem e5d (a b:Rf) (way x n:Int):(d7t a=false/\e1z a b way x n=false)\/(d7t a=true/\d7t b=false/\e1z a b way x n=false)\/(d7t a=true/\d7t b=true/\d8b way x n=false/\e1z a b way x n=false) \/
  (d7t a=true/\d7t b=true/\d8b way x n=true/\plZ b way<plZ a way/\e1z a b way x n=false)\/(d7t a=true/\d7t b=true/\d8b way x n=true/\¬ plZ b way<plZ a way/\e1z a b way x n=true):=by
 unfold e1z
 cases d7t a<;>cases d7t b<;>cases d8b way x n<;>simp
 omega
set_option maxHeartbeats 4000000
set_option maxRecDepth 100000
def e4e (way:Int):Nat:=if way=0 then 153 else 155
def e4f (way:Int):Nat:=if way=0 then 154 else 156
def chV (way a n:Int):Value:=.agg #[I6 (d7d way),I6 a,I6 n,.func (.func (e4e way)) #[] #[],.func (.func (e4f way)) #[] #[]]
theorem d7g (way a n:Int) (w:World) (h:d8b way a n=true) :
  Calls Tryz.prog 122 #[I6 way,I6 a,I6 n] w fun e w'=>e=.returned (.tuple #[chV way a n,Bv true])/\Bl w w':=by
 have hud:=hUd;obtain⟨k0,k1,k2,k3,k4,k5,k6⟩:=d9t h;clear h
 rcases k0 with rfl | rfl
 ·
  have e:chV 0 a n=.agg #[I6 52,I6 a,I6 n,.func (.func 153) #[] #[],.func (.func 154) #[] #[]]:=rfl;rw[show d7d 0=52 from rfl] at *;rw[e];clear e k5 k6;go_enter Tryz.func122,Tryz.ntmps122;go_wp2_with fail;refine bodyPost_ret (v:=.tuple #[.agg #[I6 52,I6 a,I6 n,.func (.func 153) #[] #[],.func (.func 154) #[] #[]],Bv true]) (by simp[results,Tryz.results122,go_sem]) rfl ⟨rfl,?_⟩
  repeat (with_reducible first | exact Below.refl _ _ | apply a0i | refine c0x ?_ (by simp))
 ·
  have e:chV 1 a n=.agg #[I6 99,I6 a,I6 n,.func (.func 155) #[] #[],.func (.func 156) #[] #[]]:=rfl;rw[show d7d 1=99 from rfl] at *;rw[e];clear e k5 k6;go_enter Tryz.func122,Tryz.ntmps122;go_wp2_with fail;refine bodyPost_ret (v:=.tuple #[.agg #[I6 99,I6 a,I6 n,.func (.func 155) #[] #[],.func (.func 156) #[] #[]],Bv true]) (by simp[results,Tryz.results122,go_sem]) rfl ⟨rfl,?_⟩
  repeat (with_reducible first | exact Below.refl _ _ | apply a0i | refine c0x ?_ (by simp))
theorem d8x (q:Rf) (way z:Int) (w:World) (hz:plZ q way=z) :
  Calls Tryz.prog (e4e way) #[.agg #[Sg q.sh,I6 q.c,I6 q.r,Bv q.fc,Bv q.fr]] w fun e w'=>e=.returned (I6 z)/\Bl w w':=by
 unfold e4e;by_cases h0:way=0
 ·
  rw[if_pos h0];obtain rfl:q.c=z:=by unfold plZ at hz;rwa [if_pos h0] at hz
  go_enter Tryz.func153,Tryz.ntmps153;go_wp2_with fail
  go_ret
  exact⟨rfl,(Below.refl _ _).alloc (Nat.le_refl _) _⟩
 ·
  rw[if_neg h0];obtain rfl:q.r=z:=by unfold plZ at hz;rwa [if_neg h0] at hz
  go_enter Tryz.func155,Tryz.ntmps155;go_wp2_with fail
  go_ret
  exact⟨rfl,(Below.refl _ _).alloc (Nat.le_refl _) _⟩
theorem e1j (q:Rf) (way z:Int) (t:Rf) (w:World) (ht:ptR q way z=t) :
  Calls Tryz.prog (e4f way) #[.agg #[Sg q.sh,I6 q.c,I6 q.r,Bv q.fc,Bv q.fr],I6 z] w fun e w'=>e=.returned (.agg #[Sg t.sh,I6 t.c,I6 t.r,Bv t.fc,Bv t.fr])/\Bl w w':=by
 unfold e4f;by_cases h0:way=0
 ·
  rw[if_pos h0];obtain rfl:(⟨q.sh,z,q.r,q.fc,q.fr⟩:Rf)=t:=by unfold ptR at ht;rwa [if_pos h0] at ht
  go_enter Tryz.func154,Tryz.ntmps154;go_wp2_with fail;refine bodyPost_ret (v:=.agg #[Sg q.sh,I6 z,I6 q.r,Bv q.fc,Bv q.fr]) (by simp[results,Tryz.results154,go_sem]) rfl ⟨rfl,?_⟩;exact a0i (a0i (Below.refl _ _))
 ·
  rw[if_neg h0];obtain rfl:(⟨q.sh,q.c,z,q.fc,q.fr⟩:Rf)=t:=by unfold ptR at ht;rwa [if_neg h0] at ht
  go_enter Tryz.func156,Tryz.ntmps156;go_wp2_with fail;refine bodyPost_ret (v:=.agg #[Sg q.sh,I6 q.c,I6 z,Bv q.fc,Bv q.fr]) (by simp[results,Tryz.results156,go_sem]) rfl ⟨rfl,?_⟩;exact a0i (a0i (Below.refl _ _))
theorem f0g (way:Int) (x:Value) (w:World):(callFunc (e4e way) #[x]).run Tryz.prog w=.ok (.enter (e4e way) #[x]) w:=by
 unfold e4e
 split<;>kernel_rfl
theorem f1q (way:Int) (x y:Value) (w:World):(callFunc (e4f way) #[x,y]).run Tryz.prog w=.ok (.enter (e4f way) #[x,y]) w:=by
 unfold e4f
 split<;>kernel_rfl
theorem f4c (x y:Value) (w:World):(callFunc 79 #[x,y]).run Tryz.prog w=.ok (.enter 79 #[x,y]) w:=by kernel_rfl
theorem f3q (x y:Value) (w:World):(callFunc 86 #[x,y]).run Tryz.prog w=.ok (.enter 86 #[x,y]) w:=by kernel_rfl
theorem f3r (x y z:Value) (w:World):(callFunc 81 #[x,y,z]).run Tryz.prog w=.ok (.enter 81 #[x,y,z]) w:=by kernel_rfl
theorem f1r (x y z:Value) (w:World):(callFunc 87 #[x,y,z]).run Tryz.prog w=.ok (.enter 87 #[x,y,z]) w:=by kernel_rfl
def tkP (p a n:Int):Int:=if a+n<=p then p-n else if a<=p then 0 else p
theorem d9v (L a n:Int) (g p:Nat) (z:Int) (w:World) (h1:0<=z) (h2:z<=1000) (h3:0<=n) (h4:n<=1000) :
  Calls Tryz.prog 79 #[.agg #[I6 L,I6 a,I6 n,.func (.func g) #[] #[],.func (.func p) #[] #[]],I6 z] w fun e w'=>e=.returned (I6 (shP z a n))/\Bl w w':=by
 unfold shP;by_cases h:a<=z
 ·
  rw[if_pos h];go_enter Tryz.func79,Tryz.ntmps79;go_wp2_with fail
  go_ret
  exact⟨rfl,a0i (Below.refl _ _)⟩
 ·
  rw[if_neg h];go_enter Tryz.func79,Tryz.ntmps79;go_wp2_with fail
  go_ret
  exact⟨rfl,a0i (Below.refl _ _)⟩
theorem d8c (L a n:Int) (g p:Nat) (z:Int) (w:World) (h1:0<=z) (h2:z<=1000) (h3:0<=n) (h4:n<=1000) (h5:0<=a) (h6:a<=1000) :
  Calls Tryz.prog 86 #[.agg #[I6 L,I6 a,I6 n,.func (.func g) #[] #[],.func (.func p) #[] #[]],I6 z] w fun e w'=>e=.returned (I6 (tkP z a n))/\Bl w w':=by
 unfold tkP;by_cases h:a+n<=z
 ·
  rw[if_pos h];go_enter Tryz.func86,Tryz.ntmps86;go_wp2_with fail
  go_ret
  exact⟨rfl,a0i (Below.refl _ _)⟩
 ·
  rw[if_neg h];by_cases h7:a<=z
  ·
   rw[if_pos h7];go_enter Tryz.func86,Tryz.ntmps86;go_wp2_with fail
   go_ret
   exact⟨rfl,a0i (Below.refl _ _)⟩
  ·
   rw[if_neg h7];go_enter Tryz.func86,Tryz.ntmps86;go_wp2_with fail
   go_ret
   exact⟨rfl,a0i (Below.refl _ _)⟩
theorem e5e (L a n:Int) (g p:Nat) (y z u v:Int) (w:World) (h1:0<=z) (h2:z<=1000) (h3:0<=n) (h4:n<=1000) (h5:0<=y) (h6:y<=1000) (hu:shP y a n=u) (hv:min (shP z a n) L=v) :
  Calls Tryz.prog 81 #[.agg #[I6 L,I6 a,I6 n,.func (.func g) #[] #[],.func (.func p) #[] #[]],I6 y,I6 z] w fun e w'=>e=.returned (.tuple #[I6 u,I6 v])/\Bl w w':=by
 have H1:=zh (fun w=>d9v L a n g p y w h5 h6 h3 h4);have H2:=zh (fun w=>d9v L a n g p z w h1 h2 h3 h4);rw[hu] at H1;generalize shP z a n=t at *;clear hu h1 h2 h3 h4 h5 h6;go_enter Tryz.func81,Tryz.ntmps81;go_wp2_with fail;obtain⟨s1,A,hws,hdA,hsz,zA⟩:=nm1 w (.cells #[I6 L,I6 a,I6 n,.func (.func g) #[] #[],.func (.func p) #[] #[]] 121);have yA:=by0 (b:=A) hws hdA;have hBo:=bs1 bR hws;rw[<-hws];try rw[<-hdA]
 clear hws hsz hdA;have HF:=hFF hBo;clear hBo;refine wrp (S:=fun w'=>(∀ j,w'.cell? ⟨A,j,none⟩=([I6 L,I6 a,I6 n,.func (.func g) #[] #[],.func (.func p) #[] #[]]:List Value)[j]?)) (by kernel_rfl) (fun w' hx=>by obtain⟨hcx,hfx⟩:=a0k hx;((try dsimp only);(first | go_keep | ((repeat' apply And.intro)<;>first | assumption | exact yA | exact fun j=>(hcx A j (by assumption)).trans (yA j) | exact eqS yA (by dsimp only;omega) | exact eqS (fun j=>(hcx A j (by assumption)).trans (yA j)) (by dsimp only;omega) | go_keep | (rw[hcx _ _ (by assumption)];assumption))))) (fun HKP hHeld=>?_)
 refine tk 0 ?_;refine tk 1 ?_;refine tk 3 ?_;refine tk 4 ?_;refine tk 6 ?_;refine tk 7 ?_;refine rd1 2 (by kernel_rfl) rfl fun K hK=>?_
 go_simp
 (go_at_call 79;refine cAn (H1.out _) fun x2 hbx=>?_;obtain⟨hTx,hcx,hfx⟩:=bAn s1 hbx)
 try (go_wp2_with fail)
 refine hK.out _ _ (kHp HKP) (fun hHeld=>?_);clear hK K;try simp only[pz]
 refine rd1 5 (by kernel_rfl) rfl fun K hK=>?_
 go_simp
 (go_at_call 79;refine cAn (H2.out _) fun x2 hbx=>?_;obtain⟨hTx,hcx,hfx⟩:=bAn s1 hbx)
 try (go_wp2_with fail)
 refine hK.out _ _ (kHp HKP) (fun hHeld=>?_);clear hK K;try simp only[pz]
 refine tk 8 ?_;refine tk 9 ?_;refine tk 10 ?_;refine wpAnyH_done (by kernel_rfl) ?_ _
 all_goals go_wp2_with fail
 all_goals first | go_ret | go_ret2
 all_goals exact⟨rfl,HF.out _ (by assumption)⟩
theorem f5e (L a n:Int) (g p:Nat) (y z u v:Int) (w:World) (h1:0<=z) (h2:z<=1000) (h3:0<=n) (h4:n<=1000) (h5:0<=y) (h6:y<=1000) (h7:0<=a) (h8:a<=1000) (eu:tkP y a n=u) (ev:tkP z a n=v) (hu:u≠0) (hv:v≠0) :
  Calls Tryz.prog 87 #[.agg #[I6 L,I6 a,I6 n,.func (.func g) #[] #[],.func (.func p) #[] #[]],I6 y,I6 z] w fun e w'=>e=.returned (.tuple #[I6 u,I6 v])/\Bl w w':=by
 have H1:=zh (fun w=>d8c L a n g p y w h5 h6 h3 h4 h7 h8);have H2:=zh (fun w=>d8c L a n g p z w h1 h2 h3 h4 h7 h8);rw[eu] at H1;rw[ev] at H2;clear h1 h2 h3 h4 h5 h6 eu ev;have hu2:(u==0)=false:=by simpa using hu
 have hv2:(v==0)=false:=by simpa using hv
 go_enter Tryz.func87,Tryz.ntmps87;go_wp2_with fail;obtain⟨s3,A,hws,hdA,hsz,zA⟩:=nm1 w (.cells #[I6 L,I6 a,I6 n,.func (.func g) #[] #[],.func (.func p) #[] #[]] 121);have yA:=by0 (b:=A) hws hdA;have hBo:=bs1 bR hws;rw[<-hws];try rw[<-hdA]
 clear hws hsz hdA;have HF:=hFF hBo;clear hBo;refine wrp (S:=fun w'=>(∀ j,w'.cell? ⟨A,j,none⟩=([I6 L,I6 a,I6 n,.func (.func g) #[] #[],.func (.func p) #[] #[]]:List Value)[j]?)) (by kernel_rfl) (fun w' hx=>by obtain⟨hcx,hfx⟩:=a0k hx;((try dsimp only);(first | go_keep | ((repeat' apply And.intro)<;>first | assumption | exact yA | exact fun j=>(hcx A j (by assumption)).trans (yA j) | exact eqS yA (by dsimp only;omega) | exact eqS (fun j=>(hcx A j (by assumption)).trans (yA j)) (by dsimp only;omega) | go_keep | (rw[hcx _ _ (by assumption)];assumption))))) (fun HKP hHeld=>?_)
 refine tk 0 ?_;refine tk 1 ?_;refine tk 3 ?_;refine tk 4 ?_;refine rd1 2 (by kernel_rfl) rfl fun K hK=>?_
 go_simp
 (go_at_call 86;refine cAn (H1.out _) fun x4 hbx=>?_;obtain⟨hTx,hcx,hfx⟩:=bAn s3 hbx)
 try (go_wp2_with fail)
 refine hK.out _ _ (kHp HKP) (fun hHeld=>?_);clear hK K;try simp only[pz]
 refine rd1 5 (by kernel_rfl) rfl fun K hK=>?_
 go_simp
 (go_at_call 86;refine cAn (H2.out _) fun x4 hbx=>?_;obtain⟨hTx,hcx,hfx⟩:=bAn s3 hbx)
 try (go_wp2_with fail)
 refine hK.out _ _ (kHp HKP) (fun hHeld=>?_);clear hK K;try simp only[pz]
 refine tk 6 ?_;refine tk 7 ?_;refine wpAnyH_done (by kernel_rfl) ?_ _;go_wp2_with fail;replace yA:=fun j=>(hcx A j zA).trans (yA j)
 replace zA:=zHl hTx zA;have hBo:=HF.out _ hTx;clear HF hcx hfx hTx
 all_goals go_wp2_with fail
 all_goals first | go_ret | go_ret2
 all_goals exact⟨rfl,hBo⟩
def chA (way a n:Int) (g p:Nat):Value:=.agg #[I6 (d7d way),I6 a,I6 n,.func (.func g) #[] #[],.func (.func p) #[] #[]]
theorem e0r (K:Nat) (HCF:∀ (x y:Value) (w:World),(callFunc K #[x,y]).run Tryz.prog w=.ok (.enter K #[x,y]) w) (q:Rf) (way a n v:Int) (t:Rf) (b:Bool) (w:World) (hs:q.sh.size<=maxLen) (hm:d8b way a n=true) (hr:d7t q=true)
  (HK:∀ (g p:Nat) (w:World),Calls Tryz.prog K #[chA way a n g p,I6 (plZ q way)] w fun e w'=>e=.returned (I6 v)/\Bl w w')
  (h:((v<1\/d7d way<v)/\t=rf0/\b=false)\/(1<=v/\v<=d7d way/\ptR q way v=t/\b=true)) :
  Calls Tryz.prog 78 #[.agg #[Sg q.sh,I6 q.c,I6 q.r,Bv q.fc,Bv q.fr],I6 way,I6 a,I6 n,.func (.func K) #[] #[]] w fun e w'=>e=.returned (.tuple #[.agg #[Sg t.sh,I6 t.c,I6 t.r,Bv t.fc,Bv t.fr],Bv b])/\Bl w w':=by
 have hud:=hUd;have HC:=zh (fun w=>d7g way a n w hm);have HR:=zh (fun w=>a6l q true w hs hr);have HG:=zh (fun w=>d8x q way _ w rfl);have hcg:=f0g way;have hcp:=f1q way;have HP:=zh (fun t w (h:ptR q way v=t)=>e1j q way v t w h);have HKK:=zh (fun w=>HK (e4e way) (e4f way) w);unfold chV at HC;unfold chA at HKK;generalize e4e way=g at *;generalize e4f way=p at *;generalize plZ q way=z at *;generalize d7d way=L at *;clear hm hr HK;have HCP:=zh hcp;clear hcp;go_enter Tryz.func78,Tryz.ntmps78;go_wp2_with fail;obtain⟨s7,A,C,hws,hdA,hdC,hsz,zA,zC⟩:=nm2 w (.cells #[Sg q.sh,I6 q.c,I6 q.r,Bv q.fc,Bv q.fr] 67) (.cells #[S0,I6 0,I6 0,Bv false,Bv false] 67);have dCA:C≠A:=by omega
 have yA:=by1 (b:=A) hws hdA;have yC:=by0 (b:=C) hws (by simp[hdC]);have fC:=bf0 (b:=C) hws (by simp[hdC]);have lC:w.heap.size<=C:=by omega
 have hBo:=bs2 bR hws;rw[<-hws];try rw[<-hdC]
 try rw[<-hdA]
 clear hws hsz hdA hdC;refine cAn (HC.out _) fun s8 hb=>?_
 replace yA:=eqB hb yA zA;replace zA:=zHl hb zA;replace yC:=eqB hb yC zC;replace fC:=fun j=>a0g hb (fC j) zC;replace zC:=zHl hb zC
 replace hBo:=bT hBo hb;clear hb;go_wp2_with fail;obtain⟨s9,Q,hws,hdQ,hsz,zQ⟩:=nm1 s8 (.cells #[I6 L,I6 a,I6 n,.func (.func g) #[] #[],.func (.func p) #[] #[]] 121);have hUp:=up1 hws;have dCQ:C≠Q:=by omega
 replace yA:=eqB hUp yA zA;replace zA:=zHl hUp zA;replace yC:=eqB hUp yC zC;replace fC:=fun j=>a0g hUp (fC j) zC;replace zC:=zHl hUp zC
 clear hUp;have yQ:=by0 (b:=Q) hws hdQ;replace hBo:=bs1 hBo hws;rw[<-hws];try rw[<-hdQ]
 clear hws hsz hdQ;refine cAn (HR.out _) fun s10 hb=>?_
 replace yA:=eqB hb yA zA;replace zA:=zHl hb zA;replace yC:=eqB hb yC zC;replace fC:=fun j=>a0g hb (fC j) zC;replace zC:=zHl hb zC
 replace yQ:=eqB hb yQ zQ;replace zQ:=zHl hb zQ;replace hBo:=bT hBo hb;clear hb;go_wp2_with fail;have HF:=hFF hBo;clear hBo;refine wrp (S:=fun w'=>(∀ j,w'.cell? ⟨A,j,none⟩=([Sg q.sh,I6 q.c,I6 q.r,Bv q.fc,Bv q.fr]:List Value)[j]?)/\(∀ j,w'.cell? ⟨Q,j,none⟩=([I6 L,I6 a,I6 n,.func (.func g) #[] #[],.func (.func p) #[] #[]]:List Value)[j]?)) (by kernel_rfl) (fun w' hx=>by obtain⟨hcx,hfx⟩:=a0k hx;((try dsimp only);(first | go_keep | ((repeat' apply And.intro)<;>first | assumption | exact yA | exact fun j=>(hcx A j (by assumption)).trans (yA j) | exact eqS yA (by dsimp only;omega) | exact eqS (fun j=>(hcx A j (by assumption)).trans (yA j)) (by dsimp only;omega) | exact yQ | exact fun j=>(hcx Q j (by assumption)).trans (yQ j) | exact eqS yQ (by dsimp only;omega) | exact eqS (fun j=>(hcx Q j (by assumption)).trans (yQ j)) (by dsimp only;omega) | go_keep | (rw[hcx _ _ (by assumption)];assumption))))) (fun HKP hHeld=>?_)
 refine tk 0 ?_;refine tk 1 ?_;refine tk 2 ?_;refine tk 3 ?_;refine tk 4 ?_;refine rd1 5 (by kernel_rfl) rfl fun K hK=>?_
 go_simp
 (refine cAn (HG.out _) fun x11 hbx=>?_;have hTx:Bl s10 x11:=bHb hbx;obtain⟨hcx,hfx⟩:=a0k hTx)
 try (go_wp2_with fail)
 refine hK.out _ _ (kHp HKP) (fun hHeld=>?_);clear hK K;try simp only[pz]
 refine rd1 6 (by kernel_rfl) rfl fun K hK=>?_
 go_simp
 (refine cAn (HKK.out _) fun x11 hbx=>?_;have hTx:Bl s10 x11:=bHb hbx;obtain⟨hcx,hfx⟩:=a0k hTx)
 try (go_wp2_with fail)
 refine hK.out _ _ (kHp HKP) (fun hHeld=>?_);clear hK K;try simp only[pz]
 refine tk 7 ?_;refine wpAnyH_done (by kernel_rfl) ?_ _;by_cases h5:v<1
 ·
  obtain⟨rfl,rfl⟩:t=rf0/\b=false:=by rcases h with ⟨_,h1,h2⟩ | ⟨h1,_⟩<;>first | exact⟨h1,h2⟩ | omega
  clear h HP HCP
  all_goals go_wp2_with fail
  all_goals refine bodyPost_ret (v:=.tuple #[.agg #[S0,I6 0,I6 0,Bv false,Bv false],Bv false]) (by simp[results,Tryz.results78,go_sem,hcx,yC,zC]) rfl ⟨rfl,?_⟩
  all_goals exact(sc5 (HF.out _ (by assumption)) lC)
 ·
  by_cases h6:L<v
  ·
   obtain⟨rfl,rfl⟩:t=rf0/\b=false:=by rcases h with ⟨_,h1,h2⟩ | ⟨_,h1,_⟩<;>first | exact⟨h1,h2⟩ | omega
   clear h HP HCP
   all_goals go_wp2_with fail
   all_goals refine bodyPost_ret (v:=.tuple #[.agg #[S0,I6 0,I6 0,Bv false,Bv false],Bv false]) (by simp[results,Tryz.results78,go_sem,hcx,yC,zC]) rfl ⟨rfl,?_⟩
   all_goals exact(sc5 (HF.out _ (by assumption)) lC)
  ·
   obtain⟨h3,rfl⟩:ptR q way v=t/\b=true:=by rcases h with ⟨h1,_⟩ | ⟨_,_,h3,h4⟩<;>first | exact⟨h3,h4⟩ | omega
   have HPP:=zh (fun w=>HP.out t w h3);have hcp:=HCP.out;clear HP h3 h HCP;go_wp2_with fail;replace yA:=fun j=>(hcx A j zA).trans (yA j)
   replace zA:=zHl hTx zA;replace yC:=fun j=>(hcx C j zC).trans (yC j)
   replace fC:=fun j=>(hfx C j zC).trans (fC j)
   replace zC:=zHl hTx zC;replace yQ:=fun j=>(hcx Q j zQ).trans (yQ j)
   replace zQ:=zHl hTx zQ;have hBo:=HF.out _ hTx;clear HF hcx hfx hTx;refine cAn (HPP.out _) fun s12 hb=>?_
   replace yA:=eqB hb yA zA;replace zA:=zHl hb zA;replace yC:=eqB hb yC zC;replace fC:=fun j=>a0g hb (fC j) zC;replace zC:=zHl hb zC
   replace yQ:=eqB hb yQ zQ;replace zQ:=zHl hb zQ;replace hBo:=bT hBo hb;clear hb
   all_goals go_wp2_with fail
   all_goals refine bodyPost_ret (v:=.tuple #[.agg #[Sg t.sh,I6 t.c,I6 t.r,Bv t.fc,Bv t.fr],Bv true]) (by simp[results,Tryz.results78,go_sem,yC,zC]) rfl ⟨rfl,?_⟩
   all_goals exact(sc5 hBo lC)
theorem d8z {q:Rf} {way a n:Int} (hm:d8b way a n=true) (hr:d7t q=true):e2b q way a n=decide (shP (plZ q way) a n<=d7d way):=by unfold e2b;rw[hm,hr];rfl
theorem d9o {q:Rf} {way a n:Int} (hm:d8b way a n=true) (hr:d7t q=true):d9n q way a n=!(decide (a<=plZ q way)&&decide (plZ q way<a+n)):=by unfold d9n;rw[hm,hr];rfl
theorem e5f (q:Rf) (way a n:Int) (t:Rf) (b:Bool) (w:World)
  (HF:∀ w,Calls Tryz.prog 78 #[.agg #[Sg q.sh,I6 q.c,I6 q.r,Bv q.fc,Bv q.fr],I6 way,I6 a,I6 n,.func (.func 79) #[] #[]] w fun e w'=>e=.returned (.tuple #[.agg #[Sg t.sh,I6 t.c,I6 t.r,Bv t.fc,Bv t.fr],Bv b])/\Bl w w') :
  Calls Tryz.prog 38 #[.agg #[Sg q.sh,I6 q.c,I6 q.r,Bv q.fc,Bv q.fr],I6 way,I6 a,I6 n] w fun e w'=>e=.returned (.tuple #[.agg #[Sg t.sh,I6 t.c,I6 t.r,Bv t.fc,Bv t.fr],Bv b])/\Bl w w':=by
 have HFF:=zh HF;clear HF;go_enter Tryz.func38,Tryz.ntmps38;go_wp2_with fail;obtain⟨s13,A,C,hws,hdA,hdC,hsz,zA,zC⟩:=nm2 w (.cells #[Sg q.sh,I6 q.c,I6 q.r,Bv q.fc,Bv q.fr] 67) (.cells #[S0,I6 0,I6 0,Bv false,Bv false] 67);have dCA:C≠A:=by omega
 have yA:=by1 (b:=A) hws hdA;have yC:=by0 (b:=C) hws (by simp[hdC]);have fC:=bf0 (b:=C) hws (by simp[hdC]);have lC:w.heap.size<=C:=by omega
 have hBo:=bs2 bR hws;rw[<-hws];try rw[<-hdC]
 try rw[<-hdA]
 clear hws hsz hdA hdC;refine cAn (HFF.out _) fun s14 hb=>?_
 replace yA:=eqB hb yA zA;replace zA:=zHl hb zA;replace yC:=eqB hb yC zC;replace fC:=fun j=>a0g hb (fC j) zC;replace zC:=zHl hb zC
 replace hBo:=bT hBo hb;clear hb
 all_goals go_wp2_with fail
 all_goals refine bodyPost_ret (v:=.tuple #[.agg #[Sg t.sh,I6 t.c,I6 t.r,Bv t.fc,Bv t.fr],Bv b]) (by simp[results,Tryz.results38,go_sem,yC,zC]) rfl ⟨rfl,?_⟩
 all_goals exact(sc5 hBo lC)
theorem e3f (q:Rf) (way a n:Int) (t:Rf) (b:Bool) (w:World)
  (HF:∀ w,Calls Tryz.prog 78 #[.agg #[Sg q.sh,I6 q.c,I6 q.r,Bv q.fc,Bv q.fr],I6 way,I6 a,I6 n,.func (.func 86) #[] #[]] w fun e w'=>e=.returned (.tuple #[.agg #[Sg t.sh,I6 t.c,I6 t.r,Bv t.fc,Bv t.fr],Bv b])/\Bl w w') :
  Calls Tryz.prog 45 #[.agg #[Sg q.sh,I6 q.c,I6 q.r,Bv q.fc,Bv q.fr],I6 way,I6 a,I6 n] w fun e w'=>e=.returned (.tuple #[.agg #[Sg t.sh,I6 t.c,I6 t.r,Bv t.fc,Bv t.fr],Bv b])/\Bl w w':=by
 have HFF:=zh HF;clear HF;go_enter Tryz.func45,Tryz.ntmps45;go_wp2_with fail;obtain⟨s15,A,C,hws,hdA,hdC,hsz,zA,zC⟩:=nm2 w (.cells #[Sg q.sh,I6 q.c,I6 q.r,Bv q.fc,Bv q.fr] 67) (.cells #[S0,I6 0,I6 0,Bv false,Bv false] 67);have dCA:C≠A:=by omega
 have yA:=by1 (b:=A) hws hdA;have yC:=by0 (b:=C) hws (by simp[hdC]);have fC:=bf0 (b:=C) hws (by simp[hdC]);have lC:w.heap.size<=C:=by omega
 have hBo:=bs2 bR hws;rw[<-hws];try rw[<-hdC]
 try rw[<-hdA]
 clear hws hsz hdA hdC;refine cAn (HFF.out _) fun s16 hb=>?_
 replace yA:=eqB hb yA zA;replace zA:=zHl hb zA;replace yC:=eqB hb yC zC;replace fC:=fun j=>a0g hb (fC j) zC;replace zC:=zHl hb zC
 replace hBo:=bT hBo hb;clear hb
 all_goals go_wp2_with fail
 all_goals refine bodyPost_ret (v:=.tuple #[.agg #[Sg t.sh,I6 t.c,I6 t.r,Bv t.fc,Bv t.fr],Bv b]) (by simp[results,Tryz.results45,go_sem,yC,zC]) rfl ⟨rfl,?_⟩
 all_goals exact(sc5 hBo lC)
set_option maxHeartbeats 8000000
theorem d9w (K:Nat) (HCF:∀ (x y z:Value) (w:World),(callFunc K #[x,y,z]).run Tryz.prog w=.ok (.enter K #[x,y,z]) w) (a b:Rf) (way x n u v:Int) (s t:Rf) (k:Bool) (w:World) (hs:a.sh.size<=maxLen) (hs2:b.sh.size<=maxLen)
  (g1:d8b way x n=true) (g2:d7t a=true) (g3:d7t b=true) (g4 : ¬ plZ b way<plZ a way)
  (HK:∀ (g p:Nat) (w:World),Calls Tryz.prog K #[chA way x n g p,I6 (plZ a way),I6 (plZ b way)] w fun e w'=>e=.returned (.tuple #[I6 u,I6 v])/\Bl w w')
  (h:(v<u/\s=rf0/\t=rf0/\k=false)\/(¬ v<u/\ptR a way u=s/\ptR b way v=t/\k=true)) :
  Calls Tryz.prog 80 #[.agg #[Sg a.sh,I6 a.c,I6 a.r,Bv a.fc,Bv a.fr],.agg #[Sg b.sh,I6 b.c,I6 b.r,Bv b.fc,Bv b.fr],I6 way,I6 x,I6 n,.func (.func K) #[] #[]] w fun e w'=>e=.returned (.tuple #[.agg #[Sg s.sh,I6 s.c,I6 s.r,Bv s.fc,Bv s.fr],.agg #[Sg t.sh,I6 t.c,I6 t.r,Bv t.fc,Bv t.fr],Bv k])/\Bl w w':=by
 have hud:=hUd;have HC:=zh (fun w=>d7g way x n w g1);unfold chV at HC;have HA:=zh (fun w=>a6l a true w hs g2);have HB:=zh (fun w=>a6l b true w hs2 g3);have HGa:=zh (fun w=>d8x a way _ w rfl);have HGb:=zh (fun w=>d8x b way _ w rfl);have hcg:=f0g way;have HPa:=zh (fun s w (h:ptR a way u=s)=>e1j a way u s w h);have HPb:=zh (fun t w (h:ptR b way v=t)=>e1j b way v t w h);have hcp:=f1q way;have HKK:=zh (fun w=>HK (e4e way) (e4f way) w);unfold chA at HKK;generalize e4e way=g at *;generalize e4f way=p at *;generalize plZ a way=za at *;generalize plZ b way=zb at *;generalize d7d way=L at *;clear g1 g2 g3 HK;have HCP:=zh hcp;clear hcp;go_enter Tryz.func80,Tryz.ntmps80;go_wp2_with fail;obtain⟨s1,A,B,C,D,hws,hdA,hdB,hdC,hdD,hsz,zA,zB,zC,zD⟩:=nm4 w (.cells #[Sg a.sh,I6 a.c,I6 a.r,Bv a.fc,Bv a.fr] 67) (.cells #[Sg b.sh,I6 b.c,I6 b.r,Bv b.fc,Bv b.fr] 67) (.cells #[S0,I6 0,I6 0,Bv false,Bv false] 67) (.cells #[S0,I6 0,I6 0,Bv false,Bv false] 67);have dCA:C≠A:=by omega
 have dCB:C≠B:=by omega
 have dCD:C≠D:=by omega
 have dDA:D≠A:=by omega
 have dDB:D≠B:=by omega
 have dDC:D≠C:=by omega
 have yA:=by3 (b:=A) hws hdA;have yB:=by2 (b:=B) hws (by simp[hdB]);have yC:=by1 (b:=C) hws (by simp[hdC]);have fC:=bf1 (b:=C) hws (by simp[hdC]);have lC:w.heap.size<=C:=by omega
 have yD:=by0 (b:=D) hws (by simp[hdD]);have fD:=bf0 (b:=D) hws (by simp[hdD]);have lD:w.heap.size<=D:=by omega
 have hBo:=bs4 bR hws;rw[<-hws];try rw[<-hdD]
 try rw[<-hdC]
 try rw[<-hdB]
 try rw[<-hdA]
 clear hws hsz hdA hdB hdC hdD;refine cAn (HC.out _) fun s2 hb=>?_
 replace yA:=eqB hb yA zA;replace zA:=zHl hb zA;replace yB:=eqB hb yB zB;replace zB:=zHl hb zB;replace yC:=eqB hb yC zC;replace fC:=fun j=>a0g hb (fC j) zC;replace zC:=zHl hb zC
 replace yD:=eqB hb yD zD;replace fD:=fun j=>a0g hb (fD j) zD;replace zD:=zHl hb zD
 replace hBo:=bT hBo hb;clear hb;go_wp2_with fail;obtain⟨s3,Q,hws,hdQ,hsz,zQ⟩:=nm1 s2 (.cells #[I6 L,I6 x,I6 n,.func (.func g) #[] #[],.func (.func p) #[] #[]] 121);have hUp:=up1 hws;have dCQ:C≠Q:=by omega
 have dDQ:D≠Q:=by omega
 replace yA:=eqB hUp yA zA;replace zA:=zHl hUp zA;replace yB:=eqB hUp yB zB;replace zB:=zHl hUp zB;replace yC:=eqB hUp yC zC;replace fC:=fun j=>a0g hUp (fC j) zC;replace zC:=zHl hUp zC
 replace yD:=eqB hUp yD zD;replace fD:=fun j=>a0g hUp (fD j) zD;replace zD:=zHl hUp zD
 clear hUp;have yQ:=by0 (b:=Q) hws hdQ;replace hBo:=bs1 hBo hws;rw[<-hws];try rw[<-hdQ]
 clear hws hsz hdQ;have HF:=hFF hBo;clear hBo;refine wrp (S:=fun w'=>(∀ j,w'.cell? ⟨A,j,none⟩=([Sg a.sh,I6 a.c,I6 a.r,Bv a.fc,Bv a.fr]:List Value)[j]?)/\(∀ j,w'.cell? ⟨B,j,none⟩=([Sg b.sh,I6 b.c,I6 b.r,Bv b.fc,Bv b.fr]:List Value)[j]?)/\(∀ j,w'.cell? ⟨Q,j,none⟩=([I6 L,I6 x,I6 n,.func (.func g) #[] #[],.func (.func p) #[] #[]]:List Value)[j]?)) (by kernel_rfl) (fun w' hx=>by obtain⟨hcx,hfx⟩:=a0k hx;((try dsimp only);(first | go_keep | ((repeat' apply And.intro)<;>first | assumption | exact yA | exact fun j=>(hcx A j (by assumption)).trans (yA j) | exact eqS yA (by dsimp only;omega) | exact eqS (fun j=>(hcx A j (by assumption)).trans (yA j)) (by dsimp only;omega) | exact yB | exact fun j=>(hcx B j (by assumption)).trans (yB j) | exact eqS yB (by dsimp only;omega) | exact eqS (fun j=>(hcx B j (by assumption)).trans (yB j)) (by dsimp only;omega) | exact yQ | exact fun j=>(hcx Q j (by assumption)).trans (yQ j) | exact eqS yQ (by dsimp only;omega) | exact eqS (fun j=>(hcx Q j (by assumption)).trans (yQ j)) (by dsimp only;omega) | go_keep | (rw[hcx _ _ (by assumption)];assumption))))) (fun HKP hHeld=>?_)
 refine tk 0 ?_;refine tk 1 ?_;refine tk 2 ?_;refine tk 3 ?_;refine rd1 4 (by kernel_rfl) rfl fun K hK=>?_
 go_simp
 (go_at_call 108;refine cAn (HA.out _) fun x4 hbx=>?_;obtain⟨hTx,hcx,hfx⟩:=bAn s3 hbx)
 try (go_wp2_with fail)
 refine hK.out _ _ (kHp HKP) (fun hHeld=>?_);clear hK K;try simp only[pz]
 refine tk 5 ?_;refine tk 6 ?_;refine tk 7 ?_;refine tk 8 ?_;refine rd1 9 (by kernel_rfl) rfl fun K hK=>?_
 go_simp
 (go_at_call 108;refine cAn (HB.out _) fun x4 hbx=>?_;obtain⟨hTx,hcx,hfx⟩:=bAn s3 hbx)
 try (go_wp2_with fail)
 refine hK.out _ _ (kHp HKP) (fun hHeld=>?_);clear hK K;try simp only[pz]
 refine tk 10 ?_;refine tk 11 ?_;refine tk 12 ?_;refine tk 13 ?_;refine tk 14 ?_;refine tk 15 ?_;refine tk 17 ?_;refine tk 18 ?_;refine tk 19 ?_;refine rd1 16 (by kernel_rfl) rfl fun K hK=>?_
 go_simp
 (refine cAn (HGa.out _) fun x4 hbx=>?_;have hTx:Bl s3 x4:=bHb hbx;obtain⟨hcx,hfx⟩:=a0k hTx)
 try (go_wp2_with fail)
 refine hK.out _ _ (kHp HKP) (fun hHeld=>?_);clear hK K;try simp only[pz]
 refine rd1 20 (by kernel_rfl) rfl fun K hK=>?_
 go_simp
 (refine cAn (HGb.out _) fun x4 hbx=>?_;have hTx:Bl s3 x4:=bHb hbx;obtain⟨hcx,hfx⟩:=a0k hTx)
 try (go_wp2_with fail)
 refine hK.out _ _ (kHp HKP) (fun hHeld=>?_);clear hK K;try simp only[pz]
 refine tk 21 ?_;refine tk 22 ?_;refine wpAnyH_done (by kernel_rfl) ?_ _;go_wp2_with fail;replace yA:=fun j=>(hcx A j zA).trans (yA j)
 replace zA:=zHl hTx zA;replace yB:=fun j=>(hcx B j zB).trans (yB j)
 replace zB:=zHl hTx zB;replace yC:=fun j=>(hcx C j zC).trans (yC j)
 replace fC:=fun j=>(hfx C j zC).trans (fC j)
 replace zC:=zHl hTx zC;replace yD:=fun j=>(hcx D j zD).trans (yD j)
 replace fD:=fun j=>(hfx D j zD).trans (fD j)
 replace zD:=zHl hTx zD;replace yQ:=fun j=>(hcx Q j zQ).trans (yQ j)
 replace zQ:=zHl hTx zQ;have hBo:=HF.out _ hTx;clear HF hcx hfx hTx;have HF:=hFF hBo;clear hBo;refine wrp (S:=fun w'=>(∀ j,w'.cell? ⟨A,j,none⟩=([Sg a.sh,I6 a.c,I6 a.r,Bv a.fc,Bv a.fr]:List Value)[j]?)/\(∀ j,w'.cell? ⟨B,j,none⟩=([Sg b.sh,I6 b.c,I6 b.r,Bv b.fc,Bv b.fr]:List Value)[j]?)/\(∀ j,w'.cell? ⟨Q,j,none⟩=([I6 L,I6 x,I6 n,.func (.func g) #[] #[],.func (.func p) #[] #[]]:List Value)[j]?)) (by kernel_rfl) (fun w' hx=>by obtain⟨hcx,hfx⟩:=a0k hx;((try dsimp only);(first | go_keep | ((repeat' apply And.intro)<;>first | assumption | exact yA | exact fun j=>(hcx A j (by assumption)).trans (yA j) | exact eqS yA (by dsimp only;omega) | exact eqS (fun j=>(hcx A j (by assumption)).trans (yA j)) (by dsimp only;omega) | exact yB | exact fun j=>(hcx B j (by assumption)).trans (yB j) | exact eqS yB (by dsimp only;omega) | exact eqS (fun j=>(hcx B j (by assumption)).trans (yB j)) (by dsimp only;omega) | exact yQ | exact fun j=>(hcx Q j (by assumption)).trans (yQ j) | exact eqS yQ (by dsimp only;omega) | exact eqS (fun j=>(hcx Q j (by assumption)).trans (yQ j)) (by dsimp only;omega) | go_keep | (rw[hcx _ _ (by assumption)];assumption))))) (fun HKP hHeld=>?_)
 refine tk 0 ?_;refine tk 1 ?_;refine tk 2 ?_;refine tk 3 ?_;refine tk 4 ?_;refine tk 6 ?_;refine tk 7 ?_;refine tk 8 ?_;refine rd1 5 (by kernel_rfl) rfl fun K hK=>?_
 go_simp
 (refine cAn (HGa.out _) fun x5 hbx=>?_;have hTx:Bl x4 x5:=bHb hbx;obtain⟨hcx,hfx⟩:=a0k hTx)
 try (go_wp2_with fail)
 refine hK.out _ _ (kHp HKP) (fun hHeld=>?_);clear hK K;try simp only[pz]
 refine rd1 9 (by kernel_rfl) rfl fun K hK=>?_
 go_simp
 (refine cAn (HGb.out _) fun x5 hbx=>?_;have hTx:Bl x4 x5:=bHb hbx;obtain⟨hcx,hfx⟩:=a0k hTx)
 try (go_wp2_with fail)
 refine hK.out _ _ (kHp HKP) (fun hHeld=>?_);clear hK K;try simp only[pz]
 refine rd1 10 (by kernel_rfl) rfl fun K hK=>?_
 go_simp
 (refine cAn (HKK.out _) fun x5 hbx=>?_;have hTx:Bl x4 x5:=bHb hbx;obtain⟨hcx,hfx⟩:=a0k hTx)
 try (go_wp2_with fail)
 refine hK.out _ _ (kHp HKP) (fun hHeld=>?_);clear hK K;try simp only[pz]
 refine tk 11 ?_;refine tk 12 ?_;refine tk 13 ?_;refine tk 14 ?_;refine tk 15 ?_;refine wpAnyH_done (by kernel_rfl) ?_ _
 rcases h with ⟨h1,rfl,rfl,rfl⟩ | ⟨h1,h2,h3,rfl⟩
 ·
  clear HPa HPb HCP
  all_goals go_wp2_with fail
  all_goals refine bodyPost_ret (v:=.tuple #[.agg #[S0,I6 0,I6 0,Bv false,Bv false],.agg #[S0,I6 0,I6 0,Bv false,Bv false],Bv false]) (by simp[results,Tryz.results80,go_sem,hcx,yC,yD,zC,zD]) rfl ⟨rfl,?_⟩
  all_goals exact(sc5 (sc5 (HF.out _ (by assumption)) lC) lD)
 ·
  have HPPa:=zh (fun w=>HPa.out s w h2);have HPPb:=zh (fun w=>HPb.out t w h3);have hcp:=HCP.out;clear HPa HPb h2 h3 HCP;go_wp2_with fail;replace yA:=fun j=>(hcx A j zA).trans (yA j)
  replace zA:=zHl hTx zA;replace yB:=fun j=>(hcx B j zB).trans (yB j)
  replace zB:=zHl hTx zB;replace yC:=fun j=>(hcx C j zC).trans (yC j)
  replace fC:=fun j=>(hfx C j zC).trans (fC j)
  replace zC:=zHl hTx zC;replace yD:=fun j=>(hcx D j zD).trans (yD j)
  replace fD:=fun j=>(hfx D j zD).trans (fD j)
  replace zD:=zHl hTx zD;replace yQ:=fun j=>(hcx Q j zQ).trans (yQ j)
  replace zQ:=zHl hTx zQ;have hBo:=HF.out _ hTx;clear HF hcx hfx hTx;have HF:=hFF hBo;clear hBo;refine wp_region_held_drew (S:=fun w'=>(∀ j,w'.cell? ⟨A,j,none⟩=([Sg a.sh,I6 a.c,I6 a.r,Bv a.fc,Bv a.fr]:List Value)[j]?)/\(∀ j,w'.cell? ⟨B,j,none⟩=([Sg b.sh,I6 b.c,I6 b.r,Bv b.fc,Bv b.fr]:List Value)[j]?)/\(∀ j,w'.cell? ⟨Q,j,none⟩=([I6 L,I6 x,I6 n,.func (.func g) #[] #[],.func (.func p) #[] #[]]:List Value)[j]?)) (by kernel_rfl) (by ((try dsimp only);(first | go_keep | ((repeat' apply And.intro)<;>first | assumption | exact yA | exact fun j=>(hcx A j (by assumption)).trans (yA j) | exact eqS yA (by dsimp only;omega) | exact eqS (fun j=>(hcx A j (by assumption)).trans (yA j)) (by dsimp only;omega) | exact yB | exact fun j=>(hcx B j (by assumption)).trans (yB j) | exact eqS yB (by dsimp only;omega) | exact eqS (fun j=>(hcx B j (by assumption)).trans (yB j)) (by dsimp only;omega) | exact yQ | exact fun j=>(hcx Q j (by assumption)).trans (yQ j) | exact eqS yQ (by dsimp only;omega) | exact eqS (fun j=>(hcx Q j (by assumption)).trans (yQ j)) (by dsimp only;omega) | go_keep | (rw[hcx _ _ (by assumption)];assumption))))) (fun hHeld=>?_)
  refine tk 0 ?_;refine tk 1 ?_;refine tk 2 ?_;refine tk 3 ?_;refine tk 5 ?_;refine tk 6 ?_;refine tk 7 ?_;refine tk 8 ?_;refine rd1 4 (by kernel_rfl) rfl fun K hK=>?_
  go_simp
  (refine cAn (HPPa.out _) fun x6 hbx=>?_;have hTx:Bl x5 x6:=bHb hbx;obtain⟨hcx,hfx⟩:=a0k hTx)
  try (go_wp2_with fail)
  refine hK.out _ _ (by ((try dsimp only);(first | go_keep | ((repeat' apply And.intro)<;>first | assumption | exact yA | exact fun j=>(hcx A j (by assumption)).trans (yA j) | exact eqS yA (by dsimp only;omega) | exact eqS (fun j=>(hcx A j (by assumption)).trans (yA j)) (by dsimp only;omega) | exact yB | exact fun j=>(hcx B j (by assumption)).trans (yB j) | exact eqS yB (by dsimp only;omega) | exact eqS (fun j=>(hcx B j (by assumption)).trans (yB j)) (by dsimp only;omega) | exact yQ | exact fun j=>(hcx Q j (by assumption)).trans (yQ j) | exact eqS yQ (by dsimp only;omega) | exact eqS (fun j=>(hcx Q j (by assumption)).trans (yQ j)) (by dsimp only;omega) | go_keep | (rw[hcx _ _ (by assumption)];assumption))))) (fun hHeld=>?_)
  clear hK K;try simp only[pz]
  refine rd1 9 (by kernel_rfl) rfl fun K hK=>?_
  go_simp
  (refine cAn (HPPb.out _) fun x6 hbx=>?_;have hTx:Bl x5 x6:=bHb hbx;obtain⟨hcx,hfx⟩:=a0k hTx)
  try (go_wp2_with fail)
  refine hK.out _ _ (by ((try dsimp only);(first | go_keep | ((repeat' apply And.intro)<;>first | assumption | exact yA | exact fun j=>(hcx A j (by assumption)).trans (yA j) | exact eqS yA (by dsimp only;omega) | exact eqS (fun j=>(hcx A j (by assumption)).trans (yA j)) (by dsimp only;omega) | exact yB | exact fun j=>(hcx B j (by assumption)).trans (yB j) | exact eqS yB (by dsimp only;omega) | exact eqS (fun j=>(hcx B j (by assumption)).trans (yB j)) (by dsimp only;omega) | exact yQ | exact fun j=>(hcx Q j (by assumption)).trans (yQ j) | exact eqS yQ (by dsimp only;omega) | exact eqS (fun j=>(hcx Q j (by assumption)).trans (yQ j)) (by dsimp only;omega) | go_keep | (rw[hcx _ _ (by assumption)];assumption))))) (fun hHeld=>?_)
  clear hK K;try simp only[pz]
  refine rd1 10 (by kernel_rfl) rfl fun K hK=>?_
  go_simp;try (go_wp2_with fail)
  refine hK.out _ _ (by ((try dsimp only);(first | go_keep | ((repeat' apply And.intro)<;>first | assumption | exact yA | exact fun j=>(hcx A j (by assumption)).trans (yA j) | exact eqS yA (by dsimp only;omega) | exact eqS (fun j=>(hcx A j (by assumption)).trans (yA j)) (by dsimp only;omega) | exact yB | exact fun j=>(hcx B j (by assumption)).trans (yB j) | exact eqS yB (by dsimp only;omega) | exact eqS (fun j=>(hcx B j (by assumption)).trans (yB j)) (by dsimp only;omega) | exact yQ | exact fun j=>(hcx Q j (by assumption)).trans (yQ j) | exact eqS yQ (by dsimp only;omega) | exact eqS (fun j=>(hcx Q j (by assumption)).trans (yQ j)) (by dsimp only;omega) | go_keep | (rw[hcx _ _ (by assumption)];assumption))))) (fun hHeld=>?_)
  clear hK K;try simp only[pz]
  refine rd1 11 (by kernel_rfl) rfl fun K hK=>?_
  go_simp;try (go_wp2_with fail)
  refine hK.out _ _ (by ((try dsimp only);(first | go_keep | ((repeat' apply And.intro)<;>first | assumption | exact yA | exact fun j=>(hcx A j (by assumption)).trans (yA j) | exact eqS yA (by dsimp only;omega) | exact eqS (fun j=>(hcx A j (by assumption)).trans (yA j)) (by dsimp only;omega) | exact yB | exact fun j=>(hcx B j (by assumption)).trans (yB j) | exact eqS yB (by dsimp only;omega) | exact eqS (fun j=>(hcx B j (by assumption)).trans (yB j)) (by dsimp only;omega) | exact yQ | exact fun j=>(hcx Q j (by assumption)).trans (yQ j) | exact eqS yQ (by dsimp only;omega) | exact eqS (fun j=>(hcx Q j (by assumption)).trans (yQ j)) (by dsimp only;omega) | go_keep | (rw[hcx _ _ (by assumption)];assumption))))) (fun hHeld=>?_)
  clear hK K;try simp only[pz]
  refine tk 12 ?_;refine wpAnyH_done (by kernel_rfl) ?_ _
  all_goals go_wp2_with fail
  all_goals refine bodyPost_ret (v:=.tuple #[.agg #[Sg s.sh,I6 s.c,I6 s.r,Bv s.fc,Bv s.fr],.agg #[Sg t.sh,I6 t.c,I6 t.r,Bv t.fc,Bv t.fr],Bv true]) (by simp[results,Tryz.results80,go_sem,hcx,yC,yD,zC,zD]) rfl ⟨rfl,?_⟩
  all_goals exact(sc5 (sc5 (HF.out _ (by assumption)) lC) lD)
set_option maxHeartbeats 4000000
def d9g (a b:Rf) (way x n:Int):Bool:=e1z a b way x n&&(d9n a way x n || d9n b way x n)
def e5i (a b:Rf) (way x n:Int):Rf:=if d9g a b way x n then (if d9n a way x n then e8n a way x n else ptR a way x) else rf0
def e5j (a b:Rf) (way x n:Int):Rf:=if d9g a b way x n then (if d9n b way x n then e8n b way x n else ptR b way (x-1)) else rf0
theorem e4g {a b:Rf} {way x n:Int} (h:d9g a b way x n=true):e5i a b way x n=(if d9n a way x n then e8n a way x n else ptR a way x)/\e5j a b way x n=if d9n b way x n then e8n b way x n else ptR b way (x-1):=by
 unfold e5i e5j;rw[h];exact⟨rfl,rfl⟩
theorem e6x {a b:Rf} {way x n:Int} (h:e1z a b way x n=true):d7t a=true/\d7t b=true/\d8b way x n=true/\¬ plZ b way<plZ a way:=by
 rcases e5d a b way x n with ⟨_,g⟩ | ⟨_,_,g⟩ | ⟨_,_,_,g⟩ | ⟨_,_,_,_,g⟩ | ⟨g1,g2,g3,g4,g⟩
 ·
  rw[h] at g;cases g
 ·
  rw[h] at g;cases g
 ·
  rw[h] at g;cases g
 ·
  rw[h] at g;cases g
 ·
  exact⟨g1,g2,g3,g4⟩
theorem f6v (q:Rf) (way z:Int):plZ (ptR q way z) way=z:=by
 unfold plZ ptR
 split<;>rfl
theorem f5t (q:Rf) (way z:Int):(ptR q way z).sh=q.sh:=by
 unfold ptR
 split<;>rfl
theorem f5u {q:Rf} {way z:Int} (h:d7t q=true) (hw:way=0\/way=1) (h1:1<=z) (h2:z<=d7d way):d7t (ptR q way z)=true:=by
 obtain⟨g1,g2,g3,g4⟩:=f0a h;unfold d7t a8g at *;rw[Bool.and_eq_true] at h |-
 rw[f5t];refine⟨h.1,?_⟩
 rcases hw with rfl | rfl
 ·
  rw[a9p];rw[show d7d 0=52 from rfl] at h2;exact⟨h1,h2,g3,g4⟩
 ·
  rw[a9p];rw[show d7d 1=99 from rfl] at h2;exact⟨g1,g2,h1,h2⟩
theorem e4h {q:Rf} {way x n:Int} (hm:d8b way x n=true) (hr:d7t q=true):(d9n q way x n=true ↔ ¬ (x<=plZ q way/\plZ q way<x+n))/\(d9n q way x n=false ↔ (x<=plZ q way/\plZ q way<x+n)):=by
 rw[d9o hm hr];constructor<;>simp<;>omega
theorem e3h (a b:Rf) (way x n:Int) (p q:Rf) (k:Bool) (w:World)
  (HF:∀ w,Calls Tryz.prog 80 #[.agg #[Sg a.sh,I6 a.c,I6 a.r,Bv a.fc,Bv a.fr],.agg #[Sg b.sh,I6 b.c,I6 b.r,Bv b.fc,Bv b.fr],I6 way,I6 x,I6 n,.func (.func 81) #[] #[]] w fun e w'=>e=.returned (.tuple #[.agg #[Sg p.sh,I6 p.c,I6 p.r,Bv p.fc,Bv p.fr],.agg #[Sg q.sh,I6 q.c,I6 q.r,Bv q.fc,Bv q.fr],Bv k])/\Bl w w') :
  Calls Tryz.prog 39 #[.agg #[Sg a.sh,I6 a.c,I6 a.r,Bv a.fc,Bv a.fr],.agg #[Sg b.sh,I6 b.c,I6 b.r,Bv b.fc,Bv b.fr],I6 way,I6 x,I6 n] w fun e w'=>e=.returned (.tuple #[.agg #[Sg p.sh,I6 p.c,I6 p.r,Bv p.fc,Bv p.fr],.agg #[Sg q.sh,I6 q.c,I6 q.r,Bv q.fc,Bv q.fr],Bv k])/\Bl w w':=by
 have HFF:=zh HF;clear HF;go_enter Tryz.func39,Tryz.ntmps39;go_wp2_with fail;obtain⟨s1,A,B,C,D,hws,hdA,hdB,hdC,hdD,hsz,zA,zB,zC,zD⟩:=nm4 w (.cells #[Sg a.sh,I6 a.c,I6 a.r,Bv a.fc,Bv a.fr] 67) (.cells #[Sg b.sh,I6 b.c,I6 b.r,Bv b.fc,Bv b.fr] 67) (.cells #[S0,I6 0,I6 0,Bv false,Bv false] 67) (.cells #[S0,I6 0,I6 0,Bv false,Bv false] 67);have dCA:C≠A:=by omega
 have dCB:C≠B:=by omega
 have dCD:C≠D:=by omega
 have dDA:D≠A:=by omega
 have dDB:D≠B:=by omega
 have dDC:D≠C:=by omega
 have yA:=by3 (b:=A) hws hdA;have yB:=by2 (b:=B) hws (by simp[hdB]);have yC:=by1 (b:=C) hws (by simp[hdC]);have fC:=bf1 (b:=C) hws (by simp[hdC]);have lC:w.heap.size<=C:=by omega
 have yD:=by0 (b:=D) hws (by simp[hdD]);have fD:=bf0 (b:=D) hws (by simp[hdD]);have lD:w.heap.size<=D:=by omega
 have hBo:=bs4 bR hws;rw[<-hws];try rw[<-hdD]
 try rw[<-hdC]
 try rw[<-hdB]
 try rw[<-hdA]
 clear hws hsz hdA hdB hdC hdD;refine cAn (HFF.out _) fun s2 hb=>?_
 replace yA:=eqB hb yA zA;replace zA:=zHl hb zA;replace yB:=eqB hb yB zB;replace zB:=zHl hb zB;replace yC:=eqB hb yC zC;replace fC:=fun j=>a0g hb (fC j) zC;replace zC:=zHl hb zC
 replace yD:=eqB hb yD zD;replace fD:=fun j=>a0g hb (fD j) zD;replace zD:=zHl hb zD
 replace hBo:=bT hBo hb;clear hb
 all_goals go_wp2_with fail
 all_goals refine bodyPost_ret (v:=.tuple #[.agg #[Sg p.sh,I6 p.c,I6 p.r,Bv p.fc,Bv p.fr],.agg #[Sg q.sh,I6 q.c,I6 q.r,Bv q.fc,Bv q.fr],Bv k]) (by simp[results,Tryz.results39,go_sem,yC,yD,zC,zD]) rfl ⟨rfl,?_⟩
 all_goals exact(sc5 (sc5 hBo lC) lD)
theorem e2c (a b:Rf) (way x n:Int) (p q:Rf) (k:Bool) (w:World)
  (HF:∀ w,Calls Tryz.prog 80 #[.agg #[Sg a.sh,I6 a.c,I6 a.r,Bv a.fc,Bv a.fr],.agg #[Sg b.sh,I6 b.c,I6 b.r,Bv b.fc,Bv b.fr],I6 way,I6 x,I6 n,.func (.func 87) #[] #[]] w fun e w'=>e=.returned (.tuple #[.agg #[Sg p.sh,I6 p.c,I6 p.r,Bv p.fc,Bv p.fr],.agg #[Sg q.sh,I6 q.c,I6 q.r,Bv q.fc,Bv q.fr],Bv k])/\Bl w w') :
  Calls Tryz.prog 46 #[.agg #[Sg a.sh,I6 a.c,I6 a.r,Bv a.fc,Bv a.fr],.agg #[Sg b.sh,I6 b.c,I6 b.r,Bv b.fc,Bv b.fr],I6 way,I6 x,I6 n] w fun e w'=>e=.returned (.tuple #[.agg #[Sg p.sh,I6 p.c,I6 p.r,Bv p.fc,Bv p.fr],.agg #[Sg q.sh,I6 q.c,I6 q.r,Bv q.fc,Bv q.fr],Bv k])/\Bl w w':=by
 have HFF:=zh HF;clear HF;go_enter Tryz.func46,Tryz.ntmps46;go_wp2_with fail;obtain⟨s3,A,B,C,D,hws,hdA,hdB,hdC,hdD,hsz,zA,zB,zC,zD⟩:=nm4 w (.cells #[Sg a.sh,I6 a.c,I6 a.r,Bv a.fc,Bv a.fr] 67) (.cells #[Sg b.sh,I6 b.c,I6 b.r,Bv b.fc,Bv b.fr] 67) (.cells #[S0,I6 0,I6 0,Bv false,Bv false] 67) (.cells #[S0,I6 0,I6 0,Bv false,Bv false] 67);have dCA:C≠A:=by omega
 have dCB:C≠B:=by omega
 have dCD:C≠D:=by omega
 have dDA:D≠A:=by omega
 have dDB:D≠B:=by omega
 have dDC:D≠C:=by omega
 have yA:=by3 (b:=A) hws hdA;have yB:=by2 (b:=B) hws (by simp[hdB]);have yC:=by1 (b:=C) hws (by simp[hdC]);have fC:=bf1 (b:=C) hws (by simp[hdC]);have lC:w.heap.size<=C:=by omega
 have yD:=by0 (b:=D) hws (by simp[hdD]);have fD:=bf0 (b:=D) hws (by simp[hdD]);have lD:w.heap.size<=D:=by omega
 have hBo:=bs4 bR hws;rw[<-hws];try rw[<-hdD]
 try rw[<-hdC]
 try rw[<-hdB]
 try rw[<-hdA]
 clear hws hsz hdA hdB hdC hdD;refine cAn (HFF.out _) fun s4 hb=>?_
 replace yA:=eqB hb yA zA;replace zA:=zHl hb zA;replace yB:=eqB hb yB zB;replace zB:=zHl hb zB;replace yC:=eqB hb yC zC;replace fC:=fun j=>a0g hb (fC j) zC;replace zC:=zHl hb zC
 replace yD:=eqB hb yD zD;replace fD:=fun j=>a0g hb (fD j) zD;replace zD:=zHl hb zD
 replace hBo:=bT hBo hb;clear hb
 all_goals go_wp2_with fail
 all_goals refine bodyPost_ret (v:=.tuple #[.agg #[Sg p.sh,I6 p.c,I6 p.r,Bv p.fc,Bv p.fr],.agg #[Sg q.sh,I6 q.c,I6 q.r,Bv q.fc,Bv q.fr],Bv k]) (by simp[results,Tryz.results46,go_sem,yC,yD,zC,zD]) rfl ⟨rfl,?_⟩
 all_goals exact(sc5 (sc5 hBo lC) lD)
theorem f5v {q:Rf} {way a n:Int} (h:e2b q way a n=true):(e8m q way a n).sh=q.sh:=by rw[e1i h,f5t]
theorem f7d (q:Rf) (way y z:Int):ptR (ptR q way y) way z=ptR q way z:=by
 unfold ptR
 split<;>rfl
theorem f7e (q:Rf) (way:Int):ptR q way (plZ q way)=q:=by
 unfold ptR plZ
 split<;>rfl
theorem f5f {q:Rf} {way a n:Int} (h:e2b q way a n=true):d9n (e8m q way a n) way a n=true/\e8n (e8m q way a n) way a n=q:=by
 have h0:=h;unfold e2b at h;rw[Bool.and_eq_true,Bool.and_eq_true] at h;obtain⟨⟨h1,h2⟩,h3⟩:=h;have h3':=of_decide_eq_true h3;obtain⟨k0,k1,k2,k3,k4,k5,k6⟩:=d9t h2;obtain⟨p1,p2⟩:=e4z h1 k0;have hge:1<=shP (plZ q way) a n:=by unfold shP;split<;>omega
 have hr:d7t (e8m q way a n)=true:=by rw[e1i h0];exact f5u h1 k0 hge h3'
 have hp:plZ (e8m q way a n) way=shP (plZ q way) a n:=by rw[e1i h0,f6v]
 have hd:d9n (e8m q way a n) way a n=true:=by
  rw[(e4h h2 hr).1,hp];unfold shP
  split<;>omega
 refine⟨hd,?_⟩;rw[d8w hd,hp]
 have:dlP (shP (plZ q way) a n) a n=plZ q way:=by
  unfold shP dlP
  split<;>split<;>omega
 rw[this,e1i h0,f7d,f7e]
def e6n (way a n:Int) (r s:Rf):Rf × Rf × Bool:=(e5a r s way a n,e5c r s way a n,e0i r s way a n)
def e6o (way a n:Int) (r s:Rf):Rf × Rf × Bool:=(e5i r s way a n,e5j r s way a n,d9g r s way a n)
theorem f5m (a b:Rf) (way x n:Int) (w:World) (hs:a.sh.size<=maxLen) (hs2:b.sh.size<=maxLen) (g:e1z a b way x n=true) :
  Calls Tryz.prog 39 #[.agg #[Sg a.sh,I6 a.c,I6 a.r,Bv a.fc,Bv a.fr],.agg #[Sg b.sh,I6 b.c,I6 b.r,Bv b.fc,Bv b.fr],I6 way,I6 x,I6 n] w fun e w'=>e=.returned (.tuple #[.agg #[Sg ((e6n way x n a b).1).sh,I6 ((e6n way x n a b).1).c,I6 ((e6n way x n a b).1).r,Bv ((e6n way x n a b).1).fc,Bv ((e6n way x n a b).1).fr],.agg #[Sg ((e6n way x n a b).2.1).sh,I6 ((e6n way x n a b).2.1).c,I6 ((e6n way x n a b).2.1).r,Bv ((e6n way x n a b).2.1).fc,Bv ((e6n way x n a b).2.1).fr],Bv (e6n way x n a b).2.2])/\Bl w w':=by
 unfold e6n;dsimp only;refine e3h a b way x n _ _ _ w fun w=>?_
 obtain⟨g1,g2,g3,g4⟩:=e6x g;obtain⟨k0,k1,k2,k3,k4,k5,k6⟩:=d9t g3;obtain⟨a1,a2⟩:=e4z g1 k0;obtain⟨b1,b2⟩:=e4z g2 k0;have hB:e0i a b way x n=e2b a way x n:=by unfold e0i;rw[g,Bool.true_and]
 have ia:=d8z g3 g1;have ib:=d8z g3 g2;refine d9w _ f3r a b way x n _ _ _ _ _ w hs hs2 g3 g1 g2 g4 (fun g p w=>e5e _ x n g p _ _ _ _ w (by omega) (by omega) (by omega) (by omega) (by omega) (by omega) rfl rfl) ?_;have hmono:shP (plZ a way) x n<=shP (plZ b way) x n:=by unfold shP;split<;>split<;>omega
 cases h1:e2b a way x n with
 | false =>
  obtain⟨e1,e2⟩:=e6v (hB.trans h1);left;have h5:=of_decide_eq_false (ia.symm.trans h1);exact⟨by omega,e1,e2,hB.trans h1⟩
 | true =>
  obtain⟨e1,e2⟩:=e8p (hB.trans h1);right;have h5:=of_decide_eq_true (ia.symm.trans h1);refine⟨by omega,(e1.trans (e1i h1)).symm,?_,hB.trans h1⟩;rw[e2]
  cases h2:e2b b way x n with
  | true =>
   have h6:=of_decide_eq_true (ib.symm.trans h2);rw[if_pos rfl,e1i h2,Int.min_eq_left h6]
  | false =>
   have h6:=of_decide_eq_false (ib.symm.trans h2);rw[if_neg Bool.false_ne_true,Int.min_eq_right (by omega)]
theorem f5n (a b:Rf) (way x n:Int) (w:World) (hs:a.sh.size<=maxLen) (hs2:b.sh.size<=maxLen) (g:e1z a b way x n=true) (h1:d9n a way x n=true) (h2:d9n b way x n=true) :
  Calls Tryz.prog 46 #[.agg #[Sg a.sh,I6 a.c,I6 a.r,Bv a.fc,Bv a.fr],.agg #[Sg b.sh,I6 b.c,I6 b.r,Bv b.fc,Bv b.fr],I6 way,I6 x,I6 n] w fun e w'=>e=.returned (.tuple #[.agg #[Sg ((e6o way x n a b).1).sh,I6 ((e6o way x n a b).1).c,I6 ((e6o way x n a b).1).r,Bv ((e6o way x n a b).1).fc,Bv ((e6o way x n a b).1).fr],.agg #[Sg ((e6o way x n a b).2.1).sh,I6 ((e6o way x n a b).2.1).c,I6 ((e6o way x n a b).2.1).r,Bv ((e6o way x n a b).2.1).fc,Bv ((e6o way x n a b).2.1).fr],Bv (e6o way x n a b).2.2])/\Bl w w':=by
 unfold e6o;dsimp only;refine e2c a b way x n _ _ _ w fun w=>?_
 obtain⟨g1,g2,g3,g4⟩:=e6x g;obtain⟨k0,k1,k2,k3,k4,k5,k6⟩:=d9t g3;obtain⟨a1,a2⟩:=e4z g1 k0;obtain⟨b1,b2⟩:=e4z g2 k0;have ja:=(e4h g3 g1).1.1 h1;have jb:=(e4h g3 g2).1.1 h2
 have t1:∀ z,1<=z->¬ (x<=z/\z<x+n)->tkP z x n=dlP z x n/\dlP z x n≠0:=fun z hz h=>by
  unfold tkP dlP;by_cases h2:x+n<=z
  ·
   rw[if_pos h2,if_pos h2];exact⟨rfl,by omega⟩
  ·
   rw[if_neg h2,if_neg h2,if_neg (by omega : ¬ x<=z)];exact⟨rfl,by omega⟩
 obtain⟨e1,n1⟩:=t1 _ a1 ja;obtain⟨e2,n2⟩:=t1 _ b1 jb;have hk2:d9g a b way x n=true:=by unfold d9g;rw[g,h1];rfl
 obtain⟨d1,d2⟩:=e4g hk2;rw[h1,if_pos rfl] at d1;rw[h2,if_pos rfl] at d2;refine d9w _ f1r a b way x n _ _ _ _ _ w hs hs2 g3 g1 g2 g4 (fun g p w=>f5e _ x n g p _ _ _ _ w (by omega) (by omega) (by omega) (by omega) (by omega) (by omega) (by omega) (by omega) e1 e2 n1 n2) ?_;right;exact⟨by unfold dlP;split<;>split<;>omega,(d1.trans (d8w h1)).symm,(d2.trans (d8w h2)).symm,hk2⟩
end Go.Proofs.YtibiacmbljgmhaaGreatDoor
