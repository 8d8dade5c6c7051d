import Derived.Test.YtibiacmbljgmhaaGreatDoorCel1
import Derived.Laws.EntriesVeiled
namespace Go.Proofs.YtibiacmbljgmhaaGreatDoor
open Go.RowKit Go.Shelf
set_option linter.all false
set_option maxRecDepth 100000
def Yx (way:Int):Int:=if way=0 then 52 else if way=1 then 99 else 0
def YY (way a n:Int):Bool:=decide (1<=a)&&decide (a<=Yx way)&&decide (1<=n)&&decide (n<=Yx way)
def Q9 (q:Rf) (way:Int):Int:=if way=0 then q.c else q.r
def Y1 (q:Rf) (way p:Int):Rf:=if way=0 then ⟨q.sh,p,q.r,q.fc,q.fr⟩ else ⟨q.sh,q.c,p,q.fc,q.fr⟩
def X8 (q:Rf):Bool:=a8g q.sh q.c q.r
def shP (p a n:Int):Int:=if a<=p then p+n else p
def YX (p a n:Int):Int:=if a+n<=p then p-n else p
def e2b (q:Rf) (way a n:Int):Bool:=X8 q&&YY way a n&&decide (shP (Q9 q way) a n<=Yx way)
def e8m (q:Rf) (way a n:Int):Rf:=if e2b q way a n then Y1 q way (shP (Q9 q way) a n) else Jj
def Xw (q:Rf) (way a n:Int):Bool:=X8 q&&YY way a n && !(decide (a<=Q9 q way)&&decide (Q9 q way<a+n))
def e8n (q:Rf) (way a n:Int):Rf:=if Xw q way a n then Y1 q way (YX (Q9 q way) a n) else Jj
theorem d9t {way a n:Int} (h:YY way a n=true):(way=0\/way=1)/\1<=a/\a<=Yx way/\1<=n/\n<=Yx way/\Yx way<=99/\52<=Yx way:=by
 unfold YY at h;simp only[Bool.and_eq_true,decide_eq_true_eq] at h;obtain⟨⟨⟨h1,h2⟩,h3⟩,h4⟩:=h;by_cases hw:way=0
 ·
  have e:Yx way=52:=if_pos hw;omega
 ·
  by_cases hw2:way=1
  ·
   have e:Yx way=99:=by unfold Yx;rw[if_neg hw,if_pos hw2]
   omega
  ·
   have e:Yx way=0:=by unfold Yx;rw[if_neg hw,if_neg hw2]
   omega
theorem e4z {q:Rf} {way:Int} (h:X8 q=true) (hw:way=0\/way=1):1<=Q9 q way/\Q9 q way<=Yx way:=by
 have:=f0a h;unfold Q9 Yx
 rcases hw with rfl | rfl
 ·
  simp;omega
 ·
  simp;omega
theorem e3d {q:Rf} {way a n:Int} (h:e2b q way a n=false):e8m q way a n=Jj:=by unfold e8m;rw[h];rfl
theorem e1i {q:Rf} {way a n:Int} (h:e2b q way a n=true):e8m q way a n=Y1 q way (shP (Q9 q way) a n):=by unfold e8m;rw[h];rfl
theorem e3e {q:Rf} {way a n:Int} (h:Xw q way a n=false):e8n q way a n=Jj:=by unfold e8n;rw[h];rfl
theorem d8w {q:Rf} {way a n:Int} (h:Xw q way a n=true):e8n q way a n=Y1 q way (YX (Q9 q way) a n):=by unfold e8n;rw[h];rfl
theorem f9w (way:Int) (w:World) :
  Cz 84 #[I6 way] w fun e w'=>e=.returned (I6 (Yx way))/\w'=w:=by
 unfold Yx;go_enter Tryz.func84,Tryz.ntmps84;by_cases h0:way=0
 ·
  subst h0
  go_wp2
  go_ret
  exact⟨rfl,rfl⟩
 ·
  have hq:(way==0)=false:=by simpa using h0
  by_cases h1:way=1
  ·
   subst h1
   go_wp2
   go_ret
   exact⟨rfl,rfl⟩
  ·
   have hq1:(way==1)=false:=by simpa using h1
   rw[if_neg h0,if_neg h1]
   go_wp2
   go_ret
   exact⟨rfl,rfl⟩
theorem f9v (way a n:Int) (b:Bool) (w:World) (hb:YY way a n=b) :
  Cz 82 #[I6 way,I6 a,I6 n] w fun e w'=>e=.returned (Bv b)/\w'=w:=by
 have HL:=zh (fun w=>f9w way w);unfold YY at hb;generalize Yx way=L at *;have HB:=zh hb;clear hb;go_enter Tryz.func82,Tryz.ntmps82;go_wp2_with (go_at_call 84;refine(HL.out _).mono ?_;rintro e w1 ⟨rfl,rfl⟩)
 all_goals (go_ret;exact⟨J4 (by rw[<-HB.out,Bool.eq_iff_iff];simp<;>omega),rfl⟩)
theorem f9q (q:Rf) (way z:Int) (w:World) (hz:Q9 q way=z) :
  Ca 83 #[.agg #[Sg q.sh,I6 q.c,I6 q.r,Bv q.fc,Bv q.fr],I6 way] w (I6 z):=by
 by_cases h0:way=0
 ·
  subst h0;obtain rfl:q.c=z:=hz;go_enter Tryz.func83,Tryz.ntmps83;go_wp2
  go_ret
  exact⟨rfl,(Below.refl _ _).alloc (jC _) _⟩
 ·
  have hq:(way==0)=false:=by simpa using h0
  obtain rfl:q.r=z:=by unfold Q9 at hz;rwa [if_neg h0] at hz
  go_enter Tryz.func83,Tryz.ntmps83;go_wp2
  go_ret
  exact⟨rfl,(Below.refl _ _).alloc (jC _) _⟩
theorem f9r (q:Rf) (way z:Int) (t:Rf) (w:World) (ht:Y1 q way z=t) :
  Ca 85 #[.agg #[Sg q.sh,I6 q.c,I6 q.r,Bv q.fc,Bv q.fr],I6 way,I6 z] w (.agg #[Sg t.sh,I6 t.c,I6 t.r,Bv t.fc,Bv t.fr]):=by
 by_cases h0:way=0
 ·
  subst h0;obtain rfl:(⟨q.sh,z,q.r,q.fc,q.fr⟩:Rf)=t:=ht;go_enter Tryz.func85,Tryz.ntmps85;go_wp2_with fail;refine jU (v:=.agg #[Sg q.sh,I6 z,I6 q.r,Bv q.fc,Bv q.fr]) (by simp[results,Tryz.results85,go_sem]) rfl ⟨rfl,?_⟩;exact((Below.refl _ _).alloc (jC _) _).alloc (by simp) _
 ·
  have hq:(way==0)=false:=by simpa using h0
  obtain rfl:(⟨q.sh,q.c,z,q.fc,q.fr⟩:Rf)=t:=by unfold Y1 at ht;rwa [if_neg h0] at ht
  go_enter Tryz.func85,Tryz.ntmps85;go_wp2_with fail;refine jU (v:=.agg #[Sg q.sh,I6 q.c,I6 z,Bv q.fc,Bv q.fr]) (by simp[results,Tryz.results85,go_sem]) rfl ⟨rfl,?_⟩;exact((Below.refl _ _).alloc (jC _) _).alloc (by simp) _
def e1z (a b:Rf) (way x n:Int):Bool:=X8 a&&X8 b&&YY way x n&&decide (Q9 a way<=Q9 b way)
def e0i (a b:Rf) (way x n:Int):Bool:=e1z a b way x n&&e2b a way x n
def e5a (a b:Rf) (way x n:Int):Rf:=if e0i a b way x n then e8m a way x n else Jj
def e5c (a b:Rf) (way x n:Int):Rf:=if e0i a b way x n then (if e2b b way x n then e8m b way x n else Y1 b way (Yx way)) else Jj
theorem e6v {a b:Rf} {way x n:Int} (h:e0i a b way x n=false):e5a a b way x n=Jj/\e5c a b way x n=Jj:=by
 unfold e5a e5c;rw[h];exact⟨rfl,rfl⟩
theorem e8p {a b:Rf} {way x n:Int} (h:e0i a b way x n=true):e5a a b way x n=e8m a way x n/\e5c a b way x n=if e2b b way x n then e8m b way x n else Y1 b way (Yx way):=by
 unfold e5a e5c;rw[h];exact⟨rfl,rfl⟩
theorem e5d (a b:Rf) (way x n:Int):(X8 a=false/\e1z a b way x n=false)\/(X8 a=true/\X8 b=false/\e1z a b way x n=false)\/(X8 a=true/\X8 b=true/\YY way x n=false/\e1z a b way x n=false) \/
  (X8 a=true/\X8 b=true/\YY way x n=true/\Q9 b way<Q9 a way/\e1z a b way x n=false)\/(X8 a=true/\X8 b=true/\YY way x n=true/\¬ Q9 b way<Q9 a way/\e1z a b way x n=true):=by
 unfold e1z
 cases X8 a<;>cases X8 b<;>cases YY way x n<;>simp
 omega
set_option maxHeartbeats 4000000
def e4e (way:Int):Nat:=if way=0 then 153 else 155
def e4f (way:Int):Nat:=if way=0 then 154 else 156
def chV (way a n:Int):Value:=.agg #[I6 (Yx way),I6 a,I6 n,.func (.func (e4e way)) #[] #[],.func (.func (e4f way)) #[] #[]]
theorem d7g (way a n:Int) (w:World) (h:YY way a n=true) :
  Ca 122 #[I6 way,I6 a,I6 n] w (.tuple #[chV way a n,Bv true]):=by
 have JY:=Qw;obtain⟨k0,k1,k2,k3,k4,k5,k6⟩:=d9t h;clear h
 rcases k0 with rfl | rfl
 ·
  have e:chV 0 a n=.agg #[I6 52,I6 a,I6 n,.func (.func 153) #[] #[],.func (.func 154) #[] #[]]:=rfl;rw[show Yx 0=52 from rfl] at *;rw[e];clear e k5 k6;go_enter Tryz.func122,Tryz.ntmps122;go_wp2_with fail;refine jU (v:=.tuple #[.agg #[I6 52,I6 a,I6 n,.func (.func 153) #[] #[],.func (.func 154) #[] #[]],Bv true]) (by simp[results,Tryz.results122,go_sem]) rfl ⟨rfl,?_⟩
  repeat (with_reducible first | exact Below.refl _ _ | apply X7 | refine c0x ?_ (by simp))
 ·
  have e:chV 1 a n=.agg #[I6 99,I6 a,I6 n,.func (.func 155) #[] #[],.func (.func 156) #[] #[]]:=rfl;rw[show Yx 1=99 from rfl] at *;rw[e];clear e k5 k6;go_enter Tryz.func122,Tryz.ntmps122;go_wp2_with fail;refine jU (v:=.tuple #[.agg #[I6 99,I6 a,I6 n,.func (.func 155) #[] #[],.func (.func 156) #[] #[]],Bv true]) (by simp[results,Tryz.results122,go_sem]) rfl ⟨rfl,?_⟩
  repeat (with_reducible first | exact Below.refl _ _ | apply X7 | refine c0x ?_ (by simp))
theorem d8x (q:Rf) (way z:Int) (w:World) (hz:Q9 q way=z) :
  Ca (e4e way) #[.agg #[Sg q.sh,I6 q.c,I6 q.r,Bv q.fc,Bv q.fr]] w (I6 z):=by
 unfold e4e;by_cases h0:way=0
 ·
  rw[if_pos h0];obtain rfl:q.c=z:=by unfold Q9 at hz;rwa [if_pos h0] at hz
  go_enter Tryz.func153,Tryz.ntmps153;go_wp2
  go_ret
  exact⟨rfl,(Below.refl _ _).alloc (jC _) _⟩
 ·
  rw[if_neg h0];obtain rfl:q.r=z:=by unfold Q9 at hz;rwa [if_neg h0] at hz
  go_enter Tryz.func155,Tryz.ntmps155;go_wp2
  go_ret
  exact⟨rfl,(Below.refl _ _).alloc (jC _) _⟩
theorem e1j (q:Rf) (way z:Int) (t:Rf) (w:World) (ht:Y1 q way z=t) :
  Ca (e4f way) #[.agg #[Sg q.sh,I6 q.c,I6 q.r,Bv q.fc,Bv q.fr],I6 z] w (.agg #[Sg t.sh,I6 t.c,I6 t.r,Bv t.fc,Bv t.fr]):=by
 unfold e4f;by_cases h0:way=0
 ·
  rw[if_pos h0];obtain rfl:(⟨q.sh,z,q.r,q.fc,q.fr⟩:Rf)=t:=by unfold Y1 at ht;rwa [if_pos h0] at ht
  go_enter Tryz.func154,Tryz.ntmps154;go_wp2_with fail;refine jU (v:=.agg #[Sg q.sh,I6 z,I6 q.r,Bv q.fc,Bv q.fr]) (by simp[results,Tryz.results154,go_sem]) rfl ⟨rfl,?_⟩;exact X7 (X7 (Below.refl _ _))
 ·
  rw[if_neg h0];obtain rfl:(⟨q.sh,q.c,z,q.fc,q.fr⟩:Rf)=t:=by unfold Y1 at ht;rwa [if_neg h0] at ht
  go_enter Tryz.func156,Tryz.ntmps156;go_wp2_with fail;refine jU (v:=.agg #[Sg q.sh,I6 q.c,I6 z,Bv q.fc,Bv q.fr]) (by simp[results,Tryz.results156,go_sem]) rfl ⟨rfl,?_⟩;exact X7 (X7 (Below.refl _ _))
theorem f0g (way:Int) (x:Value) (w:World):(callFunc (e4e way) #[x]).run Tryz.prog w=.ok (.enter (e4e way) #[x]) w:=by
 unfold e4e
 split<;>kernel_rfl
theorem f1q (way:Int) (x y:Value) (w:World):(callFunc (e4f way) #[x,y]).run Tryz.prog w=.ok (.enter (e4f way) #[x,y]) w:=by
 unfold e4f
 split<;>kernel_rfl
theorem f4c (x y:Value) (w:World):(callFunc 79 #[x,y]).run Tryz.prog w=.ok (.enter 79 #[x,y]) w:=by kernel_rfl
theorem f3q (x y:Value) (w:World):(callFunc 86 #[x,y]).run Tryz.prog w=.ok (.enter 86 #[x,y]) w:=by kernel_rfl
theorem f3r (x y z:Value) (w:World):(callFunc 81 #[x,y,z]).run Tryz.prog w=.ok (.enter 81 #[x,y,z]) w:=by kernel_rfl
theorem f1r (x y z:Value) (w:World):(callFunc 87 #[x,y,z]).run Tryz.prog w=.ok (.enter 87 #[x,y,z]) w:=by kernel_rfl
def tkP (p a n:Int):Int:=if a+n<=p then p-n else if a<=p then 0 else p
theorem d9v (L a n:Int) (g p:Nat) (z:Int) (w:World) (h1:0<=z) (h2:z<=1000) (h3:0<=n) (h4:n<=1000) :
  Ca 79 #[.agg #[I6 L,I6 a,I6 n,.func (.func g) #[] #[],.func (.func p) #[] #[]],I6 z] w (I6 (shP z a n)):=by
 unfold shP;by_cases h:a<=z
 ·
  rw[if_pos h];go_enter Tryz.func79,Tryz.ntmps79;go_wp2
  go_ret
  exact⟨rfl,X7 (Below.refl _ _)⟩
 ·
  rw[if_neg h];go_enter Tryz.func79,Tryz.ntmps79;go_wp2
  go_ret
  exact⟨rfl,X7 (Below.refl _ _)⟩
theorem d8c (L a n:Int) (g p:Nat) (z:Int) (w:World) (h1:0<=z) (h2:z<=1000) (h3:0<=n) (h4:n<=1000) (h5:0<=a) (h6:a<=1000) :
  Ca 86 #[.agg #[I6 L,I6 a,I6 n,.func (.func g) #[] #[],.func (.func p) #[] #[]],I6 z] w (I6 (tkP z a n)):=by
 unfold tkP;by_cases h:a+n<=z
 ·
  rw[if_pos h];go_enter Tryz.func86,Tryz.ntmps86;go_wp2
  go_ret
  exact⟨rfl,X7 (Below.refl _ _)⟩
 ·
  rw[if_neg h];by_cases h7:a<=z
  ·
   rw[if_pos h7];go_enter Tryz.func86,Tryz.ntmps86;go_wp2
   go_ret
   exact⟨rfl,X7 (Below.refl _ _)⟩
  ·
   rw[if_neg h7];go_enter Tryz.func86,Tryz.ntmps86;go_wp2
   go_ret
   exact⟨rfl,X7 (Below.refl _ _)⟩
theorem e5e (L a n:Int) (g p:Nat) (y z u v:Int) (w:World) (h1:0<=z) (h2:z<=1000) (h3:0<=n) (h4:n<=1000) (h5:0<=y) (h6:y<=1000) (hu:shP y a n=u) (hv:min (shP z a n) L=v) :
  Ca 81 #[.agg #[I6 L,I6 a,I6 n,.func (.func g) #[] #[],.func (.func p) #[] #[]],I6 y,I6 z] w (.tuple #[I6 u,I6 v]):=by
 have H1:=zh (fun w=>d9v L a n g p y w h5 h6 h3 h4);have H2:=zh (fun w=>d9v L a n g p z w h1 h2 h3 h4);rw[hu] at H1;generalize shP z a n=t at *;clear hu h1 h2 h3 h4 h5 h6;go_enter Tryz.func81,Tryz.ntmps81;go_wp2_with fail;obtain⟨s1,A,j6,jz,j8,zA⟩:=qy w (.cells #[I6 L,I6 a,I6 n,.func (.func g) #[] #[],.func (.func p) #[] #[]] 121);have yA:=qZ (b:=A) j6 jz;have j7:=qQ bR j6;rw[<-j6];try rw[<-jz]
 clear j6 j8 jz;have HF:=QX j7;clear j7;refine wrp (S:=fun w'=>(∀ j,w'.cell? ⟨A,j,none⟩=([I6 L,I6 a,I6 n,.func (.func g) #[] #[],.func (.func p) #[] #[]]:List Value)[j]?)) (by kernel_rfl) (fun w' hx=>JC) (fun Q6 jx=>?_)
 refine tk 0 ?_;refine tk 1 ?_;refine tk 3 ?_;refine tk 4 ?_;refine tk 6 ?_;refine tk 7 ?_;refine Jq 2 (by kernel_rfl) rfl fun K hK=>?_
 go_simp
 (go_at_call 79;refine jy (H1.out _) fun x2 qk=>?_;obtain⟨qx,jk,qK⟩:=Q4 s1 qk)
 try (go_wp2_with fail)
 refine hK.out _ _ (X2 Q6) (fun jx=>?_);clear hK K;try simp only[pz]
 refine Jq 5 (by kernel_rfl) rfl fun K hK=>?_
 go_simp
 (go_at_call 79;refine jy (H2.out _) fun x2 qk=>?_;obtain⟨qx,jk,qK⟩:=Q4 s1 qk)
 try (go_wp2_with fail)
 refine hK.out _ _ (X2 Q6) (fun jx=>?_);clear hK K;try simp only[pz]
 refine tk 8 ?_;refine tk 9 ?_;refine tk 10 ?_;refine wpAnyH_done (by kernel_rfl) ?_ _
 all_goals go_wp2
 all_goals first | go_ret | go_ret2
 all_goals exact⟨rfl,HF.out _ (by assumption)⟩
def tk1 (y a n:Int):Int:=if tkP y a n=0 then a else tkP y a n
def tk2 (z a n:Int):Int:=if tkP z a n=0 then a-1 else tkP z a n
theorem f5e (L a n:Int) (g p:Nat) (y z u v:Int) (w:World) (h1:0<=z) (h2:z<=1000) (h3:0<=n) (h4:n<=1000) (h5:0<=y) (h6:y<=1000) (h7:0<=a) (h8:a<=1000) (eu:tkP y a n=u) (ev:tkP z a n=v) (hu:u≠0) (hv:v≠0) :
  Ca 87 #[.agg #[I6 L,I6 a,I6 n,.func (.func g) #[] #[],.func (.func p) #[] #[]],I6 y,I6 z] w (.tuple #[I6 u,I6 v]):=by
 have H1:=zh (fun w=>d8c L a n g p y w h5 h6 h3 h4 h7 h8);have H2:=zh (fun w=>d8c L a n g p z w h1 h2 h3 h4 h7 h8);rw[eu] at H1;rw[ev] at H2;clear h1 h2 h3 h4 h5 h6 eu ev;have hu2:(u==0)=false:=by simpa using hu
 have hv2:(v==0)=false:=by simpa using hv
 go_enter Tryz.func87,Tryz.ntmps87;go_wp2_with fail;obtain⟨s3,A,j6,jz,j8,zA⟩:=qy w (.cells #[I6 L,I6 a,I6 n,.func (.func g) #[] #[],.func (.func p) #[] #[]] 121);have yA:=qZ (b:=A) j6 jz;have j7:=qQ bR j6;rw[<-j6];try rw[<-jz]
 clear j6 j8 jz;have HF:=QX j7;clear j7;refine wrp (S:=fun w'=>(∀ j,w'.cell? ⟨A,j,none⟩=([I6 L,I6 a,I6 n,.func (.func g) #[] #[],.func (.func p) #[] #[]]:List Value)[j]?)) (by kernel_rfl) (fun w' hx=>JC) (fun Q6 jx=>?_)
 refine tk 0 ?_;refine tk 1 ?_;refine tk 3 ?_;refine tk 4 ?_;refine Jq 2 (by kernel_rfl) rfl fun K hK=>?_
 go_simp
 (go_at_call 86;refine jy (H1.out _) fun x4 qk=>?_;obtain⟨qx,jk,qK⟩:=Q4 s3 qk)
 try (go_wp2_with fail)
 refine hK.out _ _ (X2 Q6) (fun jx=>?_);clear hK K;try simp only[pz]
 refine Jq 5 (by kernel_rfl) rfl fun K hK=>?_
 go_simp
 (go_at_call 86;refine jy (H2.out _) fun x4 qk=>?_;obtain⟨qx,jk,qK⟩:=Q4 s3 qk)
 try (go_wp2_with fail)
 refine hK.out _ _ (X2 Q6) (fun jx=>?_);clear hK K;try simp only[pz]
 refine tk 6 ?_;refine tk 7 ?_;refine wpAnyH_done (by kernel_rfl) ?_ _;go_wp2_with fail;replace yA:=XY jk yA zA
 replace zA:=jw qx zA;have j7:=HF.out _ qx;clear HF jk qK qx
 all_goals go_wp2
 all_goals first | go_ret | go_ret2
 all_goals exact⟨rfl,j7⟩
theorem e1k (L a n:Int) (g p:Nat) (y z:Int) (w:World) (h1:0<=z) (h2:z<=1000) (h3:0<=n) (h4:n<=1000) (h5:0<=y) (h6:y<=1000) (h7:0<=a) (h8:a<=1000) :
  Ca 87 #[.agg #[I6 L,I6 a,I6 n,.func (.func g) #[] #[],.func (.func p) #[] #[]],I6 y,I6 z] w (.tuple #[I6 (tk1 y a n),I6 (tk2 z a n)]):=by
 have H1:=zh (fun w=>d8c L a n g p y w h5 h6 h3 h4 h7 h8);have H2:=zh (fun w=>d8c L a n g p z w h1 h2 h3 h4 h7 h8);unfold tk1 tk2;have K:=fun w hu hv=>f5e L a n g p y z _ _ w h1 h2 h3 h4 h5 h6 h7 h8 rfl rfl hu hv
 generalize tkP y a n=u at *;generalize tkP z a n=v at *;clear h1 h2 h3 h4 h5 h6;by_cases hu:u=0<;>by_cases hv:v=0
 ·
  rw[if_pos hu,if_pos hv];clear K;subst hu hv;go_enter Tryz.func87,Tryz.ntmps87;go_wp2_with fail;obtain⟨s5,A,j6,jz,j8,zA⟩:=qy w (.cells #[I6 L,I6 a,I6 n,.func (.func g) #[] #[],.func (.func p) #[] #[]] 121);have yA:=qZ (b:=A) j6 jz;have j7:=qQ bR j6;rw[<-j6];try rw[<-jz]
  clear j6 j8 jz;have HF:=QX j7;clear j7;refine wrp (S:=fun w'=>(∀ j,w'.cell? ⟨A,j,none⟩=([I6 L,I6 a,I6 n,.func (.func g) #[] #[],.func (.func p) #[] #[]]:List Value)[j]?)) (by kernel_rfl) (fun w' hx=>JC) (fun Q6 jx=>?_)
  refine tk 0 ?_;refine tk 1 ?_;refine tk 3 ?_;refine tk 4 ?_;refine Jq 2 (by kernel_rfl) rfl fun K hK=>?_
  go_simp
  (go_at_call 86;refine jy (H1.out _) fun x6 qk=>?_;obtain⟨qx,jk,qK⟩:=Q4 s5 qk)
  try (go_wp2_with fail)
  refine hK.out _ _ (X2 Q6) (fun jx=>?_);clear hK K;try simp only[pz]
  refine Jq 5 (by kernel_rfl) rfl fun K hK=>?_
  go_simp
  (go_at_call 86;refine jy (H2.out _) fun x6 qk=>?_;obtain⟨qx,jk,qK⟩:=Q4 s5 qk)
  try (go_wp2_with fail)
  refine hK.out _ _ (X2 Q6) (fun jx=>?_);clear hK K;try simp only[pz]
  refine tk 6 ?_;refine tk 7 ?_;refine wpAnyH_done (by kernel_rfl) ?_ _;go_wp2_with fail;replace yA:=XY jk yA zA
  replace zA:=jw qx zA;have j7:=HF.out _ qx;clear HF jk qK qx
  all_goals go_wp2
  all_goals first | go_ret | go_ret2
  all_goals exact⟨rfl,j7⟩
 ·
  rw[if_pos hu,if_neg hv];clear K;subst hu;have hv2:(v==0)=false:=by simpa using hv
  go_enter Tryz.func87,Tryz.ntmps87;go_wp2_with fail;obtain⟨s7,A,j6,jz,j8,zA⟩:=qy w (.cells #[I6 L,I6 a,I6 n,.func (.func g) #[] #[],.func (.func p) #[] #[]] 121);have yA:=qZ (b:=A) j6 jz;have j7:=qQ bR j6;rw[<-j6];try rw[<-jz]
  clear j6 j8 jz;have HF:=QX j7;clear j7;refine wrp (S:=fun w'=>(∀ j,w'.cell? ⟨A,j,none⟩=([I6 L,I6 a,I6 n,.func (.func g) #[] #[],.func (.func p) #[] #[]]:List Value)[j]?)) (by kernel_rfl) (fun w' hx=>JC) (fun Q6 jx=>?_)
  refine tk 0 ?_;refine tk 1 ?_;refine tk 3 ?_;refine tk 4 ?_;refine Jq 2 (by kernel_rfl) rfl fun K hK=>?_
  go_simp
  (go_at_call 86;refine jy (H1.out _) fun x8 qk=>?_;obtain⟨qx,jk,qK⟩:=Q4 s7 qk)
  try (go_wp2_with fail)
  refine hK.out _ _ (X2 Q6) (fun jx=>?_);clear hK K;try simp only[pz]
  refine Jq 5 (by kernel_rfl) rfl fun K hK=>?_
  go_simp
  (go_at_call 86;refine jy (H2.out _) fun x8 qk=>?_;obtain⟨qx,jk,qK⟩:=Q4 s7 qk)
  try (go_wp2_with fail)
  refine hK.out _ _ (X2 Q6) (fun jx=>?_);clear hK K;try simp only[pz]
  refine tk 6 ?_;refine tk 7 ?_;refine wpAnyH_done (by kernel_rfl) ?_ _;go_wp2_with fail;replace yA:=XY jk yA zA
  replace zA:=jw qx zA;have j7:=HF.out _ qx;clear HF jk qK qx
  all_goals go_wp2
  all_goals first | go_ret | go_ret2
  all_goals exact⟨rfl,j7⟩
 ·
  rw[if_neg hu,if_pos hv];clear K;subst hv;have hu2:(u==0)=false:=by simpa using hu
  go_enter Tryz.func87,Tryz.ntmps87;go_wp2_with fail;obtain⟨s9,A,j6,jz,j8,zA⟩:=qy w (.cells #[I6 L,I6 a,I6 n,.func (.func g) #[] #[],.func (.func p) #[] #[]] 121);have yA:=qZ (b:=A) j6 jz;have j7:=qQ bR j6;rw[<-j6];try rw[<-jz]
  clear j6 j8 jz;have HF:=QX j7;clear j7;refine wrp (S:=fun w'=>(∀ j,w'.cell? ⟨A,j,none⟩=([I6 L,I6 a,I6 n,.func (.func g) #[] #[],.func (.func p) #[] #[]]:List Value)[j]?)) (by kernel_rfl) (fun w' hx=>JC) (fun Q6 jx=>?_)
  refine tk 0 ?_;refine tk 1 ?_;refine tk 3 ?_;refine tk 4 ?_;refine Jq 2 (by kernel_rfl) rfl fun K hK=>?_
  go_simp
  (go_at_call 86;refine jy (H1.out _) fun x10 qk=>?_;obtain⟨qx,jk,qK⟩:=Q4 s9 qk)
  try (go_wp2_with fail)
  refine hK.out _ _ (X2 Q6) (fun jx=>?_);clear hK K;try simp only[pz]
  refine Jq 5 (by kernel_rfl) rfl fun K hK=>?_
  go_simp
  (go_at_call 86;refine jy (H2.out _) fun x10 qk=>?_;obtain⟨qx,jk,qK⟩:=Q4 s9 qk)
  try (go_wp2_with fail)
  refine hK.out _ _ (X2 Q6) (fun jx=>?_);clear hK K;try simp only[pz]
  refine tk 6 ?_;refine tk 7 ?_;refine wpAnyH_done (by kernel_rfl) ?_ _;go_wp2_with fail;replace yA:=XY jk yA zA
  replace zA:=jw qx zA;have j7:=HF.out _ qx;clear HF jk qK qx
  all_goals go_wp2
  all_goals first | go_ret | go_ret2
  all_goals exact⟨rfl,j7⟩
 ·
  rw[if_neg hu,if_neg hv];exact K w hu hv
def chA (way a n:Int) (g p:Nat):Value:=.agg #[I6 (Yx way),I6 a,I6 n,.func (.func g) #[] #[],.func (.func p) #[] #[]]
theorem e0r (K:Nat) (HCF:∀ (x y:Value) (w:World),(callFunc K #[x,y]).run Tryz.prog w=.ok (.enter K #[x,y]) w) (q:Rf) (way a n v:Int) (t:Rf) (b:Bool) (w:World) (hs:q.sh.size<=maxLen) (hm:YY way a n=true) (hr:X8 q=true)
  (HK:∀ (g p:Nat) (w:World),Ca K #[chA way a n g p,I6 (Q9 q way)] w (I6 v))
  (h:((v<1\/Yx way<v)/\t=Jj/\b=false)\/(1<=v/\v<=Yx way/\Y1 q way v=t/\b=true)) :
  Ca 78 #[.agg #[Sg q.sh,I6 q.c,I6 q.r,Bv q.fc,Bv q.fr],I6 way,I6 a,I6 n,.func (.func K) #[] #[]] w (.tuple #[.agg #[Sg t.sh,I6 t.c,I6 t.r,Bv t.fc,Bv t.fr],Bv b]):=by
 have JY:=Qw;have HC:=zh (fun w=>d7g way a n w hm);have HR:=zh (fun w=>a6l q true w hs hr);have HG:=zh (fun w=>d8x q way _ w rfl);have hcg:=f0g way;have hcp:=f1q way;have HP:=zh (fun t w (h:Y1 q way v=t)=>e1j q way v t w h);have HKK:=zh (fun w=>HK (e4e way) (e4f way) w);unfold chV at HC;unfold chA at HKK;generalize e4e way=g at *;generalize e4f way=p at *;generalize Q9 q way=z at *;generalize Yx way=L at *;clear hm hr HK;have HCP:=zh hcp;clear hcp;go_enter Tryz.func78,Tryz.ntmps78;go_wp2_with fail;obtain⟨s7,A,C,j6,jz,qq,j8,zA,zC⟩:=YJ w (.cells #[Sg q.sh,I6 q.c,I6 q.r,Bv q.fc,Bv q.fr] 67) (.cells #[S0,I6 0,I6 0,Bv false,Bv false] 67);have dCA:C≠A:=by omega
 have yA:=Y4 (b:=A) j6 jz;have yC:=qZ (b:=C) j6 (by simp[qq]);have fC:=Qq (b:=C) j6 (by simp[qq]);have lC:w.heap.size<=C:=by omega
 have j7:=Yz bR j6;rw[<-j6];try rw[<-qq]
 try rw[<-jz]
 clear j6 j8 jz qq;refine jy (HC.out _) fun s8 hb=>?_
 replace yA:=jv hb yA zA;replace zA:=jw hb zA;replace yC:=jv hb yC zC;replace fC:=qv hb fC zC;replace zC:=jw hb zC
 replace j7:=bT j7 hb;clear hb;go_wp2_with fail;obtain⟨s9,Q,j6,hdQ,j8,zQ⟩:=qy s8 (.cells #[I6 L,I6 a,I6 n,.func (.func g) #[] #[],.func (.func p) #[] #[]] 121);have j9:=JW j6;have dCQ:C≠Q:=by omega
 replace yA:=jv j9 yA zA;replace zA:=jw j9 zA;replace yC:=jv j9 yC zC;replace fC:=qv j9 fC zC;replace zC:=jw j9 zC
 clear j9;have yQ:=qZ (b:=Q) j6 hdQ;replace j7:=qQ j7 j6;rw[<-j6];try rw[<-hdQ]
 clear j6 j8 hdQ;refine jy (HR.out _) fun s10 hb=>?_
 replace yA:=jv hb yA zA;replace zA:=jw hb zA;replace yC:=jv hb yC zC;replace fC:=qv hb fC zC;replace zC:=jw hb zC
 replace yQ:=jv hb yQ zQ;replace zQ:=jw hb zQ;replace j7:=bT j7 hb;clear hb;go_wp2_with fail;have HF:=QX j7;clear j7;refine wrp (S:=fun w'=>(∀ j,w'.cell? ⟨A,j,none⟩=([Sg q.sh,I6 q.c,I6 q.r,Bv q.fc,Bv q.fr]:List Value)[j]?)/\(∀ j,w'.cell? ⟨Q,j,none⟩=([I6 L,I6 a,I6 n,.func (.func g) #[] #[],.func (.func p) #[] #[]]:List Value)[j]?)) (by kernel_rfl) (fun w' hx=>by obtain⟨jk,qK⟩:=a0k hx;((try dsimp only);(first | go_keep | ((repeat' apply And.intro)<;>first | assumption | exact yA | exact fun j=>(jk A j (by assumption)).trans (yA j) | exact qz yA (by dsimp only;omega) | exact qz (fun j=>(jk A j (by assumption)).trans (yA j)) (by dsimp only;omega) | exact yQ | exact fun j=>(jk Q j (by assumption)).trans (yQ j) | exact qz yQ (by dsimp only;omega) | exact qz (fun j=>(jk Q j (by assumption)).trans (yQ j)) (by dsimp only;omega) | go_keep | (rw[jk _ _ (by assumption)];assumption))))) (fun Q6 jx=>?_)
 refine tk 0 ?_;refine tk 1 ?_;refine tk 2 ?_;refine tk 3 ?_;refine tk 4 ?_;refine Jq 5 (by kernel_rfl) rfl fun K hK=>?_
 go_simp
 (refine jy (HG.out _) fun x11 qk=>?_;have qx:Bl s10 x11:=bHb qk;obtain⟨jk,qK⟩:=a0k qx)
 try (go_wp2_with fail)
 refine hK.out _ _ (X2 Q6) (fun jx=>?_);clear hK K;try simp only[pz]
 refine Jq 6 (by kernel_rfl) rfl fun K hK=>?_
 go_simp
 (refine jy (HKK.out _) fun x11 qk=>?_;have qx:Bl s10 x11:=bHb qk;obtain⟨jk,qK⟩:=a0k qx)
 try (go_wp2_with fail)
 refine hK.out _ _ (X2 Q6) (fun jx=>?_);clear hK K;try simp only[pz]
 refine tk 7 ?_;refine wpAnyH_done (by kernel_rfl) ?_ _;by_cases h5:v<1
 ·
  obtain⟨rfl,rfl⟩:t=Jj/\b=false:=by rcases h with ⟨_,h1,h2⟩ | ⟨h1,_⟩<;>first | exact⟨h1,h2⟩ | omega
  clear h HP HCP
  all_goals go_wp2
  all_goals refine jU (v:=.tuple #[.agg #[S0,I6 0,I6 0,Bv false,Bv false],Bv false]) (by simp[results,Tryz.results78,go_sem,jk,yC,zC]) rfl ⟨rfl,?_⟩
  all_goals exact(Q8 (HF.out _ (by assumption)) lC)
 ·
  by_cases h6:L<v
  ·
   obtain⟨rfl,rfl⟩:t=Jj/\b=false:=by rcases h with ⟨_,h1,h2⟩ | ⟨_,h1,_⟩<;>first | exact⟨h1,h2⟩ | omega
   clear h HP HCP
   all_goals go_wp2
   all_goals refine jU (v:=.tuple #[.agg #[S0,I6 0,I6 0,Bv false,Bv false],Bv false]) (by simp[results,Tryz.results78,go_sem,jk,yC,zC]) rfl ⟨rfl,?_⟩
   all_goals exact(Q8 (HF.out _ (by assumption)) lC)
  ·
   obtain⟨h3,rfl⟩:Y1 q way v=t/\b=true:=by rcases h with ⟨h1,_⟩ | ⟨_,_,h3,h4⟩<;>first | exact⟨h3,h4⟩ | omega
   have HPP:=zh (fun w=>HP.out t w h3);have hcp:=HCP.out;clear HP h3 h HCP;go_wp2_with fail;replace yA:=XY jk yA zA
   replace zA:=jw qx zA;replace yC:=XY jk yC zC
   replace fC:=fun j=>(qK C j zC).trans (fC j)
   replace zC:=jw qx zC;replace yQ:=XY jk yQ zQ
   replace zQ:=jw qx zQ;have j7:=HF.out _ qx;clear HF jk qK qx;refine jy (HPP.out _) fun s12 hb=>?_
   replace yA:=jv hb yA zA;replace zA:=jw hb zA;replace yC:=jv hb yC zC;replace fC:=qv hb fC zC;replace zC:=jw hb zC
   replace yQ:=jv hb yQ zQ;replace zQ:=jw hb zQ;replace j7:=bT j7 hb;clear hb
   all_goals go_wp2
   all_goals refine jU (v:=.tuple #[.agg #[Sg t.sh,I6 t.c,I6 t.r,Bv t.fc,Bv t.fr],Bv true]) (by simp[results,Tryz.results78,go_sem,yC,zC]) rfl ⟨rfl,?_⟩
   all_goals exact(Q8 j7 lC)
theorem d8z {q:Rf} {way a n:Int} (hm:YY way a n=true) (hr:X8 q=true):e2b q way a n=decide (shP (Q9 q way) a n<=Yx way):=by unfold e2b;rw[hm,hr];rfl
theorem d9o {q:Rf} {way a n:Int} (hm:YY way a n=true) (hr:X8 q=true):Xw q way a n=!(decide (a<=Q9 q way)&&decide (Q9 q way<a+n)):=by unfold Xw;rw[hm,hr];rfl
theorem e5f (q:Rf) (way a n:Int) (t:Rf) (b:Bool) (w:World)
  (HF:∀ w,Ca 78 #[.agg #[Sg q.sh,I6 q.c,I6 q.r,Bv q.fc,Bv q.fr],I6 way,I6 a,I6 n,.func (.func 79) #[] #[]] w (.tuple #[.agg #[Sg t.sh,I6 t.c,I6 t.r,Bv t.fc,Bv t.fr],Bv b])) :
  Ca 38 #[.agg #[Sg q.sh,I6 q.c,I6 q.r,Bv q.fc,Bv q.fr],I6 way,I6 a,I6 n] w (.tuple #[.agg #[Sg t.sh,I6 t.c,I6 t.r,Bv t.fc,Bv t.fr],Bv b]):=by
 have HFF:=zh HF;clear HF;go_enter Tryz.func38,Tryz.ntmps38;go_wp2_with fail;obtain⟨s13,A,C,j6,jz,qq,j8,zA,zC⟩:=YJ w (.cells #[Sg q.sh,I6 q.c,I6 q.r,Bv q.fc,Bv q.fr] 67) (.cells #[S0,I6 0,I6 0,Bv false,Bv false] 67);have dCA:C≠A:=by omega
 have yA:=Y4 (b:=A) j6 jz;have yC:=qZ (b:=C) j6 (by simp[qq]);have fC:=Qq (b:=C) j6 (by simp[qq]);have lC:w.heap.size<=C:=by omega
 have j7:=Yz bR j6;rw[<-j6];try rw[<-qq]
 try rw[<-jz]
 clear j6 j8 jz qq;refine jy (HFF.out _) fun s14 hb=>?_
 replace yA:=jv hb yA zA;replace zA:=jw hb zA;replace yC:=jv hb yC zC;replace fC:=qv hb fC zC;replace zC:=jw hb zC
 replace j7:=bT j7 hb;clear hb
 all_goals go_wp2
 all_goals refine jU (v:=.tuple #[.agg #[Sg t.sh,I6 t.c,I6 t.r,Bv t.fc,Bv t.fr],Bv b]) (by simp[results,Tryz.results38,go_sem,yC,zC]) rfl ⟨rfl,?_⟩
 all_goals exact(Q8 j7 lC)
theorem e3f (q:Rf) (way a n:Int) (t:Rf) (b:Bool) (w:World)
  (HF:∀ w,Ca 78 #[.agg #[Sg q.sh,I6 q.c,I6 q.r,Bv q.fc,Bv q.fr],I6 way,I6 a,I6 n,.func (.func 86) #[] #[]] w (.tuple #[.agg #[Sg t.sh,I6 t.c,I6 t.r,Bv t.fc,Bv t.fr],Bv b])) :
  Ca 45 #[.agg #[Sg q.sh,I6 q.c,I6 q.r,Bv q.fc,Bv q.fr],I6 way,I6 a,I6 n] w (.tuple #[.agg #[Sg t.sh,I6 t.c,I6 t.r,Bv t.fc,Bv t.fr],Bv b]):=by
 have HFF:=zh HF;clear HF;go_enter Tryz.func45,Tryz.ntmps45;go_wp2_with fail;obtain⟨s15,A,C,j6,jz,qq,j8,zA,zC⟩:=YJ w (.cells #[Sg q.sh,I6 q.c,I6 q.r,Bv q.fc,Bv q.fr] 67) (.cells #[S0,I6 0,I6 0,Bv false,Bv false] 67);have dCA:C≠A:=by omega
 have yA:=Y4 (b:=A) j6 jz;have yC:=qZ (b:=C) j6 (by simp[qq]);have fC:=Qq (b:=C) j6 (by simp[qq]);have lC:w.heap.size<=C:=by omega
 have j7:=Yz bR j6;rw[<-j6];try rw[<-qq]
 try rw[<-jz]
 clear j6 j8 jz qq;refine jy (HFF.out _) fun s16 hb=>?_
 replace yA:=jv hb yA zA;replace zA:=jw hb zA;replace yC:=jv hb yC zC;replace fC:=qv hb fC zC;replace zC:=jw hb zC
 replace j7:=bT j7 hb;clear hb
 all_goals go_wp2
 all_goals refine jU (v:=.tuple #[.agg #[Sg t.sh,I6 t.c,I6 t.r,Bv t.fc,Bv t.fr],Bv b]) (by simp[results,Tryz.results45,go_sem,yC,zC]) rfl ⟨rfl,?_⟩
 all_goals exact(Q8 j7 lC)
set_option maxHeartbeats 8000000
theorem d9w (K:Nat) (HCF:∀ (x y z:Value) (w:World),(callFunc K #[x,y,z]).run Tryz.prog w=.ok (.enter K #[x,y,z]) w) (a b:Rf) (way x n u v:Int) (s t:Rf) (k:Bool) (w:World) (hs:a.sh.size<=maxLen) (hs2:b.sh.size<=maxLen)
  (g1:YY way x n=true) (g2:X8 a=true) (g3:X8 b=true) (g4 : ¬ Q9 b way<Q9 a way)
  (HK:∀ (g p:Nat) (w:World),Ca K #[chA way x n g p,I6 (Q9 a way),I6 (Q9 b way)] w (.tuple #[I6 u,I6 v]))
  (h:(v<u/\s=Jj/\t=Jj/\k=false)\/(¬ v<u/\Y1 a way u=s/\Y1 b way v=t/\k=true)) :
  Ca 80 #[.agg #[Sg a.sh,I6 a.c,I6 a.r,Bv a.fc,Bv a.fr],.agg #[Sg b.sh,I6 b.c,I6 b.r,Bv b.fc,Bv b.fr],I6 way,I6 x,I6 n,.func (.func K) #[] #[]] w (.tuple #[.agg #[Sg s.sh,I6 s.c,I6 s.r,Bv s.fc,Bv s.fr],.agg #[Sg t.sh,I6 t.c,I6 t.r,Bv t.fc,Bv t.fr],Bv k]):=by
 have JY:=Qw;have HC:=zh (fun w=>d7g way x n w g1);unfold chV at HC;have HA:=zh (fun w=>a6l a true w hs g2);have HB:=zh (fun w=>a6l b true w hs2 g3);have HGa:=zh (fun w=>d8x a way _ w rfl);have HGb:=zh (fun w=>d8x b way _ w rfl);have hcg:=f0g way;have HPa:=zh (fun s w (h:Y1 a way u=s)=>e1j a way u s w h);have HPb:=zh (fun t w (h:Y1 b way v=t)=>e1j b way v t w h);have hcp:=f1q way;have HKK:=zh (fun w=>HK (e4e way) (e4f way) w);unfold chA at HKK;generalize e4e way=g at *;generalize e4f way=p at *;generalize Q9 a way=za at *;generalize Q9 b way=zb at *;generalize Yx way=L at *;clear g1 g2 g3 HK;have HCP:=zh hcp;clear hcp;go_enter Tryz.func80,Tryz.ntmps80;go_wp2_with fail;obtain⟨s1,A,B,C,D,j6,jz,J7,qq,XV,j8,zA,zB,zC,zD⟩:=nm4 w (.cells #[Sg a.sh,I6 a.c,I6 a.r,Bv a.fc,Bv a.fr] 67) (.cells #[Sg b.sh,I6 b.c,I6 b.r,Bv b.fc,Bv b.fr] 67) (.cells #[S0,I6 0,I6 0,Bv false,Bv false] 67) (.cells #[S0,I6 0,I6 0,Bv false,Bv false] 67);have dCA:C≠A:=by omega
 have dCB:C≠B:=by omega
 have dCD:C≠D:=by omega
 have dDA:D≠A:=by omega
 have dDB:D≠B:=by omega
 have dDC:D≠C:=by omega
 have yA:=by3 (b:=A) j6 jz;have yB:=by2 (b:=B) j6 (by simp[J7]);have yC:=Y4 (b:=C) j6 (by simp[qq]);have fC:=bf1 (b:=C) j6 (by simp[qq]);have lC:w.heap.size<=C:=by omega
 have yD:=qZ (b:=D) j6 (by simp[XV]);have fD:=Qq (b:=D) j6 (by simp[XV]);have lD:w.heap.size<=D:=by omega
 have j7:=bs4 bR j6;rw[<-j6];try rw[<-XV]
 try rw[<-qq]
 try rw[<-J7]
 try rw[<-jz]
 clear j6 j8 jz J7 qq XV;refine jy (HC.out _) fun s2 hb=>?_
 replace yA:=jv hb yA zA;replace zA:=jw hb zA;replace yB:=jv hb yB zB;replace zB:=jw hb zB;replace yC:=jv hb yC zC;replace fC:=qv hb fC zC;replace zC:=jw hb zC
 replace yD:=jv hb yD zD;replace fD:=qv hb fD zD;replace zD:=jw hb zD
 replace j7:=bT j7 hb;clear hb;go_wp2_with fail;obtain⟨s3,Q,j6,hdQ,j8,zQ⟩:=qy s2 (.cells #[I6 L,I6 x,I6 n,.func (.func g) #[] #[],.func (.func p) #[] #[]] 121);have j9:=JW j6;have dCQ:C≠Q:=by omega
 have dDQ:D≠Q:=by omega
 replace yA:=jv j9 yA zA;replace zA:=jw j9 zA;replace yB:=jv j9 yB zB;replace zB:=jw j9 zB;replace yC:=jv j9 yC zC;replace fC:=qv j9 fC zC;replace zC:=jw j9 zC
 replace yD:=jv j9 yD zD;replace fD:=qv j9 fD zD;replace zD:=jw j9 zD
 clear j9;have yQ:=qZ (b:=Q) j6 hdQ;replace j7:=qQ j7 j6;rw[<-j6];try rw[<-hdQ]
 clear j6 j8 hdQ;have HF:=QX j7;clear j7;refine wrp (S:=fun w'=>(∀ j,w'.cell? ⟨A,j,none⟩=([Sg a.sh,I6 a.c,I6 a.r,Bv a.fc,Bv a.fr]:List Value)[j]?)/\(∀ j,w'.cell? ⟨B,j,none⟩=([Sg b.sh,I6 b.c,I6 b.r,Bv b.fc,Bv b.fr]:List Value)[j]?)/\(∀ j,w'.cell? ⟨Q,j,none⟩=([I6 L,I6 x,I6 n,.func (.func g) #[] #[],.func (.func p) #[] #[]]:List Value)[j]?)) (by kernel_rfl) (fun w' hx=>JI) (fun Q6 jx=>?_)
 refine tk 0 ?_;refine tk 1 ?_;refine tk 2 ?_;refine tk 3 ?_;refine Jq 4 (by kernel_rfl) rfl fun K hK=>?_
 go_simp
 (go_at_call 108;refine jy (HA.out _) fun x4 qk=>?_;obtain⟨qx,jk,qK⟩:=Q4 s3 qk)
 try (go_wp2_with fail)
 refine hK.out _ _ (X2 Q6) (fun jx=>?_);clear hK K;try simp only[pz]
 refine tk 5 ?_;refine tk 6 ?_;refine tk 7 ?_;refine tk 8 ?_;refine Jq 9 (by kernel_rfl) rfl fun K hK=>?_
 go_simp
 (go_at_call 108;refine jy (HB.out _) fun x4 qk=>?_;obtain⟨qx,jk,qK⟩:=Q4 s3 qk)
 try (go_wp2_with fail)
 refine hK.out _ _ (X2 Q6) (fun jx=>?_);clear hK K;try simp only[pz]
 refine tk 10 ?_;refine tk 11 ?_;refine tk 12 ?_;refine tk 13 ?_;refine tk 14 ?_;refine tk 15 ?_;refine tk 17 ?_;refine tk 18 ?_;refine tk 19 ?_;refine Jq 16 (by kernel_rfl) rfl fun K hK=>?_
 go_simp
 (refine jy (HGa.out _) fun x4 qk=>?_;have qx:Bl s3 x4:=bHb qk;obtain⟨jk,qK⟩:=a0k qx)
 try (go_wp2_with fail)
 refine hK.out _ _ (X2 Q6) (fun jx=>?_);clear hK K;try simp only[pz]
 refine Jq 20 (by kernel_rfl) rfl fun K hK=>?_
 go_simp
 (refine jy (HGb.out _) fun x4 qk=>?_;have qx:Bl s3 x4:=bHb qk;obtain⟨jk,qK⟩:=a0k qx)
 try (go_wp2_with fail)
 refine hK.out _ _ (X2 Q6) (fun jx=>?_);clear hK K;try simp only[pz]
 refine tk 21 ?_;refine tk 22 ?_;refine wpAnyH_done (by kernel_rfl) ?_ _;go_wp2_with fail;replace yA:=XY jk yA zA
 replace zA:=jw qx zA;replace yB:=XY jk yB zB
 replace zB:=jw qx zB;replace yC:=XY jk yC zC
 replace fC:=fun j=>(qK C j zC).trans (fC j)
 replace zC:=jw qx zC;replace yD:=XY jk yD zD
 replace fD:=fun j=>(qK D j zD).trans (fD j)
 replace zD:=jw qx zD;replace yQ:=XY jk yQ zQ
 replace zQ:=jw qx zQ;have j7:=HF.out _ qx;clear HF jk qK qx;have HF:=QX j7;clear j7;refine wrp (S:=fun w'=>(∀ j,w'.cell? ⟨A,j,none⟩=([Sg a.sh,I6 a.c,I6 a.r,Bv a.fc,Bv a.fr]:List Value)[j]?)/\(∀ j,w'.cell? ⟨B,j,none⟩=([Sg b.sh,I6 b.c,I6 b.r,Bv b.fc,Bv b.fr]:List Value)[j]?)/\(∀ j,w'.cell? ⟨Q,j,none⟩=([I6 L,I6 x,I6 n,.func (.func g) #[] #[],.func (.func p) #[] #[]]:List Value)[j]?)) (by kernel_rfl) (fun w' hx=>JI) (fun Q6 jx=>?_)
 refine tk 0 ?_;refine tk 1 ?_;refine tk 2 ?_;refine tk 3 ?_;refine tk 4 ?_;refine tk 6 ?_;refine tk 7 ?_;refine tk 8 ?_;refine Jq 5 (by kernel_rfl) rfl fun K hK=>?_
 go_simp
 (refine jy (HGa.out _) fun x5 qk=>?_;have qx:Bl x4 x5:=bHb qk;obtain⟨jk,qK⟩:=a0k qx)
 try (go_wp2_with fail)
 refine hK.out _ _ (X2 Q6) (fun jx=>?_);clear hK K;try simp only[pz]
 refine Jq 9 (by kernel_rfl) rfl fun K hK=>?_
 go_simp
 (refine jy (HGb.out _) fun x5 qk=>?_;have qx:Bl x4 x5:=bHb qk;obtain⟨jk,qK⟩:=a0k qx)
 try (go_wp2_with fail)
 refine hK.out _ _ (X2 Q6) (fun jx=>?_);clear hK K;try simp only[pz]
 refine Jq 10 (by kernel_rfl) rfl fun K hK=>?_
 go_simp
 (refine jy (HKK.out _) fun x5 qk=>?_;have qx:Bl x4 x5:=bHb qk;obtain⟨jk,qK⟩:=a0k qx)
 try (go_wp2_with fail)
 refine hK.out _ _ (X2 Q6) (fun jx=>?_);clear hK K;try simp only[pz]
 refine tk 11 ?_;refine tk 12 ?_;refine tk 13 ?_;refine tk 14 ?_;refine tk 15 ?_;refine wpAnyH_done (by kernel_rfl) ?_ _
 rcases h with ⟨h1,rfl,rfl,rfl⟩ | ⟨h1,h2,h3,rfl⟩
 ·
  clear HPa HPb HCP
  all_goals go_wp2
  all_goals refine jU (v:=.tuple #[.agg #[S0,I6 0,I6 0,Bv false,Bv false],.agg #[S0,I6 0,I6 0,Bv false,Bv false],Bv false]) (by simp[results,Tryz.results80,go_sem,jk,yC,yD,zC,zD]) rfl ⟨rfl,?_⟩
  all_goals exact(Q8 (Q8 (HF.out _ (by assumption)) lC) lD)
 ·
  have HPPa:=zh (fun w=>HPa.out s w h2);have HPPb:=zh (fun w=>HPb.out t w h3);have hcp:=HCP.out;clear HPa HPb h2 h3 HCP;go_wp2_with fail;replace yA:=XY jk yA zA
  replace zA:=jw qx zA;replace yB:=XY jk yB zB
  replace zB:=jw qx zB;replace yC:=XY jk yC zC
  replace fC:=fun j=>(qK C j zC).trans (fC j)
  replace zC:=jw qx zC;replace yD:=XY jk yD zD
  replace fD:=fun j=>(qK D j zD).trans (fD j)
  replace zD:=jw qx zD;replace yQ:=XY jk yQ zQ
  replace zQ:=jw qx zQ;have j7:=HF.out _ qx;clear HF jk qK qx;have HF:=QX j7;clear j7;refine wp_region_held_drew (S:=fun w'=>(∀ j,w'.cell? ⟨A,j,none⟩=([Sg a.sh,I6 a.c,I6 a.r,Bv a.fc,Bv a.fr]:List Value)[j]?)/\(∀ j,w'.cell? ⟨B,j,none⟩=([Sg b.sh,I6 b.c,I6 b.r,Bv b.fc,Bv b.fr]:List Value)[j]?)/\(∀ j,w'.cell? ⟨Q,j,none⟩=([I6 L,I6 x,I6 n,.func (.func g) #[] #[],.func (.func p) #[] #[]]:List Value)[j]?)) (by kernel_rfl) jY (fun jx=>?_)
  refine tk 0 ?_;refine tk 1 ?_;refine tk 2 ?_;refine tk 3 ?_;refine tk 5 ?_;refine tk 6 ?_;refine tk 7 ?_;refine tk 8 ?_;refine Jq 4 (by kernel_rfl) rfl fun K hK=>?_
  go_simp
  (refine jy (HPPa.out _) fun x6 qk=>?_;have qx:Bl x5 x6:=bHb qk;obtain⟨jk,qK⟩:=a0k qx)
  try (go_wp2_with fail)
  refine hK.out _ _ jY (fun jx=>?_)
  clear hK K;try simp only[pz]
  refine Jq 9 (by kernel_rfl) rfl fun K hK=>?_
  go_simp
  (refine jy (HPPb.out _) fun x6 qk=>?_;have qx:Bl x5 x6:=bHb qk;obtain⟨jk,qK⟩:=a0k qx)
  try (go_wp2_with fail)
  refine hK.out _ _ jY (fun jx=>?_)
  clear hK K;try simp only[pz]
  refine Jq 10 (by kernel_rfl) rfl fun K hK=>?_
  go_simp;try (go_wp2_with fail)
  refine hK.out _ _ jY (fun jx=>?_)
  clear hK K;try simp only[pz]
  refine Jq 11 (by kernel_rfl) rfl fun K hK=>?_
  go_simp;try (go_wp2_with fail)
  refine hK.out _ _ jY (fun jx=>?_)
  clear hK K;try simp only[pz]
  refine tk 12 ?_;refine wpAnyH_done (by kernel_rfl) ?_ _
  all_goals go_wp2
  all_goals refine jU (v:=.tuple #[.agg #[Sg s.sh,I6 s.c,I6 s.r,Bv s.fc,Bv s.fr],.agg #[Sg t.sh,I6 t.c,I6 t.r,Bv t.fc,Bv t.fr],Bv true]) (by simp[results,Tryz.results80,go_sem,jk,yC,yD,zC,zD]) rfl ⟨rfl,?_⟩
  all_goals exact(Q8 (Q8 (HF.out _ (by assumption)) lC) lD)
set_option maxHeartbeats 4000000
def d9g (a b:Rf) (way x n:Int):Bool:=e1z a b way x n&&(Xw a way x n || Xw b way x n)
def e5i (a b:Rf) (way x n:Int):Rf:=if d9g a b way x n then (if Xw a way x n then e8n a way x n else Y1 a way x) else Jj
def e5j (a b:Rf) (way x n:Int):Rf:=if d9g a b way x n then (if Xw b way x n then e8n b way x n else Y1 b way (x-1)) else Jj
theorem e6w {a b:Rf} {way x n:Int} (h:d9g a b way x n=false):e5i a b way x n=Jj/\e5j a b way x n=Jj:=by
 unfold e5i e5j;rw[h];exact⟨rfl,rfl⟩
theorem e4g {a b:Rf} {way x n:Int} (h:d9g a b way x n=true):e5i a b way x n=(if Xw a way x n then e8n a way x n else Y1 a way x)/\e5j a b way x n=if Xw b way x n then e8n b way x n else Y1 b way (x-1):=by
 unfold e5i e5j;rw[h];exact⟨rfl,rfl⟩
theorem e6x {a b:Rf} {way x n:Int} (h:e1z a b way x n=true):X8 a=true/\X8 b=true/\YY way x n=true/\¬ Q9 b way<Q9 a way:=by
 rcases e5d a b way x n with ⟨_,g⟩ | ⟨_,_,g⟩ | ⟨_,_,_,g⟩ | ⟨_,_,_,_,g⟩ | ⟨g1,g2,g3,g4,g⟩
 ·
  rw[h] at g;cases g
 ·
  rw[h] at g;cases g
 ·
  rw[h] at g;cases g
 ·
  rw[h] at g;cases g
 ·
  exact⟨g1,g2,g3,g4⟩
theorem f6v (q:Rf) (way z:Int):Q9 (Y1 q way z) way=z:=by
 unfold Q9 Y1
 split<;>rfl
theorem f5t (q:Rf) (way z:Int):(Y1 q way z).sh=q.sh:=by
 unfold Y1
 split<;>rfl
theorem f5u {q:Rf} {way z:Int} (h:X8 q=true) (hw:way=0\/way=1) (h1:1<=z) (h2:z<=Yx way):X8 (Y1 q way z)=true:=by
 obtain⟨g1,g2,g3,g4⟩:=f0a h;unfold X8 a8g at *;rw[Bool.and_eq_true] at h |-
 rw[f5t];refine⟨h.1,?_⟩
 rcases hw with rfl | rfl
 ·
  rw[a9p];rw[show Yx 0=52 from rfl] at h2;exact⟨h1,h2,g3,g4⟩
 ·
  rw[a9p];rw[show Yx 1=99 from rfl] at h2;exact⟨g1,g2,h1,h2⟩
theorem e4h {q:Rf} {way x n:Int} (hm:YY way x n=true) (hr:X8 q=true):(Xw q way x n=true ↔ ¬ (x<=Q9 q way/\Q9 q way<x+n))/\(Xw q way x n=false ↔ (x<=Q9 q way/\Q9 q way<x+n)):=by
 rw[d9o hm hr];constructor<;>simp<;>omega
theorem e3h (a b:Rf) (way x n:Int) (p q:Rf) (k:Bool) (w:World)
  (HF:∀ w,Ca 80 #[.agg #[Sg a.sh,I6 a.c,I6 a.r,Bv a.fc,Bv a.fr],.agg #[Sg b.sh,I6 b.c,I6 b.r,Bv b.fc,Bv b.fr],I6 way,I6 x,I6 n,.func (.func 81) #[] #[]] w (.tuple #[.agg #[Sg p.sh,I6 p.c,I6 p.r,Bv p.fc,Bv p.fr],.agg #[Sg q.sh,I6 q.c,I6 q.r,Bv q.fc,Bv q.fr],Bv k])) :
  Ca 39 #[.agg #[Sg a.sh,I6 a.c,I6 a.r,Bv a.fc,Bv a.fr],.agg #[Sg b.sh,I6 b.c,I6 b.r,Bv b.fc,Bv b.fr],I6 way,I6 x,I6 n] w (.tuple #[.agg #[Sg p.sh,I6 p.c,I6 p.r,Bv p.fc,Bv p.fr],.agg #[Sg q.sh,I6 q.c,I6 q.r,Bv q.fc,Bv q.fr],Bv k]):=by
 have HFF:=zh HF;clear HF;go_enter Tryz.func39,Tryz.ntmps39;go_wp2_with fail;obtain⟨s1,A,B,C,D,j6,jz,J7,qq,XV,j8,zA,zB,zC,zD⟩:=nm4 w (.cells #[Sg a.sh,I6 a.c,I6 a.r,Bv a.fc,Bv a.fr] 67) (.cells #[Sg b.sh,I6 b.c,I6 b.r,Bv b.fc,Bv b.fr] 67) (.cells #[S0,I6 0,I6 0,Bv false,Bv false] 67) (.cells #[S0,I6 0,I6 0,Bv false,Bv false] 67);have dCA:C≠A:=by omega
 have dCB:C≠B:=by omega
 have dCD:C≠D:=by omega
 have dDA:D≠A:=by omega
 have dDB:D≠B:=by omega
 have dDC:D≠C:=by omega
 have yC:=Y4 (b:=C) j6 (by simp[qq]);have fC:=bf1 (b:=C) j6 (by simp[qq]);have lC:w.heap.size<=C:=by omega
 have yD:=qZ (b:=D) j6 (by simp[XV]);have fD:=Qq (b:=D) j6 (by simp[XV]);have lD:w.heap.size<=D:=by omega
 have j7:=bs4 bR j6;rw[<-j6];try rw[<-XV]
 try rw[<-qq]
 try rw[<-J7]
 try rw[<-jz]
 clear j6 j8 jz J7 qq XV;refine jy (HFF.out _) fun s2 hb=>?_
 replace yC:=jv hb yC zC;replace fC:=qv hb fC zC
 replace yD:=jv hb yD zD;replace fD:=qv hb fD zD
 replace j7:=bT j7 hb;clear hb
 all_goals go_wp2
 all_goals refine jU (v:=.tuple #[.agg #[Sg p.sh,I6 p.c,I6 p.r,Bv p.fc,Bv p.fr],.agg #[Sg q.sh,I6 q.c,I6 q.r,Bv q.fc,Bv q.fr],Bv k]) (by simp[results,Tryz.results39,go_sem,yC,yD]) rfl ⟨rfl,?_⟩
 all_goals exact(Q8 (Q8 j7 lC) lD)
theorem e2c (a b:Rf) (way x n:Int) (p q:Rf) (k:Bool) (w:World)
  (HF:∀ w,Ca 80 #[.agg #[Sg a.sh,I6 a.c,I6 a.r,Bv a.fc,Bv a.fr],.agg #[Sg b.sh,I6 b.c,I6 b.r,Bv b.fc,Bv b.fr],I6 way,I6 x,I6 n,.func (.func 87) #[] #[]] w (.tuple #[.agg #[Sg p.sh,I6 p.c,I6 p.r,Bv p.fc,Bv p.fr],.agg #[Sg q.sh,I6 q.c,I6 q.r,Bv q.fc,Bv q.fr],Bv k])) :
  Ca 46 #[.agg #[Sg a.sh,I6 a.c,I6 a.r,Bv a.fc,Bv a.fr],.agg #[Sg b.sh,I6 b.c,I6 b.r,Bv b.fc,Bv b.fr],I6 way,I6 x,I6 n] w (.tuple #[.agg #[Sg p.sh,I6 p.c,I6 p.r,Bv p.fc,Bv p.fr],.agg #[Sg q.sh,I6 q.c,I6 q.r,Bv q.fc,Bv q.fr],Bv k]):=by
 have HFF:=zh HF;clear HF;go_enter Tryz.func46,Tryz.ntmps46;go_wp2_with fail;obtain⟨s3,A,B,C,D,j6,jz,J7,qq,XV,j8,zA,zB,zC,zD⟩:=nm4 w (.cells #[Sg a.sh,I6 a.c,I6 a.r,Bv a.fc,Bv a.fr] 67) (.cells #[Sg b.sh,I6 b.c,I6 b.r,Bv b.fc,Bv b.fr] 67) (.cells #[S0,I6 0,I6 0,Bv false,Bv false] 67) (.cells #[S0,I6 0,I6 0,Bv false,Bv false] 67);have dCA:C≠A:=by omega
 have dCB:C≠B:=by omega
 have dCD:C≠D:=by omega
 have dDA:D≠A:=by omega
 have dDB:D≠B:=by omega
 have dDC:D≠C:=by omega
 have yC:=Y4 (b:=C) j6 (by simp[qq]);have fC:=bf1 (b:=C) j6 (by simp[qq]);have lC:w.heap.size<=C:=by omega
 have yD:=qZ (b:=D) j6 (by simp[XV]);have fD:=Qq (b:=D) j6 (by simp[XV]);have lD:w.heap.size<=D:=by omega
 have j7:=bs4 bR j6;rw[<-j6];try rw[<-XV]
 try rw[<-qq]
 try rw[<-J7]
 try rw[<-jz]
 clear j6 j8 jz J7 qq XV;refine jy (HFF.out _) fun s4 hb=>?_
 replace yC:=jv hb yC zC;replace fC:=qv hb fC zC
 replace yD:=jv hb yD zD;replace fD:=qv hb fD zD
 replace j7:=bT j7 hb;clear hb
 all_goals go_wp2
 all_goals refine jU (v:=.tuple #[.agg #[Sg p.sh,I6 p.c,I6 p.r,Bv p.fc,Bv p.fr],.agg #[Sg q.sh,I6 q.c,I6 q.r,Bv q.fc,Bv q.fr],Bv k]) (by simp[results,Tryz.results46,go_sem,yC,yD]) rfl ⟨rfl,?_⟩
 all_goals exact(Q8 (Q8 j7 lC) lD)
theorem f5v {q:Rf} {way a n:Int} (h:e2b q way a n=true):(e8m q way a n).sh=q.sh:=by rw[e1i h,f5t]
def Yv (way a n:Int) (r s:Rf):Rf × Rf × Bool:=(e5a r s way a n,e5c r s way a n,e0i r s way a n)
def e6o (way a n:Int) (r s:Rf):Rf × Rf × Bool:=(e5i r s way a n,e5j r s way a n,d9g r s way a n)
theorem f5m (a b:Rf) (way x n:Int) (w:World) (hs:a.sh.size<=maxLen) (hs2:b.sh.size<=maxLen) (g:e1z a b way x n=true) :
  Ca 39 #[.agg #[Sg a.sh,I6 a.c,I6 a.r,Bv a.fc,Bv a.fr],.agg #[Sg b.sh,I6 b.c,I6 b.r,Bv b.fc,Bv b.fr],I6 way,I6 x,I6 n] w (.tuple #[.agg #[Sg ((Yv way x n a b).1).sh,I6 ((Yv way x n a b).1).c,I6 ((Yv way x n a b).1).r,Bv ((Yv way x n a b).1).fc,Bv ((Yv way x n a b).1).fr],.agg #[Sg ((Yv way x n a b).2.1).sh,I6 ((Yv way x n a b).2.1).c,I6 ((Yv way x n a b).2.1).r,Bv ((Yv way x n a b).2.1).fc,Bv ((Yv way x n a b).2.1).fr],Bv (Yv way x n a b).2.2]):=by
 unfold Yv;dsimp only;refine e3h a b way x n _ _ _ w fun w=>?_
 obtain⟨g1,g2,g3,g4⟩:=e6x g;obtain⟨k0,k1,k2,k3,k4,k5,k6⟩:=d9t g3;obtain⟨a1,a2⟩:=e4z g1 k0;obtain⟨b1,b2⟩:=e4z g2 k0;have hB:e0i a b way x n=e2b a way x n:=by unfold e0i;rw[g,Bool.true_and]
 have ia:=d8z g3 g1;have ib:=d8z g3 g2;refine d9w _ f3r a b way x n _ _ _ _ _ w hs hs2 g3 g1 g2 g4 (fun g p w=>e5e _ x n g p _ _ _ _ w (by omega) (by omega) (by omega) (by omega) (by omega) (by omega) rfl rfl) ?_;have hmono:shP (Q9 a way) x n<=shP (Q9 b way) x n:=by unfold shP;split<;>split<;>omega
 cases h1:e2b a way x n with
 | false =>
  obtain⟨e1,e2⟩:=e6v (hB.trans h1);left;have h5:=of_decide_eq_false (ia.symm.trans h1);exact⟨by omega,e1,e2,hB.trans h1⟩
 | true =>
  obtain⟨e1,e2⟩:=e8p (hB.trans h1);right;have h5:=jB (ia.symm.trans h1);refine⟨by omega,(e1.trans (e1i h1)).symm,?_,hB.trans h1⟩;rw[e2]
  cases h2:e2b b way x n with
  | true =>
   have h6:=jB (ib.symm.trans h2);rw[if_pos rfl,e1i h2,Int.min_eq_left h6]
  | false =>
   have h6:=of_decide_eq_false (ib.symm.trans h2);rw[if_neg Bool.false_ne_true,Int.min_eq_right (by omega)]
theorem f9s (q:Rf) (way a n:Int) (w:World) (hs:q.sh.size<=maxLen) (h1:YY way a n=true) (h0:X8 q=true) :
  Ca 41 #[.agg #[Sg q.sh,I6 q.c,I6 q.r,Bv q.fc,Bv q.fr],I6 way,I6 a,I6 n] w (.tuple #[.agg #[Sg (e8m q way a n).sh,I6 (e8m q way a n).c,I6 (e8m q way a n).r,Bv (e8m q way a n).fc,Bv (e8m q way a n).fr],Bv (e2b q way a n)]):=by
 have JY:=Qw;have HR:=zh (fun w=>a6m q true w hs h0);have HM:=zh (fun w=>f9v way a n true w h1);obtain⟨k0,k1,k2,k3,k4,k5,k6⟩:=d9t h1;obtain⟨k7,k8⟩:=e4z h0 k0;have HL:=zh (fun w=>f9w way w);have HP:=zh (fun w=>f9q q way _ w rfl);have HT:=zh (fun w=>f9r q way (shP (Q9 q way) a n) _ w rfl);have hb2:e2b q way a n=decide (shP (Q9 q way) a n<=Yx way):=by unfold e2b;rw[h0,h1,Bool.true_and,Bool.true_and]
 have HY:=zh (@e1i q way a n);have HN:=zh (@e3d q way a n);obtain⟨b,hb⟩:=nM (e2b q way a n);obtain⟨p,hp⟩:=nM (e8m q way a n);have HB:=zh (hb.trans hb2);have HPN:Hid (b=false->p=Jj):=fun h=>hp.trans (HN.out (hb.symm.trans h))
 have HPY:Hid (b=true->p=Y1 q way (shP (Q9 q way) a n)):=fun h=>hp.trans (HY.out (hb.symm.trans h))
 rw[<-hb,<-hp];generalize Q9 q way=z at *;generalize Yx way=L at *;obtain⟨t,ht⟩:=nM (shP z a n);rw[<-ht] at HB HPY HT;have HSH:Hid (t=if a<=z then z+n else z):=zh ht;generalize Y1 q way t=r at *;clear h0 h1 k0 hb2 HY HN hb hp ht;go_enter Tryz.func41,Tryz.ntmps41;go_wp2_with fail;obtain⟨s1,A,C,j6,jz,qq,j8,zA,zC⟩:=YJ w (.cells #[Sg q.sh,I6 q.c,I6 q.r,Bv q.fc,Bv q.fr] 67) (.cells #[S0,I6 0,I6 0,Bv false,Bv false] 67);have dCA:C≠A:=by omega
 have yA:=Y4 (b:=A) j6 jz;have yC:=qZ (b:=C) j6 (by simp[qq]);have fC:=Qq (b:=C) j6 (by simp[qq]);have lC:w.heap.size<=C:=by omega
 have j7:=Yz bR j6;rw[<-j6];try rw[<-qq]
 try rw[<-jz]
 clear j6 j8 jz qq;refine jy (HR.out _) fun s2 hb=>?_
 replace yA:=jv hb yA zA;replace zA:=jw hb zA;replace yC:=jv hb yC zC;replace fC:=qv hb fC zC;replace zC:=jw hb zC
 replace j7:=bT j7 hb;clear hb;go_wp2_with fail;refine(HM.out _).mono ?_;rintro e wq ⟨rfl,rfl⟩;go_wp2_with fail;refine jy (HP.out _) fun s3 hb=>?_
 replace yA:=jv hb yA zA;replace zA:=jw hb zA;replace yC:=jv hb yC zC;replace fC:=qv hb fC zC;replace zC:=jw hb zC
 replace j7:=bT j7 hb;clear hb
 go_upto_if 27 with fail
 go_cut [10] (fun v wx=>v=I6 t/\wx=s3)
 case first =>
  by_cases ha:a<=z
  ·
   have hx:=HSH.out.trans (if_pos ha);go_wp2
   go_meet
   exact⟨by rw[hx],rfl⟩
  ·
   have hx:=HSH.out.trans (if_neg ha);go_wp2
   go_meet
   exact⟨by rw[hx],rfl⟩
 obtain⟨rfl,hwc⟩:=hcut;rw[hwc];clear hwc wc;go_wp2_with fail;refine(HL.out _).mono ?_;rintro e wq ⟨rfl,rfl⟩;by_cases hL:L<t
 ·
  have h0:b=false:=HB.out.trans (jE (by omega));have e0:=HPN.out h0;subst e0 h0
  all_goals go_wp2
  all_goals refine jU (v:=.tuple #[.agg #[S0,I6 0,I6 0,Bv false,Bv false],Bv false]) (by simp[results,Tryz.results41,go_sem,yC,zC]) rfl ⟨rfl,?_⟩
  all_goals exact(Q8 j7 lC)
 ·
  have h0:b=true:=HB.out.trans (jD (by omega));have e0:=HPY.out h0;subst e0 h0;go_wp2_with fail;refine jy (HT.out _) fun s4 hb=>?_
  replace yC:=jv hb yC zC;replace fC:=qv hb fC zC
  replace j7:=bT j7 hb;clear hb
  all_goals go_wp2
  all_goals refine jU (v:=.tuple #[.agg #[Sg p.sh,I6 p.c,I6 p.r,Bv p.fc,Bv p.fr],Bv true]) (by simp[results,Tryz.results41,go_sem,yC,zC]) rfl ⟨rfl,?_⟩
  all_goals exact(Q8 j7 lC)
theorem f9t (q:Rf) (way a n:Int) (w:World) (hs:q.sh.size<=maxLen) (h1:YY way a n=true) (h0:X8 q=true) :
  Ca 42 #[.agg #[Sg q.sh,I6 q.c,I6 q.r,Bv q.fc,Bv q.fr],I6 way,I6 a,I6 n] w (.tuple #[.agg #[Sg (e8n q way a n).sh,I6 (e8n q way a n).c,I6 (e8n q way a n).r,Bv (e8n q way a n).fc,Bv (e8n q way a n).fr],Bv (Xw q way a n)]):=by
 have JY:=Qw;have HR:=zh (fun w=>a6m q true w hs h0);have HM:=zh (fun w=>f9v way a n true w h1);obtain⟨k0,k1,k2,k3,k4,k5,k6⟩:=d9t h1;obtain⟨k7,k8⟩:=e4z h0 k0;have HP:=zh (fun w=>f9q q way _ w rfl);have HT:=zh (fun w=>f9r q way (YX (Q9 q way) a n) _ w rfl);have hb2:Xw q way a n=!(decide (a<=Q9 q way)&&decide (Q9 q way<a+n)):=by unfold Xw;rw[h0,h1,Bool.true_and,Bool.true_and]
 have HY:=zh (@d8w q way a n);have HN:=zh (@e3e q way a n);obtain⟨b,hb⟩:=nM (!Xw q way a n);obtain⟨p,hp⟩:=nM (e8n q way a n);have hb3:Xw q way a n=!b:=by rw[hb,Bool.not_not]
 have HB:Hid (b=(decide (a<=Q9 q way)&&decide (Q9 q way<a+n))):=zh (by rw[hb,hb2,Bool.not_not]);have HPN:Hid (b=true->p=Jj):=fun h=>hp.trans (HN.out (by rw[hb3,h];rfl))
 have HPY:Hid (b=false->p=Y1 q way (YX (Q9 q way) a n)):=fun h=>hp.trans (HY.out (by rw[hb3,h];rfl))
 rw[hb3,<-hp];generalize Q9 q way=z at *;generalize Yx way=L at *;obtain⟨t,ht⟩:=nM (YX z a n);rw[<-ht] at HPY HT;have HSH:Hid (t=if a+n<=z then z-n else z):=zh ht;generalize Y1 q way t=r at *;clear h0 h1 k0 hb2 hb3 HY HN hb hp ht;go_enter Tryz.func42,Tryz.ntmps42;go_wp2_with fail;obtain⟨s5,A,C,j6,jz,qq,j8,zA,zC⟩:=YJ w (.cells #[Sg q.sh,I6 q.c,I6 q.r,Bv q.fc,Bv q.fr] 67) (.cells #[S0,I6 0,I6 0,Bv false,Bv false] 67);have dCA:C≠A:=by omega
 have yA:=Y4 (b:=A) j6 jz;have yC:=qZ (b:=C) j6 (by simp[qq]);have fC:=Qq (b:=C) j6 (by simp[qq]);have lC:w.heap.size<=C:=by omega
 have j7:=Yz bR j6;rw[<-j6];try rw[<-qq]
 try rw[<-jz]
 clear j6 j8 jz qq;refine jy (HR.out _) fun s6 hb=>?_
 replace yA:=jv hb yA zA;replace zA:=jw hb zA;replace yC:=jv hb yC zC;replace fC:=qv hb fC zC;replace zC:=jw hb zC
 replace j7:=bT j7 hb;clear hb;go_wp2_with fail;refine(HM.out _).mono ?_;rintro e wq ⟨rfl,rfl⟩;go_wp2_with fail;refine jy (HP.out _) fun s7 hb=>?_
 replace yA:=jv hb yA zA;replace yC:=jv hb yC zC;replace fC:=qv hb fC zC;replace zC:=jw hb zC
 replace j7:=bT j7 hb;clear hb
 go_upto_region 4 with fail
 go_cut [34] (fun v wx=>v=Bv b/\wx=s7)
 case first =>
  by_cases g1:a<=z<;>by_cases g2:z<a+n
  all_goals
   go_wp2
   go_meet
   exact⟨by rw[HB.out];simp[g1,g2],rfl⟩
 obtain⟨rfl,hwc⟩:=hcut;rw[hwc];clear hwc wc
 cases b with
 | true =>
  have e0:=HPN.out rfl;subst e0
  all_goals go_wp2
  all_goals refine jU (v:=.tuple #[.agg #[S0,I6 0,I6 0,Bv false,Bv false],Bv false]) (by simp[results,Tryz.results42,go_sem,yC,zC]) rfl ⟨rfl,?_⟩
  all_goals exact(Q8 j7 lC)
 | false =>
  have e0:=HPY.out rfl;subst e0
  go_upto_if 40 with fail
  go_cut [10] (fun v wx=>v=I6 t/\wx=s7)
  case first =>
   by_cases ha:a+n<=z
   ·
    have hx:=HSH.out.trans (if_pos ha);go_wp2
    go_meet
    exact⟨by rw[hx],rfl⟩
   ·
    have hx:=HSH.out.trans (if_neg ha);go_wp2
    go_meet
    exact⟨by rw[hx],rfl⟩
  obtain⟨rfl,hwc⟩:=hcut;rw[hwc];clear hwc wc;go_wp2_with fail;refine jy (HT.out _) fun s8 hb=>?_
  replace yC:=jv hb yC zC;replace fC:=qv hb fC zC
  replace j7:=bT j7 hb;clear hb
  all_goals go_wp2
  all_goals refine jU (v:=.tuple #[.agg #[Sg p.sh,I6 p.c,I6 p.r,Bv p.fc,Bv p.fr],Bv true]) (by simp[results,Tryz.results42,go_sem,yC,zC]) rfl ⟨rfl,?_⟩
  all_goals exact(Q8 j7 lC)
set_option maxHeartbeats 8000000
abbrev rL5 (p:Rf):List Value:=[Sg p.sh,I6 p.c,I6 p.r,Bv p.fc,Bv p.fr]
abbrev zL5:List Value:=[S0,I6 0,I6 0,Bv false,Bv false]
def g1d (B X C D:Nat) (t:World) (b x:Rf) (wx:World):Prop:=(∀ j,wx.cell? ⟨B,j,none⟩=(rL5 b)[j]?)/\(∀ j,wx.cell? ⟨X,j,none⟩=(rL5 x)[j]?)/\(∀ j,wx.cell? ⟨C,j,none⟩=zL5[j]?)/\(∀ j,wx.frozen? ⟨C,j,none⟩=false)/\(∀ j,wx.cell? ⟨D,j,none⟩=zL5[j]?)/\(∀ j,wx.frozen? ⟨D,j,none⟩=false)/\Bl t wx
theorem f9z (a b:Rf) (way x n:Int) (w:World) (hs:a.sh.size<=maxLen) (hs2:b.sh.size<=maxLen) (g:e1z a b way x n=true) :
  Ca 43 #[.agg #[Sg a.sh,I6 a.c,I6 a.r,Bv a.fc,Bv a.fr],.agg #[Sg b.sh,I6 b.c,I6 b.r,Bv b.fc,Bv b.fr],I6 way,I6 x,I6 n] w (.tuple #[.agg #[Sg ((Yv way x n a b).1).sh,I6 ((Yv way x n a b).1).c,I6 ((Yv way x n a b).1).r,Bv ((Yv way x n a b).1).fc,Bv ((Yv way x n a b).1).fr],.agg #[Sg ((Yv way x n a b).2.1).sh,I6 ((Yv way x n a b).2.1).c,I6 ((Yv way x n a b).2.1).r,Bv ((Yv way x n a b).2.1).fc,Bv ((Yv way x n a b).2.1).fr],Bv (Yv way x n a b).2.2]):=by
 have JY:=Qw;obtain⟨g1,g2,g3,g4⟩:=e6x g;have hB:e0i a b way x n=e2b a way x n:=by unfold e0i;rw[g,Bool.true_and]
 have HA:=zh (fun w=>a6m a true w hs g1);have HB:=zh (fun w=>a6m b true w hs2 g2);have HM:=zh (fun w=>f9v way x n true w g3);have HPa:=zh (fun w=>f9q a way _ w rfl);have HPb:=zh (fun w=>f9q b way _ w rfl);have H1:=zh (fun w=>f9s a way x n w hs g3 g1);have H2:=zh (fun w=>f9s b way x n w hs2 g3 g2);have HL:=zh (fun w=>f9w way w);have HT:=zh (fun w=>f9r b way (Yx way) _ w rfl);unfold Yv;dsimp only;obtain⟨p,hp⟩:=nM (e5a a b way x n);obtain⟨q,hq⟩:=nM (e5c a b way x n)
 have HNO:Hid (e2b a way x n=false->p=Jj/\q=Jj):=fun h=>by
  obtain⟨e1,e2⟩:=e6v (hB.trans h);exact⟨hp.trans e1,hq.trans e2⟩
 have HYE:Hid (e2b a way x n=true->p=e8m a way x n/\q=if e2b b way x n=true then e8m b way x n else Y1 b way (Yx way)):=fun h=>by
  obtain⟨e1,e2⟩:=e8p (hB.trans h);exact⟨hp.trans e1,hq.trans e2⟩
 rw[<-hp,<-hq,hB];generalize e8m a way x n=r1 at *;generalize e2b a way x n=k at *;generalize e8m b way x n=r2 at *;generalize e2b b way x n=l at *;generalize Y1 b way (Yx way)=r3 at *;generalize Yx way=L at *;generalize Q9 a way=za at *;generalize Q9 b way=zb at *;clear g g1 g2 g3 hp hq hB;go_enter Tryz.func43,Tryz.ntmps43;go_wp2_with fail;obtain⟨s1,A,B,C,D,j6,jz,J7,qq,XV,j8,zA,zB,zC,zD⟩:=nm4 w (.cells #[Sg a.sh,I6 a.c,I6 a.r,Bv a.fc,Bv a.fr] 67) (.cells #[Sg b.sh,I6 b.c,I6 b.r,Bv b.fc,Bv b.fr] 67) (.cells #[S0,I6 0,I6 0,Bv false,Bv false] 67) (.cells #[S0,I6 0,I6 0,Bv false,Bv false] 67);have dCA:C≠A:=by omega
 have dCB:C≠B:=by omega
 have dCD:C≠D:=by omega
 have dDA:D≠A:=by omega
 have dDB:D≠B:=by omega
 have dDC:D≠C:=by omega
 have yA:=by3 (b:=A) j6 jz;have yB:=by2 (b:=B) j6 (by simp[J7]);have yC:=Y4 (b:=C) j6 (by simp[qq]);have fC:=bf1 (b:=C) j6 (by simp[qq]);have lC:w.heap.size<=C:=by omega
 have yD:=qZ (b:=D) j6 (by simp[XV]);have fD:=Qq (b:=D) j6 (by simp[XV]);have lD:w.heap.size<=D:=by omega
 have j7:=bs4 bR j6;rw[<-j6];try rw[<-XV]
 try rw[<-qq]
 try rw[<-J7]
 try rw[<-jz]
 clear j6 j8 jz J7 qq XV;have HF:=QX j7;clear j7;refine wrp (S:=fun w'=>(∀ j,w'.cell? ⟨A,j,none⟩=([Sg a.sh,I6 a.c,I6 a.r,Bv a.fc,Bv a.fr]:List Value)[j]?)/\(∀ j,w'.cell? ⟨B,j,none⟩=([Sg b.sh,I6 b.c,I6 b.r,Bv b.fc,Bv b.fr]:List Value)[j]?)) (by kernel_rfl) (fun w' hx=>JJ) (fun Q6 jx=>?_)
 refine tk 0 ?_;refine Jq 1 (by kernel_rfl) rfl fun K hK=>?_
 go_simp
 (go_at_call 63;refine jy (HA.out _) fun x2 qk=>?_;obtain⟨qx,jk,qK⟩:=Q4 s1 qk)
 try (go_wp2_with fail)
 refine hK.out _ _ (X2 Q6) (fun jx=>?_);clear hK K;try simp only[pz]
 refine tk 2 ?_;refine tk 3 ?_;refine tk 4 ?_;refine Jq 5 (by kernel_rfl) rfl fun K hK=>?_
 go_simp
 (go_at_call 63;refine jy (HB.out _) fun x2 qk=>?_;obtain⟨qx,jk,qK⟩:=Q4 s1 qk)
 try (go_wp2_with fail)
 refine hK.out _ _ (X2 Q6) (fun jx=>?_);clear hK K;try simp only[pz]
 refine tk 6 ?_;refine tk 7 ?_;refine tk 8 ?_;refine tk 9 ?_;refine tk 10 ?_;refine tk 11 ?_;refine Jq 12 (by kernel_rfl) rfl fun K hK=>?_
 go_simp
 (go_at_call 82;refine(HM.out _).mono ?_;rintro e wx ⟨rfl,rfl⟩)
 try (go_wp2_with fail)
 refine hK.out _ _ (X2 Q6) (fun jx=>?_);clear hK K;try simp only[pz]
 refine tk 13 ?_;refine tk 14 ?_;refine tk 15 ?_;refine tk 16 ?_;refine tk 17 ?_;refine tk 19 ?_;refine tk 20 ?_;refine Jq 18 (by kernel_rfl) rfl fun K hK=>?_
 go_simp
 (go_at_call 83;refine jy (HPa.out _) fun x2 qk=>?_;obtain⟨qx,jk,qK⟩:=Q4 s1 qk)
 try (go_wp2_with fail)
 refine hK.out _ _ (X2 Q6) (fun jx=>?_);clear hK K;try simp only[pz]
 refine Jq 21 (by kernel_rfl) rfl fun K hK=>?_
 go_simp
 (go_at_call 83;refine jy (HPb.out _) fun x2 qk=>?_;obtain⟨qx,jk,qK⟩:=Q4 s1 qk)
 try (go_wp2_with fail)
 refine hK.out _ _ (X2 Q6) (fun jx=>?_);clear hK K;try simp only[pz]
 refine tk 22 ?_;refine tk 23 ?_;refine wpAnyH_done (by kernel_rfl) ?_ _;go_wp2_with fail;replace yA:=XY jk yA zA
 replace zA:=jw qx zA;replace yB:=XY jk yB zB
 replace zB:=jw qx zB;replace yC:=XY jk yC zC
 replace fC:=fun j=>(qK C j zC).trans (fC j)
 replace zC:=jw qx zC;replace yD:=XY jk yD zD
 replace fD:=fun j=>(qK D j zD).trans (fD j)
 replace zD:=jw qx zD;have j7:=HF.out _ qx;clear HF jk qK qx;refine jy (H1.out _) fun s3 hb=>?_
 replace yA:=jv hb yA zA;replace zA:=jw hb zA;replace yB:=jv hb yB zB;replace zB:=jw hb zB;replace yC:=jv hb yC zC;replace fC:=qv hb fC zC;replace zC:=jw hb zC
 replace yD:=jv hb yD zD;replace fD:=qv hb fD zD;replace zD:=jw hb zD
 replace j7:=bT j7 hb;clear hb
 go_upto_region 4 with fail
 obtain⟨s4,X,j6,qw,j8,zX⟩:=qy s3 (.cells #[Sg r1.sh,I6 r1.c,I6 r1.r,Bv r1.fc,Bv r1.fr] 67);have j9:=JW j6;have dCX:C≠X:=by omega
 have dDX:D≠X:=by omega
 replace yA:=jv j9 yA zA;replace zA:=jw j9 zA;replace yB:=jv j9 yB zB;replace zB:=jw j9 zB;replace yC:=jv j9 yC zC;replace fC:=qv j9 fC zC;replace zC:=jw j9 zC
 replace yD:=jv j9 yD zD;replace fD:=qv j9 fD zD;replace zD:=jw j9 zD
 clear j9;have yX:=qZ (b:=X) j6 qw;replace j7:=qQ j7 j6;rw[<-j6];try rw[<-qw]
 clear j6 j8 qw
 cases k with
 | false =>
  obtain⟨e1,e2⟩:=HNO.out rfl;subst e1 e2
  all_goals go_wp2
  all_goals refine jU (v:=.tuple #[.agg #[S0,I6 0,I6 0,Bv false,Bv false],.agg #[S0,I6 0,I6 0,Bv false,Bv false],Bv false]) (by simp[results,Tryz.results43,go_sem,yC,yD,zC,zD]) rfl ⟨rfl,?_⟩
  all_goals exact(Q8 (Q8 j7 lC) lD)
 | true =>
  obtain⟨e1,e2⟩:=HYE.out rfl;replace e1:=e1.symm;subst e1;go_wp2_with fail;refine jy (H2.out _) fun s5 hb=>?_
  replace yA:=jv hb yA zA;replace zA:=jw hb zA;replace yB:=jv hb yB zB;replace zB:=jw hb zB;replace yC:=jv hb yC zC;replace fC:=qv hb fC zC;replace zC:=jw hb zC
  replace yD:=jv hb yD zD;replace fD:=qv hb fD zD;replace zD:=jw hb zD
  replace yX:=jv hb yX zX;replace zX:=jw hb zX;replace j7:=bT j7 hb;clear hb
  go_upto_region 7 with fail
  obtain⟨s6,Y,j6,Qy,j8,zY⟩:=qy s5 (.cells #[Sg r2.sh,I6 r2.c,I6 r2.r,Bv r2.fc,Bv r2.fr] 67);have j9:=JW j6;have dCY:C≠Y:=by omega
  have dDY:D≠Y:=by omega
  have dYA:Y≠A:=by omega
  have dYB:Y≠B:=by omega
  have dYC:Y≠C:=by omega
  have dYD:Y≠D:=by omega
  have dYX:Y≠X:=by omega
  replace yA:=jv j9 yA zA;replace zA:=jw j9 zA;replace yB:=jv j9 yB zB;replace zB:=jw j9 zB;replace yC:=jv j9 yC zC;replace fC:=qv j9 fC zC;replace zC:=jw j9 zC
  replace yD:=jv j9 yD zD;replace fD:=qv j9 fD zD;replace zD:=jw j9 zD
  replace yX:=jv j9 yX zX;replace zX:=jw j9 zX;clear j9;have yY:=qZ (b:=Y) j6 Qy;have fY:=Qq (b:=Y) j6 Qy;have lY:w.heap.size<=Y:=by have:=j7.size;omega
  replace j7:=qQ j7 j6;rw[<-j6];try rw[<-Qy]
  clear j6 j8 Qy
  cases l with
  | false =>
   rw[if_neg Bool.false_ne_true] at e2;replace e2:=e2.symm;subst e2;go_wp2_with fail;have HF:=QX j7;clear j7;refine wp_region_held_drew (S:=fun w'=>(∀ j,w'.cell? ⟨A,j,none⟩=([Sg a.sh,I6 a.c,I6 a.r,Bv a.fc,Bv a.fr]:List Value)[j]?)/\(∀ j,w'.cell? ⟨B,j,none⟩=([Sg b.sh,I6 b.c,I6 b.r,Bv b.fc,Bv b.fr]:List Value)[j]?)/\(∀ j,w'.cell? ⟨X,j,none⟩=([Sg r1.sh,I6 r1.c,I6 r1.r,Bv r1.fc,Bv r1.fr]:List Value)[j]?)) (by kernel_rfl) JA (fun jx=>?_)
   refine tk 0 ?_;refine tk 1 ?_;refine tk 2 ?_;refine Jq 3 (by kernel_rfl) rfl fun K hK=>?_
   go_simp
   (go_at_call 84;refine(HL.out _).mono ?_;rintro e wx ⟨rfl,rfl⟩)
   try (go_wp2_with fail)
   refine hK.out _ _ JA (fun jx=>?_)
   clear hK K;try simp only[pz]
   refine Jq 4 (by kernel_rfl) rfl fun K hK=>?_
   go_simp
   (go_at_call 85;refine jy (HT.out _) fun x7 qk=>?_;obtain⟨qx,jk,qK⟩:=Q4 s6 qk)
   try (go_wp2_with fail)
   refine hK.out _ _ JA (fun jx=>?_)
   clear hK K;try simp only[pz]
   refine Jq 5 (by kernel_rfl) rfl fun K hK=>?_
   go_simp;try (go_wp2_with fail)
   refine hK.out _ _ JA (fun jx=>?_)
   clear hK K;try simp only[pz]
   refine wpAnyH_done (by kernel_rfl) ?_ _;replace yC:=XY jk yC zC
   replace fC:=fun j=>(qK C j zC).trans (fC j)
   replace yD:=XY jk yD zD
   replace fD:=fun j=>(qK D j zD).trans (fD j)
   replace yX:=XY jk yX zX
   replace yY:=XY jk yY zY
   have j7:=HF.out _ qx;clear HF jk qK qx;go_wp2_with fail;obtain⟨s8,j6⟩:∃ s,s=(((((x7.setCell ⟨Y,0,none⟩ (Sg r3.sh)).setCell ⟨Y,1,none⟩ (I6 r3.c)).setCell ⟨Y,2,none⟩ (I6 r3.r)).setCell ⟨Y,3,none⟩ (Bv r3.fc)).setCell ⟨Y,4,none⟩ (Bv r3.fr)):=⟨_,rfl⟩;have qJ:Bl w s8:=by rw[j6];exact(Q8 (j7) lY)
   have j8:=ss5 j6;replace yC:=Jv j6 (qz (qz (qz (qz (qz yC dYC) dYC) dYC) dYC) dYC);replace yD:=Jv j6 (qz (qz (qz (qz (qz yD dYD) dYD) dYD) dYD) dYD);replace yX:=Jv j6 (qz (qz (qz (qz (qz yX dYX) dYX) dYX) dYX) dYX);have hq:∀ {p v},(((((x7.setCell ⟨Y,0,none⟩ (Sg r3.sh)).setCell ⟨Y,1,none⟩ (I6 r3.c)).setCell ⟨Y,2,none⟩ (I6 r3.r)).setCell ⟨Y,3,none⟩ (Bv r3.fc)).setCell ⟨Y,4,none⟩ (Bv r3.fr)).cell? p=some v->s8.cell? p=some v:=fun h=>by rw[j6];exact h
   replace yY:∀ j,s8.cell? ⟨Y,j,none⟩=([Sg r3.sh,I6 r3.c,I6 r3.r,Bv r3.fc,Bv r3.fr]:List Value)[j]?:=Jv j6 (JX (JX (JX (JX (JX yY (jB rfl)) (jB rfl)) (jB rfl)) (jB rfl)) (jB rfl));clear hq;have J9:=@fz5 _ _ _ _ _ _ _ _ _ _ _ _  j6;replace fC:=fun j=>J9 (fC j)
   replace fD:=fun j=>J9 (fD j)
   clear J9;rw[<-j6];clear j7 j6 j8;have j7:=qJ;clear qJ
   go_region
   all_goals go_wp2
   all_goals refine jU (v:=.tuple #[.agg #[Sg r1.sh,I6 r1.c,I6 r1.r,Bv r1.fc,Bv r1.fr],.agg #[Sg r3.sh,I6 r3.c,I6 r3.r,Bv r3.fc,Bv r3.fr],Bv true]) (by simp[results,Tryz.results43,go_sem,yC,yD,zC,zD]) rfl ⟨rfl,?_⟩
   all_goals exact(Below.drew (Q8 (Q8 j7 lC) lD))
  | true =>
   rw[if_pos rfl] at e2;replace e2:=e2.symm;subst e2;go_wp2_with fail
   go_region
   all_goals go_wp2
   all_goals refine jU (v:=.tuple #[.agg #[Sg r1.sh,I6 r1.c,I6 r1.r,Bv r1.fc,Bv r1.fr],.agg #[Sg r2.sh,I6 r2.c,I6 r2.r,Bv r2.fc,Bv r2.fr],Bv true]) (by simp[results,Tryz.results43,go_sem,yC,yD,zC,zD]) rfl ⟨rfl,?_⟩
   all_goals exact(Below.drew (Q8 (Q8 j7 lC) lD))
theorem g0i (a b:Rf) (way x n:Int) (p q:Rf) (k:Bool) (w:World) (hs:a.sh.size<=maxLen) (hs2:b.sh.size<=maxLen) (g:e1z a b way x n=true) (hp:e5i a b way x n=p) (hq:e5j a b way x n=q) (hk:d9g a b way x n=k) :
  Ca 46 #[.agg #[Sg a.sh,I6 a.c,I6 a.r,Bv a.fc,Bv a.fr],.agg #[Sg b.sh,I6 b.c,I6 b.r,Bv b.fc,Bv b.fr],I6 way,I6 x,I6 n] w (.tuple #[.agg #[Sg p.sh,I6 p.c,I6 p.r,Bv p.fc,Bv p.fr],.agg #[Sg q.sh,I6 q.c,I6 q.r,Bv q.fc,Bv q.fr],Bv k]):=by
 refine e2c a b way x n p q k w fun w=>?_
 obtain⟨g1,g2,g3,g4⟩:=e6x g;obtain⟨k0,k1,k2,k3,k4,k5,k6⟩:=d9t g3;obtain⟨a1,a2⟩:=e4z g1 k0;obtain⟨b1,b2⟩:=e4z g2 k0;have hB:d9g a b way x n=(Xw a way x n || Xw b way x n):=by unfold d9g;rw[g,Bool.true_and]
 have ia:=e4h g3 g1;have ib:=e4h g3 g2;refine d9w _ f1r a b way x n _ _ p q k w hs hs2 g3 g1 g2 g4 (fun g p w=>e1k _ x n g p _ _ w (by omega) (by omega) (by omega) (by omega) (by omega) (by omega) (by omega) (by omega)) ?_
 have t1:∀ z,1<=z->(¬ (x<=z/\z<x+n)->tk1 z x n=YX z x n/\tk2 z x n=YX z x n)/\((x<=z/\z<x+n)->tk1 z x n=x/\tk2 z x n=x-1):=fun z hz=>by
  unfold tk1 tk2 tkP YX;constructor
  ·
   intro h;by_cases h2:x+n<=z
   ·
    rw[if_pos h2,if_pos h2,if_neg (by omega),if_neg (by omega)];exact⟨rfl,rfl⟩
   ·
    rw[if_neg h2,if_neg h2,if_neg (by omega : ¬ x<=z),if_neg (by omega),if_neg (by omega)];exact⟨rfl,rfl⟩
  ·
   rintro ⟨h,h2⟩;rw[if_neg (by omega : ¬ x+n<=z),if_pos h,if_pos rfl,if_pos rfl];exact⟨rfl,rfl⟩
 have ta:=t1 _ a1;have tb:=t1 _ b1
 cases h1:Xw a way x n with
 | true =>
  have ja:=ia.1.1 h1;rw[(ta.1 ja).1];right;have hk2:d9g a b way x n=true:=by rw[hB,h1];rfl
  obtain⟨e1,e2⟩:=e4g hk2;rw[h1,if_pos rfl] at e1
  cases h2:Xw b way x n with
  | true =>
   have jb:=ib.1.1 h2;rw[(tb.1 jb).2];rw[h2,if_pos rfl] at e2;exact⟨by unfold YX;split<;>split<;>omega,(d8w h1).symm.trans (e1.symm.trans hp),(d8w h2).symm.trans (e2.symm.trans hq),hk.symm.trans hk2⟩
  | false =>
   have jb:=ib.2.1 h2;rw[(tb.2 jb).2];rw[h2,if_neg Bool.false_ne_true] at e2;exact⟨by unfold YX;split<;>omega,(d8w h1).symm.trans (e1.symm.trans hp),e2.symm.trans hq,hk.symm.trans hk2⟩
 | false =>
  have ja:=ia.2.1 h1;rw[(ta.2 ja).1]
  cases h2:Xw b way x n with
  | true =>
   have jb:=ib.1.1 h2;rw[(tb.1 jb).2];right;have hk2:d9g a b way x n=true:=by rw[hB,h1,h2];rfl
   obtain⟨e1,e2⟩:=e4g hk2;rw[h1,if_neg Bool.false_ne_true] at e1;rw[h2,if_pos rfl] at e2;exact⟨by unfold YX;split<;>omega,e1.symm.trans hp,(d8w h2).symm.trans (e2.symm.trans hq),hk.symm.trans hk2⟩
  | false =>
   have jb:=ib.2.1 h2;rw[(tb.2 jb).2];left;have hk2:d9g a b way x n=false:=by rw[hB,h1,h2];rfl
   obtain⟨e1,e2⟩:=e6w hk2;exact⟨by omega,hp.symm.trans e1,hq.symm.trans e2,hk.symm.trans hk2⟩
theorem g0e {a b:Rf} {way x n:Int} (g:e1z a b way x n=true):((Xw a way x n || Xw b way x n)=true->X8 (Y1 a way (if Xw a way x n=true then YX (Q9 a way) x n else x))=true/\X8 (Y1 b way (if Xw b way x n=true then YX (Q9 b way) x n else x-1))=true/\¬ (if Xw b way x n=true then YX (Q9 b way) x n else x-1)<if Xw a way x n=true then YX (Q9 a way) x n else x)/\((Xw a way x n || Xw b way x n)=false->(if Xw b way x n=true then YX (Q9 b way) x n else x-1)<if Xw a way x n=true then YX (Q9 a way) x n else x):=by
 obtain⟨g1,g2,g3,g4⟩:=e6x g;obtain⟨k0,k1,k2,k3,k4,k5,k6⟩:=d9t g3;obtain⟨a1,a2⟩:=e4z g1 k0;obtain⟨b1,b2⟩:=e4z g2 k0;have ia:=e4h g3 g1;have ib:=e4h g3 g2
 cases h1:Xw a way x n with
 | true =>
  have ja:=ia.1.1 h1
  cases h2:Xw b way x n with
  | true =>
   have jb:=ib.1.1 h2;simp only[if_true];exact⟨fun _=>⟨f5u g1 k0 (by unfold YX;split<;>omega) (by unfold YX;split<;>omega),f5u g2 k0 (by unfold YX;split<;>omega) (by unfold YX;split<;>omega),by unfold YX;split<;>split<;>omega⟩,fun h=>by cases h⟩
  | false =>
   have jb:=ib.2.1 h2;simp only[if_true,Bool.false_eq_true,if_false];exact⟨fun _=>⟨f5u g1 k0 (by unfold YX;split<;>omega) (by unfold YX;split<;>omega),f5u g2 k0 (by omega) (by omega),by unfold YX;split<;>omega⟩,fun h=>by cases h⟩
 | false =>
  have ja:=ia.2.1 h1
  cases h2:Xw b way x n with
  | true =>
   have jb:=ib.1.1 h2;simp only[if_true,Bool.false_eq_true,if_false];exact⟨fun _=>⟨f5u g1 k0 (by omega) (by omega),f5u g2 k0 (by unfold YX;split<;>omega) (by unfold YX;split<;>omega),by unfold YX;split<;>omega⟩,fun h=>by cases h⟩
  | false =>
   simp only[Bool.false_eq_true,if_false];exact⟨fun h=>(by cases h),fun _=>by omega⟩
theorem g0a (a b:Rf) (way x n:Int) (w:World) (hs:a.sh.size<=maxLen) (hs2:b.sh.size<=maxLen) (g:e1z a b way x n=true) :
  Ca 44 #[.agg #[Sg a.sh,I6 a.c,I6 a.r,Bv a.fc,Bv a.fr],.agg #[Sg b.sh,I6 b.c,I6 b.r,Bv b.fc,Bv b.fr],I6 way,I6 x,I6 n] w (.tuple #[.agg #[Sg ((e6o way x n a b).1).sh,I6 ((e6o way x n a b).1).c,I6 ((e6o way x n a b).1).r,Bv ((e6o way x n a b).1).fc,Bv ((e6o way x n a b).1).fr],.agg #[Sg ((e6o way x n a b).2.1).sh,I6 ((e6o way x n a b).2.1).c,I6 ((e6o way x n a b).2.1).r,Bv ((e6o way x n a b).2.1).fc,Bv ((e6o way x n a b).2.1).fr],Bv (e6o way x n a b).2.2]):=by
 have JY:=Qw;obtain⟨g1,g2,g3,g4⟩:=e6x g;obtain⟨k0,k1,k2,k3,k4,k5,k6⟩:=d9t g3;obtain⟨a1,a2⟩:=e4z g1 k0;obtain⟨b1,b2⟩:=e4z g2 k0;unfold e6o;dsimp only;obtain⟨p,hp⟩:=nM (if Xw a way x n=true then e8n a way x n else Y1 a way x)
 obtain⟨q,hq⟩:=nM (if Xw b way x n=true then e8n b way x n else Y1 b way (x-1))
 have hpa:p=Y1 a way (if Xw a way x n=true then YX (Q9 a way) x n else x):=by
  rw[hp]
  cases h:Xw a way x n with
  | true=>rw[if_pos rfl,if_pos rfl,d8w h]
  | false=>rfl
 have hqa:q=Y1 b way (if Xw b way x n=true then YX (Q9 b way) x n else x-1):=by
  rw[hq]
  cases h:Xw b way x n with
  | true=>rw[if_pos rfl,if_pos rfl,d8w h]
  | false=>rfl
 obtain⟨k,hk⟩:=nM (d9g a b way x n);have hB:k=(Xw a way x n || Xw b way x n):=by rw[hk];unfold d9g;rw[g,Bool.true_and]
 have hd1:e5i a b way x n=if k=true then p else Jj:=by rw[hp,hk];rfl
 have hd2:e5j a b way x n=if k=true then q else Jj:=by rw[hq,hk];rfl
 obtain⟨u,hu⟩:=nM (if k=true then p else Jj)
 obtain⟨v,hv⟩:=nM (if k=true then q else Jj)
 rw[<-hk,hd1,hd2,<-hu,<-hv];have HU:=zh hu;have HV:=zh hv;clear hu hv;have hz1:Q9 p way=if Xw a way x n=true then YX (Q9 a way) x n else x:=by rw[hpa,f6v]
 have hz2:Q9 q way=if Xw b way x n=true then YX (Q9 b way) x n else x-1:=by rw[hqa,f6v]
 have hfact:(k=true->X8 p=true/\X8 q=true/\¬ Q9 q way<Q9 p way)/\(k=false->Q9 q way<Q9 p way):=by
  rw[hz1,hz2,hpa,hqa,hB];exact g0e g
 have HA:=zh (fun w=>a6m a true w hs g1);have HB:=zh (fun w=>a6m b true w hs2 g2);have HM:=zh (fun w=>f9v way x n true w g3);have HPa:=zh (fun w=>f9q a way _ w rfl);have HPb:=zh (fun w=>f9q b way _ w rfl);have H1:=zh (fun w=>f9t a way x n w hs g3 g1);have H2:=zh (fun w=>f9t b way x n w hs2 g3 g2);have HX:=zh (fun w=>f9r a way x _ w rfl);have HY:=zh (fun w=>f9r b way (x-1) _ w rfl);have HPp:=zh (fun w=>f9q p way _ w rfl);have HPq:=zh (fun w=>f9q q way _ w rfl);have sp:p.sh.size<=maxLen:=by rw[hpa,f5t];exact hs
 have sq:q.sh.size<=maxLen:=by rw[hqa,f5t];exact hs2
 have HRp:=zh (fun w h=>a6m p true w sp h);have HRq:=zh (fun w h=>a6m q true w sq h);have HF:=zh hfact;have HP:=zh hp;have HQ:=zh hq;generalize Q9 p way=zp at *;generalize Q9 q way=zq at *;generalize Q9 a way=za at *;generalize Q9 b way=zb at *;generalize e8n a way x n=r1 at *;generalize Xw a way x n=d1 at *;generalize e8n b way x n=r2 at *;generalize Xw b way x n=d2 at *;generalize Y1 a way x=r3 at *;generalize Y1 b way (x-1)=r4 at *;have q1:IntKind.i64.wrap (x-1)=x-1:=IntWalk.i64_in _ (by omega);clear hp hq hpa hqa hB hk hd1 hd2 hz1 hz2 hfact sp sq g g1 g2 g3 k0 k1 k2 k3 k4 k5 k6 a1 a2 b1 b2;go_enter Tryz.func44,Tryz.ntmps44;go_wp2_with fail;obtain⟨s1,A,B,C,D,j6,jz,J7,qq,XV,j8,zA,zB,zC,zD⟩:=nm4 w (.cells #[Sg a.sh,I6 a.c,I6 a.r,Bv a.fc,Bv a.fr] 67) (.cells #[Sg b.sh,I6 b.c,I6 b.r,Bv b.fc,Bv b.fr] 67) (.cells #[S0,I6 0,I6 0,Bv false,Bv false] 67) (.cells #[S0,I6 0,I6 0,Bv false,Bv false] 67);have dCA:C≠A:=by omega
 have dCB:C≠B:=by omega
 have dCD:C≠D:=by omega
 have dDA:D≠A:=by omega
 have dDB:D≠B:=by omega
 have dDC:D≠C:=by omega
 have yA:=by3 (b:=A) j6 jz;have yB:=by2 (b:=B) j6 (by simp[J7]);have yC:=Y4 (b:=C) j6 (by simp[qq]);have fC:=bf1 (b:=C) j6 (by simp[qq]);have lC:w.heap.size<=C:=by omega
 have yD:=qZ (b:=D) j6 (by simp[XV]);have fD:=Qq (b:=D) j6 (by simp[XV]);have lD:w.heap.size<=D:=by omega
 have j7:=bs4 bR j6;rw[<-j6];try rw[<-XV]
 try rw[<-qq]
 try rw[<-J7]
 try rw[<-jz]
 clear j6 j8 jz J7 qq XV;have HF:=QX j7;clear j7;refine wrp (S:=fun w'=>(∀ j,w'.cell? ⟨A,j,none⟩=([Sg a.sh,I6 a.c,I6 a.r,Bv a.fc,Bv a.fr]:List Value)[j]?)/\(∀ j,w'.cell? ⟨B,j,none⟩=([Sg b.sh,I6 b.c,I6 b.r,Bv b.fc,Bv b.fr]:List Value)[j]?)) (by kernel_rfl) (fun w' hx=>JJ) (fun Q6 jx=>?_)
 refine tk 0 ?_;refine Jq 1 (by kernel_rfl) rfl fun K hK=>?_
 go_simp
 (go_at_call 63;refine jy (HA.out _) fun x2 qk=>?_;obtain⟨qx,jk,qK⟩:=Q4 s1 qk)
 try (go_wp2_with fail)
 refine hK.out _ _ (X2 Q6) (fun jx=>?_);clear hK K;try simp only[pz]
 refine tk 2 ?_;refine tk 3 ?_;refine tk 4 ?_;refine Jq 5 (by kernel_rfl) rfl fun K hK=>?_
 go_simp
 (go_at_call 63;refine jy (HB.out _) fun x2 qk=>?_;obtain⟨qx,jk,qK⟩:=Q4 s1 qk)
 try (go_wp2_with fail)
 refine hK.out _ _ (X2 Q6) (fun jx=>?_);clear hK K;try simp only[pz]
 refine tk 6 ?_;refine tk 7 ?_;refine tk 8 ?_;refine tk 9 ?_;refine tk 10 ?_;refine tk 11 ?_;refine Jq 12 (by kernel_rfl) rfl fun K hK=>?_
 go_simp
 (go_at_call 82;refine(HM.out _).mono ?_;rintro e wx ⟨rfl,rfl⟩)
 try (go_wp2_with fail)
 refine hK.out _ _ (X2 Q6) (fun jx=>?_);clear hK K;try simp only[pz]
 refine tk 13 ?_;refine tk 14 ?_;refine tk 15 ?_;refine tk 16 ?_;refine tk 17 ?_;refine tk 19 ?_;refine tk 20 ?_;refine Jq 18 (by kernel_rfl) rfl fun K hK=>?_
 go_simp
 (go_at_call 83;refine jy (HPa.out _) fun x2 qk=>?_;obtain⟨qx,jk,qK⟩:=Q4 s1 qk)
 try (go_wp2_with fail)
 refine hK.out _ _ (X2 Q6) (fun jx=>?_);clear hK K;try simp only[pz]
 refine Jq 21 (by kernel_rfl) rfl fun K hK=>?_
 go_simp
 (go_at_call 83;refine jy (HPb.out _) fun x2 qk=>?_;obtain⟨qx,jk,qK⟩:=Q4 s1 qk)
 try (go_wp2_with fail)
 refine hK.out _ _ (X2 Q6) (fun jx=>?_);clear hK K;try simp only[pz]
 refine tk 22 ?_;refine tk 23 ?_;refine wpAnyH_done (by kernel_rfl) ?_ _;go_wp2_with fail;replace yA:=XY jk yA zA
 replace zA:=jw qx zA;replace yB:=XY jk yB zB
 replace zB:=jw qx zB;replace yC:=XY jk yC zC
 replace fC:=fun j=>(qK C j zC).trans (fC j)
 replace zC:=jw qx zC;replace yD:=XY jk yD zD
 replace fD:=fun j=>(qK D j zD).trans (fD j)
 replace zD:=jw qx zD;have j7:=HF.out _ qx;clear HF jk qK qx;refine jy (H1.out _) fun s3 hb=>?_
 replace yA:=jv hb yA zA;replace zA:=jw hb zA;replace yB:=jv hb yB zB;replace zB:=jw hb zB;replace yC:=jv hb yC zC;replace fC:=qv hb fC zC;replace zC:=jw hb zC
 replace yD:=jv hb yD zD;replace fD:=qv hb fD zD;replace zD:=jw hb zD
 replace j7:=bT j7 hb;clear hb
 go_upto_region 4 with fail
 obtain⟨s4,X,j6,qw,j8,zX⟩:=qy s3 (.cells #[Sg r1.sh,I6 r1.c,I6 r1.r,Bv r1.fc,Bv r1.fr] 67);have j9:=JW j6;have dCX:C≠X:=by omega
 have dDX:D≠X:=by omega
 have dXA:X≠A:=by omega
 have dXB:X≠B:=by omega
 have dXC:X≠C:=by omega
 have dXD:X≠D:=by omega
 replace yA:=jv j9 yA zA;replace zA:=jw j9 zA;replace yB:=jv j9 yB zB;replace zB:=jw j9 zB;replace yC:=jv j9 yC zC;replace fC:=qv j9 fC zC;replace zC:=jw j9 zC
 replace yD:=jv j9 yD zD;replace fD:=qv j9 fD zD;replace zD:=jw j9 zD
 clear j9;have yX:=qZ (b:=X) j6 qw;have fX:=Qq (b:=X) j6 qw;have lX:w.heap.size<=X:=by have:=j7.size;omega
 replace j7:=qQ j7 j6;rw[<-j6];try rw[<-qw]
 clear j6 j8 qw
 go_upto_if 52 with fail
 go_cut [] (g1d B X C D w b p)
 case first =>
  cases d1 with
  | true =>
   have e0:=(HP.out.trans (if_pos rfl)).symm;subst e0;go_wp2
   go_meet
   exact⟨yB,yX,yC,fC,yD,fD,j7⟩
  | false =>
   have e0:=(HP.out.trans (if_neg Bool.false_ne_true)).symm;subst e0;go_wp2_with fail;refine jy (HX.out _) fun s5 hb=>?_
   replace yA:=jv hb yA zA;replace zA:=jw hb zA;replace yB:=jv hb yB zB;replace zB:=jw hb zB;replace yC:=jv hb yC zC;replace fC:=qv hb fC zC;replace zC:=jw hb zC
   replace yD:=jv hb yD zD;replace fD:=qv hb fD zD;replace zD:=jw hb zD
   replace yX:=jv hb yX zX;replace fX:=qv hb fX zX;replace zX:=jw hb zX
   replace j7:=bT j7 hb;clear hb;go_wp2_with fail;obtain⟨s6,j6⟩:∃ s,s=(((((s5.setCell ⟨X,0,none⟩ (Sg r3.sh)).setCell ⟨X,1,none⟩ (I6 r3.c)).setCell ⟨X,2,none⟩ (I6 r3.r)).setCell ⟨X,3,none⟩ (Bv r3.fc)).setCell ⟨X,4,none⟩ (Bv r3.fr)):=⟨_,rfl⟩;have qJ:Bl w s6:=by rw[j6];exact(Q8 (j7) lX)
   have j8:=ss5 j6;replace yA:=Jv j6 (qz (qz (qz (qz (qz yA dXA) dXA) dXA) dXA) dXA);replace yB:=Jv j6 (qz (qz (qz (qz (qz yB dXB) dXB) dXB) dXB) dXB);replace yC:=Jv j6 (qz (qz (qz (qz (qz yC dXC) dXC) dXC) dXC) dXC);replace yD:=Jv j6 (qz (qz (qz (qz (qz yD dXD) dXD) dXD) dXD) dXD);have hq:∀ {p v},(((((s5.setCell ⟨X,0,none⟩ (Sg r3.sh)).setCell ⟨X,1,none⟩ (I6 r3.c)).setCell ⟨X,2,none⟩ (I6 r3.r)).setCell ⟨X,3,none⟩ (Bv r3.fc)).setCell ⟨X,4,none⟩ (Bv r3.fr)).cell? p=some v->s6.cell? p=some v:=fun h=>by rw[j6];exact h
   replace yX:∀ j,s6.cell? ⟨X,j,none⟩=([Sg r3.sh,I6 r3.c,I6 r3.r,Bv r3.fc,Bv r3.fr]:List Value)[j]?:=Jv j6 (JX (JX (JX (JX (JX yX (jB rfl)) (jB rfl)) (jB rfl)) (jB rfl)) (jB rfl));clear hq;have J9:=@fz5 _ _ _ _ _ _ _ _ _ _ _ _  j6;replace fC:=fun j=>J9 (fC j)
   replace fD:=fun j=>J9 (fD j)
   replace fX:=fun j=>J9 (fX j)
   clear J9;replace zA:=Xy j8 zA;replace zB:=Xy j8 zB;replace zC:=Xy j8 zC;replace zD:=Xy j8 zD;replace zX:=Xy j8 zX;rw[<-j6];clear j7 j6 j8;have j7:=qJ;clear qJ
   go_meet
   exact⟨yB,yX,yC,fC,yD,fD,j7⟩
 case rest =>
  clear yA zA yB zB yC fC zC yD fD zD yX fX zX j7;obtain⟨yB,yX,yC,fC,yD,fD,j7⟩:=hcut;have zB:B<wc.heap.size:=World.block_lt_of_cell? _ _ (yB 0);have zX:X<wc.heap.size:=World.block_lt_of_cell? _ _ (yX 0);have zC:C<wc.heap.size:=World.block_lt_of_cell? _ _ (yC 0);have zD:D<wc.heap.size:=World.block_lt_of_cell? _ _ (yD 0);obtain⟨w3,hw3⟩:=nM wc;rw[<-hw3] at yB yX yC fC yD fD zB zX zC zD j7 |-
  clear hw3;go_wp2_with fail;refine jy (H2.out _) fun s7 hb=>?_
  replace yB:=jv hb yB zB;replace zB:=jw hb zB;replace yX:=jv hb yX zX;replace zX:=jw hb zX;replace yC:=jv hb yC zC;replace fC:=qv hb fC zC;replace zC:=jw hb zC
  replace yD:=jv hb yD zD;replace fD:=qv hb fD zD;replace zD:=jw hb zD
  replace j7:=bT j7 hb;clear hb
  go_upto_region 7 with fail
  obtain⟨s8,Y,j6,Qy,j8,zY⟩:=qy s7 (.cells #[Sg r2.sh,I6 r2.c,I6 r2.r,Bv r2.fc,Bv r2.fr] 67);have j9:=JW j6;have dCY:C≠Y:=by omega
  have dDY:D≠Y:=by omega
  have dYB:Y≠B:=by omega
  have dYX:Y≠X:=by omega
  have dYC:Y≠C:=by omega
  have dYD:Y≠D:=by omega
  replace yB:=jv j9 yB zB;replace zB:=jw j9 zB;replace yX:=jv j9 yX zX;replace zX:=jw j9 zX;replace yC:=jv j9 yC zC;replace fC:=qv j9 fC zC;replace zC:=jw j9 zC
  replace yD:=jv j9 yD zD;replace fD:=qv j9 fD zD;replace zD:=jw j9 zD
  clear j9;have yY:=qZ (b:=Y) j6 Qy;have fY:=Qq (b:=Y) j6 Qy;have lY:w.heap.size<=Y:=by have:=j7.size;omega
  replace j7:=qQ j7 j6;rw[<-j6];try rw[<-Qy]
  clear j6 j8 Qy
  go_upto_if 66 with fail
  go_cut [] (g1d X Y C D w p q)
  case first =>
   cases d2 with
   | true =>
    have e0:=(HQ.out.trans (if_pos rfl)).symm;subst e0;go_wp2
    go_meet
    exact⟨yX,yY,yC,fC,yD,fD,j7⟩
   | false =>
    have e0:=(HQ.out.trans (if_neg Bool.false_ne_true)).symm;subst e0;go_wp2_with fail;refine jy (HY.out _) fun s9 hb=>?_
    replace yB:=jv hb yB zB;replace zB:=jw hb zB;replace yX:=jv hb yX zX;replace zX:=jw hb zX;replace yC:=jv hb yC zC;replace fC:=qv hb fC zC;replace zC:=jw hb zC
    replace yD:=jv hb yD zD;replace fD:=qv hb fD zD;replace zD:=jw hb zD
    replace yY:=jv hb yY zY;replace fY:=qv hb fY zY;replace zY:=jw hb zY
    replace j7:=bT j7 hb;clear hb;go_wp2_with fail;obtain⟨s10,j6⟩:∃ s,s=(((((s9.setCell ⟨Y,0,none⟩ (Sg r4.sh)).setCell ⟨Y,1,none⟩ (I6 r4.c)).setCell ⟨Y,2,none⟩ (I6 r4.r)).setCell ⟨Y,3,none⟩ (Bv r4.fc)).setCell ⟨Y,4,none⟩ (Bv r4.fr)):=⟨_,rfl⟩;have qJ:Bl w s10:=by rw[j6];exact(Q8 (j7) lY)
    have j8:=ss5 j6;replace yB:=Jv j6 (qz (qz (qz (qz (qz yB dYB) dYB) dYB) dYB) dYB);replace yX:=Jv j6 (qz (qz (qz (qz (qz yX dYX) dYX) dYX) dYX) dYX);replace yC:=Jv j6 (qz (qz (qz (qz (qz yC dYC) dYC) dYC) dYC) dYC);replace yD:=Jv j6 (qz (qz (qz (qz (qz yD dYD) dYD) dYD) dYD) dYD);have hq:∀ {p v},(((((s9.setCell ⟨Y,0,none⟩ (Sg r4.sh)).setCell ⟨Y,1,none⟩ (I6 r4.c)).setCell ⟨Y,2,none⟩ (I6 r4.r)).setCell ⟨Y,3,none⟩ (Bv r4.fc)).setCell ⟨Y,4,none⟩ (Bv r4.fr)).cell? p=some v->s10.cell? p=some v:=fun h=>by rw[j6];exact h
    replace yY:∀ j,s10.cell? ⟨Y,j,none⟩=([Sg r4.sh,I6 r4.c,I6 r4.r,Bv r4.fc,Bv r4.fr]:List Value)[j]?:=Jv j6 (JX (JX (JX (JX (JX yY (jB rfl)) (jB rfl)) (jB rfl)) (jB rfl)) (jB rfl));clear hq;have J9:=@fz5 _ _ _ _ _ _ _ _ _ _ _ _  j6;replace fC:=fun j=>J9 (fC j)
    replace fD:=fun j=>J9 (fD j)
    replace fY:=fun j=>J9 (fY j)
    clear J9;replace zB:=Xy j8 zB;replace zX:=Xy j8 zX;replace zC:=Xy j8 zC;replace zD:=Xy j8 zD;replace zY:=Xy j8 zY;rw[<-j6];clear j7 j6 j8;have j7:=qJ;clear qJ
    go_meet
    exact⟨yX,yY,yC,fC,yD,fD,j7⟩
  case rest =>
   clear yB zB yC fC zC yD fD zD yX zX yY fY zY j7;obtain⟨yX,yY,yC,fC,yD,fD,j7⟩:=hcut;have zX:X<wc.heap.size:=World.block_lt_of_cell? _ _ (yX 0);have zY:Y<wc.heap.size:=World.block_lt_of_cell? _ _ (yY 0);have zC:C<wc.heap.size:=World.block_lt_of_cell? _ _ (yC 0);have zD:D<wc.heap.size:=World.block_lt_of_cell? _ _ (yD 0);obtain⟨w4,hw4⟩:=nM wc;rw[<-hw4] at yX yY yC fC yD fD zX zY zC zD j7 |-
   clear hw4
   cases k with
   | false =>
    have g7:decide (zq<zp)=true:=jD (HF.out.2 rfl);go_wp2_with fail;have HF:=QX j7;clear j7;refine wrp (S:=fun w'=>(∀ j,w'.cell? ⟨X,j,none⟩=([Sg p.sh,I6 p.c,I6 p.r,Bv p.fc,Bv p.fr]:List Value)[j]?)/\(∀ j,w'.cell? ⟨Y,j,none⟩=([Sg q.sh,I6 q.c,I6 q.r,Bv q.fc,Bv q.fr]:List Value)[j]?)) (by kernel_rfl) (fun w' hx=>JK) (fun Q6 jx=>?_)
    refine tk 0 ?_;refine tk 1 ?_;refine tk 3 ?_;refine tk 4 ?_;refine Jq 2 (by kernel_rfl) rfl fun K hK=>?_
    go_simp
    (go_at_call 83;refine jy (HPp.out _) fun x11 qk=>?_;obtain⟨qx,jk,qK⟩:=Q4 w4 qk)
    try (go_wp2_with fail)
    refine hK.out _ _ (X2 Q6) (fun jx=>?_);clear hK K;try simp only[pz]
    refine Jq 5 (by kernel_rfl) rfl fun K hK=>?_
    go_simp
    (go_at_call 83;refine jy (HPq.out _) fun x11 qk=>?_;obtain⟨qx,jk,qK⟩:=Q4 w4 qk)
    try (go_wp2_with fail)
    refine hK.out _ _ (X2 Q6) (fun jx=>?_);clear hK K;try simp only[pz]
    refine tk 6 ?_;refine tk 7 ?_;refine Q5 8 ?_;refine Q5 9 ?_;refine Q5 10 ?_;refine tk 11 ?_;refine tk 12 ?_;refine Q5 13 ?_;refine Q5 14 ?_;refine Q5 15 ?_;refine tk 16 ?_;refine wpAnyH_done (by kernel_rfl) ?_ _;have u1:=HU.out.trans (if_neg Bool.false_ne_true);have v1:=HV.out.trans (if_neg Bool.false_ne_true);subst u1 v1
    all_goals go_wp2
    all_goals refine jU (v:=.tuple #[.agg #[S0,I6 0,I6 0,Bv false,Bv false],.agg #[S0,I6 0,I6 0,Bv false,Bv false],Bv false]) (by simp[results,Tryz.results44,go_sem,jk,yC,yD,zC,zD]) rfl ⟨rfl,?_⟩
    all_goals exact(Q8 (Q8 (HF.out _ (by assumption)) lC) lD)
   | true =>
    obtain⟨e1,e2,e3⟩:=HF.out.1 rfl;have g7:decide (zq<zp)=false:=jE (by omega);have HR1:=zh (fun w=>HRp.out w e1);have HR2:=zh (fun w=>HRq.out w e2);go_wp2_with fail;have HF:=QX j7;clear j7;refine wrp (S:=fun w'=>(∀ j,w'.cell? ⟨X,j,none⟩=([Sg p.sh,I6 p.c,I6 p.r,Bv p.fc,Bv p.fr]:List Value)[j]?)/\(∀ j,w'.cell? ⟨Y,j,none⟩=([Sg q.sh,I6 q.c,I6 q.r,Bv q.fc,Bv q.fr]:List Value)[j]?)) (by kernel_rfl) (fun w' hx=>JK) (fun Q6 jx=>?_)
    refine tk 0 ?_;refine tk 1 ?_;refine tk 3 ?_;refine tk 4 ?_;refine Jq 2 (by kernel_rfl) rfl fun K hK=>?_
    go_simp
    (go_at_call 83;refine jy (HPp.out _) fun x12 qk=>?_;obtain⟨qx,jk,qK⟩:=Q4 w4 qk)
    try (go_wp2_with fail)
    refine hK.out _ _ (X2 Q6) (fun jx=>?_);clear hK K;try simp only[pz]
    refine Jq 5 (by kernel_rfl) rfl fun K hK=>?_
    go_simp
    (go_at_call 83;refine jy (HPq.out _) fun x12 qk=>?_;obtain⟨qx,jk,qK⟩:=Q4 w4 qk)
    try (go_wp2_with fail)
    refine hK.out _ _ (X2 Q6) (fun jx=>?_);clear hK K;try simp only[pz]
    refine tk 6 ?_;refine tk 7 ?_;refine tk 8 ?_;refine Jq 9 (by kernel_rfl) rfl fun K hK=>?_
    go_simp
    (go_at_call 63;refine jy (HR1.out _) fun x12 qk=>?_;obtain⟨qx,jk,qK⟩:=Q4 w4 qk)
    try (go_wp2_with fail)
    refine hK.out _ _ (X2 Q6) (fun jx=>?_);clear hK K;try simp only[pz]
    refine tk 10 ?_;refine tk 11 ?_;refine tk 12 ?_;refine tk 13 ?_;refine Jq 14 (by kernel_rfl) rfl fun K hK=>?_
    go_simp
    (go_at_call 63;refine jy (HR2.out _) fun x12 qk=>?_;obtain⟨qx,jk,qK⟩:=Q4 w4 qk)
    try (go_wp2_with fail)
    refine hK.out _ _ (X2 Q6) (fun jx=>?_);clear hK K;try simp only[pz]
    refine tk 15 ?_;refine tk 16 ?_;refine wpAnyH_done (by kernel_rfl) ?_ _;go_wp2_with fail;replace yX:=XY jk yX zX
    replace zX:=jw qx zX;replace yY:=XY jk yY zY
    replace zY:=jw qx zY;replace yC:=XY jk yC zC
    replace fC:=fun j=>(qK C j zC).trans (fC j)
    replace zC:=jw qx zC;replace yD:=XY jk yD zD
    replace fD:=fun j=>(qK D j zD).trans (fD j)
    replace zD:=jw qx zD;have j7:=HF.out _ qx;clear HF jk qK qx;have u1:=(HU.out.trans (show _=p by simp)).symm;have v1:=(HV.out.trans (show _=q by simp)).symm;subst u1 v1
    go_region
    all_goals go_wp2
    all_goals refine jU (v:=.tuple #[.agg #[Sg p.sh,I6 p.c,I6 p.r,Bv p.fc,Bv p.fr],.agg #[Sg q.sh,I6 q.c,I6 q.r,Bv q.fc,Bv q.fr],Bv true]) (by simp[results,Tryz.results44,go_sem,yC,yD,zC,zD]) rfl ⟨rfl,?_⟩
    all_goals exact(Below.drew (Q8 (Q8 j7 lC) lD))
