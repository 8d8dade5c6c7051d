/-
  
  
  
  
  
  
-/
import Derived.Test.YtibiacmbljgmhaaGreatDoorCel1
import Derived.Laws.EntriesVeiled
namespace Go.Proofs.YtibiacmbljgmhaaGreatDoor
open Go.RowKit Go.Shelf
set_option linter.all false
def mvC (f:Bool) (c d:Int):Int:=if f then c else c+d
def mvB (q:Rf) (d e:Int):Bool:=a8g q.sh q.c q.r&&a8g q.sh (mvC q.fc q.c d) (mvC q.fr q.r e)
def mvR (q:Rf) (d e:Int):Rf:=if mvB q d e then ⟨q.sh,mvC q.fc q.c d,mvC q.fr q.r e,q.fc,q.fr⟩ else rf0
def mvW (f:Bool) (c d:Int):Int:=if f then c else IntKind.i64.wrap (c+d)
theorem f9c {f:Bool} {c d:Int} (h1:1<=c) (h2:c<=99) (h3 : -9223372036854775808<=d) (h4:d<=9223372036854775807):mvW f c d=mvC f c d\/(mvW f c d<1/\99<mvC f c d):=by
 unfold mvW mvC
 cases f with
 | true=>exact Or.inl rfl
 | false =>
  rw[if_neg Bool.false_ne_true,if_neg Bool.false_ne_true];by_cases h:c+d<=9223372036854775807
  ·
   left;simp[IntKind.wrap,IntKind.signed,IntKind.bits];omega
  ·
   right;refine⟨?_,by omega⟩;simp[IntKind.wrap,IntKind.signed,IntKind.bits];omega
def clD (d:Int):Int:=if d < -1000\/1000<d then 1000 else d
theorem f9d {f:Bool} {c d:Int} (h1:1<=c) (h2:c<=99):mvC f c (clD d)=mvC f c d\/((mvC f c (clD d)<1\/99<mvC f c (clD d))/\(mvC f c d<1\/99<mvC f c d)):=by
 unfold mvC
 cases f with
 | true=>exact Or.inl rfl
 | false =>
  rw[if_neg Bool.false_ne_true,if_neg Bool.false_ne_true];unfold clD
  split<;>omega
theorem f8h {s:jW} {c r c' r':Int} (hc:c'=c\/((c'<1\/99<c')/\(c<1\/99<c))) (hr:r'=r\/((r'<1\/99<r')/\(r<1\/99<r))) :
  a8g s c' r'=a8g s c r/\(a8g s c r=true->c'=c/\r'=r):=by
 have yes:a8g s c' r'=true->c'=c/\r'=r:=fun h=>by have:=f0a h;omega
 have yes2:a8g s c r=true->c'=c/\r'=r:=fun h=>by have:=f0a h;omega
 refine⟨?_,yes2⟩
 cases h:a8g s c r with
 | true=>obtain⟨rfl,rfl⟩:=yes2 h;exact h
 | false =>
  cases h2:a8g s c' r' with
  | false=>rfl
  | true=>obtain⟨rfl,rfl⟩:=yes h2;rw[h2] at h;cases h
theorem f8i {q:Rf} {d e:Int} (h:mvB q d e=false):mvR q d e=rf0:=by unfold mvR;rw[h];rfl
theorem f7t {q:Rf} {d e:Int} (h:mvB q d e=true):mvR q d e=⟨q.sh,mvC q.fc q.c d,mvC q.fr q.r e,q.fc,q.fr⟩:=by unfold mvR;rw[h];rfl
def d7d (way:Int):Int:=if way=0 then 52 else if way=1 then 99 else 0
def d8b (way a n:Int):Bool:=decide (1<=a)&&decide (a<=d7d way)&&decide (1<=n)&&decide (n<=d7d way)
def plZ (q:Rf) (way:Int):Int:=if way=0 then q.c else q.r
def ptR (q:Rf) (way p:Int):Rf:=if way=0 then ⟨q.sh,p,q.r,q.fc,q.fr⟩ else ⟨q.sh,q.c,p,q.fc,q.fr⟩
def d7t (q:Rf):Bool:=a8g q.sh q.c q.r
def shP (p a n:Int):Int:=if a<=p then p+n else p
def dlP (p a n:Int):Int:=if a+n<=p then p-n else p
def e2b (q:Rf) (way a n:Int):Bool:=d7t q&&d8b way a n&&decide (shP (plZ q way) a n<=d7d way)
def e8m (q:Rf) (way a n:Int):Rf:=if e2b q way a n then ptR q way (shP (plZ q way) a n) else rf0
def d9n (q:Rf) (way a n:Int):Bool:=d7t q&&d8b way a n && !(decide (a<=plZ q way)&&decide (plZ q way<a+n))
def e8n (q:Rf) (way a n:Int):Rf:=if d9n q way a n then ptR q way (dlP (plZ q way) a n) else rf0
theorem d9t {way a n:Int} (h:d8b way a n=true):(way=0\/way=1)/\1<=a/\a<=d7d way/\1<=n/\n<=d7d way/\d7d way<=99/\52<=d7d way:=by
 unfold d8b at h;simp only[Bool.and_eq_true,decide_eq_true_eq] at h;obtain⟨⟨⟨h1,h2⟩,h3⟩,h4⟩:=h;by_cases hw:way=0
 ·
  have e:d7d way=52:=if_pos hw;omega
 ·
  by_cases hw2:way=1
  ·
   have e:d7d way=99:=by unfold d7d;rw[if_neg hw,if_pos hw2]
   omega
  ·
   have e:d7d way=0:=by unfold d7d;rw[if_neg hw,if_neg hw2]
   omega
theorem e4z {q:Rf} {way:Int} (h:d7t q=true) (hw:way=0\/way=1):1<=plZ q way/\plZ q way<=d7d way:=by
 have:=f0a h;unfold plZ d7d
 rcases hw with rfl | rfl
 ·
  simp;omega
 ·
  simp;omega
theorem e3d {q:Rf} {way a n:Int} (h:e2b q way a n=false):e8m q way a n=rf0:=by unfold e8m;rw[h];rfl
theorem e1i {q:Rf} {way a n:Int} (h:e2b q way a n=true):e8m q way a n=ptR q way (shP (plZ q way) a n):=by unfold e8m;rw[h];rfl
theorem e3e {q:Rf} {way a n:Int} (h:d9n q way a n=false):e8n q way a n=rf0:=by unfold e8n;rw[h];rfl
theorem d8w {q:Rf} {way a n:Int} (h:d9n q way a n=true):e8n q way a n=ptR q way (dlP (plZ q way) a n):=by unfold e8n;rw[h];rfl
set_option maxHeartbeats 4000000
set_option maxRecDepth 100000
def e4e (way:Int):Nat:=if way=0 then 153 else 155
def e4f (way:Int):Nat:=if way=0 then 154 else 156
def chV (way a n:Int):Value:=.agg #[I6 (d7d way),I6 a,I6 n,.func (.func (e4e way)) #[] #[],.func (.func (e4f way)) #[] #[]]
theorem d7g (way a n:Int) (w:World) (h:d8b way a n=true) :
  Calls Tryz.prog 122 #[I6 way,I6 a,I6 n] w fun e w'=>e=.returned (.tuple #[chV way a n,Bv true])/\Bl w w':=by
 have hud:=hUd;obtain⟨k0,k1,k2,k3,k4,k5,k6⟩:=d9t h;clear h
 rcases k0 with rfl | rfl
 ·
  have e:chV 0 a n=.agg #[I6 52,I6 a,I6 n,.func (.func 153) #[] #[],.func (.func 154) #[] #[]]:=rfl;rw[show d7d 0=52 from rfl] at *;rw[e];clear e k5 k6;go_enter Tryz.func122,Tryz.ntmps122;go_wp2_with fail;refine jU (v:=.tuple #[.agg #[I6 52,I6 a,I6 n,.func (.func 153) #[] #[],.func (.func 154) #[] #[]],Bv true]) (by simp[results,Tryz.results122,go_sem]) rfl ⟨rfl,?_⟩
  repeat (with_reducible first | exact Below.refl _ _ | apply a0i | refine c0x ?_ (by simp))
 ·
  have e:chV 1 a n=.agg #[I6 99,I6 a,I6 n,.func (.func 155) #[] #[],.func (.func 156) #[] #[]]:=rfl;rw[show d7d 1=99 from rfl] at *;rw[e];clear e k5 k6;go_enter Tryz.func122,Tryz.ntmps122;go_wp2_with fail;refine jU (v:=.tuple #[.agg #[I6 99,I6 a,I6 n,.func (.func 155) #[] #[],.func (.func 156) #[] #[]],Bv true]) (by simp[results,Tryz.results122,go_sem]) rfl ⟨rfl,?_⟩
  repeat (with_reducible first | exact Below.refl _ _ | apply a0i | refine c0x ?_ (by simp))
theorem d8x (q:Rf) (way z:Int) (w:World) (hz:plZ q way=z) :
  Calls Tryz.prog (e4e way) #[.agg #[Sg q.sh,I6 q.c,I6 q.r,Bv q.fc,Bv q.fr]] w fun e w'=>e=.returned (I6 z)/\Bl w w':=by
 unfold e4e;by_cases h0:way=0
 ·
  rw[if_pos h0];obtain rfl:q.c=z:=by unfold plZ at hz;rwa [if_pos h0] at hz
  go_enter Tryz.func153,Tryz.ntmps153;go_wp2_with fail
  go_ret
  exact⟨rfl,(Below.refl _ _).alloc (jC _) _⟩
 ·
  rw[if_neg h0];obtain rfl:q.r=z:=by unfold plZ at hz;rwa [if_neg h0] at hz
  go_enter Tryz.func155,Tryz.ntmps155;go_wp2_with fail
  go_ret
  exact⟨rfl,(Below.refl _ _).alloc (jC _) _⟩
theorem e1j (q:Rf) (way z:Int) (t:Rf) (w:World) (ht:ptR q way z=t) :
  Calls Tryz.prog (e4f way) #[.agg #[Sg q.sh,I6 q.c,I6 q.r,Bv q.fc,Bv q.fr],I6 z] w fun e w'=>e=.returned (.agg #[Sg t.sh,I6 t.c,I6 t.r,Bv t.fc,Bv t.fr])/\Bl w w':=by
 unfold e4f;by_cases h0:way=0
 ·
  rw[if_pos h0];obtain rfl:(⟨q.sh,z,q.r,q.fc,q.fr⟩:Rf)=t:=by unfold ptR at ht;rwa [if_pos h0] at ht
  go_enter Tryz.func154,Tryz.ntmps154;go_wp2_with fail;refine jU (v:=.agg #[Sg q.sh,I6 z,I6 q.r,Bv q.fc,Bv q.fr]) (by simp[results,Tryz.results154,go_sem]) rfl ⟨rfl,?_⟩;exact a0i (a0i (Below.refl _ _))
 ·
  rw[if_neg h0];obtain rfl:(⟨q.sh,q.c,z,q.fc,q.fr⟩:Rf)=t:=by unfold ptR at ht;rwa [if_neg h0] at ht
  go_enter Tryz.func156,Tryz.ntmps156;go_wp2_with fail;refine jU (v:=.agg #[Sg q.sh,I6 q.c,I6 z,Bv q.fc,Bv q.fr]) (by simp[results,Tryz.results156,go_sem]) rfl ⟨rfl,?_⟩;exact a0i (a0i (Below.refl _ _))
theorem f0g (way:Int) (x:Value) (w:World):(callFunc (e4e way) #[x]).run Tryz.prog w=.ok (.enter (e4e way) #[x]) w:=by
 unfold e4e
 split<;>kernel_rfl
theorem f1q (way:Int) (x y:Value) (w:World):(callFunc (e4f way) #[x,y]).run Tryz.prog w=.ok (.enter (e4f way) #[x,y]) w:=by
 unfold e4f
 split<;>kernel_rfl
theorem f4c (x y:Value) (w:World):(callFunc 79 #[x,y]).run Tryz.prog w=.ok (.enter 79 #[x,y]) w:=by kernel_rfl
theorem f3q (x y:Value) (w:World):(callFunc 86 #[x,y]).run Tryz.prog w=.ok (.enter 86 #[x,y]) w:=by kernel_rfl
def tkP (p a n:Int):Int:=if a+n<=p then p-n else if a<=p then 0 else p
theorem d9v (L a n:Int) (g p:Nat) (z:Int) (w:World) (h1:0<=z) (h2:z<=1000) (h3:0<=n) (h4:n<=1000) :
  Calls Tryz.prog 79 #[.agg #[I6 L,I6 a,I6 n,.func (.func g) #[] #[],.func (.func p) #[] #[]],I6 z] w fun e w'=>e=.returned (I6 (shP z a n))/\Bl w w':=by
 unfold shP;by_cases h:a<=z
 ·
  rw[if_pos h];go_enter Tryz.func79,Tryz.ntmps79;go_wp2_with fail
  go_ret
  exact⟨rfl,a0i (Below.refl _ _)⟩
 ·
  rw[if_neg h];go_enter Tryz.func79,Tryz.ntmps79;go_wp2_with fail
  go_ret
  exact⟨rfl,a0i (Below.refl _ _)⟩
theorem d8c (L a n:Int) (g p:Nat) (z:Int) (w:World) (h1:0<=z) (h2:z<=1000) (h3:0<=n) (h4:n<=1000) (h5:0<=a) (h6:a<=1000) :
  Calls Tryz.prog 86 #[.agg #[I6 L,I6 a,I6 n,.func (.func g) #[] #[],.func (.func p) #[] #[]],I6 z] w fun e w'=>e=.returned (I6 (tkP z a n))/\Bl w w':=by
 unfold tkP;by_cases h:a+n<=z
 ·
  rw[if_pos h];go_enter Tryz.func86,Tryz.ntmps86;go_wp2_with fail
  go_ret
  exact⟨rfl,a0i (Below.refl _ _)⟩
 ·
  rw[if_neg h];by_cases h7:a<=z
  ·
   rw[if_pos h7];go_enter Tryz.func86,Tryz.ntmps86;go_wp2_with fail
   go_ret
   exact⟨rfl,a0i (Below.refl _ _)⟩
  ·
   rw[if_neg h7];go_enter Tryz.func86,Tryz.ntmps86;go_wp2_with fail
   go_ret
   exact⟨rfl,a0i (Below.refl _ _)⟩
def chA (way a n:Int) (g p:Nat):Value:=.agg #[I6 (d7d way),I6 a,I6 n,.func (.func g) #[] #[],.func (.func p) #[] #[]]
theorem e0r (K:Nat) (HCF:∀ (x y:Value) (w:World),(callFunc K #[x,y]).run Tryz.prog w=.ok (.enter K #[x,y]) w) (q:Rf) (way a n v:Int) (t:Rf) (b:Bool) (w:World) (hs:q.sh.size<=maxLen) (hm:d8b way a n=true) (hr:d7t q=true)
  (HK:∀ (g p:Nat) (w:World),Calls Tryz.prog K #[chA way a n g p,I6 (plZ q way)] w fun e w'=>e=.returned (I6 v)/\Bl w w')
  (h:((v<1\/d7d way<v)/\t=rf0/\b=false)\/(1<=v/\v<=d7d way/\ptR q way v=t/\b=true)) :
  Calls Tryz.prog 78 #[.agg #[Sg q.sh,I6 q.c,I6 q.r,Bv q.fc,Bv q.fr],I6 way,I6 a,I6 n,.func (.func K) #[] #[]] w fun e w'=>e=.returned (.tuple #[.agg #[Sg t.sh,I6 t.c,I6 t.r,Bv t.fc,Bv t.fr],Bv b])/\Bl w w':=by
 have hud:=hUd;have HC:=zh (fun w=>d7g way a n w hm);have HR:=zh (fun w=>a6l q true w hs hr);have HG:=zh (fun w=>d8x q way _ w rfl);have hcg:=f0g way;have hcp:=f1q way;have HP:=zh (fun t w (h:ptR q way v=t)=>e1j q way v t w h);have HKK:=zh (fun w=>HK (e4e way) (e4f way) w);unfold chV at HC;unfold chA at HKK;generalize e4e way=g at *;generalize e4f way=p at *;generalize plZ q way=z at *;generalize d7d way=L at *;clear hm hr HK;have HCP:=zh hcp;clear hcp;go_enter Tryz.func78,Tryz.ntmps78;go_wp2_with fail;obtain⟨s7,A,C,hws,hdA,hdC,hsz,zA,zC⟩:=nm2 w (.cells #[Sg q.sh,I6 q.c,I6 q.r,Bv q.fc,Bv q.fr] 67) (.cells #[S0,I6 0,I6 0,Bv false,Bv false] 67);have dCA:C≠A:=by omega
 have yA:=by1 (b:=A) hws hdA;have yC:=by0 (b:=C) hws (by simp[hdC]);have fC:=bf0 (b:=C) hws (by simp[hdC]);have lC:w.heap.size<=C:=by omega
 have hBo:=bs2 bR hws;rw[<-hws];try rw[<-hdC]
 try rw[<-hdA]
 clear hws hsz hdA hdC;refine cAn (HC.out _) fun s8 hb=>?_
 replace yA:=eqB hb yA zA;replace zA:=zHl hb zA;replace yC:=eqB hb yC zC;replace fC:=fun j=>a0g hb (fC j) zC;replace zC:=zHl hb zC
 replace hBo:=bT hBo hb;clear hb;go_wp2_with fail;obtain⟨s9,Q,hws,hdQ,hsz,zQ⟩:=nm1 s8 (.cells #[I6 L,I6 a,I6 n,.func (.func g) #[] #[],.func (.func p) #[] #[]] 121);have hUp:=up1 hws;have dCQ:C≠Q:=by omega
 replace yA:=eqB hUp yA zA;replace zA:=zHl hUp zA;replace yC:=eqB hUp yC zC;replace fC:=fun j=>a0g hUp (fC j) zC;replace zC:=zHl hUp zC
 clear hUp;have yQ:=by0 (b:=Q) hws hdQ;replace hBo:=bs1 hBo hws;rw[<-hws];try rw[<-hdQ]
 clear hws hsz hdQ;refine cAn (HR.out _) fun s10 hb=>?_
 replace yA:=eqB hb yA zA;replace zA:=zHl hb zA;replace yC:=eqB hb yC zC;replace fC:=fun j=>a0g hb (fC j) zC;replace zC:=zHl hb zC
 replace yQ:=eqB hb yQ zQ;replace zQ:=zHl hb zQ;replace hBo:=bT hBo hb;clear hb;go_wp2_with fail;have HF:=hFF hBo;clear hBo;refine wrp (S:=fun w'=>(∀ j,w'.cell? ⟨A,j,none⟩=([Sg q.sh,I6 q.c,I6 q.r,Bv q.fc,Bv q.fr]:List Value)[j]?)/\(∀ j,w'.cell? ⟨Q,j,none⟩=([I6 L,I6 a,I6 n,.func (.func g) #[] #[],.func (.func p) #[] #[]]:List Value)[j]?)) (by kernel_rfl) (fun w' hx=>by obtain⟨hcx,hfx⟩:=a0k hx;((try dsimp only);(first | go_keep | ((repeat' apply And.intro)<;>first | assumption | exact yA | exact fun j=>(hcx A j (by assumption)).trans (yA j) | exact eqS yA (by dsimp only;omega) | exact eqS (fun j=>(hcx A j (by assumption)).trans (yA j)) (by dsimp only;omega) | exact yQ | exact fun j=>(hcx Q j (by assumption)).trans (yQ j) | exact eqS yQ (by dsimp only;omega) | exact eqS (fun j=>(hcx Q j (by assumption)).trans (yQ j)) (by dsimp only;omega) | go_keep | (rw[hcx _ _ (by assumption)];assumption))))) (fun HKP hHeld=>?_)
 refine tk 0 ?_;refine tk 1 ?_;refine tk 2 ?_;refine tk 3 ?_;refine tk 4 ?_;refine rd1 5 (by kernel_rfl) rfl fun K hK=>?_
 go_simp
 (refine cAn (HG.out _) fun x11 hbx=>?_;have hTx:Bl s10 x11:=bHb hbx;obtain⟨hcx,hfx⟩:=a0k hTx)
 try (go_wp2_with fail)
 refine hK.out _ _ (kHp HKP) (fun hHeld=>?_);clear hK K;try simp only[pz]
 refine rd1 6 (by kernel_rfl) rfl fun K hK=>?_
 go_simp
 (refine cAn (HKK.out _) fun x11 hbx=>?_;have hTx:Bl s10 x11:=bHb hbx;obtain⟨hcx,hfx⟩:=a0k hTx)
 try (go_wp2_with fail)
 refine hK.out _ _ (kHp HKP) (fun hHeld=>?_);clear hK K;try simp only[pz]
 refine tk 7 ?_;refine wpAnyH_done (by kernel_rfl) ?_ _;by_cases h5:v<1
 ·
  obtain⟨rfl,rfl⟩:t=rf0/\b=false:=by rcases h with ⟨_,h1,h2⟩ | ⟨h1,_⟩<;>first | exact⟨h1,h2⟩ | omega
  clear h HP HCP
  all_goals go_wp2_with fail
  all_goals refine jU (v:=.tuple #[.agg #[S0,I6 0,I6 0,Bv false,Bv false],Bv false]) (by simp[results,Tryz.results78,go_sem,hcx,yC,zC]) rfl ⟨rfl,?_⟩
  all_goals exact(sc5 (HF.out _ (by assumption)) lC)
 ·
  by_cases h6:L<v
  ·
   obtain⟨rfl,rfl⟩:t=rf0/\b=false:=by rcases h with ⟨_,h1,h2⟩ | ⟨_,h1,_⟩<;>first | exact⟨h1,h2⟩ | omega
   clear h HP HCP
   all_goals go_wp2_with fail
   all_goals refine jU (v:=.tuple #[.agg #[S0,I6 0,I6 0,Bv false,Bv false],Bv false]) (by simp[results,Tryz.results78,go_sem,hcx,yC,zC]) rfl ⟨rfl,?_⟩
   all_goals exact(sc5 (HF.out _ (by assumption)) lC)
  ·
   obtain⟨h3,rfl⟩:ptR q way v=t/\b=true:=by rcases h with ⟨h1,_⟩ | ⟨_,_,h3,h4⟩<;>first | exact⟨h3,h4⟩ | omega
   have HPP:=zh (fun w=>HP.out t w h3);have hcp:=HCP.out;clear HP h3 h HCP;go_wp2_with fail;replace yA:=fun j=>(hcx A j zA).trans (yA j)
   replace zA:=zHl hTx zA;replace yC:=fun j=>(hcx C j zC).trans (yC j)
   replace fC:=fun j=>(hfx C j zC).trans (fC j)
   replace zC:=zHl hTx zC;replace yQ:=fun j=>(hcx Q j zQ).trans (yQ j)
   replace zQ:=zHl hTx zQ;have hBo:=HF.out _ hTx;clear HF hcx hfx hTx;refine cAn (HPP.out _) fun s12 hb=>?_
   replace yA:=eqB hb yA zA;replace zA:=zHl hb zA;replace yC:=eqB hb yC zC;replace fC:=fun j=>a0g hb (fC j) zC;replace zC:=zHl hb zC
   replace yQ:=eqB hb yQ zQ;replace zQ:=zHl hb zQ;replace hBo:=bT hBo hb;clear hb
   all_goals go_wp2_with fail
   all_goals refine jU (v:=.tuple #[.agg #[Sg t.sh,I6 t.c,I6 t.r,Bv t.fc,Bv t.fr],Bv true]) (by simp[results,Tryz.results78,go_sem,yC,zC]) rfl ⟨rfl,?_⟩
   all_goals exact(sc5 hBo lC)
theorem d8z {q:Rf} {way a n:Int} (hm:d8b way a n=true) (hr:d7t q=true):e2b q way a n=decide (shP (plZ q way) a n<=d7d way):=by unfold e2b;rw[hm,hr];rfl
theorem d9o {q:Rf} {way a n:Int} (hm:d8b way a n=true) (hr:d7t q=true):d9n q way a n=!(decide (a<=plZ q way)&&decide (plZ q way<a+n)):=by unfold d9n;rw[hm,hr];rfl
theorem e5f (q:Rf) (way a n:Int) (t:Rf) (b:Bool) (w:World)
  (HF:∀ w,Calls Tryz.prog 78 #[.agg #[Sg q.sh,I6 q.c,I6 q.r,Bv q.fc,Bv q.fr],I6 way,I6 a,I6 n,.func (.func 79) #[] #[]] w fun e w'=>e=.returned (.tuple #[.agg #[Sg t.sh,I6 t.c,I6 t.r,Bv t.fc,Bv t.fr],Bv b])/\Bl w w') :
  Calls Tryz.prog 38 #[.agg #[Sg q.sh,I6 q.c,I6 q.r,Bv q.fc,Bv q.fr],I6 way,I6 a,I6 n] w fun e w'=>e=.returned (.tuple #[.agg #[Sg t.sh,I6 t.c,I6 t.r,Bv t.fc,Bv t.fr],Bv b])/\Bl w w':=by
 have HFF:=zh HF;clear HF;go_enter Tryz.func38,Tryz.ntmps38;go_wp2_with fail;obtain⟨s13,A,C,hws,hdA,hdC,hsz,zA,zC⟩:=nm2 w (.cells #[Sg q.sh,I6 q.c,I6 q.r,Bv q.fc,Bv q.fr] 67) (.cells #[S0,I6 0,I6 0,Bv false,Bv false] 67);have dCA:C≠A:=by omega
 have yA:=by1 (b:=A) hws hdA;have yC:=by0 (b:=C) hws (by simp[hdC]);have fC:=bf0 (b:=C) hws (by simp[hdC]);have lC:w.heap.size<=C:=by omega
 have hBo:=bs2 bR hws;rw[<-hws];try rw[<-hdC]
 try rw[<-hdA]
 clear hws hsz hdA hdC;refine cAn (HFF.out _) fun s14 hb=>?_
 replace yA:=eqB hb yA zA;replace zA:=zHl hb zA;replace yC:=eqB hb yC zC;replace fC:=fun j=>a0g hb (fC j) zC;replace zC:=zHl hb zC
 replace hBo:=bT hBo hb;clear hb
 all_goals go_wp2_with fail
 all_goals refine jU (v:=.tuple #[.agg #[Sg t.sh,I6 t.c,I6 t.r,Bv t.fc,Bv t.fr],Bv b]) (by simp[results,Tryz.results38,go_sem,yC,zC]) rfl ⟨rfl,?_⟩
 all_goals exact(sc5 hBo lC)
theorem e3f (q:Rf) (way a n:Int) (t:Rf) (b:Bool) (w:World)
  (HF:∀ w,Calls Tryz.prog 78 #[.agg #[Sg q.sh,I6 q.c,I6 q.r,Bv q.fc,Bv q.fr],I6 way,I6 a,I6 n,.func (.func 86) #[] #[]] w fun e w'=>e=.returned (.tuple #[.agg #[Sg t.sh,I6 t.c,I6 t.r,Bv t.fc,Bv t.fr],Bv b])/\Bl w w') :
  Calls Tryz.prog 45 #[.agg #[Sg q.sh,I6 q.c,I6 q.r,Bv q.fc,Bv q.fr],I6 way,I6 a,I6 n] w fun e w'=>e=.returned (.tuple #[.agg #[Sg t.sh,I6 t.c,I6 t.r,Bv t.fc,Bv t.fr],Bv b])/\Bl w w':=by
 have HFF:=zh HF;clear HF;go_enter Tryz.func45,Tryz.ntmps45;go_wp2_with fail;obtain⟨s15,A,C,hws,hdA,hdC,hsz,zA,zC⟩:=nm2 w (.cells #[Sg q.sh,I6 q.c,I6 q.r,Bv q.fc,Bv q.fr] 67) (.cells #[S0,I6 0,I6 0,Bv false,Bv false] 67);have dCA:C≠A:=by omega
 have yA:=by1 (b:=A) hws hdA;have yC:=by0 (b:=C) hws (by simp[hdC]);have fC:=bf0 (b:=C) hws (by simp[hdC]);have lC:w.heap.size<=C:=by omega
 have hBo:=bs2 bR hws;rw[<-hws];try rw[<-hdC]
 try rw[<-hdA]
 clear hws hsz hdA hdC;refine cAn (HFF.out _) fun s16 hb=>?_
 replace yA:=eqB hb yA zA;replace zA:=zHl hb zA;replace yC:=eqB hb yC zC;replace fC:=fun j=>a0g hb (fC j) zC;replace zC:=zHl hb zC
 replace hBo:=bT hBo hb;clear hb
 all_goals go_wp2_with fail
 all_goals refine jU (v:=.tuple #[.agg #[Sg t.sh,I6 t.c,I6 t.r,Bv t.fc,Bv t.fr],Bv b]) (by simp[results,Tryz.results45,go_sem,yC,zC]) rfl ⟨rfl,?_⟩
 all_goals exact(sc5 hBo lC)
set_option maxHeartbeats 8000000
def f9p (A C:Nat) (t:World) (sh:jW) (c r:Int) (fc fr:Bool) (wx:World):Prop:=(∀ j,wx.cell? ⟨A,j,none⟩=([Sg sh,I6 c,I6 r,Bv fc,Bv fr]:List Value)[j]?)/\(∀ j,wx.frozen? ⟨A,j,none⟩=false)/\(∀ j,wx.cell? ⟨C,j,none⟩=([S0,I6 0,I6 0,Bv false,Bv false]:List Value)[j]?)/\(∀ j,wx.frozen? ⟨C,j,none⟩=false)/\Bl t wx
theorem f9o (q:Rf) (d e:Int) (w:World) (hs:q.sh.size<=maxLen) (h0:a8g q.sh q.c q.r=true) (hd1 : -9223372036854775808<=d) (hd2:d<=9223372036854775807) (he1 : -9223372036854775808<=e) (he2:e<=9223372036854775807) :
  Calls Tryz.prog 57 #[.agg #[Sg q.sh,I6 q.c,I6 q.r,Bv q.fc,Bv q.fr],I6 d,I6 e] w fun e' w'=>e'=.returned (.tuple #[.agg #[Sg (mvR q d e).sh,I6 (mvR q d e).c,I6 (mvR q d e).r,Bv (mvR q d e).fc,Bv (mvR q d e).fr],Bv (mvB q d e)])/\Bl w w':=by
 have hud:=hUd;obtain⟨g1,g2,g3,g4⟩:=f0a h0;have HR:=zh (fun w=>a6l q true w hs h0);have hk:=f8h (s:=q.sh) ((f9c (f:=q.fc) g1 (by omega) hd1 hd2).imp_right fun h=>⟨Or.inl h.1,Or.inr h.2⟩) ((f9c (f:=q.fr) g3 g4 he1 he2).imp_right fun h=>⟨Or.inl h.1,Or.inr h.2⟩);obtain⟨B,hB⟩:=nM (mvB q d e);obtain⟨p,hp⟩:=nM (mvR q d e);rw[<-hB,<-hp];have hb2:B=a8g q.sh (mvW q.fc q.c d) (mvW q.fr q.r e):=by rw[hB];unfold mvB;rw[h0,Bool.true_and,hk.1]
 have HT:Hid (B=true->p=⟨q.sh,mvW q.fc q.c d,mvW q.fr q.r e,q.fc,q.fr⟩):=fun h=>by
  have h3:=hk.2 (by rw[hb2,hk.1] at h;exact h);rw[hp,f7t (hB.symm.trans h),h3.1,h3.2]
 have HF:Hid (B=false->p=rf0):=fun h=>by rw[hp,f8i (hB.symm.trans h)]
 have HS:=zh (fun w=>a6l ⟨q.sh,mvW q.fc q.c d,mvW q.fr q.r e,q.fc,q.fr⟩ B w hs hb2.symm);obtain⟨sh,c,r,fc,fr⟩:=q;dsimp only at *;have HC:Hid ((fc=true->mvW fc c d=c)/\(fc=false->IntKind.i64.wrap (c+d)=mvW fc c d)):=zh ⟨fun h=>by rw[h];rfl,fun h=>by rw[h];rfl⟩
 have HW:Hid ((fr=true->mvW fr r e=r)/\(fr=false->IntKind.i64.wrap (r+e)=mvW fr r e)):=zh ⟨fun h=>by rw[h];rfl,fun h=>by rw[h];rfl⟩
 clear g1 g2 g3 g4;generalize hcn:mvW fc c d=cn at *;generalize hrn:mvW fr r e=rn at *;clear hk hb2 hB hp hcn hrn h0 hs hd1 hd2 he1 he2;go_enter Tryz.func57,Tryz.ntmps57;go_wp2_with fail;obtain⟨s1,A,C,hws,hdA,hdC,hsz,zA,zC⟩:=nm2 w (.cells #[Sg sh,I6 c,I6 r,Bv fc,Bv fr] 67) (.cells #[S0,I6 0,I6 0,Bv false,Bv false] 67);have dAC:A≠C:=by omega
 have dCA:C≠A:=by omega
 have yA:=by1 (b:=A) hws hdA;have fA:=bf1 (b:=A) hws hdA;have lA:w.heap.size<=A:=by omega
 have yC:=by0 (b:=C) hws (by simp[hdC]);have fC:=bf0 (b:=C) hws (by simp[hdC]);have lC:w.heap.size<=C:=by omega
 have hBo:=bs2 bR hws;rw[<-hws];try rw[<-hdC]
 try rw[<-hdA]
 clear hws hsz hdA hdC;refine cAn (HR.out _) fun s2 hb=>?_
 replace yA:=eqB hb yA zA;replace fA:=fun j=>a0g hb (fA j) zA;replace zA:=zHl hb zA
 replace yC:=eqB hb yC zC;replace fC:=fun j=>a0g hb (fC j) zC;replace zC:=zHl hb zC
 replace hBo:=bT hBo hb;clear hb
 go_upto_if 14 with fail
 go_cut [] (f9p A C w sh cn r fc fr)
 case first =>
  cases fc with
  | true =>
   have e0:=HC.out.1 rfl;subst e0;go_wp2_with fail
   go_meet
   exact⟨yA,fA,yC,fC,hBo⟩
  | false =>
   have e0:=HC.out.2 rfl;go_wp2_with fail;obtain⟨s3,hws⟩:∃ s,s=(s2.setCell ⟨A,1,none⟩ (I6 cn)):=⟨_,rfl⟩;have hBs:Bl w s3:=by rw[hws];exact((hBo).setCell lA _)
   have hsz:=ss1 hws;replace yC:=eqE hws (eqS yC dAC);have hq:∀ {p v},(s2.setCell ⟨A,1,none⟩ (I6 cn)).cell? p=some v->s3.cell? p=some v:=fun h=>by rw[hws];exact h
   replace yA:∀ j,s3.cell? ⟨A,j,none⟩=([Sg sh,I6 cn,I6 r,Bv false,Bv fr]:List Value)[j]?:=eqE hws (eqI yA (jB rfl));clear hq;have hQF:=@fz1 _ _ _ _  hws;replace fA:=fun j=>hQF (fA j)
   replace fC:=fun j=>hQF (fC j)
   clear hQF;replace zA:=szH hsz zA;replace zC:=szH hsz zC;rw[<-hws];clear hBo hws hsz;have hBo:=hBs;clear hBs
   go_meet
   exact⟨yA,fA,yC,fC,hBo⟩
 case rest =>
  clear yA yC fA fC zA zC hBo;obtain⟨yA,fA,yC,fC,hBo⟩:=hcut;have zA:A<wc.heap.size:=World.block_lt_of_cell? _ _ (yA 0);have zC:C<wc.heap.size:=World.block_lt_of_cell? _ _ (yC 0);obtain⟨w3,hw3⟩:=nM wc;rw[<-hw3] at yA yC fA fC zA zC hBo |-
  clear hw3
  go_upto_if 22 with fail
  go_cut [] (f9p A C w sh cn rn fc fr)
  case first =>
   cases fr with
   | true =>
    have e0:=HW.out.1 rfl;subst e0;go_wp2_with fail
    go_meet
    exact⟨yA,fA,yC,fC,hBo⟩
   | false =>
    have e0:=HW.out.2 rfl;go_wp2_with fail;obtain⟨s4,hws⟩:∃ s,s=(w3.setCell ⟨A,2,none⟩ (I6 rn)):=⟨_,rfl⟩;have hBs:Bl w s4:=by rw[hws];exact((hBo).setCell lA _)
    have hsz:=ss1 hws;replace yC:=eqE hws (eqS yC dAC);have hq:∀ {p v},(w3.setCell ⟨A,2,none⟩ (I6 rn)).cell? p=some v->s4.cell? p=some v:=fun h=>by rw[hws];exact h
    replace yA:∀ j,s4.cell? ⟨A,j,none⟩=([Sg sh,I6 cn,I6 rn,Bv fc,Bv false]:List Value)[j]?:=eqE hws (eqI yA (jB rfl));clear hq;have hQF:=@fz1 _ _ _ _  hws;replace fA:=fun j=>hQF (fA j)
    replace fC:=fun j=>hQF (fC j)
    clear hQF;replace zA:=szH hsz zA;replace zC:=szH hsz zC;rw[<-hws];clear hBo hws hsz;have hBo:=hBs;clear hBs
    go_meet
    exact⟨yA,fA,yC,fC,hBo⟩
  case rest =>
   clear yA yC fA fC zA zC hBo;obtain⟨yA,fA,yC,fC,hBo⟩:=hcut;have zA:A<wc.heap.size:=World.block_lt_of_cell? _ _ (yA 0);have zC:C<wc.heap.size:=World.block_lt_of_cell? _ _ (yC 0);obtain⟨w4,hw4⟩:=nM wc;rw[<-hw4] at yA yC fA fC zA zC hBo |-
   clear hw4;go_wp2_with fail;refine cAn (HS.out _) fun w5 hb=>?_
   replace yA:=eqB hb yA zA;replace fA:=fun j=>a0g hb (fA j) zA;replace zA:=zHl hb zA
   replace yC:=eqB hb yC zC;replace fC:=fun j=>a0g hb (fC j) zC;replace zC:=zHl hb zC
   replace hBo:=f4s hBo hb;clear hb
   cases B with
   | false =>
    have e0:=HF.out rfl;subst e0
    all_goals go_wp2_with fail
    all_goals refine jU (v:=.tuple #[.agg #[S0,I6 0,I6 0,Bv false,Bv false],Bv false]) (by simp[results,Tryz.results57,go_sem,yC,zC]) rfl ⟨rfl,?_⟩
    all_goals exact(sc5 hBo lC)
   | true =>
    have e0:=HT.out rfl;subst e0
    all_goals go_wp2_with fail
    all_goals refine jU (v:=.tuple #[.agg #[Sg sh,I6 cn,I6 rn,Bv fc,Bv fr],Bv true]) (by simp[results,Tryz.results57,go_sem,yC,zC]) rfl ⟨rfl,?_⟩
    all_goals exact(sc5 hBo lC)
theorem f9n (q:Rf) (d e:Int) (w:World) (hs:q.sh.size<=maxLen) (h0:a8g q.sh q.c q.r=true) (hd1 : -9223372036854775808<=d) (hd2:d<=9223372036854775807) (he1 : -9223372036854775808<=e) (he2:e<=9223372036854775807) :
  Calls Tryz.prog 31 #[.agg #[Sg q.sh,I6 q.c,I6 q.r,Bv q.fc,Bv q.fr],I6 d,I6 e] w fun e' w'=>e'=.returned (.tuple #[.agg #[Sg (mvR q d e).sh,I6 (mvR q d e).c,I6 (mvR q d e).r,Bv (mvR q d e).fc,Bv (mvR q d e).fr],Bv (mvB q d e)])/\Bl w w':=by
 have hud:=hUd;obtain⟨g1,g2,g3,g4⟩:=f0a h0;have HR:=zh (fun w=>a6m q true w hs h0);have hk:=f8h (s:=q.sh) (f9d (f:=q.fc) (d:=d) g1 (by omega)) (f9d (f:=q.fr) (d:=e) g3 g4);obtain⟨B,hB⟩:=nM (mvB q d e);obtain⟨p,hp⟩:=nM (mvR q d e);rw[<-hB,<-hp];have hb2:B=a8g q.sh (mvC q.fc q.c (clD d)) (mvC q.fr q.r (clD e)):=by rw[hB];unfold mvB;rw[h0,Bool.true_and,hk.1]
 have HT:Hid (B=true->p=⟨q.sh,mvC q.fc q.c (clD d),mvC q.fr q.r (clD e),q.fc,q.fr⟩):=fun h=>by
  have h3:=hk.2 (by rw[hb2,hk.1] at h;exact h);rw[hp,f7t (hB.symm.trans h),h3.1,h3.2]
 have HF:Hid (B=false->p=rf0):=fun h=>by rw[hp,f8i (hB.symm.trans h)]
 have HS:=zh (fun w=>a6m ⟨q.sh,mvC q.fc q.c (clD d),mvC q.fr q.r (clD e),q.fc,q.fr⟩ B w hs hb2.symm);obtain⟨sh,c,r,fc,fr⟩:=q;dsimp only at *;have hx1 : -1000<=clD d/\clD d<=1000:=by unfold clD;split<;>omega
 have hy1 : -1000<=clD e/\clD e<=1000:=by unfold clD;split<;>omega
 have e1:IntKind.i64.wrap (c+clD d)=c+clD d:=IntWalk.i64_in _ (by omega);have e2:IntKind.i64.wrap (r+clD e)=r+clD e:=IntWalk.i64_in _ (by omega);have HC:Hid ((fc=true->mvC fc c (clD d)=c)/\(fc=false->IntKind.i64.wrap (c+clD d)=mvC fc c (clD d))):=zh ⟨fun h=>by rw[h];rfl,fun h=>by rw[e1,h];rfl⟩
 have HW:Hid ((fr=true->mvC fr r (clD e)=r)/\(fr=false->IntKind.i64.wrap (r+clD e)=mvC fr r (clD e))):=zh ⟨fun h=>by rw[h];rfl,fun h=>by rw[e2,h];rfl⟩
 obtain⟨K,hK⟩:=nM ((decide (d < -1000) || decide (1000<d)))
 obtain⟨L,hL⟩:=nM ((decide (e < -1000) || decide (1000<e)))
 have HX:Hid (K=(decide (d < -1000) || decide (1000<d))/\clD d=if K=true then 1000 else d):=zh ⟨hK,by rw[hK];unfold clD;simp only[Bool.or_eq_true,decide_eq_true_eq]⟩
 have HY:Hid (L=(decide (e < -1000) || decide (1000<e))/\clD e=if L=true then 1000 else e):=zh ⟨hL,by rw[hL];unfold clD;simp only[Bool.or_eq_true,decide_eq_true_eq]⟩
 clear hK hL;clear hx1 hy1 e1 e2;generalize clD d=x at *;generalize clD e=y at *;generalize hcn:mvC fc c x=cn at *;generalize hrn:mvC fr r y=rn at *;clear hk hb2 hB hp hcn hrn h0 hs hd1 hd2 he1 he2 g1 g2 g3 g4;go_enter Tryz.func31,Tryz.ntmps31;go_wp2_with fail;obtain⟨s5,A,C,hws,hdA,hdC,hsz,zA,zC⟩:=nm2 w (.cells #[Sg sh,I6 c,I6 r,Bv fc,Bv fr] 67) (.cells #[S0,I6 0,I6 0,Bv false,Bv false] 67);have dAC:A≠C:=by omega
 have dCA:C≠A:=by omega
 have yA:=by1 (b:=A) hws hdA;have fA:=bf1 (b:=A) hws hdA;have lA:w.heap.size<=A:=by omega
 have yC:=by0 (b:=C) hws (by simp[hdC]);have fC:=bf0 (b:=C) hws (by simp[hdC]);have lC:w.heap.size<=C:=by omega
 have hBo:=bs2 bR hws;rw[<-hws];try rw[<-hdC]
 try rw[<-hdA]
 clear hws hsz hdA hdC;refine cAn (HR.out _) fun s6 hb=>?_
 replace yA:=eqB hb yA zA;replace fA:=fun j=>a0g hb (fA j) zA;replace zA:=zHl hb zA
 replace yC:=eqB hb yC zC;replace fC:=fun j=>a0g hb (fC j) zC;replace zC:=zHl hb zC
 replace hBo:=bT hBo hb;clear hb
 go_upto_region 3 with fail
 go_cut [17] (fun v wx=>v=Bv K/\wx=s6)
 case first =>
  cases h1:decide (d < -1000)<;>cases h2:decide (1000<d)
  all_goals
   go_wp2_with fail
   go_meet
   exact⟨by rw[HX.out.1,h1,h2];rfl,rfl⟩
 obtain⟨rfl,hwc⟩:=hcut;rw[hwc];clear hwc wc
 go_upto_if 17 with fail
 go_cut [1] (fun v wx=>v=I6 x/\wx=s6)
 case first =>
  have hx:=HX.out.2
  cases K
  all_goals
   go_wp2_with fail
   go_meet
   exact⟨by rw[hx];rfl,rfl⟩
 obtain⟨rfl,hwc⟩:=hcut;rw[hwc];clear hwc wc
 go_upto_region 5 with fail
 go_cut [23] (fun v wx=>v=Bv L/\wx=s6)
 case first =>
  cases h1:decide (e < -1000)<;>cases h2:decide (1000<e)
  all_goals
   go_wp2_with fail
   go_meet
   exact⟨by rw[HY.out.1,h1,h2];rfl,rfl⟩
 obtain⟨rfl,hwc⟩:=hcut;rw[hwc];clear hwc wc
 go_upto_if 23 with fail
 go_cut [2] (fun v wx=>v=I6 y/\wx=s6)
 case first =>
  have hx:=HY.out.2
  cases L
  all_goals
   go_wp2_with fail
   go_meet
   exact⟨by rw[hx];rfl,rfl⟩
 obtain⟨rfl,hwc⟩:=hcut;rw[hwc];clear hwc wc
 go_upto_if 26 with fail
 go_cut [] (f9p A C w sh cn r fc fr)
 case first =>
  cases fc with
  | true =>
   have e0:=HC.out.1 rfl;subst e0;go_wp2_with fail
   go_meet
   exact⟨yA,fA,yC,fC,hBo⟩
  | false =>
   have e0:=HC.out.2 rfl;go_wp2_with fail;obtain⟨s7,hws⟩:∃ s,s=(s6.setCell ⟨A,1,none⟩ (I6 cn)):=⟨_,rfl⟩;have hBs:Bl w s7:=by rw[hws];exact((hBo).setCell lA _)
   have hsz:=ss1 hws;replace yC:=eqE hws (eqS yC dAC);have hq:∀ {p v},(s6.setCell ⟨A,1,none⟩ (I6 cn)).cell? p=some v->s7.cell? p=some v:=fun h=>by rw[hws];exact h
   replace yA:∀ j,s7.cell? ⟨A,j,none⟩=([Sg sh,I6 cn,I6 r,Bv false,Bv fr]:List Value)[j]?:=eqE hws (eqI yA (jB rfl));clear hq;have hQF:=@fz1 _ _ _ _  hws;replace fA:=fun j=>hQF (fA j)
   replace fC:=fun j=>hQF (fC j)
   clear hQF;replace zA:=szH hsz zA;replace zC:=szH hsz zC;rw[<-hws];clear hBo hws hsz;have hBo:=hBs;clear hBs
   go_meet
   exact⟨yA,fA,yC,fC,hBo⟩
 case rest =>
  clear yA yC fA fC zA zC hBo;obtain⟨yA,fA,yC,fC,hBo⟩:=hcut;have zA:A<wc.heap.size:=World.block_lt_of_cell? _ _ (yA 0);have zC:C<wc.heap.size:=World.block_lt_of_cell? _ _ (yC 0);obtain⟨w3,hw3⟩:=nM wc;rw[<-hw3] at yA yC fA fC zA zC hBo |-
  clear hw3
  go_upto_if 34 with fail
  go_cut [] (f9p A C w sh cn rn fc fr)
  case first =>
   cases fr with
   | true =>
    have e0:=HW.out.1 rfl;subst e0;go_wp2_with fail
    go_meet
    exact⟨yA,fA,yC,fC,hBo⟩
   | false =>
    have e0:=HW.out.2 rfl;go_wp2_with fail;obtain⟨s8,hws⟩:∃ s,s=(w3.setCell ⟨A,2,none⟩ (I6 rn)):=⟨_,rfl⟩;have hBs:Bl w s8:=by rw[hws];exact((hBo).setCell lA _)
    have hsz:=ss1 hws;replace yC:=eqE hws (eqS yC dAC);have hq:∀ {p v},(w3.setCell ⟨A,2,none⟩ (I6 rn)).cell? p=some v->s8.cell? p=some v:=fun h=>by rw[hws];exact h
    replace yA:∀ j,s8.cell? ⟨A,j,none⟩=([Sg sh,I6 cn,I6 rn,Bv fc,Bv false]:List Value)[j]?:=eqE hws (eqI yA (jB rfl));clear hq;have hQF:=@fz1 _ _ _ _  hws;replace fA:=fun j=>hQF (fA j)
    replace fC:=fun j=>hQF (fC j)
    clear hQF;replace zA:=szH hsz zA;replace zC:=szH hsz zC;rw[<-hws];clear hBo hws hsz;have hBo:=hBs;clear hBs
    go_meet
    exact⟨yA,fA,yC,fC,hBo⟩
  case rest =>
   clear yA yC fA fC zA zC hBo;obtain⟨yA,fA,yC,fC,hBo⟩:=hcut;have zA:A<wc.heap.size:=World.block_lt_of_cell? _ _ (yA 0);have zC:C<wc.heap.size:=World.block_lt_of_cell? _ _ (yC 0);obtain⟨w4,hw4⟩:=nM wc;rw[<-hw4] at yA yC fA fC zA zC hBo |-
   clear hw4;go_wp2_with fail;refine cAn (HS.out _) fun w5 hb=>?_
   replace yA:=eqB hb yA zA;replace fA:=fun j=>a0g hb (fA j) zA;replace zA:=zHl hb zA
   replace yC:=eqB hb yC zC;replace fC:=fun j=>a0g hb (fC j) zC;replace zC:=zHl hb zC
   replace hBo:=f4s hBo hb;clear hb
   cases B with
   | false =>
    have e0:=HF.out rfl;subst e0
    all_goals go_wp2_with fail
    all_goals refine jU (v:=.tuple #[.agg #[S0,I6 0,I6 0,Bv false,Bv false],Bv false]) (by simp[results,Tryz.results31,go_sem,yC,zC]) rfl ⟨rfl,?_⟩
    all_goals exact(sc5 hBo lC)
   | true =>
    have e0:=HT.out rfl;subst e0
    all_goals go_wp2_with fail
    all_goals refine jU (v:=.tuple #[.agg #[Sg sh,I6 cn,I6 rn,Bv fc,Bv fr],Bv true]) (by simp[results,Tryz.results31,go_sem,yC,zC]) rfl ⟨rfl,?_⟩
    all_goals exact(sc5 hBo lC)
end Go.Proofs.YtibiacmbljgmhaaGreatDoor
