import Derived.Test.YtibiacmbljgmhaaGreatDoorWhole1
set_option maxHeartbeats 8000000
set_option maxRecDepth 100000
namespace Go.Proofs.YtibiacmbljgmhaaGreatDoor
open Go.RowKit Go.Shelf
set_option linter.all false
structure Rt where
 neg:Bool
 num:Nat
 den:Nat
def rb (r:Rt):Bool:=r.neg
def rn (r:Rt):jW:=Nt.E r.num
def rd (r:Rt):jW:=Nt.E r.den
def b8i (r:Rt):Prop:=r.den≠0/\Nat.gcd r.num r.den=1/\Nt.blen r.num<=256/\Nt.blen r.den<=256/\(r.num=0->r.neg=false)
instance (r:Rt):Decidable (b8i r):=by unfold b8i;infer_instance
def a0y (neg:Bool) (a d:jW):Bool:=decide (Nt.E (Nt.V a)=a/\Nt.E (Nt.V d)=d/\b8i ⟨neg,Nt.V a,Nt.V d⟩)
def wl (neg:Bool) (a d:jW):Rt:=if a0y neg a d then ⟨neg,Nt.V a,Nt.V d⟩ else ⟨false,0,1⟩
theorem a1p (neg:Bool) (a d:jW):a0y neg a d=true ↔ (Nt.E (Nt.V a)=a/\Nt.E (Nt.V d)=d/\b8i ⟨neg,Nt.V a,Nt.V d⟩):=by unfold a0y;simp
theorem c9n (neg:Bool) (a d:jW):b8i (wl neg a d):=by
 unfold wl;by_cases h:a0y neg a d=true
 ·
  rw[if_pos h];exact((a1p _ _ _).1 h).2.2
 ·
  rw[if_neg h];decide
theorem c4l {neg:Bool} {a d:jW} (h:a0y neg a d=true):rb (wl neg a d)=neg/\rn (wl neg a d)=a/\rd (wl neg a d)=d:=by
 obtain⟨h1,h2,_⟩:=(a1p _ _ _).1 h;unfold wl rb rn rd;rw[if_pos h];exact⟨rfl,h1,h2⟩
theorem c4m {neg:Bool} {a d:jW} (h:a0y neg a d=false):rb (wl neg a d)=false/\rn (wl neg a d)=⟨#[]⟩/\rd (wl neg a d)=⟨#[1]⟩:=by
 unfold wl rb rn rd;rw[if_neg (by rw[h];decide)];exact⟨rfl,by decide,by decide⟩
theorem a2j {a b:jW} (h:a≠b):(a.toList==b.toList)=false:=by
 cases hh:(a.toList==b.toList) with
 | false=>rfl
 | true =>
  have e:a.toList=b.toList:=by simpa using hh
  exact absurd (c8t a b (by rw[<-jI,<-jI,e])) h
theorem a4a {n:Nat} (h:Nt.blen n<=256):(Nt.E n).size<=32:=by
 by_cases h0:0<(Nt.E n).size
 ·
  have ht:=Nt.blen_top n h0;have hh:=Nt.E_head n h0
  have:1<=Nt.blen ((Nt.E n)[0]'h0).toNat:=by
   unfold Nt.blen;rw[if_neg hh];omega
  omega
 ·
  omega
theorem a4y {d:jW} (h:d≠⟨#[1]⟩):(d.toList == [1])=false:=by
 have:=a2j h
 rwa [show (⟨#[1]⟩:jW).toList=[1] from by rw[jI]] at this
theorem a7d (neg:Bool) (a d:jW) (w:World) (ha:a.size<=140737488351232) (hd:d.size<=140737488351232) :
  Ca 223 #[.agg #[Bv neg,Sg a,Sg d]] w (Bv (a0y neg a d)):=by
 have h1:=fun w=>b5w (a0v a w)
 have h2:=fun w=>b5w (a0v d w)
 by_cases ea:Nt.E (Nt.V a)=a
 case neg =>
  have hr:a0y neg a d=false:=by
   cases hh:a0y neg a d with
   | false=>rfl
   | true=>exact absurd ((a1p _ _ _).1 hh).1 ea
  rw[hr];have hn:=a2j ea;generalize Nt.E (Nt.V a)=t at *;have H1:=zh h1;clear hr h1 h2 ea ha hd;go_enter Tryz.func223,Tryz.ntmps223;go_wp2_with fail;obtain⟨s1,A,j6,jz,j8,zA⟩:=qy w (.cells #[Bv neg,Sg a,Sg d] 52);have yA:=qZ (b:=A) j6 jz;have j7:=qQ bR j6;rw[<-j6];try rw[<-jz]
  clear j6 j8 jz;have HF:=QX j7;clear j7
  first | (go_region_held3 (fun w'=>(∀ j,w'.cell? ⟨A,j,none⟩=([Bv neg,Sg a,Sg d]:List Value)[j]?))
   (first | go_keep | ((repeat' apply And.intro)<;>first | assumption | exact yA | exact fun j=>(jk A j (by assumption)).trans (yA j) | (rw[jk _ _ (by assumption)];assumption))) (first
   | (go_at_call 235;refine jy (H1.out _) fun x2 qk=>?_;obtain⟨qx,jk,qK⟩:=Q4 s1 qk))) | fail
  all_goals go_wp2
  all_goals first | go_ret | go_ret2
  all_goals exact⟨rfl,HF.out _ (by assumption)⟩
 rw[ea] at h1;by_cases ed:Nt.E (Nt.V d)=d
 case neg =>
  have hr:a0y neg a d=false:=by
   cases hh:a0y neg a d with
   | false=>rfl
   | true=>exact absurd ((a1p _ _ _).1 hh).2.1 ed
  rw[hr];have hn:=a2j ed;generalize Nt.E (Nt.V d)=t at *;have H1:=zh h1;have H2:=zh h2;clear hr h1 h2 ea ha hd ed;go_enter Tryz.func223,Tryz.ntmps223;go_wp2_with fail;obtain⟨s3,A,j6,jz,j8,zA⟩:=qy w (.cells #[Bv neg,Sg a,Sg d] 52);have yA:=qZ (b:=A) j6 jz;have j7:=qQ bR j6;rw[<-j6];try rw[<-jz]
  clear j6 j8 jz;have HF:=QX j7;clear j7
  first | (go_region_held3 (fun w'=>(∀ j,w'.cell? ⟨A,j,none⟩=([Bv neg,Sg a,Sg d]:List Value)[j]?))
   (first | go_keep | ((repeat' apply And.intro)<;>first | assumption | exact yA | exact fun j=>(jk A j (by assumption)).trans (yA j) | (rw[jk _ _ (by assumption)];assumption))) (first
   | (go_at_call 235;refine jy (H1.out _) fun x4 qk=>?_;obtain⟨qx,jk,qK⟩:=Q4 s3 qk))) | fail
  go_wp2_with fail;replace zA:=jw qx zA;have j7:=HF.out _ qx;clear HF jk qK qx;have HF:=QX j7;clear j7
  first | (go_region_held3 (fun w'=>(∀ j,w'.cell? ⟨A,j,none⟩=([Bv neg,Sg a,Sg d]:List Value)[j]?))
   (first | go_keep | ((repeat' apply And.intro)<;>first | assumption | exact yA | exact fun j=>(jk A j (by assumption)).trans (yA j) | (rw[jk _ _ (by assumption)];assumption))) (first
   | (go_at_call 235;refine jy (H2.out _) fun x5 qk=>?_;obtain⟨qx,jk,qK⟩:=Q4 x4 qk))) | fail
  all_goals go_wp2
  all_goals first | go_ret | go_ret2
  all_goals exact⟨rfl,HF.out _ (by assumption)⟩
 rw[ed] at h2;have H1:=zh h1;have H2:=zh h2;obtain⟨bl,hbl⟩:∃ bl:jW->Int,bl=fun t=>(Nt.blen (Nt.V t):Int):=⟨_,rfl⟩
 have HB:Hid (∀ (t:jW) (w:World),t.size<=140737488351232->Ca 236 #[Sg t] w (I6 (bl t))):=fun t w ht=>by rw[hbl];exact b5w (a4f t w ht)
 have ba:bl a=(Nt.blen (Nt.V a):Int):=by rw[hbl]
 have bd:bl d=(Nt.blen (Nt.V d):Int):=by rw[hbl]
 have hri:a0y neg a d=true ↔ b8i ⟨neg,Nt.V a,Nt.V d⟩:=by rw[a1p];exact⟨fun h=>h.2.2,fun h=>⟨ea,ed,h⟩⟩
 clear h1 h2;by_cases eb:Nt.blen (Nt.V a)<=256/\Nt.blen (Nt.V d)<=256
 case neg =>
  have hr:a0y neg a d=false:=by
   cases hh:a0y neg a d with
   | false=>rfl
   | true=>exact absurd ⟨(hri.1 hh).2.2.1,(hri.1 hh).2.2.2.1⟩ eb
  rw[hr];generalize Nt.blen (Nt.V a)=x at *;generalize Nt.blen (Nt.V d)=y at *;have hmx:256<max (bl a) (bl d):=by rw[ba,bd];omega
  clear hri hr ea ed hbl ba bd eb;go_enter Tryz.func223,Tryz.ntmps223;go_wp2_with fail;obtain⟨s6,A,j6,jz,j8,zA⟩:=qy w (.cells #[Bv neg,Sg a,Sg d] 52);have yA:=qZ (b:=A) j6 jz;have j7:=qQ bR j6;rw[<-j6];try rw[<-jz]
  clear j6 j8 jz;have HF:=QX j7;clear j7
  first | (go_region_held3 (fun w'=>(∀ j,w'.cell? ⟨A,j,none⟩=([Bv neg,Sg a,Sg d]:List Value)[j]?))
   (first | go_keep | ((repeat' apply And.intro)<;>first | assumption | exact yA | exact fun j=>(jk A j (by assumption)).trans (yA j) | (rw[jk _ _ (by assumption)];assumption))) (first
   | (go_at_call 235;refine jy (H1.out _) fun x7 qk=>?_;obtain⟨qx,jk,qK⟩:=Q4 s6 qk))) | fail
  go_wp2_with fail;replace yA:=XY jk yA zA
  replace zA:=jw qx zA;have j7:=HF.out _ qx;clear HF jk qK qx;have HF:=QX j7;clear j7
  first | (go_region_held3 (fun w'=>(∀ j,w'.cell? ⟨A,j,none⟩=([Bv neg,Sg a,Sg d]:List Value)[j]?))
   (first | go_keep | ((repeat' apply And.intro)<;>first | assumption | exact yA | exact fun j=>(jk A j (by assumption)).trans (yA j) | (rw[jk _ _ (by assumption)];assumption))) (first
   | (go_at_call 235;refine jy (H2.out _) fun x8 qk=>?_;obtain⟨qx,jk,qK⟩:=Q4 x7 qk))) | fail
  go_wp2_with fail;replace yA:=XY jk yA zA
  replace zA:=jw qx zA;have j7:=HF.out _ qx;clear HF jk qK qx;have HF:=QX j7;clear j7
  first | (go_region_held3 (fun w'=>(∀ j,w'.cell? ⟨A,j,none⟩=([Bv neg,Sg a,Sg d]:List Value)[j]?))
   (first | go_keep | ((repeat' apply And.intro)<;>first | assumption | exact yA | exact fun j=>(jk A j (by assumption)).trans (yA j) | (rw[jk _ _ (by assumption)];assumption))) (first
   | (go_at_call 236;refine jy (HB.out _ _ (by omega)) fun x9 qk=>?_;obtain⟨qx,jk,qK⟩:=Q4 x8 qk))) | fail
  all_goals go_wp2
  all_goals first | go_ret | go_ret2
  all_goals exact⟨rfl,HF.out _ (by assumption)⟩
 obtain⟨eb1,eb2⟩:=eb;have hmx : ¬ 256<max (bl a) (bl d):=by rw[ba,bd];omega
 have hsa:a.size<=32:=by rw[<-ea];exact a4a eb1
 have hsd:d.size<=32:=by rw[<-ed];exact a4a eb2
 by_cases a0:Nt.V a=0
 case pos =>
  have hae:a=⟨#[]⟩:=by rw[<-ea,a0];rfl
  have hr:a0y neg a d=(!neg&&decide (d=⟨#[1]⟩)):=by
   rw[Bool.eq_iff_iff,hri,a0];simp only[b8i,Nat.gcd_zero_left,Bool.and_eq_true,Bool.not_eq_true',decide_eq_true_eq];constructor
   ·
    rintro ⟨_,h1,_,_,h2⟩;exact⟨h2 trivial,by rw[<-ed,h1];decide⟩
   ·
    rintro ⟨h1,h2⟩;rw[h2];exact⟨by decide,by decide,by decide,by decide,fun _=>h1⟩
  rw[hr];subst hae;clear hri hr ea ed hbl ba bd eb1 eb2 a0 hsa hsd
  cases neg
  ·
   by_cases hd1:d=⟨#[1]⟩
   ·
    subst hd1;go_enter Tryz.func223,Tryz.ntmps223;go_wp2_with fail;obtain⟨s10,A,j6,jz,j8,zA⟩:=qy w (.cells #[Bv false,S0,Sg ⟨#[1]⟩] 52);have yA:=qZ (b:=A) j6 jz;have j7:=qQ bR j6;rw[<-j6];try rw[<-jz]
    clear j6 j8 jz;have HF:=QX j7;clear j7
    first | (go_region_held3 (fun w'=>(∀ j,w'.cell? ⟨A,j,none⟩=([Bv false,S0,Sg ⟨#[1]⟩]:List Value)[j]?))
     (first | go_keep | ((repeat' apply And.intro)<;>first | assumption | exact yA | exact fun j=>(jk A j (by assumption)).trans (yA j) | (rw[jk _ _ (by assumption)];assumption))) (first
     | (go_at_call 235;refine jy (H1.out _) fun x11 qk=>?_;obtain⟨qx,jk,qK⟩:=Q4 s10 qk))) | fail
    go_wp2_with fail;replace yA:=XY jk yA zA
    replace zA:=jw qx zA;have j7:=HF.out _ qx;clear HF jk qK qx;have HF:=QX j7;clear j7
    first | (go_region_held3 (fun w'=>(∀ j,w'.cell? ⟨A,j,none⟩=([Bv false,S0,Sg ⟨#[1]⟩]:List Value)[j]?))
     (first | go_keep | ((repeat' apply And.intro)<;>first | assumption | exact yA | exact fun j=>(jk A j (by assumption)).trans (yA j) | (rw[jk _ _ (by assumption)];assumption))) (first
     | (go_at_call 235;refine jy (H2.out _) fun x12 qk=>?_;obtain⟨qx,jk,qK⟩:=Q4 x11 qk))) | fail
    go_wp2_with fail;replace yA:=XY jk yA zA
    replace zA:=jw qx zA;have j7:=HF.out _ qx;clear HF jk qK qx;have HF:=QX j7;clear j7
    first | (go_region_held3 (fun w'=>(∀ j,w'.cell? ⟨A,j,none⟩=([Bv false,S0,Sg ⟨#[1]⟩]:List Value)[j]?))
     (first | go_keep | ((repeat' apply And.intro)<;>first | assumption | exact yA | exact fun j=>(jk A j (by assumption)).trans (yA j) | (rw[jk _ _ (by assumption)];assumption))) (first
     | (go_at_call 236;refine jy (HB.out _ _ (by omega)) fun x13 qk=>?_;obtain⟨qx,jk,qK⟩:=Q4 x12 qk))) | fail
    all_goals go_wp2
    all_goals first | go_ret | go_ret2
    all_goals exact⟨rfl,HF.out _ (by assumption)⟩
   ·
    have hn:=a4y hd1;have hdd:=jE hd1;rw[hdd];simp only[Bool.and_false];clear hd1 hdd;go_enter Tryz.func223,Tryz.ntmps223;go_wp2_with fail;obtain⟨s14,A,j6,jz,j8,zA⟩:=qy w (.cells #[Bv false,S0,Sg d] 52);have yA:=qZ (b:=A) j6 jz;have j7:=qQ bR j6;rw[<-j6];try rw[<-jz]
    clear j6 j8 jz;have HF:=QX j7;clear j7
    first | (go_region_held3 (fun w'=>(∀ j,w'.cell? ⟨A,j,none⟩=([Bv false,S0,Sg d]:List Value)[j]?))
     (first | go_keep | ((repeat' apply And.intro)<;>first | assumption | exact yA | exact fun j=>(jk A j (by assumption)).trans (yA j) | (rw[jk _ _ (by assumption)];assumption))) (first
     | (go_at_call 235;refine jy (H1.out _) fun x15 qk=>?_;obtain⟨qx,jk,qK⟩:=Q4 s14 qk))) | fail
    go_wp2_with fail;replace yA:=XY jk yA zA
    replace zA:=jw qx zA;have j7:=HF.out _ qx;clear HF jk qK qx;have HF:=QX j7;clear j7
    first | (go_region_held3 (fun w'=>(∀ j,w'.cell? ⟨A,j,none⟩=([Bv false,S0,Sg d]:List Value)[j]?))
     (first | go_keep | ((repeat' apply And.intro)<;>first | assumption | exact yA | exact fun j=>(jk A j (by assumption)).trans (yA j) | (rw[jk _ _ (by assumption)];assumption))) (first
     | (go_at_call 235;refine jy (H2.out _) fun x16 qk=>?_;obtain⟨qx,jk,qK⟩:=Q4 x15 qk))) | fail
    go_wp2_with fail;replace yA:=XY jk yA zA
    replace zA:=jw qx zA;have j7:=HF.out _ qx;clear HF jk qK qx;have HF:=QX j7;clear j7
    first | (go_region_held3 (fun w'=>(∀ j,w'.cell? ⟨A,j,none⟩=([Bv false,S0,Sg d]:List Value)[j]?))
     (first | go_keep | ((repeat' apply And.intro)<;>first | assumption | exact yA | exact fun j=>(jk A j (by assumption)).trans (yA j) | (rw[jk _ _ (by assumption)];assumption))) (first
     | (go_at_call 236;refine jy (HB.out _ _ (by omega)) fun x17 qk=>?_;obtain⟨qx,jk,qK⟩:=Q4 x16 qk))) | fail
    all_goals go_wp2
    all_goals first | go_ret | go_ret2
    all_goals exact⟨rfl,HF.out _ (by assumption)⟩
  ·
   simp only[Bool.not_true,Bool.false_and];go_enter Tryz.func223,Tryz.ntmps223;go_wp2_with fail;obtain⟨s18,A,j6,jz,j8,zA⟩:=qy w (.cells #[Bv true,S0,Sg d] 52);have yA:=qZ (b:=A) j6 jz;have j7:=qQ bR j6;rw[<-j6];try rw[<-jz]
   clear j6 j8 jz;have HF:=QX j7;clear j7
   first | (go_region_held3 (fun w'=>(∀ j,w'.cell? ⟨A,j,none⟩=([Bv true,S0,Sg d]:List Value)[j]?))
    (first | go_keep | ((repeat' apply And.intro)<;>first | assumption | exact yA | exact fun j=>(jk A j (by assumption)).trans (yA j) | (rw[jk _ _ (by assumption)];assumption))) (first
    | (go_at_call 235;refine jy (H1.out _) fun x19 qk=>?_;obtain⟨qx,jk,qK⟩:=Q4 s18 qk))) | fail
   go_wp2_with fail;replace yA:=XY jk yA zA
   replace zA:=jw qx zA;have j7:=HF.out _ qx;clear HF jk qK qx;have HF:=QX j7;clear j7
   first | (go_region_held3 (fun w'=>(∀ j,w'.cell? ⟨A,j,none⟩=([Bv true,S0,Sg d]:List Value)[j]?))
    (first | go_keep | ((repeat' apply And.intro)<;>first | assumption | exact yA | exact fun j=>(jk A j (by assumption)).trans (yA j) | (rw[jk _ _ (by assumption)];assumption))) (first
    | (go_at_call 235;refine jy (H2.out _) fun x20 qk=>?_;obtain⟨qx,jk,qK⟩:=Q4 x19 qk))) | fail
   go_wp2_with fail;replace yA:=XY jk yA zA
   replace zA:=jw qx zA;have j7:=HF.out _ qx;clear HF jk qK qx;have HF:=QX j7;clear j7
   first | (go_region_held3 (fun w'=>(∀ j,w'.cell? ⟨A,j,none⟩=([Bv true,S0,Sg d]:List Value)[j]?))
    (first | go_keep | ((repeat' apply And.intro)<;>first | assumption | exact yA | exact fun j=>(jk A j (by assumption)).trans (yA j) | (rw[jk _ _ (by assumption)];assumption))) (first
    | (go_at_call 236;refine jy (HB.out _ _ (by omega)) fun x21 qk=>?_;obtain⟨qx,jk,qK⟩:=Q4 x20 qk))) | fail
   all_goals go_wp2
   all_goals first | go_ret | go_ret2
   all_goals exact⟨rfl,HF.out _ (by assumption)⟩
 have hna:=a2h _ a0;rw[ea] at hna;have hna2:a.toList.isEmpty=false:=by simpa using hna
 by_cases d0:Nt.V d=0
 case pos =>
  have hde:d=⟨#[]⟩:=by rw[<-ed,d0];rfl
  have hr:a0y neg a d=false:=by
   cases hh:a0y neg a d with
   | false=>rfl
   | true=>exact absurd d0 (hri.1 hh).1
  rw[hr];subst hde;clear hri hr ea ed hbl ba bd eb1 eb2 a0 hsa hsd d0;go_enter Tryz.func223,Tryz.ntmps223;go_wp2_with fail;obtain⟨s22,A,j6,jz,j8,zA⟩:=qy w (.cells #[Bv neg,Sg a,S0] 52);have yA:=qZ (b:=A) j6 jz;have j7:=qQ bR j6;rw[<-j6];try rw[<-jz]
  clear j6 j8 jz;have HF:=QX j7;clear j7
  first | (go_region_held3 (fun w'=>(∀ j,w'.cell? ⟨A,j,none⟩=([Bv neg,Sg a,S0]:List Value)[j]?))
   (first | go_keep | ((repeat' apply And.intro)<;>first | assumption | exact yA | exact fun j=>(jk A j (by assumption)).trans (yA j) | (rw[jk _ _ (by assumption)];assumption))) (first
   | (go_at_call 235;refine jy (H1.out _) fun x23 qk=>?_;obtain⟨qx,jk,qK⟩:=Q4 s22 qk))) | fail
  go_wp2_with fail;replace yA:=XY jk yA zA
  replace zA:=jw qx zA;have j7:=HF.out _ qx;clear HF jk qK qx;have HF:=QX j7;clear j7
  first | (go_region_held3 (fun w'=>(∀ j,w'.cell? ⟨A,j,none⟩=([Bv neg,Sg a,S0]:List Value)[j]?))
   (first | go_keep | ((repeat' apply And.intro)<;>first | assumption | exact yA | exact fun j=>(jk A j (by assumption)).trans (yA j) | (rw[jk _ _ (by assumption)];assumption))) (first
   | (go_at_call 235;refine jy (H2.out _) fun x24 qk=>?_;obtain⟨qx,jk,qK⟩:=Q4 x23 qk))) | fail
  go_wp2_with fail;replace yA:=XY jk yA zA
  replace zA:=jw qx zA;have j7:=HF.out _ qx;clear HF jk qK qx;have HF:=QX j7;clear j7
  first | (go_region_held3 (fun w'=>(∀ j,w'.cell? ⟨A,j,none⟩=([Bv neg,Sg a,S0]:List Value)[j]?))
   (first | go_keep | ((repeat' apply And.intro)<;>first | assumption | exact yA | exact fun j=>(jk A j (by assumption)).trans (yA j) | (rw[jk _ _ (by assumption)];assumption))) (first
   | (go_at_call 236;refine jy (HB.out _ _ (by omega)) fun x25 qk=>?_;obtain⟨qx,jk,qK⟩:=Q4 x24 qk))) | fail
  all_goals go_wp2
  all_goals first | go_ret | go_ret2
  all_goals exact⟨rfl,HF.out _ (by assumption)⟩
 have hnd:=a2h _ d0;rw[ed] at hnd;have hnd2:d.toList.isEmpty=false:=by simpa using hnd
 have hg:=fun w=>c8r c1r a d w (by omega) (by omega)
 have hr:a0y neg a d=decide (Nat.gcd (Nt.V a) (Nt.V d)=1):=by
  rw[Bool.eq_iff_iff,hri];simp only[b8i,decide_eq_true_eq];exact⟨fun h=>h.2.1,fun h=>⟨d0,h,eb1,eb2,fun h=>absurd h a0⟩⟩
 rw[hr];by_cases g1:Nat.gcd (Nt.V a) (Nt.V d)=1
 case pos =>
  rw[g1,show Nt.E 1=⟨#[1]⟩ from by decide] at hg;rw[jD g1];have HG:=zh hg;clear hri hr ea ed hbl ba bd eb1 eb2 a0 hsa hsd d0 g1 hg;go_enter Tryz.func223,Tryz.ntmps223;go_wp2_with fail;obtain⟨s26,A,j6,jz,j8,zA⟩:=qy w (.cells #[Bv neg,Sg a,Sg d] 52);have yA:=qZ (b:=A) j6 jz;have j7:=qQ bR j6;rw[<-j6];try rw[<-jz]
  clear j6 j8 jz;have HF:=QX j7;clear j7
  first | (go_region_held3 (fun w'=>(∀ j,w'.cell? ⟨A,j,none⟩=([Bv neg,Sg a,Sg d]:List Value)[j]?))
   (first | go_keep | ((repeat' apply And.intro)<;>first | assumption | exact yA | exact fun j=>(jk A j (by assumption)).trans (yA j) | (rw[jk _ _ (by assumption)];assumption))) (first
   | (go_at_call 235;refine jy (H1.out _) fun x27 qk=>?_;obtain⟨qx,jk,qK⟩:=Q4 s26 qk))) | fail
  go_wp2_with fail;replace yA:=XY jk yA zA
  replace zA:=jw qx zA;have j7:=HF.out _ qx;clear HF jk qK qx;have HF:=QX j7;clear j7
  first | (go_region_held3 (fun w'=>(∀ j,w'.cell? ⟨A,j,none⟩=([Bv neg,Sg a,Sg d]:List Value)[j]?))
   (first | go_keep | ((repeat' apply And.intro)<;>first | assumption | exact yA | exact fun j=>(jk A j (by assumption)).trans (yA j) | (rw[jk _ _ (by assumption)];assumption))) (first
   | (go_at_call 235;refine jy (H2.out _) fun x28 qk=>?_;obtain⟨qx,jk,qK⟩:=Q4 x27 qk))) | fail
  go_wp2_with fail;replace yA:=XY jk yA zA
  replace zA:=jw qx zA;have j7:=HF.out _ qx;clear HF jk qK qx;have HF:=QX j7;clear j7
  first | (go_region_held3 (fun w'=>(∀ j,w'.cell? ⟨A,j,none⟩=([Bv neg,Sg a,Sg d]:List Value)[j]?))
   (first | go_keep | ((repeat' apply And.intro)<;>first | assumption | exact yA | exact fun j=>(jk A j (by assumption)).trans (yA j) | (rw[jk _ _ (by assumption)];assumption))) (first
   | (go_at_call 236;refine jy (HB.out _ _ (by omega)) fun x29 qk=>?_;obtain⟨qx,jk,qK⟩:=Q4 x28 qk))) | fail
  go_wp2_with fail;have j7:=HF.out _ qx;clear HF jk qK qx;refine jy (HG.out _) fun s30 hb=>?_
  replace j7:=bT j7 hb;clear hb
  all_goals go_wp2
  all_goals first | go_ret | go_ret2
  all_goals exact⟨rfl,j7⟩
 ·
  have hn1:Nt.E (Nat.gcd (Nt.V a) (Nt.V d))≠⟨#[1]⟩:=fun h=>g1 (by
   have:=Nt.V_E (Nat.gcd (Nt.V a) (Nt.V d));rw[h] at this
   exact this.symm.trans (by decide))
  have hn:=a4y hn1;rw[jE g1];generalize Nt.E (Nat.gcd (Nt.V a) (Nt.V d))=g at *;have HG:=zh hg;clear hri hr ea ed hbl ba bd eb1 eb2 a0 hsa hsd d0 g1 hg hn1;go_enter Tryz.func223,Tryz.ntmps223;go_wp2_with fail;obtain⟨s31,A,j6,jz,j8,zA⟩:=qy w (.cells #[Bv neg,Sg a,Sg d] 52);have yA:=qZ (b:=A) j6 jz;have j7:=qQ bR j6;rw[<-j6];try rw[<-jz]
  clear j6 j8 jz;have HF:=QX j7;clear j7
  first | (go_region_held3 (fun w'=>(∀ j,w'.cell? ⟨A,j,none⟩=([Bv neg,Sg a,Sg d]:List Value)[j]?))
   (first | go_keep | ((repeat' apply And.intro)<;>first | assumption | exact yA | exact fun j=>(jk A j (by assumption)).trans (yA j) | (rw[jk _ _ (by assumption)];assumption))) (first
   | (go_at_call 235;refine jy (H1.out _) fun x32 qk=>?_;obtain⟨qx,jk,qK⟩:=Q4 s31 qk))) | fail
  go_wp2_with fail;replace yA:=XY jk yA zA
  replace zA:=jw qx zA;have j7:=HF.out _ qx;clear HF jk qK qx;have HF:=QX j7;clear j7
  first | (go_region_held3 (fun w'=>(∀ j,w'.cell? ⟨A,j,none⟩=([Bv neg,Sg a,Sg d]:List Value)[j]?))
   (first | go_keep | ((repeat' apply And.intro)<;>first | assumption | exact yA | exact fun j=>(jk A j (by assumption)).trans (yA j) | (rw[jk _ _ (by assumption)];assumption))) (first
   | (go_at_call 235;refine jy (H2.out _) fun x33 qk=>?_;obtain⟨qx,jk,qK⟩:=Q4 x32 qk))) | fail
  go_wp2_with fail;replace yA:=XY jk yA zA
  replace zA:=jw qx zA;have j7:=HF.out _ qx;clear HF jk qK qx;have HF:=QX j7;clear j7
  first | (go_region_held3 (fun w'=>(∀ j,w'.cell? ⟨A,j,none⟩=([Bv neg,Sg a,Sg d]:List Value)[j]?))
   (first | go_keep | ((repeat' apply And.intro)<;>first | assumption | exact yA | exact fun j=>(jk A j (by assumption)).trans (yA j) | (rw[jk _ _ (by assumption)];assumption))) (first
   | (go_at_call 236;refine jy (HB.out _ _ (by omega)) fun x34 qk=>?_;obtain⟨qx,jk,qK⟩:=Q4 x33 qk))) | fail
  go_wp2_with fail;have j7:=HF.out _ qx;clear HF jk qK qx;refine jy (HG.out _) fun s35 hb=>?_
  replace j7:=bT j7 hb;clear hb
  all_goals go_wp2
  all_goals first | go_ret | go_ret2
  all_goals exact⟨rfl,j7⟩
