import Derived.Test.YtibiacmbljgmhaaGreatDoorWhole1
set_option maxHeartbeats 8000000
set_option maxRecDepth 100000
namespace Go.Proofs.YtibiacmbljgmhaaGreatDoor
open Go.RowKit Go.Shelf
set_option linter.all false
structure Rt where
 neg:Bool
 num:Nat
 den:Nat
def rb (r:Rt):Bool:=r.neg
def rn (r:Rt):jW:=Nt.E r.num
def rd (r:Rt):jW:=Nt.E r.den
def b8i (r:Rt):Prop:=r.den≠0/\Nat.gcd r.num r.den=1/\Nt.blen r.num<=256/\Nt.blen r.den<=256/\(r.num=0->r.neg=false)
instance (r:Rt):Decidable (b8i r):=by unfold b8i;infer_instance
def a0y (neg:Bool) (a d:jW):Bool:=decide (Nt.E (Nt.V a)=a/\Nt.E (Nt.V d)=d/\b8i ⟨neg,Nt.V a,Nt.V d⟩)
def wl (neg:Bool) (a d:jW):Rt:=if a0y neg a d then ⟨neg,Nt.V a,Nt.V d⟩ else ⟨false,0,1⟩
theorem a1p (neg:Bool) (a d:jW):a0y neg a d=true ↔ (Nt.E (Nt.V a)=a/\Nt.E (Nt.V d)=d/\b8i ⟨neg,Nt.V a,Nt.V d⟩):=by unfold a0y;simp
theorem c9n (neg:Bool) (a d:jW):b8i (wl neg a d):=by
 unfold wl;by_cases h:a0y neg a d=true
 ·
  rw[if_pos h];exact((a1p _ _ _).1 h).2.2
 ·
  rw[if_neg h];decide
theorem c4l {neg:Bool} {a d:jW} (h:a0y neg a d=true):rb (wl neg a d)=neg/\rn (wl neg a d)=a/\rd (wl neg a d)=d:=by
 obtain⟨h1,h2,_⟩:=(a1p _ _ _).1 h;unfold wl rb rn rd;rw[if_pos h];exact⟨rfl,h1,h2⟩
theorem c4m {neg:Bool} {a d:jW} (h:a0y neg a d=false):rb (wl neg a d)=false/\rn (wl neg a d)=⟨#[]⟩/\rd (wl neg a d)=⟨#[1]⟩:=by
 unfold wl rb rn rd;rw[if_neg (by rw[h];decide)];exact⟨rfl,by decide,by decide⟩
theorem a2j {a b:jW} (h:a≠b):(a.toList==b.toList)=false:=by
 cases hh:(a.toList==b.toList) with
 | false=>rfl
 | true =>
  have e:a.toList=b.toList:=by simpa using hh
  exact absurd (c8t a b (by rw[<-jI,<-jI,e])) h
theorem a4a {n:Nat} (h:Nt.blen n<=256):(Nt.E n).size<=32:=by
 by_cases h0:0<(Nt.E n).size
 ·
  have ht:=Nt.blen_top n h0;have hh:=Nt.E_head n h0
  have:1<=Nt.blen ((Nt.E n)[0]'h0).toNat:=by
   unfold Nt.blen;rw[if_neg hh];omega
  omega
 ·
  omega
theorem a4y {d:jW} (h:d≠⟨#[1]⟩):(d.toList == [1])=false:=by
 have:=a2j h
 rwa [show (⟨#[1]⟩:jW).toList=[1] from by rw[jI]] at this
theorem a7d (neg:Bool) (a d:jW) (w:World) (ha:a.size<=140737488351232) (hd:d.size<=140737488351232) :
  Calls Tryz.prog 223 #[.agg #[Bv neg,Sg a,Sg d]] w fun e w'=>e=.returned (Bv (a0y neg a d))/\Bl w w':=by
 have h1:=fun w=>b5w (a0v a w)
 have h2:=fun w=>b5w (a0v d w)
 by_cases ea:Nt.E (Nt.V a)=a
 case neg =>
  have hr:a0y neg a d=false:=by
   cases hh:a0y neg a d with
   | false=>rfl
   | true=>exact absurd ((a1p _ _ _).1 hh).1 ea
  rw[hr];have hn:=a2j ea;generalize Nt.E (Nt.V a)=t at *;have H1:=zh h1;clear hr h1 h2 ea ha hd;go_enter Tryz.func223,Tryz.ntmps223;go_wp2_with fail;obtain⟨s1,A,hws,hdA,hsz,zA⟩:=nm1 w (.cells #[Bv neg,Sg a,Sg d] 52);have yA:=by0 (b:=A) hws hdA;have hBo:=bs1 bR hws;rw[<-hws];try rw[<-hdA]
  clear hws hsz hdA;have HF:=hFF hBo;clear hBo
  first | (go_region_held3 (fun w'=>(∀ j,w'.cell? ⟨A,j,none⟩=([Bv neg,Sg a,Sg d]:List Value)[j]?))
   (first | go_keep | ((repeat' apply And.intro)<;>first | assumption | exact yA | exact fun j=>(hcx A j (by assumption)).trans (yA j) | (rw[hcx _ _ (by assumption)];assumption))) (first
   | (go_at_call 235;refine cAn (H1.out _) fun x2 hbx=>?_;obtain⟨hTx,hcx,hfx⟩:=bAn s1 hbx))) | fail
  all_goals go_wp2_with fail
  all_goals first | go_ret | go_ret2
  all_goals exact⟨rfl,HF.out _ (by assumption)⟩
 rw[ea] at h1;by_cases ed:Nt.E (Nt.V d)=d
 case neg =>
  have hr:a0y neg a d=false:=by
   cases hh:a0y neg a d with
   | false=>rfl
   | true=>exact absurd ((a1p _ _ _).1 hh).2.1 ed
  rw[hr];have hn:=a2j ed;generalize Nt.E (Nt.V d)=t at *;have H1:=zh h1;have H2:=zh h2;clear hr h1 h2 ea ha hd ed;go_enter Tryz.func223,Tryz.ntmps223;go_wp2_with fail;obtain⟨s3,A,hws,hdA,hsz,zA⟩:=nm1 w (.cells #[Bv neg,Sg a,Sg d] 52);have yA:=by0 (b:=A) hws hdA;have hBo:=bs1 bR hws;rw[<-hws];try rw[<-hdA]
  clear hws hsz hdA;have HF:=hFF hBo;clear hBo
  first | (go_region_held3 (fun w'=>(∀ j,w'.cell? ⟨A,j,none⟩=([Bv neg,Sg a,Sg d]:List Value)[j]?))
   (first | go_keep | ((repeat' apply And.intro)<;>first | assumption | exact yA | exact fun j=>(hcx A j (by assumption)).trans (yA j) | (rw[hcx _ _ (by assumption)];assumption))) (first
   | (go_at_call 235;refine cAn (H1.out _) fun x4 hbx=>?_;obtain⟨hTx,hcx,hfx⟩:=bAn s3 hbx))) | fail
  go_wp2_with fail;replace zA:=zHl hTx zA;have hBo:=HF.out _ hTx;clear HF hcx hfx hTx;have HF:=hFF hBo;clear hBo
  first | (go_region_held3 (fun w'=>(∀ j,w'.cell? ⟨A,j,none⟩=([Bv neg,Sg a,Sg d]:List Value)[j]?))
   (first | go_keep | ((repeat' apply And.intro)<;>first | assumption | exact yA | exact fun j=>(hcx A j (by assumption)).trans (yA j) | (rw[hcx _ _ (by assumption)];assumption))) (first
   | (go_at_call 235;refine cAn (H2.out _) fun x5 hbx=>?_;obtain⟨hTx,hcx,hfx⟩:=bAn x4 hbx))) | fail
  all_goals go_wp2_with fail
  all_goals first | go_ret | go_ret2
  all_goals exact⟨rfl,HF.out _ (by assumption)⟩
 rw[ed] at h2;have H1:=zh h1;have H2:=zh h2;obtain⟨bl,hbl⟩:∃ bl:jW->Int,bl=fun t=>(Nt.blen (Nt.V t):Int):=⟨_,rfl⟩
 have HB:Hid (∀ (t:jW) (w:World),t.size<=140737488351232->Calls Tryz.prog 236 #[Sg t] w fun e w'=>e=.returned (I6 (bl t))/\Bl w w'):=fun t w ht=>by rw[hbl];exact b5w (a4f t w ht)
 have ba:bl a=(Nt.blen (Nt.V a):Int):=by rw[hbl]
 have bd:bl d=(Nt.blen (Nt.V d):Int):=by rw[hbl]
 have hri:a0y neg a d=true ↔ b8i ⟨neg,Nt.V a,Nt.V d⟩:=by rw[a1p];exact⟨fun h=>h.2.2,fun h=>⟨ea,ed,h⟩⟩
 clear h1 h2;by_cases eb:Nt.blen (Nt.V a)<=256/\Nt.blen (Nt.V d)<=256
 case neg =>
  have hr:a0y neg a d=false:=by
   cases hh:a0y neg a d with
   | false=>rfl
   | true=>exact absurd ⟨(hri.1 hh).2.2.1,(hri.1 hh).2.2.2.1⟩ eb
  rw[hr];generalize Nt.blen (Nt.V a)=x at *;generalize Nt.blen (Nt.V d)=y at *;have hmx:256<max (bl a) (bl d):=by rw[ba,bd];omega
  clear hri hr ea ed hbl ba bd eb;go_enter Tryz.func223,Tryz.ntmps223;go_wp2_with fail;obtain⟨s6,A,hws,hdA,hsz,zA⟩:=nm1 w (.cells #[Bv neg,Sg a,Sg d] 52);have yA:=by0 (b:=A) hws hdA;have hBo:=bs1 bR hws;rw[<-hws];try rw[<-hdA]
  clear hws hsz hdA;have HF:=hFF hBo;clear hBo
  first | (go_region_held3 (fun w'=>(∀ j,w'.cell? ⟨A,j,none⟩=([Bv neg,Sg a,Sg d]:List Value)[j]?))
   (first | go_keep | ((repeat' apply And.intro)<;>first | assumption | exact yA | exact fun j=>(hcx A j (by assumption)).trans (yA j) | (rw[hcx _ _ (by assumption)];assumption))) (first
   | (go_at_call 235;refine cAn (H1.out _) fun x7 hbx=>?_;obtain⟨hTx,hcx,hfx⟩:=bAn s6 hbx))) | fail
  go_wp2_with fail;replace yA:=fun j=>(hcx A j zA).trans (yA j)
  replace zA:=zHl hTx zA;have hBo:=HF.out _ hTx;clear HF hcx hfx hTx;have HF:=hFF hBo;clear hBo
  first | (go_region_held3 (fun w'=>(∀ j,w'.cell? ⟨A,j,none⟩=([Bv neg,Sg a,Sg d]:List Value)[j]?))
   (first | go_keep | ((repeat' apply And.intro)<;>first | assumption | exact yA | exact fun j=>(hcx A j (by assumption)).trans (yA j) | (rw[hcx _ _ (by assumption)];assumption))) (first
   | (go_at_call 235;refine cAn (H2.out _) fun x8 hbx=>?_;obtain⟨hTx,hcx,hfx⟩:=bAn x7 hbx))) | fail
  go_wp2_with fail;replace yA:=fun j=>(hcx A j zA).trans (yA j)
  replace zA:=zHl hTx zA;have hBo:=HF.out _ hTx;clear HF hcx hfx hTx;have HF:=hFF hBo;clear hBo
  first | (go_region_held3 (fun w'=>(∀ j,w'.cell? ⟨A,j,none⟩=([Bv neg,Sg a,Sg d]:List Value)[j]?))
   (first | go_keep | ((repeat' apply And.intro)<;>first | assumption | exact yA | exact fun j=>(hcx A j (by assumption)).trans (yA j) | (rw[hcx _ _ (by assumption)];assumption))) (first
   | (go_at_call 236;refine cAn (HB.out _ _ (by omega)) fun x9 hbx=>?_;obtain⟨hTx,hcx,hfx⟩:=bAn x8 hbx))) | fail
  all_goals go_wp2_with fail
  all_goals first | go_ret | go_ret2
  all_goals exact⟨rfl,HF.out _ (by assumption)⟩
 obtain⟨eb1,eb2⟩:=eb;have hmx : ¬ 256<max (bl a) (bl d):=by rw[ba,bd];omega
 have hsa:a.size<=32:=by rw[<-ea];exact a4a eb1
 have hsd:d.size<=32:=by rw[<-ed];exact a4a eb2
 by_cases a0:Nt.V a=0
 case pos =>
  have hae:a=⟨#[]⟩:=by rw[<-ea,a0];rfl
  have hr:a0y neg a d=(!neg&&decide (d=⟨#[1]⟩)):=by
   rw[Bool.eq_iff_iff,hri,a0];simp only[b8i,Nat.gcd_zero_left,Bool.and_eq_true,Bool.not_eq_true',decide_eq_true_eq];constructor
   ·
    rintro ⟨_,h1,_,_,h2⟩;exact⟨h2 trivial,by rw[<-ed,h1];decide⟩
   ·
    rintro ⟨h1,h2⟩;rw[h2];exact⟨by decide,by decide,by decide,by decide,fun _=>h1⟩
  rw[hr];subst hae;clear hri hr ea ed hbl ba bd eb1 eb2 a0 hsa hsd
  cases neg
  ·
   by_cases hd1:d=⟨#[1]⟩
   ·
    subst hd1;go_enter Tryz.func223,Tryz.ntmps223;go_wp2_with fail;obtain⟨s10,A,hws,hdA,hsz,zA⟩:=nm1 w (.cells #[Bv false,S0,Sg ⟨#[1]⟩] 52);have yA:=by0 (b:=A) hws hdA;have hBo:=bs1 bR hws;rw[<-hws];try rw[<-hdA]
    clear hws hsz hdA;have HF:=hFF hBo;clear hBo
    first | (go_region_held3 (fun w'=>(∀ j,w'.cell? ⟨A,j,none⟩=([Bv false,S0,Sg ⟨#[1]⟩]:List Value)[j]?))
     (first | go_keep | ((repeat' apply And.intro)<;>first | assumption | exact yA | exact fun j=>(hcx A j (by assumption)).trans (yA j) | (rw[hcx _ _ (by assumption)];assumption))) (first
     | (go_at_call 235;refine cAn (H1.out _) fun x11 hbx=>?_;obtain⟨hTx,hcx,hfx⟩:=bAn s10 hbx))) | fail
    go_wp2_with fail;replace yA:=fun j=>(hcx A j zA).trans (yA j)
    replace zA:=zHl hTx zA;have hBo:=HF.out _ hTx;clear HF hcx hfx hTx;have HF:=hFF hBo;clear hBo
    first | (go_region_held3 (fun w'=>(∀ j,w'.cell? ⟨A,j,none⟩=([Bv false,S0,Sg ⟨#[1]⟩]:List Value)[j]?))
     (first | go_keep | ((repeat' apply And.intro)<;>first | assumption | exact yA | exact fun j=>(hcx A j (by assumption)).trans (yA j) | (rw[hcx _ _ (by assumption)];assumption))) (first
     | (go_at_call 235;refine cAn (H2.out _) fun x12 hbx=>?_;obtain⟨hTx,hcx,hfx⟩:=bAn x11 hbx))) | fail
    go_wp2_with fail;replace yA:=fun j=>(hcx A j zA).trans (yA j)
    replace zA:=zHl hTx zA;have hBo:=HF.out _ hTx;clear HF hcx hfx hTx;have HF:=hFF hBo;clear hBo
    first | (go_region_held3 (fun w'=>(∀ j,w'.cell? ⟨A,j,none⟩=([Bv false,S0,Sg ⟨#[1]⟩]:List Value)[j]?))
     (first | go_keep | ((repeat' apply And.intro)<;>first | assumption | exact yA | exact fun j=>(hcx A j (by assumption)).trans (yA j) | (rw[hcx _ _ (by assumption)];assumption))) (first
     | (go_at_call 236;refine cAn (HB.out _ _ (by omega)) fun x13 hbx=>?_;obtain⟨hTx,hcx,hfx⟩:=bAn x12 hbx))) | fail
    all_goals go_wp2_with fail
    all_goals first | go_ret | go_ret2
    all_goals exact⟨rfl,HF.out _ (by assumption)⟩
   ·
    have hn:=a4y hd1;have hdd:=jE hd1;rw[hdd];simp only[Bool.and_false];clear hd1 hdd;go_enter Tryz.func223,Tryz.ntmps223;go_wp2_with fail;obtain⟨s14,A,hws,hdA,hsz,zA⟩:=nm1 w (.cells #[Bv false,S0,Sg d] 52);have yA:=by0 (b:=A) hws hdA;have hBo:=bs1 bR hws;rw[<-hws];try rw[<-hdA]
    clear hws hsz hdA;have HF:=hFF hBo;clear hBo
    first | (go_region_held3 (fun w'=>(∀ j,w'.cell? ⟨A,j,none⟩=([Bv false,S0,Sg d]:List Value)[j]?))
     (first | go_keep | ((repeat' apply And.intro)<;>first | assumption | exact yA | exact fun j=>(hcx A j (by assumption)).trans (yA j) | (rw[hcx _ _ (by assumption)];assumption))) (first
     | (go_at_call 235;refine cAn (H1.out _) fun x15 hbx=>?_;obtain⟨hTx,hcx,hfx⟩:=bAn s14 hbx))) | fail
    go_wp2_with fail;replace yA:=fun j=>(hcx A j zA).trans (yA j)
    replace zA:=zHl hTx zA;have hBo:=HF.out _ hTx;clear HF hcx hfx hTx;have HF:=hFF hBo;clear hBo
    first | (go_region_held3 (fun w'=>(∀ j,w'.cell? ⟨A,j,none⟩=([Bv false,S0,Sg d]:List Value)[j]?))
     (first | go_keep | ((repeat' apply And.intro)<;>first | assumption | exact yA | exact fun j=>(hcx A j (by assumption)).trans (yA j) | (rw[hcx _ _ (by assumption)];assumption))) (first
     | (go_at_call 235;refine cAn (H2.out _) fun x16 hbx=>?_;obtain⟨hTx,hcx,hfx⟩:=bAn x15 hbx))) | fail
    go_wp2_with fail;replace yA:=fun j=>(hcx A j zA).trans (yA j)
    replace zA:=zHl hTx zA;have hBo:=HF.out _ hTx;clear HF hcx hfx hTx;have HF:=hFF hBo;clear hBo
    first | (go_region_held3 (fun w'=>(∀ j,w'.cell? ⟨A,j,none⟩=([Bv false,S0,Sg d]:List Value)[j]?))
     (first | go_keep | ((repeat' apply And.intro)<;>first | assumption | exact yA | exact fun j=>(hcx A j (by assumption)).trans (yA j) | (rw[hcx _ _ (by assumption)];assumption))) (first
     | (go_at_call 236;refine cAn (HB.out _ _ (by omega)) fun x17 hbx=>?_;obtain⟨hTx,hcx,hfx⟩:=bAn x16 hbx))) | fail
    all_goals go_wp2_with fail
    all_goals first | go_ret | go_ret2
    all_goals exact⟨rfl,HF.out _ (by assumption)⟩
  ·
   simp only[Bool.not_true,Bool.false_and];go_enter Tryz.func223,Tryz.ntmps223;go_wp2_with fail;obtain⟨s18,A,hws,hdA,hsz,zA⟩:=nm1 w (.cells #[Bv true,S0,Sg d] 52);have yA:=by0 (b:=A) hws hdA;have hBo:=bs1 bR hws;rw[<-hws];try rw[<-hdA]
   clear hws hsz hdA;have HF:=hFF hBo;clear hBo
   first | (go_region_held3 (fun w'=>(∀ j,w'.cell? ⟨A,j,none⟩=([Bv true,S0,Sg d]:List Value)[j]?))
    (first | go_keep | ((repeat' apply And.intro)<;>first | assumption | exact yA | exact fun j=>(hcx A j (by assumption)).trans (yA j) | (rw[hcx _ _ (by assumption)];assumption))) (first
    | (go_at_call 235;refine cAn (H1.out _) fun x19 hbx=>?_;obtain⟨hTx,hcx,hfx⟩:=bAn s18 hbx))) | fail
   go_wp2_with fail;replace yA:=fun j=>(hcx A j zA).trans (yA j)
   replace zA:=zHl hTx zA;have hBo:=HF.out _ hTx;clear HF hcx hfx hTx;have HF:=hFF hBo;clear hBo
   first | (go_region_held3 (fun w'=>(∀ j,w'.cell? ⟨A,j,none⟩=([Bv true,S0,Sg d]:List Value)[j]?))
    (first | go_keep | ((repeat' apply And.intro)<;>first | assumption | exact yA | exact fun j=>(hcx A j (by assumption)).trans (yA j) | (rw[hcx _ _ (by assumption)];assumption))) (first
    | (go_at_call 235;refine cAn (H2.out _) fun x20 hbx=>?_;obtain⟨hTx,hcx,hfx⟩:=bAn x19 hbx))) | fail
   go_wp2_with fail;replace yA:=fun j=>(hcx A j zA).trans (yA j)
   replace zA:=zHl hTx zA;have hBo:=HF.out _ hTx;clear HF hcx hfx hTx;have HF:=hFF hBo;clear hBo
   first | (go_region_held3 (fun w'=>(∀ j,w'.cell? ⟨A,j,none⟩=([Bv true,S0,Sg d]:List Value)[j]?))
    (first | go_keep | ((repeat' apply And.intro)<;>first | assumption | exact yA | exact fun j=>(hcx A j (by assumption)).trans (yA j) | (rw[hcx _ _ (by assumption)];assumption))) (first
    | (go_at_call 236;refine cAn (HB.out _ _ (by omega)) fun x21 hbx=>?_;obtain⟨hTx,hcx,hfx⟩:=bAn x20 hbx))) | fail
   all_goals go_wp2_with fail
   all_goals first | go_ret | go_ret2
   all_goals exact⟨rfl,HF.out _ (by assumption)⟩
 have hna:=a2h _ a0;rw[ea] at hna;have hna2:a.toList.isEmpty=false:=by simpa using hna
 by_cases d0:Nt.V d=0
 case pos =>
  have hde:d=⟨#[]⟩:=by rw[<-ed,d0];rfl
  have hr:a0y neg a d=false:=by
   cases hh:a0y neg a d with
   | false=>rfl
   | true=>exact absurd d0 (hri.1 hh).1
  rw[hr];subst hde;clear hri hr ea ed hbl ba bd eb1 eb2 a0 hsa hsd d0;go_enter Tryz.func223,Tryz.ntmps223;go_wp2_with fail;obtain⟨s22,A,hws,hdA,hsz,zA⟩:=nm1 w (.cells #[Bv neg,Sg a,S0] 52);have yA:=by0 (b:=A) hws hdA;have hBo:=bs1 bR hws;rw[<-hws];try rw[<-hdA]
  clear hws hsz hdA;have HF:=hFF hBo;clear hBo
  first | (go_region_held3 (fun w'=>(∀ j,w'.cell? ⟨A,j,none⟩=([Bv neg,Sg a,S0]:List Value)[j]?))
   (first | go_keep | ((repeat' apply And.intro)<;>first | assumption | exact yA | exact fun j=>(hcx A j (by assumption)).trans (yA j) | (rw[hcx _ _ (by assumption)];assumption))) (first
   | (go_at_call 235;refine cAn (H1.out _) fun x23 hbx=>?_;obtain⟨hTx,hcx,hfx⟩:=bAn s22 hbx))) | fail
  go_wp2_with fail;replace yA:=fun j=>(hcx A j zA).trans (yA j)
  replace zA:=zHl hTx zA;have hBo:=HF.out _ hTx;clear HF hcx hfx hTx;have HF:=hFF hBo;clear hBo
  first | (go_region_held3 (fun w'=>(∀ j,w'.cell? ⟨A,j,none⟩=([Bv neg,Sg a,S0]:List Value)[j]?))
   (first | go_keep | ((repeat' apply And.intro)<;>first | assumption | exact yA | exact fun j=>(hcx A j (by assumption)).trans (yA j) | (rw[hcx _ _ (by assumption)];assumption))) (first
   | (go_at_call 235;refine cAn (H2.out _) fun x24 hbx=>?_;obtain⟨hTx,hcx,hfx⟩:=bAn x23 hbx))) | fail
  go_wp2_with fail;replace yA:=fun j=>(hcx A j zA).trans (yA j)
  replace zA:=zHl hTx zA;have hBo:=HF.out _ hTx;clear HF hcx hfx hTx;have HF:=hFF hBo;clear hBo
  first | (go_region_held3 (fun w'=>(∀ j,w'.cell? ⟨A,j,none⟩=([Bv neg,Sg a,S0]:List Value)[j]?))
   (first | go_keep | ((repeat' apply And.intro)<;>first | assumption | exact yA | exact fun j=>(hcx A j (by assumption)).trans (yA j) | (rw[hcx _ _ (by assumption)];assumption))) (first
   | (go_at_call 236;refine cAn (HB.out _ _ (by omega)) fun x25 hbx=>?_;obtain⟨hTx,hcx,hfx⟩:=bAn x24 hbx))) | fail
  all_goals go_wp2_with fail
  all_goals first | go_ret | go_ret2
  all_goals exact⟨rfl,HF.out _ (by assumption)⟩
 have hnd:=a2h _ d0;rw[ed] at hnd;have hnd2:d.toList.isEmpty=false:=by simpa using hnd
 have hg:=fun w=>c8r c1r a d w (by omega) (by omega)
 have hr:a0y neg a d=decide (Nat.gcd (Nt.V a) (Nt.V d)=1):=by
  rw[Bool.eq_iff_iff,hri];simp only[b8i,decide_eq_true_eq];exact⟨fun h=>h.2.1,fun h=>⟨d0,h,eb1,eb2,fun h=>absurd h a0⟩⟩
 rw[hr];by_cases g1:Nat.gcd (Nt.V a) (Nt.V d)=1
 case pos =>
  rw[g1,show Nt.E 1=⟨#[1]⟩ from by decide] at hg;rw[jD g1];have HG:=zh hg;clear hri hr ea ed hbl ba bd eb1 eb2 a0 hsa hsd d0 g1 hg;go_enter Tryz.func223,Tryz.ntmps223;go_wp2_with fail;obtain⟨s26,A,hws,hdA,hsz,zA⟩:=nm1 w (.cells #[Bv neg,Sg a,Sg d] 52);have yA:=by0 (b:=A) hws hdA;have hBo:=bs1 bR hws;rw[<-hws];try rw[<-hdA]
  clear hws hsz hdA;have HF:=hFF hBo;clear hBo
  first | (go_region_held3 (fun w'=>(∀ j,w'.cell? ⟨A,j,none⟩=([Bv neg,Sg a,Sg d]:List Value)[j]?))
   (first | go_keep | ((repeat' apply And.intro)<;>first | assumption | exact yA | exact fun j=>(hcx A j (by assumption)).trans (yA j) | (rw[hcx _ _ (by assumption)];assumption))) (first
   | (go_at_call 235;refine cAn (H1.out _) fun x27 hbx=>?_;obtain⟨hTx,hcx,hfx⟩:=bAn s26 hbx))) | fail
  go_wp2_with fail;replace yA:=fun j=>(hcx A j zA).trans (yA j)
  replace zA:=zHl hTx zA;have hBo:=HF.out _ hTx;clear HF hcx hfx hTx;have HF:=hFF hBo;clear hBo
  first | (go_region_held3 (fun w'=>(∀ j,w'.cell? ⟨A,j,none⟩=([Bv neg,Sg a,Sg d]:List Value)[j]?))
   (first | go_keep | ((repeat' apply And.intro)<;>first | assumption | exact yA | exact fun j=>(hcx A j (by assumption)).trans (yA j) | (rw[hcx _ _ (by assumption)];assumption))) (first
   | (go_at_call 235;refine cAn (H2.out _) fun x28 hbx=>?_;obtain⟨hTx,hcx,hfx⟩:=bAn x27 hbx))) | fail
  go_wp2_with fail;replace yA:=fun j=>(hcx A j zA).trans (yA j)
  replace zA:=zHl hTx zA;have hBo:=HF.out _ hTx;clear HF hcx hfx hTx;have HF:=hFF hBo;clear hBo
  first | (go_region_held3 (fun w'=>(∀ j,w'.cell? ⟨A,j,none⟩=([Bv neg,Sg a,Sg d]:List Value)[j]?))
   (first | go_keep | ((repeat' apply And.intro)<;>first | assumption | exact yA | exact fun j=>(hcx A j (by assumption)).trans (yA j) | (rw[hcx _ _ (by assumption)];assumption))) (first
   | (go_at_call 236;refine cAn (HB.out _ _ (by omega)) fun x29 hbx=>?_;obtain⟨hTx,hcx,hfx⟩:=bAn x28 hbx))) | fail
  go_wp2_with fail;have hBo:=HF.out _ hTx;clear HF hcx hfx hTx;refine cAn (HG.out _) fun s30 hb=>?_
  replace hBo:=bT hBo hb;clear hb
  all_goals go_wp2_with fail
  all_goals first | go_ret | go_ret2
  all_goals exact⟨rfl,hBo⟩
 ·
  have hn1:Nt.E (Nat.gcd (Nt.V a) (Nt.V d))≠⟨#[1]⟩:=fun h=>g1 (by
   have:=Nt.V_E (Nat.gcd (Nt.V a) (Nt.V d));rw[h] at this
   exact this.symm.trans (by decide))
  have hn:=a4y hn1;rw[jE g1];generalize Nt.E (Nat.gcd (Nt.V a) (Nt.V d))=g at *;have HG:=zh hg;clear hri hr ea ed hbl ba bd eb1 eb2 a0 hsa hsd d0 g1 hg hn1;go_enter Tryz.func223,Tryz.ntmps223;go_wp2_with fail;obtain⟨s31,A,hws,hdA,hsz,zA⟩:=nm1 w (.cells #[Bv neg,Sg a,Sg d] 52);have yA:=by0 (b:=A) hws hdA;have hBo:=bs1 bR hws;rw[<-hws];try rw[<-hdA]
  clear hws hsz hdA;have HF:=hFF hBo;clear hBo
  first | (go_region_held3 (fun w'=>(∀ j,w'.cell? ⟨A,j,none⟩=([Bv neg,Sg a,Sg d]:List Value)[j]?))
   (first | go_keep | ((repeat' apply And.intro)<;>first | assumption | exact yA | exact fun j=>(hcx A j (by assumption)).trans (yA j) | (rw[hcx _ _ (by assumption)];assumption))) (first
   | (go_at_call 235;refine cAn (H1.out _) fun x32 hbx=>?_;obtain⟨hTx,hcx,hfx⟩:=bAn s31 hbx))) | fail
  go_wp2_with fail;replace yA:=fun j=>(hcx A j zA).trans (yA j)
  replace zA:=zHl hTx zA;have hBo:=HF.out _ hTx;clear HF hcx hfx hTx;have HF:=hFF hBo;clear hBo
  first | (go_region_held3 (fun w'=>(∀ j,w'.cell? ⟨A,j,none⟩=([Bv neg,Sg a,Sg d]:List Value)[j]?))
   (first | go_keep | ((repeat' apply And.intro)<;>first | assumption | exact yA | exact fun j=>(hcx A j (by assumption)).trans (yA j) | (rw[hcx _ _ (by assumption)];assumption))) (first
   | (go_at_call 235;refine cAn (H2.out _) fun x33 hbx=>?_;obtain⟨hTx,hcx,hfx⟩:=bAn x32 hbx))) | fail
  go_wp2_with fail;replace yA:=fun j=>(hcx A j zA).trans (yA j)
  replace zA:=zHl hTx zA;have hBo:=HF.out _ hTx;clear HF hcx hfx hTx;have HF:=hFF hBo;clear hBo
  first | (go_region_held3 (fun w'=>(∀ j,w'.cell? ⟨A,j,none⟩=([Bv neg,Sg a,Sg d]:List Value)[j]?))
   (first | go_keep | ((repeat' apply And.intro)<;>first | assumption | exact yA | exact fun j=>(hcx A j (by assumption)).trans (yA j) | (rw[hcx _ _ (by assumption)];assumption))) (first
   | (go_at_call 236;refine cAn (HB.out _ _ (by omega)) fun x34 hbx=>?_;obtain⟨hTx,hcx,hfx⟩:=bAn x33 hbx))) | fail
  go_wp2_with fail;have hBo:=HF.out _ hTx;clear HF hcx hfx hTx;refine cAn (HG.out _) fun s35 hb=>?_
  replace hBo:=bT hBo hb;clear hb
  all_goals go_wp2_with fail
  all_goals first | go_ret | go_ret2
  all_goals exact⟨rfl,hBo⟩
end Go.Proofs.YtibiacmbljgmhaaGreatDoor
