import Derived.Test.YtjfkbeanbbeloaaGreatDoorWhole1
set_option maxHeartbeats 8000000
set_option maxRecDepth 100000
namespace Go.Proofs.YtjfkbeanbbeloaaGreatDoor
open Go.RowKit Go.Shelf
set_option linter.unusedSimpArgs false
set_option linter.unusedVariables false
structure Rt where
 neg:Bool
 num:Nat
 den:Nat
def rb (r:Rt):Bool:=r.neg
def rn (r:Rt):ByteArray:=Nt.E r.num
def rd (r:Rt):ByteArray:=Nt.E r.den
def b8i (r:Rt):Prop:=r.den≠0∧Nat.gcd r.num r.den=1∧Nt.blen r.num≤256∧Nt.blen r.den≤256∧(r.num=0→r.neg=false)
instance (r:Rt):Decidable (b8i r):=by unfold b8i;infer_instance
def a0y (neg:Bool) (a d:ByteArray):Bool:=decide (Nt.E (Nt.V a)=a∧Nt.E (Nt.V d)=d∧b8i ⟨neg,Nt.V a,Nt.V d⟩)
def wl (neg:Bool) (a d:ByteArray):Rt:=if a0y neg a d then ⟨neg,Nt.V a,Nt.V d⟩ else ⟨false,0,1⟩
theorem a1p (neg:Bool) (a d:ByteArray):a0y neg a d=true ↔ (Nt.E (Nt.V a)=a∧Nt.E (Nt.V d)=d∧b8i ⟨neg,Nt.V a,Nt.V d⟩):=by unfold a0y;simp
theorem c9n (neg:Bool) (a d:ByteArray):b8i (wl neg a d):=by
 unfold wl;by_cases h:a0y neg a d=true
 ·
  rw [if_pos h];exact ((a1p _ _ _).1 h).2.2
 ·
  rw [if_neg h];decide
theorem c4l {neg:Bool} {a d:ByteArray} (h:a0y neg a d=true):rb (wl neg a d)=neg∧rn (wl neg a d)=a∧rd (wl neg a d)=d:=by
 obtain ⟨h1,h2,_⟩:=(a1p _ _ _).1 h;unfold wl rb rn rd;rw [if_pos h];exact ⟨rfl,h1,h2⟩
theorem c4m {neg:Bool} {a d:ByteArray} (h:a0y neg a d=false):rb (wl neg a d)=false∧rn (wl neg a d)=⟨#[]⟩∧rd (wl neg a d)=⟨#[1]⟩:=by
 unfold wl rb rn rd;rw [if_neg (by rw [h];decide)];exact ⟨rfl,by decide,by decide⟩
theorem a2j {a b:ByteArray} (h:a≠b):(a.toList == b.toList)=false:=by
 cases hh:(a.toList == b.toList) with
 | false => rfl
 | true =>
  have e:a.toList=b.toList:=by simpa using hh
  exact absurd (c8t a b (by rw [← ByteArray.toList_eq,← ByteArray.toList_eq,e])) h
theorem a4a {n:Nat} (h:Nt.blen n≤256):(Nt.E n).size≤32:=by
 by_cases h0:0 < (Nt.E n).size
 ·
  have ht:=Nt.blen_top n h0;have hh:=Nt.E_head n h0
  have:1≤Nt.blen ((Nt.E n)[0]'h0).toNat:=by
   unfold Nt.blen;rw [if_neg hh];omega
  omega
 ·
  omega
theorem a4y {d:ByteArray} (h:d≠⟨#[1]⟩):(d.toList == [1])=false:=by
 have:=a2j h
 rwa [show (⟨#[1]⟩:ByteArray).toList=[1] from by rw [ByteArray.toList_eq]] at this
theorem a7d (neg:Bool) (a d:ByteArray) (w:World) (ha:a.size≤140737488351232) (hd:d.size≤140737488351232) :
  Calls Tryz.prog 67 #[.agg #[.bool neg,.string a,.string d]] w fun e w' => e=.returned (.bool (a0y neg a d))∧Below w.heap.size w w':=by
 have h1:=fun w => b5w (a0v a w)
 have h2:=fun w => b5w (a0v d w)
 by_cases ea:Nt.E (Nt.V a)=a
 case neg =>
  have hr:a0y neg a d=false:=by
   cases hh:a0y neg a d with
   | false => rfl
   | true => exact absurd ((a1p _ _ _).1 hh).1 ea
  rw [hr];have hn:=a2j ea;generalize Nt.E (Nt.V a)=t at *;have H1:=zh h1;clear hr h1 h2 ea ha hd;go_enter Tryz.func67,Tryz.ntmps67;go_wp2_with fail;obtain ⟨s1,hws⟩:∃ s,s=(w.alloc (.cells #[.bool neg,.string a,.string d] 26)):=⟨_,rfl⟩;have hBs:=bs1 (Below.refl w.heap.size w) hws;obtain ⟨A,hdA⟩:∃ b,b=w.heap.size:=⟨_,rfl⟩;have hsz:s1.heap.size=w.heap.size+1:=by rw [hws];simp
  have yA:=by0 (b:=A) hws hdA;have zA:A < s1.heap.size:=by omega
  have lA:w.heap.size≤A:=by omega
  rw [← hws];try rw [← hdA]
  clear hws hsz hdA;have hBo:=hBs;clear hBs;have HF:Hid (∀ W,Below s1.heap.size s1 W→Below w.heap.size w W):=fun W hW => hBo.trans (hW.mono hBo.size)
  clear hBo
  first | (go_region_held3 (fun w' => (∀ j,w'.cell? ⟨A,j,none⟩=([.bool neg,.string a,.string d]:List Value)[j]?))
   (first | go_keep | ((repeat' apply And.intro) <;> first | assumption | exact yA | exact fun j => (hcx A j (by assumption)).trans (yA j) | (rw [hcx _ _ (by assumption)];assumption))) (first
   | (go_at_call 89;refine (H1.out _).mono ?_;rintro e x2 ⟨rfl,hbx⟩;have hTx:Below s1.heap.size s1 x2:=bHb hbx;obtain ⟨hcx,hfx⟩:=a0k hTx))) | fail
  all_goals go_wp2_with fail
  all_goals first | go_ret | go_ret2
  all_goals exact ⟨rfl,HF.out _ (by assumption)⟩
 rw [ea] at h1;by_cases ed:Nt.E (Nt.V d)=d
 case neg =>
  have hr:a0y neg a d=false:=by
   cases hh:a0y neg a d with
   | false => rfl
   | true => exact absurd ((a1p _ _ _).1 hh).2.1 ed
  rw [hr];have hn:=a2j ed;generalize Nt.E (Nt.V d)=t at *;have H1:=zh h1;have H2:=zh h2;clear hr h1 h2 ea ha hd ed;go_enter Tryz.func67,Tryz.ntmps67;go_wp2_with fail;obtain ⟨s3,hws⟩:∃ s,s=(w.alloc (.cells #[.bool neg,.string a,.string d] 26)):=⟨_,rfl⟩;have hBs:=bs1 (Below.refl w.heap.size w) hws;obtain ⟨A,hdA⟩:∃ b,b=w.heap.size:=⟨_,rfl⟩;have hsz:s3.heap.size=w.heap.size+1:=by rw [hws];simp
  have yA:=by0 (b:=A) hws hdA;have zA:A < s3.heap.size:=by omega
  have lA:w.heap.size≤A:=by omega
  rw [← hws];try rw [← hdA]
  clear hws hsz hdA;have hBo:=hBs;clear hBs;have HF:Hid (∀ W,Below s3.heap.size s3 W→Below w.heap.size w W):=fun W hW => hBo.trans (hW.mono hBo.size)
  clear hBo
  first | (go_region_held3 (fun w' => (∀ j,w'.cell? ⟨A,j,none⟩=([.bool neg,.string a,.string d]:List Value)[j]?))
   (first | go_keep | ((repeat' apply And.intro) <;> first | assumption | exact yA | exact fun j => (hcx A j (by assumption)).trans (yA j) | (rw [hcx _ _ (by assumption)];assumption))) (first
   | (go_at_call 89;refine (H1.out _).mono ?_;rintro e x4 ⟨rfl,hbx⟩;have hTx:Below s3.heap.size s3 x4:=bHb hbx;obtain ⟨hcx,hfx⟩:=a0k hTx))) | fail
  go_wp2_with fail;replace yA:=fun j => (hcx A j zA).trans (yA j)
  replace zA:=zHl hTx zA;have hBo:=HF.out _ hTx;clear HF hcx hfx hTx;have HF:Hid (∀ W,Below x4.heap.size x4 W→Below w.heap.size w W):=fun W hW => hBo.trans (hW.mono hBo.size)
  clear hBo
  first | (go_region_held3 (fun w' => (∀ j,w'.cell? ⟨A,j,none⟩=([.bool neg,.string a,.string d]:List Value)[j]?))
   (first | go_keep | ((repeat' apply And.intro) <;> first | assumption | exact yA | exact fun j => (hcx A j (by assumption)).trans (yA j) | (rw [hcx _ _ (by assumption)];assumption))) (first
   | (go_at_call 89;refine (H2.out _).mono ?_;rintro e x5 ⟨rfl,hbx⟩;have hTx:Below x4.heap.size x4 x5:=bHb hbx;obtain ⟨hcx,hfx⟩:=a0k hTx))) | fail
  all_goals go_wp2_with fail
  all_goals first | go_ret | go_ret2
  all_goals exact ⟨rfl,HF.out _ (by assumption)⟩
 rw [ed] at h2;have H1:=zh h1;have H2:=zh h2;obtain ⟨bl,hbl⟩:∃ bl:ByteArray→Int,bl=fun t => (Nt.blen (Nt.V t):Int):=⟨_,rfl⟩
 have HB:Hid (∀ (t:ByteArray) (w:World),t.size≤140737488351232→Calls Tryz.prog 90 #[.string t] w fun e w' => e=.returned (.int .i64 (bl t))∧Below w.heap.size w w'):=fun t w ht => by rw [hbl];exact b5w (a4f t w ht)
 have ba:bl a=(Nt.blen (Nt.V a):Int):=by rw [hbl]
 have bd:bl d=(Nt.blen (Nt.V d):Int):=by rw [hbl]
 have hri:a0y neg a d=true ↔ b8i ⟨neg,Nt.V a,Nt.V d⟩:=by rw [a1p];exact ⟨fun h => h.2.2,fun h => ⟨ea,ed,h⟩⟩
 clear h1 h2;by_cases eb:Nt.blen (Nt.V a)≤256∧Nt.blen (Nt.V d)≤256
 case neg =>
  have hr:a0y neg a d=false:=by
   cases hh:a0y neg a d with
   | false => rfl
   | true => exact absurd ⟨(hri.1 hh).2.2.1,(hri.1 hh).2.2.2.1⟩ eb
  rw [hr];generalize Nt.blen (Nt.V a)=x at *;generalize Nt.blen (Nt.V d)=y at *;have hmx:256 < max (bl a) (bl d):=by rw [ba,bd];omega
  clear hri hr ea ed hbl ba bd eb;go_enter Tryz.func67,Tryz.ntmps67;go_wp2_with fail;obtain ⟨s6,hws⟩:∃ s,s=(w.alloc (.cells #[.bool neg,.string a,.string d] 26)):=⟨_,rfl⟩;have hBs:=bs1 (Below.refl w.heap.size w) hws;obtain ⟨A,hdA⟩:∃ b,b=w.heap.size:=⟨_,rfl⟩;have hsz:s6.heap.size=w.heap.size+1:=by rw [hws];simp
  have yA:=by0 (b:=A) hws hdA;have zA:A < s6.heap.size:=by omega
  have lA:w.heap.size≤A:=by omega
  rw [← hws];try rw [← hdA]
  clear hws hsz hdA;have hBo:=hBs;clear hBs;have HF:Hid (∀ W,Below s6.heap.size s6 W→Below w.heap.size w W):=fun W hW => hBo.trans (hW.mono hBo.size)
  clear hBo
  first | (go_region_held3 (fun w' => (∀ j,w'.cell? ⟨A,j,none⟩=([.bool neg,.string a,.string d]:List Value)[j]?))
   (first | go_keep | ((repeat' apply And.intro) <;> first | assumption | exact yA | exact fun j => (hcx A j (by assumption)).trans (yA j) | (rw [hcx _ _ (by assumption)];assumption))) (first
   | (go_at_call 89;refine (H1.out _).mono ?_;rintro e x7 ⟨rfl,hbx⟩;have hTx:Below s6.heap.size s6 x7:=bHb hbx;obtain ⟨hcx,hfx⟩:=a0k hTx))) | fail
  go_wp2_with fail;replace yA:=fun j => (hcx A j zA).trans (yA j)
  replace zA:=zHl hTx zA;have hBo:=HF.out _ hTx;clear HF hcx hfx hTx;have HF:Hid (∀ W,Below x7.heap.size x7 W→Below w.heap.size w W):=fun W hW => hBo.trans (hW.mono hBo.size)
  clear hBo
  first | (go_region_held3 (fun w' => (∀ j,w'.cell? ⟨A,j,none⟩=([.bool neg,.string a,.string d]:List Value)[j]?))
   (first | go_keep | ((repeat' apply And.intro) <;> first | assumption | exact yA | exact fun j => (hcx A j (by assumption)).trans (yA j) | (rw [hcx _ _ (by assumption)];assumption))) (first
   | (go_at_call 89;refine (H2.out _).mono ?_;rintro e x8 ⟨rfl,hbx⟩;have hTx:Below x7.heap.size x7 x8:=bHb hbx;obtain ⟨hcx,hfx⟩:=a0k hTx))) | fail
  go_wp2_with fail;replace yA:=fun j => (hcx A j zA).trans (yA j)
  replace zA:=zHl hTx zA;have hBo:=HF.out _ hTx;clear HF hcx hfx hTx;have HF:Hid (∀ W,Below x8.heap.size x8 W→Below w.heap.size w W):=fun W hW => hBo.trans (hW.mono hBo.size)
  clear hBo
  first | (go_region_held3 (fun w' => (∀ j,w'.cell? ⟨A,j,none⟩=([.bool neg,.string a,.string d]:List Value)[j]?))
   (first | go_keep | ((repeat' apply And.intro) <;> first | assumption | exact yA | exact fun j => (hcx A j (by assumption)).trans (yA j) | (rw [hcx _ _ (by assumption)];assumption))) (first
   | (go_at_call 90;refine (HB.out _ _ (by omega)).mono ?_;rintro e x9 ⟨rfl,hbx⟩;have hTx:Below x8.heap.size x8 x9:=bHb hbx;obtain ⟨hcx,hfx⟩:=a0k hTx))) | fail
  all_goals go_wp2_with fail
  all_goals first | go_ret | go_ret2
  all_goals exact ⟨rfl,HF.out _ (by assumption)⟩
 obtain ⟨eb1,eb2⟩:=eb;have hmx : ¬ 256 < max (bl a) (bl d):=by rw [ba,bd];omega
 have hsa:a.size≤32:=by rw [← ea];exact a4a eb1
 have hsd:d.size≤32:=by rw [← ed];exact a4a eb2
 by_cases a0:Nt.V a=0
 case pos =>
  have hae:a=⟨#[]⟩:=by rw [← ea,a0];rfl
  have hr:a0y neg a d=(!neg && decide (d=⟨#[1]⟩)):=by
   rw [Bool.eq_iff_iff,hri,a0];simp only [b8i,Nat.gcd_zero_left,Bool.and_eq_true,Bool.not_eq_true',decide_eq_true_eq];constructor
   ·
    rintro ⟨_,h1,_,_,h2⟩;exact ⟨h2 trivial,by rw [← ed,h1];decide⟩
   ·
    rintro ⟨h1,h2⟩;rw [h2];exact ⟨by decide,by decide,by decide,by decide,fun _ => h1⟩
  rw [hr];subst hae;clear hri hr ea ed hbl ba bd eb1 eb2 a0 hsa hsd
  cases neg
  ·
   by_cases hd1:d=⟨#[1]⟩
   ·
    subst hd1;go_enter Tryz.func67,Tryz.ntmps67;go_wp2_with fail;obtain ⟨s10,hws⟩:∃ s,s=(w.alloc (.cells #[.bool false,.string ⟨#[]⟩,.string ⟨#[1]⟩] 26)):=⟨_,rfl⟩;have hBs:=bs1 (Below.refl w.heap.size w) hws;obtain ⟨A,hdA⟩:∃ b,b=w.heap.size:=⟨_,rfl⟩;have hsz:s10.heap.size=w.heap.size+1:=by rw [hws];simp
    have yA:=by0 (b:=A) hws hdA;have zA:A < s10.heap.size:=by omega
    have lA:w.heap.size≤A:=by omega
    rw [← hws];try rw [← hdA]
    clear hws hsz hdA;have hBo:=hBs;clear hBs;have HF:Hid (∀ W,Below s10.heap.size s10 W→Below w.heap.size w W):=fun W hW => hBo.trans (hW.mono hBo.size)
    clear hBo
    first | (go_region_held3 (fun w' => (∀ j,w'.cell? ⟨A,j,none⟩=([.bool false,.string ⟨#[]⟩,.string ⟨#[1]⟩]:List Value)[j]?))
     (first | go_keep | ((repeat' apply And.intro) <;> first | assumption | exact yA | exact fun j => (hcx A j (by assumption)).trans (yA j) | (rw [hcx _ _ (by assumption)];assumption))) (first
     | (go_at_call 89;refine (H1.out _).mono ?_;rintro e x11 ⟨rfl,hbx⟩;have hTx:Below s10.heap.size s10 x11:=bHb hbx;obtain ⟨hcx,hfx⟩:=a0k hTx))) | fail
    go_wp2_with fail;replace yA:=fun j => (hcx A j zA).trans (yA j)
    replace zA:=zHl hTx zA;have hBo:=HF.out _ hTx;clear HF hcx hfx hTx;have HF:Hid (∀ W,Below x11.heap.size x11 W→Below w.heap.size w W):=fun W hW => hBo.trans (hW.mono hBo.size)
    clear hBo
    first | (go_region_held3 (fun w' => (∀ j,w'.cell? ⟨A,j,none⟩=([.bool false,.string ⟨#[]⟩,.string ⟨#[1]⟩]:List Value)[j]?))
     (first | go_keep | ((repeat' apply And.intro) <;> first | assumption | exact yA | exact fun j => (hcx A j (by assumption)).trans (yA j) | (rw [hcx _ _ (by assumption)];assumption))) (first
     | (go_at_call 89;refine (H2.out _).mono ?_;rintro e x12 ⟨rfl,hbx⟩;have hTx:Below x11.heap.size x11 x12:=bHb hbx;obtain ⟨hcx,hfx⟩:=a0k hTx))) | fail
    go_wp2_with fail;replace yA:=fun j => (hcx A j zA).trans (yA j)
    replace zA:=zHl hTx zA;have hBo:=HF.out _ hTx;clear HF hcx hfx hTx;have HF:Hid (∀ W,Below x12.heap.size x12 W→Below w.heap.size w W):=fun W hW => hBo.trans (hW.mono hBo.size)
    clear hBo
    first | (go_region_held3 (fun w' => (∀ j,w'.cell? ⟨A,j,none⟩=([.bool false,.string ⟨#[]⟩,.string ⟨#[1]⟩]:List Value)[j]?))
     (first | go_keep | ((repeat' apply And.intro) <;> first | assumption | exact yA | exact fun j => (hcx A j (by assumption)).trans (yA j) | (rw [hcx _ _ (by assumption)];assumption))) (first
     | (go_at_call 90;refine (HB.out _ _ (by omega)).mono ?_;rintro e x13 ⟨rfl,hbx⟩;have hTx:Below x12.heap.size x12 x13:=bHb hbx;obtain ⟨hcx,hfx⟩:=a0k hTx))) | fail
    all_goals go_wp2_with fail
    all_goals first | go_ret | go_ret2
    all_goals exact ⟨rfl,HF.out _ (by assumption)⟩
   ·
    have hn:=a4y hd1;have hdd:=decide_eq_false hd1;rw [hdd];simp only [Bool.and_false];clear hd1 hdd;go_enter Tryz.func67,Tryz.ntmps67;go_wp2_with fail;obtain ⟨s14,hws⟩:∃ s,s=(w.alloc (.cells #[.bool false,.string ⟨#[]⟩,.string d] 26)):=⟨_,rfl⟩;have hBs:=bs1 (Below.refl w.heap.size w) hws;obtain ⟨A,hdA⟩:∃ b,b=w.heap.size:=⟨_,rfl⟩;have hsz:s14.heap.size=w.heap.size+1:=by rw [hws];simp
    have yA:=by0 (b:=A) hws hdA;have zA:A < s14.heap.size:=by omega
    have lA:w.heap.size≤A:=by omega
    rw [← hws];try rw [← hdA]
    clear hws hsz hdA;have hBo:=hBs;clear hBs;have HF:Hid (∀ W,Below s14.heap.size s14 W→Below w.heap.size w W):=fun W hW => hBo.trans (hW.mono hBo.size)
    clear hBo
    first | (go_region_held3 (fun w' => (∀ j,w'.cell? ⟨A,j,none⟩=([.bool false,.string ⟨#[]⟩,.string d]:List Value)[j]?))
     (first | go_keep | ((repeat' apply And.intro) <;> first | assumption | exact yA | exact fun j => (hcx A j (by assumption)).trans (yA j) | (rw [hcx _ _ (by assumption)];assumption))) (first
     | (go_at_call 89;refine (H1.out _).mono ?_;rintro e x15 ⟨rfl,hbx⟩;have hTx:Below s14.heap.size s14 x15:=bHb hbx;obtain ⟨hcx,hfx⟩:=a0k hTx))) | fail
    go_wp2_with fail;replace yA:=fun j => (hcx A j zA).trans (yA j)
    replace zA:=zHl hTx zA;have hBo:=HF.out _ hTx;clear HF hcx hfx hTx;have HF:Hid (∀ W,Below x15.heap.size x15 W→Below w.heap.size w W):=fun W hW => hBo.trans (hW.mono hBo.size)
    clear hBo
    first | (go_region_held3 (fun w' => (∀ j,w'.cell? ⟨A,j,none⟩=([.bool false,.string ⟨#[]⟩,.string d]:List Value)[j]?))
     (first | go_keep | ((repeat' apply And.intro) <;> first | assumption | exact yA | exact fun j => (hcx A j (by assumption)).trans (yA j) | (rw [hcx _ _ (by assumption)];assumption))) (first
     | (go_at_call 89;refine (H2.out _).mono ?_;rintro e x16 ⟨rfl,hbx⟩;have hTx:Below x15.heap.size x15 x16:=bHb hbx;obtain ⟨hcx,hfx⟩:=a0k hTx))) | fail
    go_wp2_with fail;replace yA:=fun j => (hcx A j zA).trans (yA j)
    replace zA:=zHl hTx zA;have hBo:=HF.out _ hTx;clear HF hcx hfx hTx;have HF:Hid (∀ W,Below x16.heap.size x16 W→Below w.heap.size w W):=fun W hW => hBo.trans (hW.mono hBo.size)
    clear hBo
    first | (go_region_held3 (fun w' => (∀ j,w'.cell? ⟨A,j,none⟩=([.bool false,.string ⟨#[]⟩,.string d]:List Value)[j]?))
     (first | go_keep | ((repeat' apply And.intro) <;> first | assumption | exact yA | exact fun j => (hcx A j (by assumption)).trans (yA j) | (rw [hcx _ _ (by assumption)];assumption))) (first
     | (go_at_call 90;refine (HB.out _ _ (by omega)).mono ?_;rintro e x17 ⟨rfl,hbx⟩;have hTx:Below x16.heap.size x16 x17:=bHb hbx;obtain ⟨hcx,hfx⟩:=a0k hTx))) | fail
    all_goals go_wp2_with fail
    all_goals first | go_ret | go_ret2
    all_goals exact ⟨rfl,HF.out _ (by assumption)⟩
  ·
   simp only [Bool.not_true,Bool.false_and];go_enter Tryz.func67,Tryz.ntmps67;go_wp2_with fail;obtain ⟨s18,hws⟩:∃ s,s=(w.alloc (.cells #[.bool true,.string ⟨#[]⟩,.string d] 26)):=⟨_,rfl⟩;have hBs:=bs1 (Below.refl w.heap.size w) hws;obtain ⟨A,hdA⟩:∃ b,b=w.heap.size:=⟨_,rfl⟩;have hsz:s18.heap.size=w.heap.size+1:=by rw [hws];simp
   have yA:=by0 (b:=A) hws hdA;have zA:A < s18.heap.size:=by omega
   have lA:w.heap.size≤A:=by omega
   rw [← hws];try rw [← hdA]
   clear hws hsz hdA;have hBo:=hBs;clear hBs;have HF:Hid (∀ W,Below s18.heap.size s18 W→Below w.heap.size w W):=fun W hW => hBo.trans (hW.mono hBo.size)
   clear hBo
   first | (go_region_held3 (fun w' => (∀ j,w'.cell? ⟨A,j,none⟩=([.bool true,.string ⟨#[]⟩,.string d]:List Value)[j]?))
    (first | go_keep | ((repeat' apply And.intro) <;> first | assumption | exact yA | exact fun j => (hcx A j (by assumption)).trans (yA j) | (rw [hcx _ _ (by assumption)];assumption))) (first
    | (go_at_call 89;refine (H1.out _).mono ?_;rintro e x19 ⟨rfl,hbx⟩;have hTx:Below s18.heap.size s18 x19:=bHb hbx;obtain ⟨hcx,hfx⟩:=a0k hTx))) | fail
   go_wp2_with fail;replace yA:=fun j => (hcx A j zA).trans (yA j)
   replace zA:=zHl hTx zA;have hBo:=HF.out _ hTx;clear HF hcx hfx hTx;have HF:Hid (∀ W,Below x19.heap.size x19 W→Below w.heap.size w W):=fun W hW => hBo.trans (hW.mono hBo.size)
   clear hBo
   first | (go_region_held3 (fun w' => (∀ j,w'.cell? ⟨A,j,none⟩=([.bool true,.string ⟨#[]⟩,.string d]:List Value)[j]?))
    (first | go_keep | ((repeat' apply And.intro) <;> first | assumption | exact yA | exact fun j => (hcx A j (by assumption)).trans (yA j) | (rw [hcx _ _ (by assumption)];assumption))) (first
    | (go_at_call 89;refine (H2.out _).mono ?_;rintro e x20 ⟨rfl,hbx⟩;have hTx:Below x19.heap.size x19 x20:=bHb hbx;obtain ⟨hcx,hfx⟩:=a0k hTx))) | fail
   go_wp2_with fail;replace yA:=fun j => (hcx A j zA).trans (yA j)
   replace zA:=zHl hTx zA;have hBo:=HF.out _ hTx;clear HF hcx hfx hTx;have HF:Hid (∀ W,Below x20.heap.size x20 W→Below w.heap.size w W):=fun W hW => hBo.trans (hW.mono hBo.size)
   clear hBo
   first | (go_region_held3 (fun w' => (∀ j,w'.cell? ⟨A,j,none⟩=([.bool true,.string ⟨#[]⟩,.string d]:List Value)[j]?))
    (first | go_keep | ((repeat' apply And.intro) <;> first | assumption | exact yA | exact fun j => (hcx A j (by assumption)).trans (yA j) | (rw [hcx _ _ (by assumption)];assumption))) (first
    | (go_at_call 90;refine (HB.out _ _ (by omega)).mono ?_;rintro e x21 ⟨rfl,hbx⟩;have hTx:Below x20.heap.size x20 x21:=bHb hbx;obtain ⟨hcx,hfx⟩:=a0k hTx))) | fail
   all_goals go_wp2_with fail
   all_goals first | go_ret | go_ret2
   all_goals exact ⟨rfl,HF.out _ (by assumption)⟩
 have hna:=a2h _ a0;rw [ea] at hna;have hna2:a.toList.isEmpty=false:=by simpa using hna
 by_cases d0:Nt.V d=0
 case pos =>
  have hde:d=⟨#[]⟩:=by rw [← ed,d0];rfl
  have hr:a0y neg a d=false:=by
   cases hh:a0y neg a d with
   | false => rfl
   | true => exact absurd d0 (hri.1 hh).1
  rw [hr];subst hde;clear hri hr ea ed hbl ba bd eb1 eb2 a0 hsa hsd d0;go_enter Tryz.func67,Tryz.ntmps67;go_wp2_with fail;obtain ⟨s22,hws⟩:∃ s,s=(w.alloc (.cells #[.bool neg,.string a,.string ⟨#[]⟩] 26)):=⟨_,rfl⟩;have hBs:=bs1 (Below.refl w.heap.size w) hws;obtain ⟨A,hdA⟩:∃ b,b=w.heap.size:=⟨_,rfl⟩;have hsz:s22.heap.size=w.heap.size+1:=by rw [hws];simp
  have yA:=by0 (b:=A) hws hdA;have zA:A < s22.heap.size:=by omega
  have lA:w.heap.size≤A:=by omega
  rw [← hws];try rw [← hdA]
  clear hws hsz hdA;have hBo:=hBs;clear hBs;have HF:Hid (∀ W,Below s22.heap.size s22 W→Below w.heap.size w W):=fun W hW => hBo.trans (hW.mono hBo.size)
  clear hBo
  first | (go_region_held3 (fun w' => (∀ j,w'.cell? ⟨A,j,none⟩=([.bool neg,.string a,.string ⟨#[]⟩]:List Value)[j]?))
   (first | go_keep | ((repeat' apply And.intro) <;> first | assumption | exact yA | exact fun j => (hcx A j (by assumption)).trans (yA j) | (rw [hcx _ _ (by assumption)];assumption))) (first
   | (go_at_call 89;refine (H1.out _).mono ?_;rintro e x23 ⟨rfl,hbx⟩;have hTx:Below s22.heap.size s22 x23:=bHb hbx;obtain ⟨hcx,hfx⟩:=a0k hTx))) | fail
  go_wp2_with fail;replace yA:=fun j => (hcx A j zA).trans (yA j)
  replace zA:=zHl hTx zA;have hBo:=HF.out _ hTx;clear HF hcx hfx hTx;have HF:Hid (∀ W,Below x23.heap.size x23 W→Below w.heap.size w W):=fun W hW => hBo.trans (hW.mono hBo.size)
  clear hBo
  first | (go_region_held3 (fun w' => (∀ j,w'.cell? ⟨A,j,none⟩=([.bool neg,.string a,.string ⟨#[]⟩]:List Value)[j]?))
   (first | go_keep | ((repeat' apply And.intro) <;> first | assumption | exact yA | exact fun j => (hcx A j (by assumption)).trans (yA j) | (rw [hcx _ _ (by assumption)];assumption))) (first
   | (go_at_call 89;refine (H2.out _).mono ?_;rintro e x24 ⟨rfl,hbx⟩;have hTx:Below x23.heap.size x23 x24:=bHb hbx;obtain ⟨hcx,hfx⟩:=a0k hTx))) | fail
  go_wp2_with fail;replace yA:=fun j => (hcx A j zA).trans (yA j)
  replace zA:=zHl hTx zA;have hBo:=HF.out _ hTx;clear HF hcx hfx hTx;have HF:Hid (∀ W,Below x24.heap.size x24 W→Below w.heap.size w W):=fun W hW => hBo.trans (hW.mono hBo.size)
  clear hBo
  first | (go_region_held3 (fun w' => (∀ j,w'.cell? ⟨A,j,none⟩=([.bool neg,.string a,.string ⟨#[]⟩]:List Value)[j]?))
   (first | go_keep | ((repeat' apply And.intro) <;> first | assumption | exact yA | exact fun j => (hcx A j (by assumption)).trans (yA j) | (rw [hcx _ _ (by assumption)];assumption))) (first
   | (go_at_call 90;refine (HB.out _ _ (by omega)).mono ?_;rintro e x25 ⟨rfl,hbx⟩;have hTx:Below x24.heap.size x24 x25:=bHb hbx;obtain ⟨hcx,hfx⟩:=a0k hTx))) | fail
  all_goals go_wp2_with fail
  all_goals first | go_ret | go_ret2
  all_goals exact ⟨rfl,HF.out _ (by assumption)⟩
 have hnd:=a2h _ d0;rw [ed] at hnd;have hnd2:d.toList.isEmpty=false:=by simpa using hnd
 have hg:=fun w => c8r c1r a d w (by omega) (by omega)
 have hr:a0y neg a d=decide (Nat.gcd (Nt.V a) (Nt.V d)=1):=by
  rw [Bool.eq_iff_iff,hri];simp only [b8i,decide_eq_true_eq];exact ⟨fun h => h.2.1,fun h => ⟨d0,h,eb1,eb2,fun h => absurd h a0⟩⟩
 rw [hr];by_cases g1:Nat.gcd (Nt.V a) (Nt.V d)=1
 case pos =>
  rw [g1,show Nt.E 1=⟨#[1]⟩ from by decide] at hg;rw [decide_eq_true g1];have HG:=zh hg;clear hri hr ea ed hbl ba bd eb1 eb2 a0 hsa hsd d0 g1 hg;go_enter Tryz.func67,Tryz.ntmps67;go_wp2_with fail;obtain ⟨s26,hws⟩:∃ s,s=(w.alloc (.cells #[.bool neg,.string a,.string d] 26)):=⟨_,rfl⟩;have hBs:=bs1 (Below.refl w.heap.size w) hws;obtain ⟨A,hdA⟩:∃ b,b=w.heap.size:=⟨_,rfl⟩;have hsz:s26.heap.size=w.heap.size+1:=by rw [hws];simp
  have yA:=by0 (b:=A) hws hdA;have zA:A < s26.heap.size:=by omega
  have lA:w.heap.size≤A:=by omega
  rw [← hws];try rw [← hdA]
  clear hws hsz hdA;have hBo:=hBs;clear hBs;have HF:Hid (∀ W,Below s26.heap.size s26 W→Below w.heap.size w W):=fun W hW => hBo.trans (hW.mono hBo.size)
  clear hBo
  first | (go_region_held3 (fun w' => (∀ j,w'.cell? ⟨A,j,none⟩=([.bool neg,.string a,.string d]:List Value)[j]?))
   (first | go_keep | ((repeat' apply And.intro) <;> first | assumption | exact yA | exact fun j => (hcx A j (by assumption)).trans (yA j) | (rw [hcx _ _ (by assumption)];assumption))) (first
   | (go_at_call 89;refine (H1.out _).mono ?_;rintro e x27 ⟨rfl,hbx⟩;have hTx:Below s26.heap.size s26 x27:=bHb hbx;obtain ⟨hcx,hfx⟩:=a0k hTx))) | fail
  go_wp2_with fail;replace yA:=fun j => (hcx A j zA).trans (yA j)
  replace zA:=zHl hTx zA;have hBo:=HF.out _ hTx;clear HF hcx hfx hTx;have HF:Hid (∀ W,Below x27.heap.size x27 W→Below w.heap.size w W):=fun W hW => hBo.trans (hW.mono hBo.size)
  clear hBo
  first | (go_region_held3 (fun w' => (∀ j,w'.cell? ⟨A,j,none⟩=([.bool neg,.string a,.string d]:List Value)[j]?))
   (first | go_keep | ((repeat' apply And.intro) <;> first | assumption | exact yA | exact fun j => (hcx A j (by assumption)).trans (yA j) | (rw [hcx _ _ (by assumption)];assumption))) (first
   | (go_at_call 89;refine (H2.out _).mono ?_;rintro e x28 ⟨rfl,hbx⟩;have hTx:Below x27.heap.size x27 x28:=bHb hbx;obtain ⟨hcx,hfx⟩:=a0k hTx))) | fail
  go_wp2_with fail;replace yA:=fun j => (hcx A j zA).trans (yA j)
  replace zA:=zHl hTx zA;have hBo:=HF.out _ hTx;clear HF hcx hfx hTx;have HF:Hid (∀ W,Below x28.heap.size x28 W→Below w.heap.size w W):=fun W hW => hBo.trans (hW.mono hBo.size)
  clear hBo
  first | (go_region_held3 (fun w' => (∀ j,w'.cell? ⟨A,j,none⟩=([.bool neg,.string a,.string d]:List Value)[j]?))
   (first | go_keep | ((repeat' apply And.intro) <;> first | assumption | exact yA | exact fun j => (hcx A j (by assumption)).trans (yA j) | (rw [hcx _ _ (by assumption)];assumption))) (first
   | (go_at_call 90;refine (HB.out _ _ (by omega)).mono ?_;rintro e x29 ⟨rfl,hbx⟩;have hTx:Below x28.heap.size x28 x29:=bHb hbx;obtain ⟨hcx,hfx⟩:=a0k hTx))) | fail
  go_wp2_with fail;replace yA:=fun j => (hcx A j zA).trans (yA j)
  replace zA:=zHl hTx zA;have hBo:=HF.out _ hTx;clear HF hcx hfx hTx;refine (HG.out _).mono ?_;rintro e s30 ⟨rfl,hb⟩;replace yA:=eqB hb yA zA;replace zA:=zHl hb zA;replace hBo:=hBo.trans (hb.mono hBo.size);clear hb
  all_goals go_wp2_with fail
  all_goals first | go_ret | go_ret2
  all_goals exact ⟨rfl,hBo⟩
 ·
  have hn1:Nt.E (Nat.gcd (Nt.V a) (Nt.V d))≠⟨#[1]⟩:=fun h => g1 (by
   have:=Nt.V_E (Nat.gcd (Nt.V a) (Nt.V d));rw [h] at this
   exact this.symm.trans (by decide))
  have hn:=a4y hn1;rw [decide_eq_false g1];generalize Nt.E (Nat.gcd (Nt.V a) (Nt.V d))=g at *;have HG:=zh hg;clear hri hr ea ed hbl ba bd eb1 eb2 a0 hsa hsd d0 g1 hg hn1;go_enter Tryz.func67,Tryz.ntmps67;go_wp2_with fail;obtain ⟨s31,hws⟩:∃ s,s=(w.alloc (.cells #[.bool neg,.string a,.string d] 26)):=⟨_,rfl⟩;have hBs:=bs1 (Below.refl w.heap.size w) hws;obtain ⟨A,hdA⟩:∃ b,b=w.heap.size:=⟨_,rfl⟩;have hsz:s31.heap.size=w.heap.size+1:=by rw [hws];simp
  have yA:=by0 (b:=A) hws hdA;have zA:A < s31.heap.size:=by omega
  have lA:w.heap.size≤A:=by omega
  rw [← hws];try rw [← hdA]
  clear hws hsz hdA;have hBo:=hBs;clear hBs;have HF:Hid (∀ W,Below s31.heap.size s31 W→Below w.heap.size w W):=fun W hW => hBo.trans (hW.mono hBo.size)
  clear hBo
  first | (go_region_held3 (fun w' => (∀ j,w'.cell? ⟨A,j,none⟩=([.bool neg,.string a,.string d]:List Value)[j]?))
   (first | go_keep | ((repeat' apply And.intro) <;> first | assumption | exact yA | exact fun j => (hcx A j (by assumption)).trans (yA j) | (rw [hcx _ _ (by assumption)];assumption))) (first
   | (go_at_call 89;refine (H1.out _).mono ?_;rintro e x32 ⟨rfl,hbx⟩;have hTx:Below s31.heap.size s31 x32:=bHb hbx;obtain ⟨hcx,hfx⟩:=a0k hTx))) | fail
  go_wp2_with fail;replace yA:=fun j => (hcx A j zA).trans (yA j)
  replace zA:=zHl hTx zA;have hBo:=HF.out _ hTx;clear HF hcx hfx hTx;have HF:Hid (∀ W,Below x32.heap.size x32 W→Below w.heap.size w W):=fun W hW => hBo.trans (hW.mono hBo.size)
  clear hBo
  first | (go_region_held3 (fun w' => (∀ j,w'.cell? ⟨A,j,none⟩=([.bool neg,.string a,.string d]:List Value)[j]?))
   (first | go_keep | ((repeat' apply And.intro) <;> first | assumption | exact yA | exact fun j => (hcx A j (by assumption)).trans (yA j) | (rw [hcx _ _ (by assumption)];assumption))) (first
   | (go_at_call 89;refine (H2.out _).mono ?_;rintro e x33 ⟨rfl,hbx⟩;have hTx:Below x32.heap.size x32 x33:=bHb hbx;obtain ⟨hcx,hfx⟩:=a0k hTx))) | fail
  go_wp2_with fail;replace yA:=fun j => (hcx A j zA).trans (yA j)
  replace zA:=zHl hTx zA;have hBo:=HF.out _ hTx;clear HF hcx hfx hTx;have HF:Hid (∀ W,Below x33.heap.size x33 W→Below w.heap.size w W):=fun W hW => hBo.trans (hW.mono hBo.size)
  clear hBo
  first | (go_region_held3 (fun w' => (∀ j,w'.cell? ⟨A,j,none⟩=([.bool neg,.string a,.string d]:List Value)[j]?))
   (first | go_keep | ((repeat' apply And.intro) <;> first | assumption | exact yA | exact fun j => (hcx A j (by assumption)).trans (yA j) | (rw [hcx _ _ (by assumption)];assumption))) (first
   | (go_at_call 90;refine (HB.out _ _ (by omega)).mono ?_;rintro e x34 ⟨rfl,hbx⟩;have hTx:Below x33.heap.size x33 x34:=bHb hbx;obtain ⟨hcx,hfx⟩:=a0k hTx))) | fail
  go_wp2_with fail;replace yA:=fun j => (hcx A j zA).trans (yA j)
  replace zA:=zHl hTx zA;have hBo:=HF.out _ hTx;clear HF hcx hfx hTx;refine (HG.out _).mono ?_;rintro e s35 ⟨rfl,hb⟩;replace yA:=eqB hb yA zA;replace zA:=zHl hb zA;replace hBo:=hBo.trans (hb.mono hBo.size);clear hb
  all_goals go_wp2_with fail
  all_goals first | go_ret | go_ret2
  all_goals exact ⟨rfl,hBo⟩
end Go.Proofs.YtjfkbeanbbeloaaGreatDoor
