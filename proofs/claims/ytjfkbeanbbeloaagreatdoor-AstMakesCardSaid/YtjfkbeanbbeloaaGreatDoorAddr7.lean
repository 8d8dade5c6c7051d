/-
  
  
-/
import Derived.Test.YtjfkbeanbbeloaaGreatDoorDec1
import Derived.Test.YtjfkbeanbbeloaaGreatDoorBox
set_option maxHeartbeats 4000000
set_option maxRecDepth 100000
namespace Go.Proofs.YtjfkbeanbbeloaaGreatDoor
open Go.RowKit Go.Shelf
set_option linter.unusedSimpArgs false
set_option linter.unusedVariables false
abbrev a1e (a b c d:Int):Value:=.agg #[.int .i64 a,.int .i64 b,.int .i64 c,.int .i64 d]
def cnt (a b c d:Int):Int:=(c - a+1) * (d - b+1)
def a8z (a b c d:Int):Int:=if (inG a b && inG c d)=false then 6 else if 200 < cnt (min a c) (min b d) (max a c) (max b d) then 7 else 0
def b6k (a b c d:Int):Value:=if a8z a b c d=0 then a1e (min a c) (min b d) (max a c) (max b d) else a1e 0 0 0 0
theorem a9q {a b c d:Int} (h:inG a b=false ∨ inG c d=false):a8z a b c d=6∧b6k a b c d=a1e 0 0 0 0:=by
 have h1:a8z a b c d=6:=by
  unfold a8z;rw [if_pos (by rcases h with h | h <;> rw [h] <;> simp)]
 refine ⟨h1,?_⟩;unfold b6k;rw [h1];rfl
theorem b1d {a b c d:Int} (h1:inG a b=true) (h2:inG c d=true) (h:200 < cnt (min a c) (min b d) (max a c) (max b d)):a8z a b c d=7∧b6k a b c d=a1e 0 0 0 0:=by
 have h1:a8z a b c d=7:=by
  unfold a8z;rw [h1,h2,if_neg (by decide),if_pos h]
 refine ⟨h1,?_⟩;unfold b6k;rw [h1];rfl
theorem c4p {a b c d:Int} (h1:inG a b=true) (h2:inG c d=true) (h : ¬ 200 < cnt (min a c) (min b d) (max a c) (max b d)):a8z a b c d=0∧b6k a b c d=a1e (min a c) (min b d) (max a c) (max b d):=by
 have h1:a8z a b c d=0:=by
  unfold a8z;rw [h1,h2,if_neg (by decide),if_neg h]
 refine ⟨h1,?_⟩;unfold b6k;rw [h1];rfl
theorem a7q {a b c d:Int} (ha:1≤a∧a≤52) (hb:1≤b∧b≤99) (hc:1≤c∧c≤52) (hd:1≤d∧d≤99) : -10000≤cnt a b c d∧cnt a b c d≤10000:=by
 unfold cnt;have h1 : -51≤c - a+1∧c - a+1≤52:=by omega
 have h2 : -98≤d - b+1∧d - b+1≤99:=by omega
 generalize c - a+1=x at *;generalize d - b+1=y at *;obtain ⟨x1,x2⟩:=h1;obtain ⟨y1,y2⟩:=h2;have e:(52 - x) * (99 - y) ≥ 0:=Int.mul_nonneg (by omega) (by omega);have f:(52 - x) * (y+98) ≥ 0:=Int.mul_nonneg (by omega) (by omega);have g:(x+51) * (99 - y) ≥ 0:=Int.mul_nonneg (by omega) (by omega);have k:(x+51) * (y+98) ≥ 0:=Int.mul_nonneg (by omega) (by omega);simp only [Int.sub_mul,Int.mul_sub,Int.add_mul,Int.mul_add] at e f g k;generalize x * y=z at *;constructor <;> omega
theorem b8k (a b c d:Int) (w:World) (ha:1≤a∧a≤52) (hb:1≤b∧b≤99) (hc:1≤c∧c≤52) (hd:1≤d∧d≤99) :
  Calls Tryz.prog 100 #[a1e a b c d] w fun e w' => e=.returned (.int .i64 (cnt a b c d))∧Below w.heap.size w w':=by
 obtain ⟨u1,u2⟩:=a7q ha hb hc hd
 have hw:cnt a b c d=wrap64 ((c - a+1) * (d - b+1)):=by
  unfold cnt at *;generalize (c - a+1) * (d - b+1)=x at *;unfold wrap64;omega
 have HW:=zh hw;clear hw;obtain ⟨a1,a2⟩:=ha;obtain ⟨b1,b2⟩:=hb;obtain ⟨c1,c2⟩:=hc;obtain ⟨d1,d2⟩:=hd;go_enter Tryz.func100,Tryz.ntmps100
 go_wp2
 go_ret
 exact ⟨a1c HW.out.symm,(Below.refl _ _).alloc (Nat.le_refl _) _⟩
theorem b1e (a b c d:Int) (w:World) :
  Calls Tryz.prog 72 #[a1e a b c d] w fun e w' => e=.returned (.tuple #[b6k a b c d,.int .i64 (a8z a b c d)])∧Below w.heap.size w w':=by
 have h1:=fun w => b5x (a6b a b w)
 have h2:=fun w => b5x (a6b c d w)
 have hud:undef=Value.tuple #[]:=rfl
 cases g1:inG a b with
 | false =>
  obtain ⟨e1,e2⟩:=a9q (Or.inl g1:inG a b=false ∨ inG c d=false);rw [e1,e2];rw [g1] at h1;have H1:=zh h1;clear h1 h2 g1 e1 e2;go_enter Tryz.func72,Tryz.ntmps72;go_wp2_with fail;obtain ⟨s1,hws⟩:∃ s,s=((w.alloc (.cells #[.int .i64 a,.int .i64 b,.int .i64 c,.int .i64 d] 104)).alloc (.cells #[.int .i64 0,.int .i64 0,.int .i64 0,.int .i64 0] 104)):=⟨_,rfl⟩;have hBs:=bs2 (Below.refl w.heap.size w) hws;obtain ⟨A,hdA⟩:∃ b,b=w.heap.size:=⟨_,rfl⟩;obtain ⟨C,hdC⟩:∃ b,b=w.heap.size+1:=⟨_,rfl⟩;have hsz:s1.heap.size=w.heap.size+1+1:=by rw [hws];simp
  have dCA:C≠A:=by omega
  have yA:=by1 (b:=A) hws hdA;have zA:A < s1.heap.size:=by omega
  have lA:w.heap.size≤A:=by omega
  have hN:=bx0 (b:=C) hws (by simp [hdC]);have hM:=bf0 (b:=C) hws (by simp [hdC]);have kC0:=hN 0 _ rfl;have kC1:=hN 1 _ rfl;have kC2:=hN 2 _ rfl;have kC3:=hN 3 _ rfl;have fC0:=hM 0;have fC1:=hM 1;have fC2:=hM 2;have fC3:=hM 3;clear hN hM;have zC:C < s1.heap.size:=by omega
  have lC:w.heap.size≤C:=by omega
  rw [← hws];try rw [← hdC]
  try rw [← hdA]
  clear hws hsz hdA hdC;have hBo:=hBs;clear hBs;refine (H1.out _).mono ?_;rintro e s2 ⟨rfl,hb⟩;replace yA:=eqB hb yA zA;replace zA:=zHl hb zA;have q:=fun {j u} h => a0f (p:=⟨C,j,none⟩) (v:=u) hb h zC;replace kC0:=q kC0;replace kC1:=q kC1;replace kC2:=q kC2;replace kC3:=q kC3;clear q;replace fC0:=a0g hb fC0 zC;replace fC1:=a0g hb fC1 zC;replace fC2:=a0g hb fC2 zC;replace fC3:=a0g hb fC3 zC;replace zC:=zHl hb zC
  replace hBo:=hBo.trans (hb.mono hBo.size);clear hb
  all_goals go_wp2_with fail
  all_goals refine bodyPost_ret (v:=.tuple #[a1e 0 0 0 0,.int .i64 6]) (by simp [results,Tryz.results72,go_sem,kC0,kC1,kC2,kC3,zC]) rfl ⟨rfl,?_⟩
  all_goals exact ((((hBo.setCell lC _).setCell lC _).setCell lC _).setCell lC _)
 | true =>
  rw [g1] at h1;have H1:=zh h1
  cases g2:inG c d with
  | false =>
   obtain ⟨e1,e2⟩:=a9q (Or.inr g2:inG a b=false ∨ inG c d=false);rw [e1,e2];rw [g2] at h2;have H2:=zh h2;clear h1 h2 g1 g2 e1 e2;go_enter Tryz.func72,Tryz.ntmps72;go_wp2_with fail;obtain ⟨s3,hws⟩:∃ s,s=((w.alloc (.cells #[.int .i64 a,.int .i64 b,.int .i64 c,.int .i64 d] 104)).alloc (.cells #[.int .i64 0,.int .i64 0,.int .i64 0,.int .i64 0] 104)):=⟨_,rfl⟩;have hBs:=bs2 (Below.refl w.heap.size w) hws;obtain ⟨A,hdA⟩:∃ b,b=w.heap.size:=⟨_,rfl⟩;obtain ⟨C,hdC⟩:∃ b,b=w.heap.size+1:=⟨_,rfl⟩;have hsz:s3.heap.size=w.heap.size+1+1:=by rw [hws];simp
   have dCA:C≠A:=by omega
   have yA:=by1 (b:=A) hws hdA;have zA:A < s3.heap.size:=by omega
   have lA:w.heap.size≤A:=by omega
   have hN:=bx0 (b:=C) hws (by simp [hdC]);have hM:=bf0 (b:=C) hws (by simp [hdC]);have kC0:=hN 0 _ rfl;have kC1:=hN 1 _ rfl;have kC2:=hN 2 _ rfl;have kC3:=hN 3 _ rfl;have fC0:=hM 0;have fC1:=hM 1;have fC2:=hM 2;have fC3:=hM 3;clear hN hM;have zC:C < s3.heap.size:=by omega
   have lC:w.heap.size≤C:=by omega
   rw [← hws];try rw [← hdC]
   try rw [← hdA]
   clear hws hsz hdA hdC;have hBo:=hBs;clear hBs;refine (H1.out _).mono ?_;rintro e s4 ⟨rfl,hb⟩;replace yA:=eqB hb yA zA;replace zA:=zHl hb zA;have q:=fun {j u} h => a0f (p:=⟨C,j,none⟩) (v:=u) hb h zC;replace kC0:=q kC0;replace kC1:=q kC1;replace kC2:=q kC2;replace kC3:=q kC3;clear q;replace fC0:=a0g hb fC0 zC;replace fC1:=a0g hb fC1 zC;replace fC2:=a0g hb fC2 zC;replace fC3:=a0g hb fC3 zC;replace zC:=zHl hb zC
   replace hBo:=hBo.trans (hb.mono hBo.size);clear hb;go_wp2_with fail;refine (H2.out _).mono ?_;rintro e s5 ⟨rfl,hb⟩;replace yA:=eqB hb yA zA;replace zA:=zHl hb zA;have q:=fun {j u} h => a0f (p:=⟨C,j,none⟩) (v:=u) hb h zC;replace kC0:=q kC0;replace kC1:=q kC1;replace kC2:=q kC2;replace kC3:=q kC3;clear q;replace fC0:=a0g hb fC0 zC;replace fC1:=a0g hb fC1 zC;replace fC2:=a0g hb fC2 zC;replace fC3:=a0g hb fC3 zC;replace zC:=zHl hb zC
   replace hBo:=hBo.trans (hb.mono hBo.size);clear hb
   all_goals go_wp2_with fail
   all_goals refine bodyPost_ret (v:=.tuple #[a1e 0 0 0 0,.int .i64 6]) (by simp [results,Tryz.results72,go_sem,kC0,kC1,kC2,kC3,zC]) rfl ⟨rfl,?_⟩
   all_goals exact ((((hBo.setCell lC _).setCell lC _).setCell lC _).setCell lC _)
  | true =>
   rw [g2] at h2;have H2:=zh h2;obtain ⟨a1,a2,b1,b2⟩:=(a9p _ _).1 g1;obtain ⟨c1,c2,d1,d2⟩:=(a9p _ _).1 g2;have HC:=zh (fun w => b8k (min a c) (min b d) (max a c) (max b d) w (by omega) (by omega) (by omega) (by omega));by_cases hm:200 < cnt (min a c) (min b d) (max a c) (max b d)
   ·
    obtain ⟨e1,e2⟩:=b1d g1 g2 hm;rw [e1,e2];obtain ⟨n,hn⟩:∃ n,n=cnt (min a c) (min b d) (max a c) (max b d):=⟨_,rfl⟩;rw [← hn] at hm HC;have HN:=zh hn;clear h1 h2 g1 g2 e1 e2 hn;go_enter Tryz.func72,Tryz.ntmps72;go_wp2_with fail;obtain ⟨s6,hws⟩:∃ s,s=((w.alloc (.cells #[.int .i64 a,.int .i64 b,.int .i64 c,.int .i64 d] 104)).alloc (.cells #[.int .i64 0,.int .i64 0,.int .i64 0,.int .i64 0] 104)):=⟨_,rfl⟩;have hBs:=bs2 (Below.refl w.heap.size w) hws;obtain ⟨A,hdA⟩:∃ b,b=w.heap.size:=⟨_,rfl⟩;obtain ⟨C,hdC⟩:∃ b,b=w.heap.size+1:=⟨_,rfl⟩;have hsz:s6.heap.size=w.heap.size+1+1:=by rw [hws];simp
    have dCA:C≠A:=by omega
    have yA:=by1 (b:=A) hws hdA;have zA:A < s6.heap.size:=by omega
    have lA:w.heap.size≤A:=by omega
    have hN:=bx0 (b:=C) hws (by simp [hdC]);have hM:=bf0 (b:=C) hws (by simp [hdC]);have kC0:=hN 0 _ rfl;have kC1:=hN 1 _ rfl;have kC2:=hN 2 _ rfl;have kC3:=hN 3 _ rfl;have fC0:=hM 0;have fC1:=hM 1;have fC2:=hM 2;have fC3:=hM 3;clear hN hM;have zC:C < s6.heap.size:=by omega
    have lC:w.heap.size≤C:=by omega
    rw [← hws];try rw [← hdC]
    try rw [← hdA]
    clear hws hsz hdA hdC;have hBo:=hBs;clear hBs;refine (H1.out _).mono ?_;rintro e s7 ⟨rfl,hb⟩;replace yA:=eqB hb yA zA;replace zA:=zHl hb zA;have q:=fun {j u} h => a0f (p:=⟨C,j,none⟩) (v:=u) hb h zC;replace kC0:=q kC0;replace kC1:=q kC1;replace kC2:=q kC2;replace kC3:=q kC3;clear q;replace fC0:=a0g hb fC0 zC;replace fC1:=a0g hb fC1 zC;replace fC2:=a0g hb fC2 zC;replace fC3:=a0g hb fC3 zC;replace zC:=zHl hb zC
    replace hBo:=hBo.trans (hb.mono hBo.size);clear hb;go_wp2_with fail;refine (H2.out _).mono ?_;rintro e s8 ⟨rfl,hb⟩;replace yA:=eqB hb yA zA;replace zA:=zHl hb zA;have q:=fun {j u} h => a0f (p:=⟨C,j,none⟩) (v:=u) hb h zC;replace kC0:=q kC0;replace kC1:=q kC1;replace kC2:=q kC2;replace kC3:=q kC3;clear q;replace fC0:=a0g hb fC0 zC;replace fC1:=a0g hb fC1 zC;replace fC2:=a0g hb fC2 zC;replace fC3:=a0g hb fC3 zC;replace zC:=zHl hb zC
    replace hBo:=hBo.trans (hb.mono hBo.size);clear hb;go_wp2_with fail;obtain ⟨s9,hws⟩:∃ s,s=(s8.alloc (.cells #[.int .i64 (min a c),.int .i64 (min b d),.int .i64 (max a c),.int .i64 (max b d)] 104)):=⟨_,rfl⟩;have hBs:=bs1 hBo hws;obtain ⟨E,hdE⟩:∃ b,b=s8.heap.size:=⟨_,rfl⟩;have hsz:s9.heap.size=s8.heap.size+1:=by rw [hws];simp
    have dCE:C≠E:=by omega
    have hQC:∀ p v,s8.cell? p=some v→s9.cell? p=some v:=fun p v h => by rw [hws];exact (alK h)
    have hQZ:∀ b,b < s8.heap.size→b < s9.heap.size:=fun b h => by omega
    have hQF:∀ b j,b < s8.heap.size→s8.frozen? ⟨b,j,none⟩=false→s9.frozen? ⟨b,j,none⟩=false:=fun b j z h => by rw [hws];exact (alF z h)
    replace yA:=eqE hws (eqA yA zA);replace zA:=hQZ _ zA;replace kC0:=hQC _ _ kC0;replace fC0:=hQF _ _ zC fC0;replace kC1:=hQC _ _ kC1;replace fC1:=hQF _ _ zC fC1;replace kC2:=hQC _ _ kC2;replace fC2:=hQF _ _ zC fC2;replace kC3:=hQC _ _ kC3;replace fC3:=hQF _ _ zC fC3;replace zC:=hQZ _ zC;clear hQC hQZ hQF;have yE:=by0 (b:=E) hws hdE;have zE:E < s9.heap.size:=by omega
    have lE:w.heap.size≤E:=by have:=hBo.size;omega
    rw [← hws];try rw [← hdE]
    clear hBo;clear hws hsz hdE;have hBo:=hBs;clear hBs;refine (HC.out _).mono ?_;rintro e s10 ⟨rfl,hb⟩;replace yA:=eqB hb yA zA;replace zA:=zHl hb zA;have q:=fun {j u} h => a0f (p:=⟨C,j,none⟩) (v:=u) hb h zC;replace kC0:=q kC0;replace kC1:=q kC1;replace kC2:=q kC2;replace kC3:=q kC3;clear q;replace fC0:=a0g hb fC0 zC;replace fC1:=a0g hb fC1 zC;replace fC2:=a0g hb fC2 zC;replace fC3:=a0g hb fC3 zC;replace zC:=zHl hb zC
    replace yE:=eqB hb yE zE;replace zE:=zHl hb zE;replace hBo:=hBo.trans (hb.mono hBo.size);clear hb
    all_goals go_wp2_with fail
    all_goals refine bodyPost_ret (v:=.tuple #[a1e 0 0 0 0,.int .i64 7]) (by simp [results,Tryz.results72,go_sem,kC0,kC1,kC2,kC3,zC]) rfl ⟨rfl,?_⟩
    all_goals exact ((((hBo.setCell lC _).setCell lC _).setCell lC _).setCell lC _)
   ·
    obtain ⟨e1,e2⟩:=c4p g1 g2 hm;rw [e1,e2];obtain ⟨n,hn⟩:∃ n,n=cnt (min a c) (min b d) (max a c) (max b d):=⟨_,rfl⟩;rw [← hn] at hm HC;have HN:=zh hn;clear h1 h2 g1 g2 e1 e2 hn;go_enter Tryz.func72,Tryz.ntmps72;go_wp2_with fail;obtain ⟨s11,hws⟩:∃ s,s=((w.alloc (.cells #[.int .i64 a,.int .i64 b,.int .i64 c,.int .i64 d] 104)).alloc (.cells #[.int .i64 0,.int .i64 0,.int .i64 0,.int .i64 0] 104)):=⟨_,rfl⟩;have hBs:=bs2 (Below.refl w.heap.size w) hws;obtain ⟨A,hdA⟩:∃ b,b=w.heap.size:=⟨_,rfl⟩;obtain ⟨C,hdC⟩:∃ b,b=w.heap.size+1:=⟨_,rfl⟩;have hsz:s11.heap.size=w.heap.size+1+1:=by rw [hws];simp
    have dCA:C≠A:=by omega
    have yA:=by1 (b:=A) hws hdA;have zA:A < s11.heap.size:=by omega
    have lA:w.heap.size≤A:=by omega
    have hN:=bx0 (b:=C) hws (by simp [hdC]);have hM:=bf0 (b:=C) hws (by simp [hdC]);have kC0:=hN 0 _ rfl;have kC1:=hN 1 _ rfl;have kC2:=hN 2 _ rfl;have kC3:=hN 3 _ rfl;have fC0:=hM 0;have fC1:=hM 1;have fC2:=hM 2;have fC3:=hM 3;clear hN hM;have zC:C < s11.heap.size:=by omega
    have lC:w.heap.size≤C:=by omega
    rw [← hws];try rw [← hdC]
    try rw [← hdA]
    clear hws hsz hdA hdC;have hBo:=hBs;clear hBs;refine (H1.out _).mono ?_;rintro e s12 ⟨rfl,hb⟩;replace yA:=eqB hb yA zA;replace zA:=zHl hb zA;have q:=fun {j u} h => a0f (p:=⟨C,j,none⟩) (v:=u) hb h zC;replace kC0:=q kC0;replace kC1:=q kC1;replace kC2:=q kC2;replace kC3:=q kC3;clear q;replace fC0:=a0g hb fC0 zC;replace fC1:=a0g hb fC1 zC;replace fC2:=a0g hb fC2 zC;replace fC3:=a0g hb fC3 zC;replace zC:=zHl hb zC
    replace hBo:=hBo.trans (hb.mono hBo.size);clear hb;go_wp2_with fail;refine (H2.out _).mono ?_;rintro e s13 ⟨rfl,hb⟩;replace yA:=eqB hb yA zA;replace zA:=zHl hb zA;have q:=fun {j u} h => a0f (p:=⟨C,j,none⟩) (v:=u) hb h zC;replace kC0:=q kC0;replace kC1:=q kC1;replace kC2:=q kC2;replace kC3:=q kC3;clear q;replace fC0:=a0g hb fC0 zC;replace fC1:=a0g hb fC1 zC;replace fC2:=a0g hb fC2 zC;replace fC3:=a0g hb fC3 zC;replace zC:=zHl hb zC
    replace hBo:=hBo.trans (hb.mono hBo.size);clear hb;go_wp2_with fail;obtain ⟨s14,hws⟩:∃ s,s=(s13.alloc (.cells #[.int .i64 (min a c),.int .i64 (min b d),.int .i64 (max a c),.int .i64 (max b d)] 104)):=⟨_,rfl⟩;have hBs:=bs1 hBo hws;obtain ⟨E,hdE⟩:∃ b,b=s13.heap.size:=⟨_,rfl⟩;have hsz:s14.heap.size=s13.heap.size+1:=by rw [hws];simp
    have dCE:C≠E:=by omega
    have hQC:∀ p v,s13.cell? p=some v→s14.cell? p=some v:=fun p v h => by rw [hws];exact (alK h)
    have hQZ:∀ b,b < s13.heap.size→b < s14.heap.size:=fun b h => by omega
    have hQF:∀ b j,b < s13.heap.size→s13.frozen? ⟨b,j,none⟩=false→s14.frozen? ⟨b,j,none⟩=false:=fun b j z h => by rw [hws];exact (alF z h)
    replace yA:=eqE hws (eqA yA zA);replace zA:=hQZ _ zA;replace kC0:=hQC _ _ kC0;replace fC0:=hQF _ _ zC fC0;replace kC1:=hQC _ _ kC1;replace fC1:=hQF _ _ zC fC1;replace kC2:=hQC _ _ kC2;replace fC2:=hQF _ _ zC fC2;replace kC3:=hQC _ _ kC3;replace fC3:=hQF _ _ zC fC3;replace zC:=hQZ _ zC;clear hQC hQZ hQF;have yE:=by0 (b:=E) hws hdE;have zE:E < s14.heap.size:=by omega
    have lE:w.heap.size≤E:=by have:=hBo.size;omega
    rw [← hws];try rw [← hdE]
    clear hBo;clear hws hsz hdE;have hBo:=hBs;clear hBs;refine (HC.out _).mono ?_;rintro e s15 ⟨rfl,hb⟩;replace yA:=eqB hb yA zA;replace zA:=zHl hb zA;have q:=fun {j u} h => a0f (p:=⟨C,j,none⟩) (v:=u) hb h zC;replace kC0:=q kC0;replace kC1:=q kC1;replace kC2:=q kC2;replace kC3:=q kC3;clear q;replace fC0:=a0g hb fC0 zC;replace fC1:=a0g hb fC1 zC;replace fC2:=a0g hb fC2 zC;replace fC3:=a0g hb fC3 zC;replace zC:=zHl hb zC
    replace yE:=eqB hb yE zE;replace zE:=zHl hb zE;replace hBo:=hBo.trans (hb.mono hBo.size);clear hb
    all_goals go_wp2_with fail
    all_goals refine bodyPost_ret (v:=.tuple #[a1e (min a c) (min b d) (max a c) (max b d),.int .i64 0]) (by simp [results,Tryz.results72,go_sem,kC0,kC1,kC2,kC3,zC]) rfl ⟨rfl,?_⟩
    all_goals exact ((((hBo.setCell lC _).setCell lC _).setCell lC _).setCell lC _)
theorem b3l (a b c d:Int) (w:World) :
  Calls Tryz.prog 54 #[a1e a b c d] w fun e w' => e=.returned (.tuple #[b6k a b c d,.int .i64 (a8z a b c d)])∧Below w.heap.size w w':=by
 have h1:=fun w => b5x (a7o a b w)
 have h2:=fun w => b5x (a7o c d w)
 have hud:undef=Value.tuple #[]:=rfl
 cases g1:inG a b with
 | false =>
  obtain ⟨e1,e2⟩:=a9q (Or.inl g1:inG a b=false ∨ inG c d=false);rw [e1,e2];rw [g1] at h1;have H1:=zh h1;clear h1 h2 g1 e1 e2;go_enter Tryz.func54,Tryz.ntmps54;go_wp2_with fail;obtain ⟨s16,hws⟩:∃ s,s=((w.alloc (.cells #[.int .i64 a,.int .i64 b,.int .i64 c,.int .i64 d] 89)).alloc (.cells #[.int .i64 0,.int .i64 0,.int .i64 0,.int .i64 0] 89)):=⟨_,rfl⟩;have hBs:=bs2 (Below.refl w.heap.size w) hws;obtain ⟨A,hdA⟩:∃ b,b=w.heap.size:=⟨_,rfl⟩;obtain ⟨C,hdC⟩:∃ b,b=w.heap.size+1:=⟨_,rfl⟩;have hsz:s16.heap.size=w.heap.size+1+1:=by rw [hws];simp
  have dCA:C≠A:=by omega
  have yA:=by1 (b:=A) hws hdA;have zA:A < s16.heap.size:=by omega
  have lA:w.heap.size≤A:=by omega
  have hN:=bx0 (b:=C) hws (by simp [hdC]);have hM:=bf0 (b:=C) hws (by simp [hdC]);have kC0:=hN 0 _ rfl;have kC1:=hN 1 _ rfl;have kC2:=hN 2 _ rfl;have kC3:=hN 3 _ rfl;have fC0:=hM 0;have fC1:=hM 1;have fC2:=hM 2;have fC3:=hM 3;clear hN hM;have zC:C < s16.heap.size:=by omega
  have lC:w.heap.size≤C:=by omega
  rw [← hws];try rw [← hdC]
  try rw [← hdA]
  clear hws hsz hdA hdC;have hBo:=hBs;clear hBs;refine (H1.out _).mono ?_;rintro e s17 ⟨rfl,hb⟩;replace yA:=eqB hb yA zA;replace zA:=zHl hb zA;have q:=fun {j u} h => a0f (p:=⟨C,j,none⟩) (v:=u) hb h zC;replace kC0:=q kC0;replace kC1:=q kC1;replace kC2:=q kC2;replace kC3:=q kC3;clear q;replace fC0:=a0g hb fC0 zC;replace fC1:=a0g hb fC1 zC;replace fC2:=a0g hb fC2 zC;replace fC3:=a0g hb fC3 zC;replace zC:=zHl hb zC
  replace hBo:=hBo.trans (hb.mono hBo.size);clear hb
  all_goals go_wp2_with fail
  all_goals refine bodyPost_ret (v:=.tuple #[a1e 0 0 0 0,.int .i64 6]) (by simp [results,Tryz.results54,go_sem,kC0,kC1,kC2,kC3,zC]) rfl ⟨rfl,?_⟩
  all_goals exact ((((hBo.setCell lC _).setCell lC _).setCell lC _).setCell lC _)
 | true =>
  rw [g1] at h1;have H1:=zh h1
  cases g2:inG c d with
  | false =>
   obtain ⟨e1,e2⟩:=a9q (Or.inr g2:inG a b=false ∨ inG c d=false);rw [e1,e2];rw [g2] at h2;have H2:=zh h2;clear h1 h2 g1 g2 e1 e2;go_enter Tryz.func54,Tryz.ntmps54;go_wp2_with fail;obtain ⟨s18,hws⟩:∃ s,s=((w.alloc (.cells #[.int .i64 a,.int .i64 b,.int .i64 c,.int .i64 d] 89)).alloc (.cells #[.int .i64 0,.int .i64 0,.int .i64 0,.int .i64 0] 89)):=⟨_,rfl⟩;have hBs:=bs2 (Below.refl w.heap.size w) hws;obtain ⟨A,hdA⟩:∃ b,b=w.heap.size:=⟨_,rfl⟩;obtain ⟨C,hdC⟩:∃ b,b=w.heap.size+1:=⟨_,rfl⟩;have hsz:s18.heap.size=w.heap.size+1+1:=by rw [hws];simp
   have dCA:C≠A:=by omega
   have yA:=by1 (b:=A) hws hdA;have zA:A < s18.heap.size:=by omega
   have lA:w.heap.size≤A:=by omega
   have hN:=bx0 (b:=C) hws (by simp [hdC]);have hM:=bf0 (b:=C) hws (by simp [hdC]);have kC0:=hN 0 _ rfl;have kC1:=hN 1 _ rfl;have kC2:=hN 2 _ rfl;have kC3:=hN 3 _ rfl;have fC0:=hM 0;have fC1:=hM 1;have fC2:=hM 2;have fC3:=hM 3;clear hN hM;have zC:C < s18.heap.size:=by omega
   have lC:w.heap.size≤C:=by omega
   rw [← hws];try rw [← hdC]
   try rw [← hdA]
   clear hws hsz hdA hdC;have hBo:=hBs;clear hBs;refine (H1.out _).mono ?_;rintro e s19 ⟨rfl,hb⟩;replace yA:=eqB hb yA zA;replace zA:=zHl hb zA;have q:=fun {j u} h => a0f (p:=⟨C,j,none⟩) (v:=u) hb h zC;replace kC0:=q kC0;replace kC1:=q kC1;replace kC2:=q kC2;replace kC3:=q kC3;clear q;replace fC0:=a0g hb fC0 zC;replace fC1:=a0g hb fC1 zC;replace fC2:=a0g hb fC2 zC;replace fC3:=a0g hb fC3 zC;replace zC:=zHl hb zC
   replace hBo:=hBo.trans (hb.mono hBo.size);clear hb;go_wp2_with fail;refine (H2.out _).mono ?_;rintro e s20 ⟨rfl,hb⟩;replace yA:=eqB hb yA zA;replace zA:=zHl hb zA;have q:=fun {j u} h => a0f (p:=⟨C,j,none⟩) (v:=u) hb h zC;replace kC0:=q kC0;replace kC1:=q kC1;replace kC2:=q kC2;replace kC3:=q kC3;clear q;replace fC0:=a0g hb fC0 zC;replace fC1:=a0g hb fC1 zC;replace fC2:=a0g hb fC2 zC;replace fC3:=a0g hb fC3 zC;replace zC:=zHl hb zC
   replace hBo:=hBo.trans (hb.mono hBo.size);clear hb
   all_goals go_wp2_with fail
   all_goals refine bodyPost_ret (v:=.tuple #[a1e 0 0 0 0,.int .i64 6]) (by simp [results,Tryz.results54,go_sem,kC0,kC1,kC2,kC3,zC]) rfl ⟨rfl,?_⟩
   all_goals exact ((((hBo.setCell lC _).setCell lC _).setCell lC _).setCell lC _)
  | true =>
   rw [g2] at h2;have H2:=zh h2;obtain ⟨a1,a2,b1,b2⟩:=(a9p _ _).1 g1;obtain ⟨c1,c2,d1,d2⟩:=(a9p _ _).1 g2;by_cases hm:200 < cnt (min a c) (min b d) (max a c) (max b d)
   ·
    obtain ⟨e1,e2⟩:=b1d g1 g2 hm;rw [e1,e2];obtain ⟨n,hn⟩:∃ n,n=cnt (min a c) (min b d) (max a c) (max b d):=⟨_,rfl⟩;rw [← hn] at hm
    have hw:wrap64 ((max a c - min a c+1) * (max b d - min b d+1))=n:=by
     have hs:=a7q (a:=min a c) (b:=min b d) (c:=max a c) (d:=max b d) (by omega) (by omega) (by omega) (by omega);rw [← hn] at hs;have:(max a c - min a c+1) * (max b d - min b d+1)=n:=hn.symm;rw [this];unfold wrap64;omega
    have HN:=zh hn;clear h1 h2 g1 g2 e1 e2 hn;go_enter Tryz.func54,Tryz.ntmps54;go_wp2_with fail;obtain ⟨s21,hws⟩:∃ s,s=((w.alloc (.cells #[.int .i64 a,.int .i64 b,.int .i64 c,.int .i64 d] 89)).alloc (.cells #[.int .i64 0,.int .i64 0,.int .i64 0,.int .i64 0] 89)):=⟨_,rfl⟩;have hBs:=bs2 (Below.refl w.heap.size w) hws;obtain ⟨A,hdA⟩:∃ b,b=w.heap.size:=⟨_,rfl⟩;obtain ⟨C,hdC⟩:∃ b,b=w.heap.size+1:=⟨_,rfl⟩;have hsz:s21.heap.size=w.heap.size+1+1:=by rw [hws];simp
    have dCA:C≠A:=by omega
    have yA:=by1 (b:=A) hws hdA;have zA:A < s21.heap.size:=by omega
    have lA:w.heap.size≤A:=by omega
    have hN:=bx0 (b:=C) hws (by simp [hdC]);have hM:=bf0 (b:=C) hws (by simp [hdC]);have kC0:=hN 0 _ rfl;have kC1:=hN 1 _ rfl;have kC2:=hN 2 _ rfl;have kC3:=hN 3 _ rfl;have fC0:=hM 0;have fC1:=hM 1;have fC2:=hM 2;have fC3:=hM 3;clear hN hM;have zC:C < s21.heap.size:=by omega
    have lC:w.heap.size≤C:=by omega
    rw [← hws];try rw [← hdC]
    try rw [← hdA]
    clear hws hsz hdA hdC;have hBo:=hBs;clear hBs;refine (H1.out _).mono ?_;rintro e s22 ⟨rfl,hb⟩;replace yA:=eqB hb yA zA;replace zA:=zHl hb zA;have q:=fun {j u} h => a0f (p:=⟨C,j,none⟩) (v:=u) hb h zC;replace kC0:=q kC0;replace kC1:=q kC1;replace kC2:=q kC2;replace kC3:=q kC3;clear q;replace fC0:=a0g hb fC0 zC;replace fC1:=a0g hb fC1 zC;replace fC2:=a0g hb fC2 zC;replace fC3:=a0g hb fC3 zC;replace zC:=zHl hb zC
    replace hBo:=hBo.trans (hb.mono hBo.size);clear hb;go_wp2_with fail;refine (H2.out _).mono ?_;rintro e s23 ⟨rfl,hb⟩;replace yA:=eqB hb yA zA;replace zA:=zHl hb zA;have q:=fun {j u} h => a0f (p:=⟨C,j,none⟩) (v:=u) hb h zC;replace kC0:=q kC0;replace kC1:=q kC1;replace kC2:=q kC2;replace kC3:=q kC3;clear q;replace fC0:=a0g hb fC0 zC;replace fC1:=a0g hb fC1 zC;replace fC2:=a0g hb fC2 zC;replace fC3:=a0g hb fC3 zC;replace zC:=zHl hb zC
    replace hBo:=hBo.trans (hb.mono hBo.size);clear hb
    all_goals go_wp2_with fail
    all_goals refine bodyPost_ret (v:=.tuple #[a1e 0 0 0 0,.int .i64 7]) (by simp [results,Tryz.results54,go_sem,kC0,kC1,kC2,kC3,zC]) rfl ⟨rfl,?_⟩
    all_goals exact (((((hBo.setCell lC _).setCell lC _).setCell lC _).setCell lC _).alloc (by first | exact hBo.size | (have:=hBo.size;simp;omega) | (have:=(HF.out _ (by assumption)).size;simp;omega)) _)
   ·
    obtain ⟨e1,e2⟩:=c4p g1 g2 hm;rw [e1,e2];obtain ⟨n,hn⟩:∃ n,n=cnt (min a c) (min b d) (max a c) (max b d):=⟨_,rfl⟩;rw [← hn] at hm
    have hw:wrap64 ((max a c - min a c+1) * (max b d - min b d+1))=n:=by
     have hs:=a7q (a:=min a c) (b:=min b d) (c:=max a c) (d:=max b d) (by omega) (by omega) (by omega) (by omega);rw [← hn] at hs;have:(max a c - min a c+1) * (max b d - min b d+1)=n:=hn.symm;rw [this];unfold wrap64;omega
    have HN:=zh hn;clear h1 h2 g1 g2 e1 e2 hn;go_enter Tryz.func54,Tryz.ntmps54;go_wp2_with fail;obtain ⟨s24,hws⟩:∃ s,s=((w.alloc (.cells #[.int .i64 a,.int .i64 b,.int .i64 c,.int .i64 d] 89)).alloc (.cells #[.int .i64 0,.int .i64 0,.int .i64 0,.int .i64 0] 89)):=⟨_,rfl⟩;have hBs:=bs2 (Below.refl w.heap.size w) hws;obtain ⟨A,hdA⟩:∃ b,b=w.heap.size:=⟨_,rfl⟩;obtain ⟨C,hdC⟩:∃ b,b=w.heap.size+1:=⟨_,rfl⟩;have hsz:s24.heap.size=w.heap.size+1+1:=by rw [hws];simp
    have dCA:C≠A:=by omega
    have yA:=by1 (b:=A) hws hdA;have zA:A < s24.heap.size:=by omega
    have lA:w.heap.size≤A:=by omega
    have hN:=bx0 (b:=C) hws (by simp [hdC]);have hM:=bf0 (b:=C) hws (by simp [hdC]);have kC0:=hN 0 _ rfl;have kC1:=hN 1 _ rfl;have kC2:=hN 2 _ rfl;have kC3:=hN 3 _ rfl;have fC0:=hM 0;have fC1:=hM 1;have fC2:=hM 2;have fC3:=hM 3;clear hN hM;have zC:C < s24.heap.size:=by omega
    have lC:w.heap.size≤C:=by omega
    rw [← hws];try rw [← hdC]
    try rw [← hdA]
    clear hws hsz hdA hdC;have hBo:=hBs;clear hBs;refine (H1.out _).mono ?_;rintro e s25 ⟨rfl,hb⟩;replace yA:=eqB hb yA zA;replace zA:=zHl hb zA;have q:=fun {j u} h => a0f (p:=⟨C,j,none⟩) (v:=u) hb h zC;replace kC0:=q kC0;replace kC1:=q kC1;replace kC2:=q kC2;replace kC3:=q kC3;clear q;replace fC0:=a0g hb fC0 zC;replace fC1:=a0g hb fC1 zC;replace fC2:=a0g hb fC2 zC;replace fC3:=a0g hb fC3 zC;replace zC:=zHl hb zC
    replace hBo:=hBo.trans (hb.mono hBo.size);clear hb;go_wp2_with fail;refine (H2.out _).mono ?_;rintro e s26 ⟨rfl,hb⟩;replace yA:=eqB hb yA zA;replace zA:=zHl hb zA;have q:=fun {j u} h => a0f (p:=⟨C,j,none⟩) (v:=u) hb h zC;replace kC0:=q kC0;replace kC1:=q kC1;replace kC2:=q kC2;replace kC3:=q kC3;clear q;replace fC0:=a0g hb fC0 zC;replace fC1:=a0g hb fC1 zC;replace fC2:=a0g hb fC2 zC;replace fC3:=a0g hb fC3 zC;replace zC:=zHl hb zC
    replace hBo:=hBo.trans (hb.mono hBo.size);clear hb
    all_goals go_wp2_with fail
    all_goals refine bodyPost_ret (v:=.tuple #[a1e (min a c) (min b d) (max a c) (max b d),.int .i64 0]) (by simp [results,Tryz.results54,go_sem,kC0,kC1,kC2,kC3,zC]) rfl ⟨rfl,?_⟩
    all_goals exact (((((hBo.setCell lC _).setCell lC _).setCell lC _).setCell lC _).alloc (by first | exact hBo.size | (have:=hBo.size;simp;omega) | (have:=(HF.out _ (by assumption)).size;simp;omega)) _)
def c6w (a b c d:Int):Bool:=decide (a8z a b c d=0) && decide (a≤c) && decide (b≤d)
theorem a7h (a b c d:Int):c6w a b c d=true ↔ a8z a b c d=0∧a≤c∧b≤d:=by
 unfold c6w;simp only [Bool.and_eq_true,decide_eq_true_eq,and_assoc]
theorem b8l {a b c d:Int} (h : ¬ (a8z a b c d=0∧a≤c∧b≤d)):c6w a b c d=false:=by
 cases hb:c6w a b c d with
 | false => rfl
 | true => exact absurd ((a7h _ _ _ _).1 hb) h
theorem b5d (a b c d:Int):∃ x y z u,b6k a b c d=a1e x y z u:=by
 unfold b6k
 split
 ·
  exact ⟨_,_,_,_,rfl⟩
 ·
  exact ⟨_,_,_,_,rfl⟩
theorem b8m {a b c d:Int} (h:a8z a b c d≠0):(a8z a b c d == 0)=false:=by simpa using h
end Go.Proofs.YtjfkbeanbbeloaaGreatDoor
