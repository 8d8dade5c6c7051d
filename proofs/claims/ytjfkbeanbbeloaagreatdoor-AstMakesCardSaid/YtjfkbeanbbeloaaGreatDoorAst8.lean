/-
  
  
-/
import Derived.Test.YtjfkbeanbbeloaaGreatDoorAst6
set_option maxHeartbeats 8000000
set_option maxRecDepth 100000
namespace Go.Proofs.YtjfkbeanbbeloaaGreatDoor
open Go.RowKit Go.Shelf
set_option linter.unusedSimpArgs false
set_option linter.unusedVariables false
theorem b7i (r t:Rf) (w:World) (hr:r.sh.size≤maxLen) (ht:t.sh.size≤maxLen) :
  Calls Tryz.prog 48 #[.agg #[.string r.sh,.int .i64 r.c,.int .i64 r.r,.bool r.fc,.bool r.fr],.agg #[.string t.sh,.int .i64 t.c,.int .i64 t.r,.bool t.fc,.bool t.fr]] w fun e w' => e=.returned (.bool (arB r t))∧Below w.heap.size w w':=by
 have hR:=fun w => a6l r (a8g r.sh r.c r.r) w hr rfl
 have hT:=fun w => a6l t (a8g t.sh t.c t.r) w ht rfl
 obtain ⟨rs,rc,rr,rf,rg⟩:=r;obtain ⟨ts,tc,tt,tf,tg⟩:=t;dsimp only at *;have hn:=fun w => b1e rc rr tc tt w
 have hud:undef=Value.tuple #[]:=rfl;unfold arB;dsimp only;obtain ⟨z,hz⟩:∃ z,z=c6w rc rr tc tt:=⟨_,rfl⟩;rw [← hz]
 cases z with
 | false =>
  rw [Bool.false_and,Bool.false_and,Bool.false_and];by_cases h0:a8z rc rr tc tt=0
  ·
   have hv:b6k rc rr tc tt=a1e (min rc tc) (min rr tt) (max rc tc) (max rr tt):=if_pos h0;have h1 : ¬ (rc≤tc∧rr≤tt):=fun h1 => by rw [(a7h _ _ _ _).2 ⟨h0,h1⟩] at hz;cases hz
   rw [hv,h0] at hn;have HN:=zh hn;obtain ⟨p,hp⟩:∃ p,p=min rc tc:=⟨_,rfl⟩;obtain ⟨q,hq⟩:∃ q,q=min rr tt:=⟨_,rfl⟩;have hne:p≠rc ∨ q≠rr:=by omega
   rw [← hp,← hq] at HN;clear hn h1 h0 hv hp hq hz hR hT hr ht;by_cases hpa:p=rc
   ·
    subst hpa;have hqb:(q == rr)=false:=by simp;omega
    clear hne;go_enter Tryz.func48,Tryz.ntmps48;go_wp2_with fail;obtain ⟨s1,hws⟩:∃ s,s=(((w.alloc (.cells #[.string rs,.int .i64 p,.int .i64 rr,.bool rf,.bool rg] 28)).alloc (.cells #[.string ts,.int .i64 tc,.int .i64 tt,.bool tf,.bool tg] 28)).alloc (.cells #[.int .i64 p,.int .i64 rr,.int .i64 tc,.int .i64 tt] 104)):=⟨_,rfl⟩;have hBs:=bs3 (Below.refl w.heap.size w) hws;obtain ⟨A,hdA⟩:∃ b,b=w.heap.size:=⟨_,rfl⟩;obtain ⟨B,hdB⟩:∃ b,b=w.heap.size+1:=⟨_,rfl⟩;obtain ⟨E,hdE⟩:∃ b,b=w.heap.size+1+1:=⟨_,rfl⟩;have hsz:s1.heap.size=w.heap.size+1+1+1:=by rw [hws];simp
    have yA:=by2 (b:=A) hws hdA;have zA:A < s1.heap.size:=by omega
    have lA:w.heap.size≤A:=by omega
    have yB:=by1 (b:=B) hws (by simp [hdB]);have zB:B < s1.heap.size:=by omega
    have lB:w.heap.size≤B:=by omega
    have yE:=by0 (b:=E) hws (by simp [hdE]);have zE:E < s1.heap.size:=by omega
    have lE:w.heap.size≤E:=by omega
    rw [← hws];try rw [← hdE]
    try rw [← hdB]
    try rw [← hdA]
    clear hws hsz hdA hdB hdE;have hBo:=hBs;clear hBs;refine (HN.out _).mono ?_;rintro e s2 ⟨rfl,hb⟩;replace yA:=eqB hb yA zA;replace zA:=zHl hb zA;replace yB:=eqB hb yB zB;replace zB:=zHl hb zB;replace yE:=eqB hb yE zE;replace zE:=zHl hb zE;replace hBo:=hBo.trans (hb.mono hBo.size);clear hb
    all_goals go_wp2_with fail
    all_goals first | go_ret | go_ret2
    all_goals exact ⟨rfl,((hBo).alloc (by first | exact hBo.size | (have:=hBo.size;simp;omega)) _)⟩
   ·
    have hpb:(p == rc)=false:=by simp;omega
    clear hne hpa;go_enter Tryz.func48,Tryz.ntmps48;go_wp2_with fail;obtain ⟨s3,hws⟩:∃ s,s=(((w.alloc (.cells #[.string rs,.int .i64 rc,.int .i64 rr,.bool rf,.bool rg] 28)).alloc (.cells #[.string ts,.int .i64 tc,.int .i64 tt,.bool tf,.bool tg] 28)).alloc (.cells #[.int .i64 rc,.int .i64 rr,.int .i64 tc,.int .i64 tt] 104)):=⟨_,rfl⟩;have hBs:=bs3 (Below.refl w.heap.size w) hws;obtain ⟨A,hdA⟩:∃ b,b=w.heap.size:=⟨_,rfl⟩;obtain ⟨B,hdB⟩:∃ b,b=w.heap.size+1:=⟨_,rfl⟩;obtain ⟨E,hdE⟩:∃ b,b=w.heap.size+1+1:=⟨_,rfl⟩;have hsz:s3.heap.size=w.heap.size+1+1+1:=by rw [hws];simp
    have yA:=by2 (b:=A) hws hdA;have zA:A < s3.heap.size:=by omega
    have lA:w.heap.size≤A:=by omega
    have yB:=by1 (b:=B) hws (by simp [hdB]);have zB:B < s3.heap.size:=by omega
    have lB:w.heap.size≤B:=by omega
    have yE:=by0 (b:=E) hws (by simp [hdE]);have zE:E < s3.heap.size:=by omega
    have lE:w.heap.size≤E:=by omega
    rw [← hws];try rw [← hdE]
    try rw [← hdB]
    try rw [← hdA]
    clear hws hsz hdA hdB hdE;have hBo:=hBs;clear hBs;refine (HN.out _).mono ?_;rintro e s4 ⟨rfl,hb⟩;replace yA:=eqB hb yA zA;replace zA:=zHl hb zA;replace yB:=eqB hb yB zB;replace zB:=zHl hb zB;replace yE:=eqB hb yE zE;replace zE:=zHl hb zE;replace hBo:=hBo.trans (hb.mono hBo.size);clear hb
    all_goals go_wp2_with fail
    all_goals first | go_ret | go_ret2
    all_goals exact ⟨rfl,((hBo).alloc (by first | exact hBo.size | (have:=hBo.size;simp;omega)) _)⟩
  ·
   obtain ⟨u1,u2,u3,u4,hv⟩:=b5d rc rr tc tt;rw [hv] at hn;have he:=b8m h0;generalize a8z rc rr tc tt=e at *;have HN:=zh hn;clear hn hv h0 hR hT hr ht hz;go_enter Tryz.func48,Tryz.ntmps48;go_wp2_with fail;obtain ⟨s5,hws⟩:∃ s,s=(((w.alloc (.cells #[.string rs,.int .i64 rc,.int .i64 rr,.bool rf,.bool rg] 28)).alloc (.cells #[.string ts,.int .i64 tc,.int .i64 tt,.bool tf,.bool tg] 28)).alloc (.cells #[.int .i64 rc,.int .i64 rr,.int .i64 tc,.int .i64 tt] 104)):=⟨_,rfl⟩;have hBs:=bs3 (Below.refl w.heap.size w) hws;obtain ⟨A,hdA⟩:∃ b,b=w.heap.size:=⟨_,rfl⟩;obtain ⟨B,hdB⟩:∃ b,b=w.heap.size+1:=⟨_,rfl⟩;obtain ⟨E,hdE⟩:∃ b,b=w.heap.size+1+1:=⟨_,rfl⟩;have hsz:s5.heap.size=w.heap.size+1+1+1:=by rw [hws];simp
   have yA:=by2 (b:=A) hws hdA;have zA:A < s5.heap.size:=by omega
   have lA:w.heap.size≤A:=by omega
   have yB:=by1 (b:=B) hws (by simp [hdB]);have zB:B < s5.heap.size:=by omega
   have lB:w.heap.size≤B:=by omega
   have yE:=by0 (b:=E) hws (by simp [hdE]);have zE:E < s5.heap.size:=by omega
   have lE:w.heap.size≤E:=by omega
   rw [← hws];try rw [← hdE]
   try rw [← hdB]
   try rw [← hdA]
   clear hws hsz hdA hdB hdE;have hBo:=hBs;clear hBs;refine (HN.out _).mono ?_;rintro e s6 ⟨rfl,hb⟩;replace yA:=eqB hb yA zA;replace zA:=zHl hb zA;replace yB:=eqB hb yB zB;replace zB:=zHl hb zB;replace yE:=eqB hb yE zE;replace zE:=zHl hb zE;replace hBo:=hBo.trans (hb.mono hBo.size);clear hb
   all_goals go_wp2_with fail
   all_goals first | go_ret | go_ret2
   all_goals exact ⟨rfl,((hBo).alloc (by first | exact hBo.size | (have:=hBo.size;simp;omega)) _)⟩
 | true =>
  obtain ⟨h0,h1,h2⟩:=(a7h _ _ _ _).1 hz.symm;have hv:b6k rc rr tc tt=a1e (min rc tc) (min rr tt) (max rc tc) (max rr tt):=if_pos h0;rw [hv,h0,Int.min_eq_left h1,Int.min_eq_left h2,Int.max_eq_right h1,Int.max_eq_right h2] at hn;have HN:=zh hn;rw [Bool.true_and];clear hn h0 h1 h2 hv hz;generalize a8g rs rc rr=b1 at *;generalize a8g ts tc tt=b2 at *;have HR:=zh hR;have HT:=zh hT;clear hR hT hr ht
  cases b1 with
  | false =>
   rw [Bool.false_and,Bool.false_and];clear HT;go_enter Tryz.func48,Tryz.ntmps48;go_wp2_with fail;obtain ⟨s7,hws⟩:∃ s,s=(((w.alloc (.cells #[.string rs,.int .i64 rc,.int .i64 rr,.bool rf,.bool rg] 28)).alloc (.cells #[.string ts,.int .i64 tc,.int .i64 tt,.bool tf,.bool tg] 28)).alloc (.cells #[.int .i64 rc,.int .i64 rr,.int .i64 tc,.int .i64 tt] 104)):=⟨_,rfl⟩;have hBs:=bs3 (Below.refl w.heap.size w) hws;obtain ⟨A,hdA⟩:∃ b,b=w.heap.size:=⟨_,rfl⟩;obtain ⟨B,hdB⟩:∃ b,b=w.heap.size+1:=⟨_,rfl⟩;obtain ⟨E,hdE⟩:∃ b,b=w.heap.size+1+1:=⟨_,rfl⟩;have hsz:s7.heap.size=w.heap.size+1+1+1:=by rw [hws];simp
   have yA:=by2 (b:=A) hws hdA;have zA:A < s7.heap.size:=by omega
   have lA:w.heap.size≤A:=by omega
   have yB:=by1 (b:=B) hws (by simp [hdB]);have zB:B < s7.heap.size:=by omega
   have lB:w.heap.size≤B:=by omega
   have yE:=by0 (b:=E) hws (by simp [hdE]);have zE:E < s7.heap.size:=by omega
   have lE:w.heap.size≤E:=by omega
   rw [← hws];try rw [← hdE]
   try rw [← hdB]
   try rw [← hdA]
   clear hws hsz hdA hdB hdE;have hBo:=hBs;clear hBs;refine (HN.out _).mono ?_;rintro e s8 ⟨rfl,hb⟩;replace yA:=eqB hb yA zA;replace zA:=zHl hb zA;replace yB:=eqB hb yB zB;replace zB:=zHl hb zB;replace yE:=eqB hb yE zE;replace zE:=zHl hb zE;replace hBo:=hBo.trans (hb.mono hBo.size);clear hb;go_wp2_with fail;obtain ⟨s9,hws⟩:∃ s,s=(s8.alloc (.cells #[.int .i64 rc,.int .i64 rr,.int .i64 tc,.int .i64 tt] 104)):=⟨_,rfl⟩;have hBs:=bs1 hBo hws;obtain ⟨G,hdG⟩:∃ b,b=s8.heap.size:=⟨_,rfl⟩;have hsz:s9.heap.size=s8.heap.size+1:=by rw [hws];simp
   have hQC:∀ p v,s8.cell? p=some v→s9.cell? p=some v:=fun p v h => by rw [hws];exact (alK h)
   have hQZ:∀ b,b < s8.heap.size→b < s9.heap.size:=fun b h => by omega
   replace yA:=eqE hws (eqA yA zA);replace zA:=hQZ _ zA;replace yB:=eqE hws (eqA yB zB);replace zB:=hQZ _ zB;replace yE:=eqE hws (eqA yE zE);replace zE:=hQZ _ zE;clear hQC hQZ;have yG:=by0 (b:=G) hws hdG;have zG:G < s9.heap.size:=by omega
   have lG:w.heap.size≤G:=by have:=hBo.size;omega
   rw [← hws];try rw [← hdG]
   clear hBo;clear hws hsz hdG;have hBo:=hBs;clear hBs;refine (HR.out _).mono ?_;rintro e s10 ⟨rfl,hb⟩;replace yA:=eqB hb yA zA;replace zA:=zHl hb zA;replace yB:=eqB hb yB zB;replace zB:=zHl hb zB;replace yE:=eqB hb yE zE;replace zE:=zHl hb zE;replace yG:=eqB hb yG zG;replace zG:=zHl hb zG;replace hBo:=hBo.trans (hb.mono hBo.size);clear hb
   all_goals go_wp2_with fail
   all_goals first | go_ret | go_ret2
   all_goals exact ⟨rfl,hBo⟩
  | true =>
   rw [Bool.true_and]
   cases b2 with
   | false =>
    rw [Bool.false_and];go_enter Tryz.func48,Tryz.ntmps48;go_wp2_with fail;obtain ⟨s11,hws⟩:∃ s,s=(((w.alloc (.cells #[.string rs,.int .i64 rc,.int .i64 rr,.bool rf,.bool rg] 28)).alloc (.cells #[.string ts,.int .i64 tc,.int .i64 tt,.bool tf,.bool tg] 28)).alloc (.cells #[.int .i64 rc,.int .i64 rr,.int .i64 tc,.int .i64 tt] 104)):=⟨_,rfl⟩;have hBs:=bs3 (Below.refl w.heap.size w) hws;obtain ⟨A,hdA⟩:∃ b,b=w.heap.size:=⟨_,rfl⟩;obtain ⟨B,hdB⟩:∃ b,b=w.heap.size+1:=⟨_,rfl⟩;obtain ⟨E,hdE⟩:∃ b,b=w.heap.size+1+1:=⟨_,rfl⟩;have hsz:s11.heap.size=w.heap.size+1+1+1:=by rw [hws];simp
    have yA:=by2 (b:=A) hws hdA;have zA:A < s11.heap.size:=by omega
    have lA:w.heap.size≤A:=by omega
    have yB:=by1 (b:=B) hws (by simp [hdB]);have zB:B < s11.heap.size:=by omega
    have lB:w.heap.size≤B:=by omega
    have yE:=by0 (b:=E) hws (by simp [hdE]);have zE:E < s11.heap.size:=by omega
    have lE:w.heap.size≤E:=by omega
    rw [← hws];try rw [← hdE]
    try rw [← hdB]
    try rw [← hdA]
    clear hws hsz hdA hdB hdE;have hBo:=hBs;clear hBs;refine (HN.out _).mono ?_;rintro e s12 ⟨rfl,hb⟩;replace yA:=eqB hb yA zA;replace zA:=zHl hb zA;replace yB:=eqB hb yB zB;replace zB:=zHl hb zB;replace yE:=eqB hb yE zE;replace zE:=zHl hb zE;replace hBo:=hBo.trans (hb.mono hBo.size);clear hb;go_wp2_with fail;obtain ⟨s13,hws⟩:∃ s,s=(s12.alloc (.cells #[.int .i64 rc,.int .i64 rr,.int .i64 tc,.int .i64 tt] 104)):=⟨_,rfl⟩;have hBs:=bs1 hBo hws;obtain ⟨G,hdG⟩:∃ b,b=s12.heap.size:=⟨_,rfl⟩;have hsz:s13.heap.size=s12.heap.size+1:=by rw [hws];simp
    have hQC:∀ p v,s12.cell? p=some v→s13.cell? p=some v:=fun p v h => by rw [hws];exact (alK h)
    have hQZ:∀ b,b < s12.heap.size→b < s13.heap.size:=fun b h => by omega
    replace yA:=eqE hws (eqA yA zA);replace zA:=hQZ _ zA;replace yB:=eqE hws (eqA yB zB);replace zB:=hQZ _ zB;replace yE:=eqE hws (eqA yE zE);replace zE:=hQZ _ zE;clear hQC hQZ;have yG:=by0 (b:=G) hws hdG;have zG:G < s13.heap.size:=by omega
    have lG:w.heap.size≤G:=by have:=hBo.size;omega
    rw [← hws];try rw [← hdG]
    clear hBo;clear hws hsz hdG;have hBo:=hBs;clear hBs;refine (HR.out _).mono ?_;rintro e s14 ⟨rfl,hb⟩;replace yA:=eqB hb yA zA;replace zA:=zHl hb zA;replace yB:=eqB hb yB zB;replace zB:=zHl hb zB;replace yE:=eqB hb yE zE;replace zE:=zHl hb zE;replace yG:=eqB hb yG zG;replace zG:=zHl hb zG;replace hBo:=hBo.trans (hb.mono hBo.size);clear hb;go_wp2_with fail;refine (HT.out _).mono ?_;rintro e s15 ⟨rfl,hb⟩;replace yA:=eqB hb yA zA;replace zA:=zHl hb zA;replace yB:=eqB hb yB zB;replace zB:=zHl hb zB;replace yE:=eqB hb yE zE;replace zE:=zHl hb zE;replace yG:=eqB hb yG zG;replace zG:=zHl hb zG;replace hBo:=hBo.trans (hb.mono hBo.size);clear hb
    all_goals go_wp2_with fail
    all_goals first | go_ret | go_ret2
    all_goals exact ⟨rfl,hBo⟩
   | true =>
    rw [Bool.true_and]
    have hse:decide (ts.size=0)=ts.toList.isEmpty:=by
     rw [ByteArray.toList_eq,Bool.eq_iff_iff,decide_eq_true_eq,List.isEmpty_iff];constructor
     ·
      intro h;exact List.eq_nil_of_length_eq_zero (by simpa using h)
     ·
      intro h;have:=congrArg List.length h;simpa using this
    have HSE:=zh hse;clear hse;go_enter Tryz.func48,Tryz.ntmps48;go_wp2_with fail;obtain ⟨s16,hws⟩:∃ s,s=(((w.alloc (.cells #[.string rs,.int .i64 rc,.int .i64 rr,.bool rf,.bool rg] 28)).alloc (.cells #[.string ts,.int .i64 tc,.int .i64 tt,.bool tf,.bool tg] 28)).alloc (.cells #[.int .i64 rc,.int .i64 rr,.int .i64 tc,.int .i64 tt] 104)):=⟨_,rfl⟩;have hBs:=bs3 (Below.refl w.heap.size w) hws;obtain ⟨A,hdA⟩:∃ b,b=w.heap.size:=⟨_,rfl⟩;obtain ⟨B,hdB⟩:∃ b,b=w.heap.size+1:=⟨_,rfl⟩;obtain ⟨E,hdE⟩:∃ b,b=w.heap.size+1+1:=⟨_,rfl⟩;have hsz:s16.heap.size=w.heap.size+1+1+1:=by rw [hws];simp
    have yA:=by2 (b:=A) hws hdA;have zA:A < s16.heap.size:=by omega
    have lA:w.heap.size≤A:=by omega
    have yB:=by1 (b:=B) hws (by simp [hdB]);have zB:B < s16.heap.size:=by omega
    have lB:w.heap.size≤B:=by omega
    have yE:=by0 (b:=E) hws (by simp [hdE]);have zE:E < s16.heap.size:=by omega
    have lE:w.heap.size≤E:=by omega
    rw [← hws];try rw [← hdE]
    try rw [← hdB]
    try rw [← hdA]
    clear hws hsz hdA hdB hdE;have hBo:=hBs;clear hBs;refine (HN.out _).mono ?_;rintro e s17 ⟨rfl,hb⟩;replace yA:=eqB hb yA zA;replace zA:=zHl hb zA;replace yB:=eqB hb yB zB;replace zB:=zHl hb zB;replace yE:=eqB hb yE zE;replace zE:=zHl hb zE;replace hBo:=hBo.trans (hb.mono hBo.size);clear hb;go_wp2_with fail;obtain ⟨s18,hws⟩:∃ s,s=(s17.alloc (.cells #[.int .i64 rc,.int .i64 rr,.int .i64 tc,.int .i64 tt] 104)):=⟨_,rfl⟩;have hBs:=bs1 hBo hws;obtain ⟨G,hdG⟩:∃ b,b=s17.heap.size:=⟨_,rfl⟩;have hsz:s18.heap.size=s17.heap.size+1:=by rw [hws];simp
    have hQC:∀ p v,s17.cell? p=some v→s18.cell? p=some v:=fun p v h => by rw [hws];exact (alK h)
    have hQZ:∀ b,b < s17.heap.size→b < s18.heap.size:=fun b h => by omega
    replace yA:=eqE hws (eqA yA zA);replace zA:=hQZ _ zA;replace yB:=eqE hws (eqA yB zB);replace zB:=hQZ _ zB;replace yE:=eqE hws (eqA yE zE);replace zE:=hQZ _ zE;clear hQC hQZ;have yG:=by0 (b:=G) hws hdG;have zG:G < s18.heap.size:=by omega
    have lG:w.heap.size≤G:=by have:=hBo.size;omega
    rw [← hws];try rw [← hdG]
    clear hBo;clear hws hsz hdG;have hBo:=hBs;clear hBs;refine (HR.out _).mono ?_;rintro e s19 ⟨rfl,hb⟩;replace yA:=eqB hb yA zA;replace zA:=zHl hb zA;replace yB:=eqB hb yB zB;replace zB:=zHl hb zB;replace yE:=eqB hb yE zE;replace zE:=zHl hb zE;replace yG:=eqB hb yG zG;replace zG:=zHl hb zG;replace hBo:=hBo.trans (hb.mono hBo.size);clear hb;go_wp2_with fail;refine (HT.out _).mono ?_;rintro e s20 ⟨rfl,hb⟩;replace yA:=eqB hb yA zA;replace zA:=zHl hb zA;replace yB:=eqB hb yB zB;replace zB:=zHl hb zB;replace yE:=eqB hb yE zE;replace zE:=zHl hb zE;replace yG:=eqB hb yG zG;replace zG:=zHl hb zG;replace hBo:=hBo.trans (hb.mono hBo.size);clear hb;go_wp2_with fail
    all_goals go_ret
    all_goals exact ⟨a0d HSE.out.symm,hBo⟩
set_option maxHeartbeats 16000000
theorem c0v {P:Program} {f:FuncId} {args:Array Value} {w:World} {r:Ending} (h:Calls P f args w fun e w' => e=r∧w'=w):Calls P f args w fun e w' => e=r∧w=w' :=
 h.mono fun _ _ ⟨he,hw⟩ => ⟨he,hw.symm⟩
def Fits (n:Nd):Prop:=n.qa.size≤100∧n.qd.size≤100∧n.s.size≤500∧n.r.sh.size≤100∧n.t.sh.size≤100
theorem c3o (o a b:Int) (qn:Bool) (qa qd x:ByteArray) (tr:Bool) (rs:ByteArray) (rc rr:Int) (rf rg:Bool) (ts:ByteArray) (tc tt:Int) (tf tg:Bool) (w:World) (hf:Fits ⟨1,o,a,b,qn,qa,qd,x,tr,⟨rs,rc,rr,rf,rg⟩,⟨ts,tc,tt,tf,tg⟩⟩) (hN:NamesAt w) :
  Calls Tryz.prog 29 #[.agg #[.int .i64 1,.int .i64 o,.int .i64 a,.int .i64 b,.bool qn,.string qa,.string qd,.string x,.bool tr,.string rs,.int .i64 rc,.int .i64 rr,.bool rf,.bool rg,.string ts,.int .i64 tc,.int .i64 tt,.bool tf,.bool tg]] w fun e w' => e=.returned (.bool (a4i ⟨1,o,a,b,qn,qa,qd,x,tr,⟨rs,rc,rr,rf,rg⟩,⟨ts,tc,tt,tf,tg⟩⟩ && a2r ⟨1,o,a,b,qn,qa,qd,x,tr,⟨rs,rc,rr,rf,rg⟩,⟨ts,tc,tt,tf,tg⟩⟩ (a0s ⟨1,o,a,b,qn,qa,qd,x,tr,⟨rs,rc,rr,rf,rg⟩,⟨ts,tc,tt,tf,tg⟩⟩)))∧Below w.heap.size w w':=by
 obtain ⟨h1,h2,h3,h4,h5⟩:=hf;dsimp only at *;have hud:undef=Value.tuple #[]:=rfl;obtain ⟨K19,hz19,HK19⟩:=a0q;have hb:a0s ⟨1,o,a,b,qn,qa,qd,x,tr,⟨rs,rc,rr,rf,rg⟩,⟨ts,tc,tt,tf,tg⟩⟩=⟨1,0,0,0,qn,qa,qd,⟨#[]⟩,false,rf0,rf0⟩:=rfl;have hE:∀ w,Sem.run Tryz.prog (binOp .eql 30 (.agg #[.int .i64 1,.int .i64 o,.int .i64 a,.int .i64 b,.bool qn,.string qa,.string qd,.string x,.bool tr,.string rs,.int .i64 rc,.int .i64 rr,.bool rf,.bool rg,.string ts,.int .i64 tc,.int .i64 tt,.bool tf,.bool tg]) (.agg #[.int .i64 1,.int .i64 0,.int .i64 0,.int .i64 0,.bool qn,.string qa,.string qd,.string ⟨#[]⟩,.bool false,.string ⟨#[]⟩,.int .i64 0,.int .i64 0,.bool false,.bool false,.string ⟨#[]⟩,.int .i64 0,.int .i64 0,.bool false,.bool false])) w=.ok (.bool (a2r ⟨1,o,a,b,qn,qa,qd,x,tr,⟨rs,rc,rr,rf,rg⟩,⟨ts,tc,tt,tf,tg⟩⟩ (a0s ⟨1,o,a,b,qn,qa,qd,x,tr,⟨rs,rc,rr,rf,rg⟩,⟨ts,tc,tt,tf,tg⟩⟩))) w:=fun w => by rw [hb];exact a1b ⟨1,o,a,b,qn,qa,qd,x,tr,⟨rs,rc,rr,rf,rg⟩,⟨ts,tc,tt,tf,tg⟩⟩ ⟨1,0,0,0,qn,qa,qd,⟨#[]⟩,false,rf0,rf0⟩ w
 clear hb;generalize a2r ⟨1,o,a,b,qn,qa,qd,x,tr,⟨rs,rc,rr,rf,rg⟩,⟨ts,tc,tt,tf,tg⟩⟩ (a0s ⟨1,o,a,b,qn,qa,qd,x,tr,⟨rs,rc,rr,rf,rg⟩,⟨ts,tc,tt,tf,tg⟩⟩)=z at *;have hu:a4i ⟨1,o,a,b,qn,qa,qd,x,tr,⟨rs,rc,rr,rf,rg⟩,⟨ts,tc,tt,tf,tg⟩⟩=amB qn qa qd:=rfl;rw [hu];have hC:=fun w => b2g qn qa qd w (by omega) (by omega)
 generalize amB qn qa qd=y at *;have HC:=zh hC;clear hC hu h1 h2 h3 h4 h5 hN
 cases y with
 | false =>
  clear hE;go_enter Tryz.func29,Tryz.ntmps29;go_wp2_with fail;obtain ⟨s1,hws⟩:∃ s,s=(w.alloc (.cells #[.int .i64 1,.int .i64 o,.int .i64 a,.int .i64 b,.bool qn,.string qa,.string qd,.string x,.bool tr,.string rs,.int .i64 rc,.int .i64 rr,.bool rf,.bool rg,.string ts,.int .i64 tc,.int .i64 tt,.bool tf,.bool tg] 30)):=⟨_,rfl⟩;have hBs:=bs1 (Below.refl w.heap.size w) hws;obtain ⟨A,hdA⟩:∃ b,b=w.heap.size:=⟨_,rfl⟩;have hsz:s1.heap.size=w.heap.size+1:=by rw [hws];simp
  have yA:=by0 (b:=A) hws hdA;have zA:A < s1.heap.size:=by omega
  have lA:w.heap.size≤A:=by omega
  have LA:=eqL (P:=Tryz.prog) HK19 rfl yA;rw [← hws];try rw [← hdA]
  clear hws hsz hdA;have hBo:=hBs;clear hBs;refine (HC.out _).mono ?_;rintro e s2 ⟨rfl,hb⟩;replace yA:=eqB hb yA zA;replace zA:=zHl hb zA;replace hBo:=hBo.trans (hb.mono hBo.size);clear hb;replace LA:=eqL (P:=Tryz.prog) HK19 rfl yA
  all_goals go_wp2_with fail
  all_goals first | go_ret | go_ret2
  all_goals exact ⟨rfl,hBo⟩
 | true =>
  go_enter Tryz.func29,Tryz.ntmps29;go_wp2_with fail;obtain ⟨s3,hws⟩:∃ s,s=(w.alloc (.cells #[.int .i64 1,.int .i64 o,.int .i64 a,.int .i64 b,.bool qn,.string qa,.string qd,.string x,.bool tr,.string rs,.int .i64 rc,.int .i64 rr,.bool rf,.bool rg,.string ts,.int .i64 tc,.int .i64 tt,.bool tf,.bool tg] 30)):=⟨_,rfl⟩;have hBs:=bs1 (Below.refl w.heap.size w) hws;obtain ⟨A,hdA⟩:∃ b,b=w.heap.size:=⟨_,rfl⟩;have hsz:s3.heap.size=w.heap.size+1:=by rw [hws];simp
  have yA:=by0 (b:=A) hws hdA;have zA:A < s3.heap.size:=by omega
  have lA:w.heap.size≤A:=by omega
  have LA:=eqL (P:=Tryz.prog) HK19 rfl yA;rw [← hws];try rw [← hdA]
  clear hws hsz hdA;have hBo:=hBs;clear hBs;refine (HC.out _).mono ?_;rintro e s4 ⟨rfl,hb⟩;replace yA:=eqB hb yA zA;replace zA:=zHl hb zA;replace hBo:=hBo.trans (hb.mono hBo.size);clear hb;replace LA:=eqL (P:=Tryz.prog) HK19 rfl yA
  all_goals go_wp2_with fail
  all_goals first | go_ret | go_ret2
  all_goals exact ⟨rfl,hBo⟩
theorem c3p (o a b:Int) (qn:Bool) (qa qd x:ByteArray) (tr:Bool) (rs:ByteArray) (rc rr:Int) (rf rg:Bool) (ts:ByteArray) (tc tt:Int) (tf tg:Bool) (w:World) (hf:Fits ⟨2,o,a,b,qn,qa,qd,x,tr,⟨rs,rc,rr,rf,rg⟩,⟨ts,tc,tt,tf,tg⟩⟩) (hN:NamesAt w) :
  Calls Tryz.prog 29 #[.agg #[.int .i64 2,.int .i64 o,.int .i64 a,.int .i64 b,.bool qn,.string qa,.string qd,.string x,.bool tr,.string rs,.int .i64 rc,.int .i64 rr,.bool rf,.bool rg,.string ts,.int .i64 tc,.int .i64 tt,.bool tf,.bool tg]] w fun e w' => e=.returned (.bool (a4i ⟨2,o,a,b,qn,qa,qd,x,tr,⟨rs,rc,rr,rf,rg⟩,⟨ts,tc,tt,tf,tg⟩⟩ && a2r ⟨2,o,a,b,qn,qa,qd,x,tr,⟨rs,rc,rr,rf,rg⟩,⟨ts,tc,tt,tf,tg⟩⟩ (a0s ⟨2,o,a,b,qn,qa,qd,x,tr,⟨rs,rc,rr,rf,rg⟩,⟨ts,tc,tt,tf,tg⟩⟩)))∧Below w.heap.size w w':=by
 obtain ⟨h1,h2,h3,h4,h5⟩:=hf;dsimp only at *;have hud:undef=Value.tuple #[]:=rfl;obtain ⟨K19,hz19,HK19⟩:=a0q;have hb:a0s ⟨2,o,a,b,qn,qa,qd,x,tr,⟨rs,rc,rr,rf,rg⟩,⟨ts,tc,tt,tf,tg⟩⟩=⟨2,0,0,0,false,⟨#[]⟩,⟨#[]⟩,x,false,rf0,rf0⟩:=rfl;have hE:∀ w,Sem.run Tryz.prog (binOp .eql 30 (.agg #[.int .i64 2,.int .i64 o,.int .i64 a,.int .i64 b,.bool qn,.string qa,.string qd,.string x,.bool tr,.string rs,.int .i64 rc,.int .i64 rr,.bool rf,.bool rg,.string ts,.int .i64 tc,.int .i64 tt,.bool tf,.bool tg]) (.agg #[.int .i64 2,.int .i64 0,.int .i64 0,.int .i64 0,.bool false,.string ⟨#[]⟩,.string ⟨#[]⟩,.string x,.bool false,.string ⟨#[]⟩,.int .i64 0,.int .i64 0,.bool false,.bool false,.string ⟨#[]⟩,.int .i64 0,.int .i64 0,.bool false,.bool false])) w=.ok (.bool (a2r ⟨2,o,a,b,qn,qa,qd,x,tr,⟨rs,rc,rr,rf,rg⟩,⟨ts,tc,tt,tf,tg⟩⟩ (a0s ⟨2,o,a,b,qn,qa,qd,x,tr,⟨rs,rc,rr,rf,rg⟩,⟨ts,tc,tt,tf,tg⟩⟩))) w:=fun w => by rw [hb];exact a1b ⟨2,o,a,b,qn,qa,qd,x,tr,⟨rs,rc,rr,rf,rg⟩,⟨ts,tc,tt,tf,tg⟩⟩ ⟨2,0,0,0,false,⟨#[]⟩,⟨#[]⟩,x,false,rf0,rf0⟩ w
 clear hb;generalize a2r ⟨2,o,a,b,qn,qa,qd,x,tr,⟨rs,rc,rr,rf,rg⟩,⟨ts,tc,tt,tf,tg⟩⟩ (a0s ⟨2,o,a,b,qn,qa,qd,x,tr,⟨rs,rc,rr,rf,rg⟩,⟨ts,tc,tt,tf,tg⟩⟩)=z at *;have hu:a4i ⟨2,o,a,b,qn,qa,qd,x,tr,⟨rs,rc,rr,rf,rg⟩,⟨ts,tc,tt,tf,tg⟩⟩=b7h x:=rfl;rw [hu];have hC:=fun w => b4m x w (by unfold maxLen;omega)
 generalize b7h x=y at *;have HC:=zh hC;clear hC hu h1 h2 h3 h4 h5 hN
 cases y with
 | false =>
  clear hE;go_enter Tryz.func29,Tryz.ntmps29;go_wp2_with fail;obtain ⟨s5,hws⟩:∃ s,s=(w.alloc (.cells #[.int .i64 2,.int .i64 o,.int .i64 a,.int .i64 b,.bool qn,.string qa,.string qd,.string x,.bool tr,.string rs,.int .i64 rc,.int .i64 rr,.bool rf,.bool rg,.string ts,.int .i64 tc,.int .i64 tt,.bool tf,.bool tg] 30)):=⟨_,rfl⟩;have hBs:=bs1 (Below.refl w.heap.size w) hws;obtain ⟨A,hdA⟩:∃ b,b=w.heap.size:=⟨_,rfl⟩;have hsz:s5.heap.size=w.heap.size+1:=by rw [hws];simp
  have yA:=by0 (b:=A) hws hdA;have zA:A < s5.heap.size:=by omega
  have lA:w.heap.size≤A:=by omega
  have LA:=eqL (P:=Tryz.prog) HK19 rfl yA;rw [← hws];try rw [← hdA]
  clear hws hsz hdA;have hBo:=hBs;clear hBs;refine (HC.out _).mono ?_;rintro e s6 ⟨rfl,hb⟩;replace yA:=eqB hb yA zA;replace zA:=zHl hb zA;replace hBo:=hBo.trans (hb.mono hBo.size);clear hb;replace LA:=eqL (P:=Tryz.prog) HK19 rfl yA
  all_goals go_wp2_with fail
  all_goals first | go_ret | go_ret2
  all_goals exact ⟨rfl,hBo⟩
 | true =>
  go_enter Tryz.func29,Tryz.ntmps29;go_wp2_with fail;obtain ⟨s7,hws⟩:∃ s,s=(w.alloc (.cells #[.int .i64 2,.int .i64 o,.int .i64 a,.int .i64 b,.bool qn,.string qa,.string qd,.string x,.bool tr,.string rs,.int .i64 rc,.int .i64 rr,.bool rf,.bool rg,.string ts,.int .i64 tc,.int .i64 tt,.bool tf,.bool tg] 30)):=⟨_,rfl⟩;have hBs:=bs1 (Below.refl w.heap.size w) hws;obtain ⟨A,hdA⟩:∃ b,b=w.heap.size:=⟨_,rfl⟩;have hsz:s7.heap.size=w.heap.size+1:=by rw [hws];simp
  have yA:=by0 (b:=A) hws hdA;have zA:A < s7.heap.size:=by omega
  have lA:w.heap.size≤A:=by omega
  have LA:=eqL (P:=Tryz.prog) HK19 rfl yA;rw [← hws];try rw [← hdA]
  clear hws hsz hdA;have hBo:=hBs;clear hBs;refine (HC.out _).mono ?_;rintro e s8 ⟨rfl,hb⟩;replace yA:=eqB hb yA zA;replace zA:=zHl hb zA;replace hBo:=hBo.trans (hb.mono hBo.size);clear hb;replace LA:=eqL (P:=Tryz.prog) HK19 rfl yA
  all_goals go_wp2_with fail
  all_goals first | go_ret | go_ret2
  all_goals exact ⟨rfl,hBo⟩
theorem c3q (o a b:Int) (qn:Bool) (qa qd x:ByteArray) (tr:Bool) (rs:ByteArray) (rc rr:Int) (rf rg:Bool) (ts:ByteArray) (tc tt:Int) (tf tg:Bool) (w:World) (hf:Fits ⟨3,o,a,b,qn,qa,qd,x,tr,⟨rs,rc,rr,rf,rg⟩,⟨ts,tc,tt,tf,tg⟩⟩) (hN:NamesAt w) :
  Calls Tryz.prog 29 #[.agg #[.int .i64 3,.int .i64 o,.int .i64 a,.int .i64 b,.bool qn,.string qa,.string qd,.string x,.bool tr,.string rs,.int .i64 rc,.int .i64 rr,.bool rf,.bool rg,.string ts,.int .i64 tc,.int .i64 tt,.bool tf,.bool tg]] w fun e w' => e=.returned (.bool (a4i ⟨3,o,a,b,qn,qa,qd,x,tr,⟨rs,rc,rr,rf,rg⟩,⟨ts,tc,tt,tf,tg⟩⟩ && a2r ⟨3,o,a,b,qn,qa,qd,x,tr,⟨rs,rc,rr,rf,rg⟩,⟨ts,tc,tt,tf,tg⟩⟩ (a0s ⟨3,o,a,b,qn,qa,qd,x,tr,⟨rs,rc,rr,rf,rg⟩,⟨ts,tc,tt,tf,tg⟩⟩)))∧Below w.heap.size w w':=by
 obtain ⟨h1,h2,h3,h4,h5⟩:=hf;dsimp only at *;have hud:undef=Value.tuple #[]:=rfl;obtain ⟨K19,hz19,HK19⟩:=a0q;have hb:a0s ⟨3,o,a,b,qn,qa,qd,x,tr,⟨rs,rc,rr,rf,rg⟩,⟨ts,tc,tt,tf,tg⟩⟩=⟨3,0,0,0,false,⟨#[]⟩,⟨#[]⟩,⟨#[]⟩,tr,rf0,rf0⟩:=rfl;have hE:∀ w,Sem.run Tryz.prog (binOp .eql 30 (.agg #[.int .i64 3,.int .i64 o,.int .i64 a,.int .i64 b,.bool qn,.string qa,.string qd,.string x,.bool tr,.string rs,.int .i64 rc,.int .i64 rr,.bool rf,.bool rg,.string ts,.int .i64 tc,.int .i64 tt,.bool tf,.bool tg]) (.agg #[.int .i64 3,.int .i64 0,.int .i64 0,.int .i64 0,.bool false,.string ⟨#[]⟩,.string ⟨#[]⟩,.string ⟨#[]⟩,.bool tr,.string ⟨#[]⟩,.int .i64 0,.int .i64 0,.bool false,.bool false,.string ⟨#[]⟩,.int .i64 0,.int .i64 0,.bool false,.bool false])) w=.ok (.bool (a2r ⟨3,o,a,b,qn,qa,qd,x,tr,⟨rs,rc,rr,rf,rg⟩,⟨ts,tc,tt,tf,tg⟩⟩ (a0s ⟨3,o,a,b,qn,qa,qd,x,tr,⟨rs,rc,rr,rf,rg⟩,⟨ts,tc,tt,tf,tg⟩⟩))) w:=fun w => by rw [hb];exact a1b ⟨3,o,a,b,qn,qa,qd,x,tr,⟨rs,rc,rr,rf,rg⟩,⟨ts,tc,tt,tf,tg⟩⟩ ⟨3,0,0,0,false,⟨#[]⟩,⟨#[]⟩,⟨#[]⟩,tr,rf0,rf0⟩ w
 clear hb;generalize a2r ⟨3,o,a,b,qn,qa,qd,x,tr,⟨rs,rc,rr,rf,rg⟩,⟨ts,tc,tt,tf,tg⟩⟩ (a0s ⟨3,o,a,b,qn,qa,qd,x,tr,⟨rs,rc,rr,rf,rg⟩,⟨ts,tc,tt,tf,tg⟩⟩)=z at *;have hu:a4i ⟨3,o,a,b,qn,qa,qd,x,tr,⟨rs,rc,rr,rf,rg⟩,⟨ts,tc,tt,tf,tg⟩⟩=true:=rfl;rw [hu];clear hu h1 h2 h3 h4 h5 hN;go_enter Tryz.func29,Tryz.ntmps29
 go_upto_region 1 with (fail)
 obtain ⟨s9,hws⟩:∃ s,s=(w.alloc (.cells #[.int .i64 3,.int .i64 o,.int .i64 a,.int .i64 b,.bool qn,.string qa,.string qd,.string x,.bool tr,.string rs,.int .i64 rc,.int .i64 rr,.bool rf,.bool rg,.string ts,.int .i64 tc,.int .i64 tt,.bool tf,.bool tg] 30)):=⟨_,rfl⟩;have hBs:=bs1 (Below.refl w.heap.size w) hws;obtain ⟨A,hdA⟩:∃ b,b=w.heap.size:=⟨_,rfl⟩;have hsz:s9.heap.size=w.heap.size+1:=by rw [hws];simp
 have yA:=by0 (b:=A) hws hdA;have zA:A < s9.heap.size:=by omega
 have lA:w.heap.size≤A:=by omega
 have LA:=eqL (P:=Tryz.prog) HK19 rfl yA;rw [← hws];try rw [← hdA]
 clear hws hsz hdA;have hBo:=hBs;clear hBs;go_wp2_with fail
 go_ret
 exact ⟨a0d (by simp),hBo⟩
theorem c3r (o a b:Int) (qn:Bool) (qa qd x:ByteArray) (tr:Bool) (rs:ByteArray) (rc rr:Int) (rf rg:Bool) (ts:ByteArray) (tc tt:Int) (tf tg:Bool) (w:World) (hf:Fits ⟨4,o,a,b,qn,qa,qd,x,tr,⟨rs,rc,rr,rf,rg⟩,⟨ts,tc,tt,tf,tg⟩⟩) (hN:NamesAt w) :
  Calls Tryz.prog 29 #[.agg #[.int .i64 4,.int .i64 o,.int .i64 a,.int .i64 b,.bool qn,.string qa,.string qd,.string x,.bool tr,.string rs,.int .i64 rc,.int .i64 rr,.bool rf,.bool rg,.string ts,.int .i64 tc,.int .i64 tt,.bool tf,.bool tg]] w fun e w' => e=.returned (.bool (a4i ⟨4,o,a,b,qn,qa,qd,x,tr,⟨rs,rc,rr,rf,rg⟩,⟨ts,tc,tt,tf,tg⟩⟩ && a2r ⟨4,o,a,b,qn,qa,qd,x,tr,⟨rs,rc,rr,rf,rg⟩,⟨ts,tc,tt,tf,tg⟩⟩ (a0s ⟨4,o,a,b,qn,qa,qd,x,tr,⟨rs,rc,rr,rf,rg⟩,⟨ts,tc,tt,tf,tg⟩⟩)))∧Below w.heap.size w w':=by
 obtain ⟨h1,h2,h3,h4,h5⟩:=hf;dsimp only at *;have hud:undef=Value.tuple #[]:=rfl;obtain ⟨K19,hz19,HK19⟩:=a0q;have hb:a0s ⟨4,o,a,b,qn,qa,qd,x,tr,⟨rs,rc,rr,rf,rg⟩,⟨ts,tc,tt,tf,tg⟩⟩=⟨4,o,0,0,false,⟨#[]⟩,⟨#[]⟩,⟨#[]⟩,false,rf0,rf0⟩:=rfl;have hE:∀ w,Sem.run Tryz.prog (binOp .eql 30 (.agg #[.int .i64 4,.int .i64 o,.int .i64 a,.int .i64 b,.bool qn,.string qa,.string qd,.string x,.bool tr,.string rs,.int .i64 rc,.int .i64 rr,.bool rf,.bool rg,.string ts,.int .i64 tc,.int .i64 tt,.bool tf,.bool tg]) (.agg #[.int .i64 4,.int .i64 o,.int .i64 0,.int .i64 0,.bool false,.string ⟨#[]⟩,.string ⟨#[]⟩,.string ⟨#[]⟩,.bool false,.string ⟨#[]⟩,.int .i64 0,.int .i64 0,.bool false,.bool false,.string ⟨#[]⟩,.int .i64 0,.int .i64 0,.bool false,.bool false])) w=.ok (.bool (a2r ⟨4,o,a,b,qn,qa,qd,x,tr,⟨rs,rc,rr,rf,rg⟩,⟨ts,tc,tt,tf,tg⟩⟩ (a0s ⟨4,o,a,b,qn,qa,qd,x,tr,⟨rs,rc,rr,rf,rg⟩,⟨ts,tc,tt,tf,tg⟩⟩))) w:=fun w => by rw [hb];exact a1b ⟨4,o,a,b,qn,qa,qd,x,tr,⟨rs,rc,rr,rf,rg⟩,⟨ts,tc,tt,tf,tg⟩⟩ ⟨4,o,0,0,false,⟨#[]⟩,⟨#[]⟩,⟨#[]⟩,false,rf0,rf0⟩ w
 clear hb;generalize a2r ⟨4,o,a,b,qn,qa,qd,x,tr,⟨rs,rc,rr,rf,rg⟩,⟨ts,tc,tt,tf,tg⟩⟩ (a0s ⟨4,o,a,b,qn,qa,qd,x,tr,⟨rs,rc,rr,rf,rg⟩,⟨ts,tc,tt,tf,tg⟩⟩)=z at *;have hu:a4i ⟨4,o,a,b,qn,qa,qd,x,tr,⟨rs,rc,rr,rf,rg⟩,⟨ts,tc,tt,tf,tg⟩⟩=(decide (1≤o) && decide (o≤7)):=rfl;rw [hu];have hC:=fun w hN => c0v (c0u o w hN)
 have hnn:=c0t o;generalize (decide (1≤o) && decide (o≤7))=y at *;generalize b0h o=u at *;have HC:=zh hC;have HNN:=zh hN;clear hC hu h1 h2 h3 h4 h5 hN
 cases y with
 | false =>
  have hn0:u.toList=[]:=by simpa using hnn
  clear hE hnn;go_enter Tryz.func29,Tryz.ntmps29;go_wp2_with fail;obtain ⟨s10,hws⟩:∃ s,s=(w.alloc (.cells #[.int .i64 4,.int .i64 o,.int .i64 a,.int .i64 b,.bool qn,.string qa,.string qd,.string x,.bool tr,.string rs,.int .i64 rc,.int .i64 rr,.bool rf,.bool rg,.string ts,.int .i64 tc,.int .i64 tt,.bool tf,.bool tg] 30)):=⟨_,rfl⟩;have hBs:=bs1 (Below.refl w.heap.size w) hws;obtain ⟨A,hdA⟩:∃ b,b=w.heap.size:=⟨_,rfl⟩;have hsz:s10.heap.size=w.heap.size+1:=by rw [hws];simp
  have yA:=by0 (b:=A) hws hdA;have zA:A < s10.heap.size:=by omega
  have lA:w.heap.size≤A:=by omega
  have LA:=eqL (P:=Tryz.prog) HK19 rfl yA;rw [← hws];try rw [← hdA]
  clear hws hsz hdA;have hBo:=hBs;clear hBs;refine (HC.out _ (HNN.out.below hBo)).mono ?_;rintro e wq ⟨rfl,rfl⟩;go_wp2_with fail
  go_ret
  exact ⟨a0d (by simp),hBo⟩
 | true =>
  have hn0 : ¬ u.toList=[]:=by simpa using hnn
  go_enter Tryz.func29,Tryz.ntmps29;go_wp2_with fail;obtain ⟨s11,hws⟩:∃ s,s=(w.alloc (.cells #[.int .i64 4,.int .i64 o,.int .i64 a,.int .i64 b,.bool qn,.string qa,.string qd,.string x,.bool tr,.string rs,.int .i64 rc,.int .i64 rr,.bool rf,.bool rg,.string ts,.int .i64 tc,.int .i64 tt,.bool tf,.bool tg] 30)):=⟨_,rfl⟩;have hBs:=bs1 (Below.refl w.heap.size w) hws;obtain ⟨A,hdA⟩:∃ b,b=w.heap.size:=⟨_,rfl⟩;have hsz:s11.heap.size=w.heap.size+1:=by rw [hws];simp
  have yA:=by0 (b:=A) hws hdA;have zA:A < s11.heap.size:=by omega
  have lA:w.heap.size≤A:=by omega
  have LA:=eqL (P:=Tryz.prog) HK19 rfl yA;rw [← hws];try rw [← hdA]
  clear hws hsz hdA;have hBo:=hBs;clear hBs;refine (HC.out _ (HNN.out.below hBo)).mono ?_;rintro e wq ⟨rfl,rfl⟩;go_wp2_with fail
  go_ret
  exact ⟨a0d (by simp),hBo⟩
theorem c3s (o a b:Int) (qn:Bool) (qa qd x:ByteArray) (tr:Bool) (rs:ByteArray) (rc rr:Int) (rf rg:Bool) (ts:ByteArray) (tc tt:Int) (tf tg:Bool) (w:World) (hf:Fits ⟨5,o,a,b,qn,qa,qd,x,tr,⟨rs,rc,rr,rf,rg⟩,⟨ts,tc,tt,tf,tg⟩⟩) (hN:NamesAt w) :
  Calls Tryz.prog 29 #[.agg #[.int .i64 5,.int .i64 o,.int .i64 a,.int .i64 b,.bool qn,.string qa,.string qd,.string x,.bool tr,.string rs,.int .i64 rc,.int .i64 rr,.bool rf,.bool rg,.string ts,.int .i64 tc,.int .i64 tt,.bool tf,.bool tg]] w fun e w' => e=.returned (.bool (a4i ⟨5,o,a,b,qn,qa,qd,x,tr,⟨rs,rc,rr,rf,rg⟩,⟨ts,tc,tt,tf,tg⟩⟩ && a2r ⟨5,o,a,b,qn,qa,qd,x,tr,⟨rs,rc,rr,rf,rg⟩,⟨ts,tc,tt,tf,tg⟩⟩ (a0s ⟨5,o,a,b,qn,qa,qd,x,tr,⟨rs,rc,rr,rf,rg⟩,⟨ts,tc,tt,tf,tg⟩⟩)))∧Below w.heap.size w w':=by
 obtain ⟨h1,h2,h3,h4,h5⟩:=hf;dsimp only at *;have hud:undef=Value.tuple #[]:=rfl;obtain ⟨K19,hz19,HK19⟩:=a0q;have hb:a0s ⟨5,o,a,b,qn,qa,qd,x,tr,⟨rs,rc,rr,rf,rg⟩,⟨ts,tc,tt,tf,tg⟩⟩=⟨5,0,0,0,false,⟨#[]⟩,⟨#[]⟩,⟨#[]⟩,false,⟨rs,rc,rr,rf,rg⟩,rf0⟩:=rfl;have hE:∀ w,Sem.run Tryz.prog (binOp .eql 30 (.agg #[.int .i64 5,.int .i64 o,.int .i64 a,.int .i64 b,.bool qn,.string qa,.string qd,.string x,.bool tr,.string rs,.int .i64 rc,.int .i64 rr,.bool rf,.bool rg,.string ts,.int .i64 tc,.int .i64 tt,.bool tf,.bool tg]) (.agg #[.int .i64 5,.int .i64 0,.int .i64 0,.int .i64 0,.bool false,.string ⟨#[]⟩,.string ⟨#[]⟩,.string ⟨#[]⟩,.bool false,.string rs,.int .i64 rc,.int .i64 rr,.bool rf,.bool rg,.string ⟨#[]⟩,.int .i64 0,.int .i64 0,.bool false,.bool false])) w=.ok (.bool (a2r ⟨5,o,a,b,qn,qa,qd,x,tr,⟨rs,rc,rr,rf,rg⟩,⟨ts,tc,tt,tf,tg⟩⟩ (a0s ⟨5,o,a,b,qn,qa,qd,x,tr,⟨rs,rc,rr,rf,rg⟩,⟨ts,tc,tt,tf,tg⟩⟩))) w:=fun w => by rw [hb];exact a1b ⟨5,o,a,b,qn,qa,qd,x,tr,⟨rs,rc,rr,rf,rg⟩,⟨ts,tc,tt,tf,tg⟩⟩ ⟨5,0,0,0,false,⟨#[]⟩,⟨#[]⟩,⟨#[]⟩,false,⟨rs,rc,rr,rf,rg⟩,rf0⟩ w
 clear hb;generalize a2r ⟨5,o,a,b,qn,qa,qd,x,tr,⟨rs,rc,rr,rf,rg⟩,⟨ts,tc,tt,tf,tg⟩⟩ (a0s ⟨5,o,a,b,qn,qa,qd,x,tr,⟨rs,rc,rr,rf,rg⟩,⟨ts,tc,tt,tf,tg⟩⟩)=z at *;have hu:a4i ⟨5,o,a,b,qn,qa,qd,x,tr,⟨rs,rc,rr,rf,rg⟩,⟨ts,tc,tt,tf,tg⟩⟩=a8g rs rc rr:=rfl;rw [hu];have hC:=fun w => a6l ⟨rs,rc,rr,rf,rg⟩ (a8g rs rc rr) w (by show rs.size≤maxLen;unfold maxLen;omega) rfl
 generalize a8g rs rc rr=y at *;have HC:=zh hC;clear hC hu h1 h2 h3 h4 h5 hN
 cases y with
 | false =>
  clear hE;go_enter Tryz.func29,Tryz.ntmps29;go_wp2_with fail;obtain ⟨s12,hws⟩:∃ s,s=(w.alloc (.cells #[.int .i64 5,.int .i64 o,.int .i64 a,.int .i64 b,.bool qn,.string qa,.string qd,.string x,.bool tr,.string rs,.int .i64 rc,.int .i64 rr,.bool rf,.bool rg,.string ts,.int .i64 tc,.int .i64 tt,.bool tf,.bool tg] 30)):=⟨_,rfl⟩;have hBs:=bs1 (Below.refl w.heap.size w) hws;obtain ⟨A,hdA⟩:∃ b,b=w.heap.size:=⟨_,rfl⟩;have hsz:s12.heap.size=w.heap.size+1:=by rw [hws];simp
  have yA:=by0 (b:=A) hws hdA;have zA:A < s12.heap.size:=by omega
  have lA:w.heap.size≤A:=by omega
  have LA:=eqL (P:=Tryz.prog) HK19 rfl yA;rw [← hws];try rw [← hdA]
  clear hws hsz hdA;have hBo:=hBs;clear hBs;refine (HC.out _).mono ?_;rintro e s13 ⟨rfl,hb⟩;replace yA:=eqB hb yA zA;replace zA:=zHl hb zA;replace hBo:=hBo.trans (hb.mono hBo.size);clear hb;replace LA:=eqL (P:=Tryz.prog) HK19 rfl yA
  all_goals go_wp2_with fail
  all_goals first | go_ret | go_ret2
  all_goals exact ⟨rfl,hBo⟩
 | true =>
  go_enter Tryz.func29,Tryz.ntmps29;go_wp2_with fail;obtain ⟨s14,hws⟩:∃ s,s=(w.alloc (.cells #[.int .i64 5,.int .i64 o,.int .i64 a,.int .i64 b,.bool qn,.string qa,.string qd,.string x,.bool tr,.string rs,.int .i64 rc,.int .i64 rr,.bool rf,.bool rg,.string ts,.int .i64 tc,.int .i64 tt,.bool tf,.bool tg] 30)):=⟨_,rfl⟩;have hBs:=bs1 (Below.refl w.heap.size w) hws;obtain ⟨A,hdA⟩:∃ b,b=w.heap.size:=⟨_,rfl⟩;have hsz:s14.heap.size=w.heap.size+1:=by rw [hws];simp
  have yA:=by0 (b:=A) hws hdA;have zA:A < s14.heap.size:=by omega
  have lA:w.heap.size≤A:=by omega
  have LA:=eqL (P:=Tryz.prog) HK19 rfl yA;rw [← hws];try rw [← hdA]
  clear hws hsz hdA;have hBo:=hBs;clear hBs;refine (HC.out _).mono ?_;rintro e s15 ⟨rfl,hb⟩;replace yA:=eqB hb yA zA;replace zA:=zHl hb zA;replace hBo:=hBo.trans (hb.mono hBo.size);clear hb;replace LA:=eqL (P:=Tryz.prog) HK19 rfl yA
  all_goals go_wp2_with fail
  all_goals first | go_ret | go_ret2
  all_goals exact ⟨rfl,hBo⟩
theorem c3t (o a b:Int) (qn:Bool) (qa qd x:ByteArray) (tr:Bool) (rs:ByteArray) (rc rr:Int) (rf rg:Bool) (ts:ByteArray) (tc tt:Int) (tf tg:Bool) (w:World) (hf:Fits ⟨6,o,a,b,qn,qa,qd,x,tr,⟨rs,rc,rr,rf,rg⟩,⟨ts,tc,tt,tf,tg⟩⟩) (hN:NamesAt w) :
  Calls Tryz.prog 29 #[.agg #[.int .i64 6,.int .i64 o,.int .i64 a,.int .i64 b,.bool qn,.string qa,.string qd,.string x,.bool tr,.string rs,.int .i64 rc,.int .i64 rr,.bool rf,.bool rg,.string ts,.int .i64 tc,.int .i64 tt,.bool tf,.bool tg]] w fun e w' => e=.returned (.bool (a4i ⟨6,o,a,b,qn,qa,qd,x,tr,⟨rs,rc,rr,rf,rg⟩,⟨ts,tc,tt,tf,tg⟩⟩ && a2r ⟨6,o,a,b,qn,qa,qd,x,tr,⟨rs,rc,rr,rf,rg⟩,⟨ts,tc,tt,tf,tg⟩⟩ (a0s ⟨6,o,a,b,qn,qa,qd,x,tr,⟨rs,rc,rr,rf,rg⟩,⟨ts,tc,tt,tf,tg⟩⟩)))∧Below w.heap.size w w':=by
 obtain ⟨h1,h2,h3,h4,h5⟩:=hf;dsimp only at *;have hud:undef=Value.tuple #[]:=rfl;obtain ⟨K19,hz19,HK19⟩:=a0q;have hb:a0s ⟨6,o,a,b,qn,qa,qd,x,tr,⟨rs,rc,rr,rf,rg⟩,⟨ts,tc,tt,tf,tg⟩⟩=⟨6,0,0,0,false,⟨#[]⟩,⟨#[]⟩,⟨#[]⟩,false,⟨rs,rc,rr,rf,rg⟩,⟨ts,tc,tt,tf,tg⟩⟩:=rfl;have hE:∀ w,Sem.run Tryz.prog (binOp .eql 30 (.agg #[.int .i64 6,.int .i64 o,.int .i64 a,.int .i64 b,.bool qn,.string qa,.string qd,.string x,.bool tr,.string rs,.int .i64 rc,.int .i64 rr,.bool rf,.bool rg,.string ts,.int .i64 tc,.int .i64 tt,.bool tf,.bool tg]) (.agg #[.int .i64 6,.int .i64 0,.int .i64 0,.int .i64 0,.bool false,.string ⟨#[]⟩,.string ⟨#[]⟩,.string ⟨#[]⟩,.bool false,.string rs,.int .i64 rc,.int .i64 rr,.bool rf,.bool rg,.string ts,.int .i64 tc,.int .i64 tt,.bool tf,.bool tg])) w=.ok (.bool (a2r ⟨6,o,a,b,qn,qa,qd,x,tr,⟨rs,rc,rr,rf,rg⟩,⟨ts,tc,tt,tf,tg⟩⟩ (a0s ⟨6,o,a,b,qn,qa,qd,x,tr,⟨rs,rc,rr,rf,rg⟩,⟨ts,tc,tt,tf,tg⟩⟩))) w:=fun w => by rw [hb];exact a1b ⟨6,o,a,b,qn,qa,qd,x,tr,⟨rs,rc,rr,rf,rg⟩,⟨ts,tc,tt,tf,tg⟩⟩ ⟨6,0,0,0,false,⟨#[]⟩,⟨#[]⟩,⟨#[]⟩,false,⟨rs,rc,rr,rf,rg⟩,⟨ts,tc,tt,tf,tg⟩⟩ w
 clear hb;generalize a2r ⟨6,o,a,b,qn,qa,qd,x,tr,⟨rs,rc,rr,rf,rg⟩,⟨ts,tc,tt,tf,tg⟩⟩ (a0s ⟨6,o,a,b,qn,qa,qd,x,tr,⟨rs,rc,rr,rf,rg⟩,⟨ts,tc,tt,tf,tg⟩⟩)=z at *;have hu:a4i ⟨6,o,a,b,qn,qa,qd,x,tr,⟨rs,rc,rr,rf,rg⟩,⟨ts,tc,tt,tf,tg⟩⟩=arB ⟨rs,rc,rr,rf,rg⟩ ⟨ts,tc,tt,tf,tg⟩:=rfl;rw [hu];have hC:=fun w => b7i ⟨rs,rc,rr,rf,rg⟩ ⟨ts,tc,tt,tf,tg⟩ w (by show rs.size≤maxLen;unfold maxLen;omega) (by show ts.size≤maxLen;unfold maxLen;omega)
 generalize arB ⟨rs,rc,rr,rf,rg⟩ ⟨ts,tc,tt,tf,tg⟩=y at *;have HC:=zh hC;clear hC hu h1 h2 h3 h4 h5 hN
 cases y with
 | false =>
  clear hE;go_enter Tryz.func29,Tryz.ntmps29;go_wp2_with fail;obtain ⟨s16,hws⟩:∃ s,s=(w.alloc (.cells #[.int .i64 6,.int .i64 o,.int .i64 a,.int .i64 b,.bool qn,.string qa,.string qd,.string x,.bool tr,.string rs,.int .i64 rc,.int .i64 rr,.bool rf,.bool rg,.string ts,.int .i64 tc,.int .i64 tt,.bool tf,.bool tg] 30)):=⟨_,rfl⟩;have hBs:=bs1 (Below.refl w.heap.size w) hws;obtain ⟨A,hdA⟩:∃ b,b=w.heap.size:=⟨_,rfl⟩;have hsz:s16.heap.size=w.heap.size+1:=by rw [hws];simp
  have yA:=by0 (b:=A) hws hdA;have zA:A < s16.heap.size:=by omega
  have lA:w.heap.size≤A:=by omega
  have LA:=eqL (P:=Tryz.prog) HK19 rfl yA;rw [← hws];try rw [← hdA]
  clear hws hsz hdA;have hBo:=hBs;clear hBs;refine (HC.out _).mono ?_;rintro e s17 ⟨rfl,hb⟩;replace yA:=eqB hb yA zA;replace zA:=zHl hb zA;replace hBo:=hBo.trans (hb.mono hBo.size);clear hb;replace LA:=eqL (P:=Tryz.prog) HK19 rfl yA
  all_goals go_wp2_with fail
  all_goals first | go_ret | go_ret2
  all_goals exact ⟨rfl,hBo⟩
 | true =>
  go_enter Tryz.func29,Tryz.ntmps29;go_wp2_with fail;obtain ⟨s18,hws⟩:∃ s,s=(w.alloc (.cells #[.int .i64 6,.int .i64 o,.int .i64 a,.int .i64 b,.bool qn,.string qa,.string qd,.string x,.bool tr,.string rs,.int .i64 rc,.int .i64 rr,.bool rf,.bool rg,.string ts,.int .i64 tc,.int .i64 tt,.bool tf,.bool tg] 30)):=⟨_,rfl⟩;have hBs:=bs1 (Below.refl w.heap.size w) hws;obtain ⟨A,hdA⟩:∃ b,b=w.heap.size:=⟨_,rfl⟩;have hsz:s18.heap.size=w.heap.size+1:=by rw [hws];simp
  have yA:=by0 (b:=A) hws hdA;have zA:A < s18.heap.size:=by omega
  have lA:w.heap.size≤A:=by omega
  have LA:=eqL (P:=Tryz.prog) HK19 rfl yA;rw [← hws];try rw [← hdA]
  clear hws hsz hdA;have hBo:=hBs;clear hBs;refine (HC.out _).mono ?_;rintro e s19 ⟨rfl,hb⟩;replace yA:=eqB hb yA zA;replace zA:=zHl hb zA;replace hBo:=hBo.trans (hb.mono hBo.size);clear hb;replace LA:=eqL (P:=Tryz.prog) HK19 rfl yA
  all_goals go_wp2_with fail
  all_goals first | go_ret | go_ret2
  all_goals exact ⟨rfl,hBo⟩
theorem c0w (k:Int) (o a b:Int) (qn:Bool) (qa qd x:ByteArray) (tr:Bool) (rs:ByteArray) (rc rr:Int) (rf rg:Bool) (ts:ByteArray) (tc tt:Int) (tf tg:Bool) (w:World) (hk1:k≠1) (hk2:k≠2) (hk3:k≠3) (hk4:k≠4) (hk5:k≠5) (hk6:k≠6) :
  Calls Tryz.prog 29 #[.agg #[.int .i64 k,.int .i64 o,.int .i64 a,.int .i64 b,.bool qn,.string qa,.string qd,.string x,.bool tr,.string rs,.int .i64 rc,.int .i64 rr,.bool rf,.bool rg,.string ts,.int .i64 tc,.int .i64 tt,.bool tf,.bool tg]] w fun e w' => e=.returned (.bool false)∧Below w.heap.size w w':=by
 have hud:undef=Value.tuple #[]:=rfl;have g1:(k == 1)=false:=by simpa using hk1
 have g2:(k == 2)=false:=by simpa using hk2
 have g3:(k == 3)=false:=by simpa using hk3
 have g4:(k == 4)=false:=by simpa using hk4
 have g5:(k == 5)=false:=by simpa using hk5
 have g6:(k == 6)=false:=by simpa using hk6
 clear hk1 hk2 hk3 hk4 hk5 hk6;go_enter Tryz.func29,Tryz.ntmps29
 go_wp2
 go_ret
 exact ⟨rfl,(Below.refl _ _).alloc (Nat.le_refl _) _⟩
theorem a3p {n:Nd} (h:n.k≤6):a3b n=(a4i n && a2r n (a0s n)):=by unfold a3b;rw [decide_eq_true h,Bool.true_and]
theorem b0i {n:Nd} (hk1:n.k≠1) (hk2:n.k≠2) (hk3:n.k≠3) (hk4:n.k≠4) (hk5:n.k≠5) (hk6:n.k≠6):a3b n=false:=by
 have hz:(decide (n.k≤6) && a4i n)=false:=by
  unfold a4i;rw [if_neg hk1,if_neg hk2,if_neg hk3,if_neg hk4,if_neg hk5,if_neg hk6];by_cases h6:n.k≤6
  ·
   rw [if_neg (by omega),if_neg (by omega),if_neg (by omega)];simp
  ·
   rw [decide_eq_false h6];rfl
 unfold a3b;rw [hz,Bool.false_and]
theorem a9i (n:Nd) (w:World) (hf:Fits n) (hN:NamesAt w) :
  Calls Tryz.prog 29 #[ndV n] w fun e w' => e=.returned (.bool (a3b n))∧Below w.heap.size w w':=by
 obtain ⟨k,o,a,b,qn,qa,qd,x,tr,⟨rs,rc,rr,rf,rg⟩,⟨ts,tc,tt,tf,tg⟩⟩:=n;by_cases hk1:k=1
 ·
  subst hk1;rw [a3p (by show (1:Int)≤6;omega)];exact c3o o a b qn qa qd x tr rs rc rr rf rg ts tc tt tf tg w hf hN
 by_cases hk2:k=2
 ·
  subst hk2;rw [a3p (by show (2:Int)≤6;omega)];exact c3p o a b qn qa qd x tr rs rc rr rf rg ts tc tt tf tg w hf hN
 by_cases hk3:k=3
 ·
  subst hk3;rw [a3p (by show (3:Int)≤6;omega)];exact c3q o a b qn qa qd x tr rs rc rr rf rg ts tc tt tf tg w hf hN
 by_cases hk4:k=4
 ·
  subst hk4;rw [a3p (by show (4:Int)≤6;omega)];exact c3r o a b qn qa qd x tr rs rc rr rf rg ts tc tt tf tg w hf hN
 by_cases hk5:k=5
 ·
  subst hk5;rw [a3p (by show (5:Int)≤6;omega)];exact c3s o a b qn qa qd x tr rs rc rr rf rg ts tc tt tf tg w hf hN
 by_cases hk6:k=6
 ·
  subst hk6;rw [a3p (by show (6:Int)≤6;omega)];exact c3t o a b qn qa qd x tr rs rc rr rf rg ts tc tt tf tg w hf hN
 rw [b0i hk1 hk2 hk3 hk4 hk5 hk6];exact c0w k o a b qn qa qd x tr rs rc rr rf rg ts tc tt tf tg w hk1 hk2 hk3 hk4 hk5 hk6
end Go.Proofs.YtjfkbeanbbeloaaGreatDoor
