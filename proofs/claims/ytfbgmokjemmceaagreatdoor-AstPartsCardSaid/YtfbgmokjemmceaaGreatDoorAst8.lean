import Derived.Test.YtfbgmokjemmceaaGreatDoorAst6
set_option maxHeartbeats 8000000
set_option maxRecDepth 100000
namespace Go.Proofs.YtfbgmokjemmceaaGreatDoor
open Go.RowKit Go.Shelf
set_option linter.unusedSimpArgs false
set_option linter.unusedVariables false
theorem b7i (r t:Rf) (w:World) (hr:r.sh.size≤maxLen) (ht:t.sh.size≤maxLen) :
  Calls Tryz.prog 70 #[.agg #[.string r.sh,.int .i64 r.c,.int .i64 r.r,.bool r.fc,.bool r.fr],.agg #[.string t.sh,.int .i64 t.c,.int .i64 t.r,.bool t.fc,.bool t.fr]] w fun e w' => e=.returned (.bool (arB r t))∧Below w.heap.size w w':=by
 have hR:=fun w => a6l r (a8g r.sh r.c r.r) w hr rfl
 have hT:=fun w => a6l t (a8g t.sh t.c t.r) w ht rfl
 obtain ⟨rs,rc,rr,rf,rg⟩:=r;obtain ⟨ts,tc,tt,tf,tg⟩:=t;dsimp only at *;have hn:=fun w => b1e rc rr tc tt w
 have hud:undef=Value.tuple #[]:=rfl;unfold arB;dsimp only;obtain ⟨z,hz⟩:∃ z,z=c6w rc rr tc tt:=⟨_,rfl⟩;rw [← hz]
 cases z with
 | false =>
  rw [Bool.false_and,Bool.false_and,Bool.false_and];by_cases h0:a8z rc rr tc tt=0
  ·
   have hv:b6k rc rr tc tt=a1e (min rc tc) (min rr tt) (max rc tc) (max rr tt):=if_pos h0;have h1 : ¬ (rc≤tc∧rr≤tt):=fun h1 => by rw [(a7h _ _ _ _).2 ⟨h0,h1⟩] at hz;cases hz
   rw [hv,h0] at hn;have HN:=Lib.hid hn;obtain ⟨p,hp⟩:∃ p,p=min rc tc:=⟨_,rfl⟩;obtain ⟨q,hq⟩:∃ q,q=min rr tt:=⟨_,rfl⟩;have hne:p≠rc ∨ q≠rr:=by omega
   rw [← hp,← hq] at HN;clear hn h1 h0 hv hp hq hz hR hT hr ht;by_cases hpa:p=rc
   ·
    subst hpa;have hqb:(q == rr)=false:=by simp;omega
    clear hne;go_enter Tryz.func70,Tryz.ntmps70;go_wp2_with fail;obtain ⟨s1,hws⟩:∃ s,s=(((w.alloc (.cells #[.string rs,.int .i64 p,.int .i64 rr,.bool rf,.bool rg] 31)).alloc (.cells #[.string ts,.int .i64 tc,.int .i64 tt,.bool tf,.bool tg] 31)).alloc (.cells #[.int .i64 p,.int .i64 rr,.int .i64 tc,.int .i64 tt] 119)):=⟨_,rfl⟩;have hBs:=bs3 (Below.refl w.heap.size w) hws;obtain ⟨A,hdA⟩:∃ b,b=w.heap.size:=⟨_,rfl⟩;obtain ⟨B,hdB⟩:∃ b,b=w.heap.size+1:=⟨_,rfl⟩;obtain ⟨E,hdE⟩:∃ b,b=w.heap.size+1+1:=⟨_,rfl⟩;have hsz:s1.heap.size=w.heap.size+1+1+1:=by rw [hws];simp
    have yA:=by2 (b:=A) hws hdA;have zA:A < s1.heap.size:=by omega
    have lA:w.heap.size≤A:=by omega
    have yB:=by1 (b:=B) hws (by simp [hdB]);have zB:B < s1.heap.size:=by omega
    have lB:w.heap.size≤B:=by omega
    have yE:=by0 (b:=E) hws (by simp [hdE]);have zE:E < s1.heap.size:=by omega
    have lE:w.heap.size≤E:=by omega
    rw [← hws];try rw [← hdE]
    try rw [← hdB]
    try rw [← hdA]
    clear hws hsz hdA hdB hdE;have hBo:=hBs;clear hBs;refine (HN.out _).mono ?_;rintro e s2 ⟨rfl,hb⟩;replace yA:=eqB hb yA zA;replace zA:=zHl hb zA;replace yB:=eqB hb yB zB;replace zB:=zHl hb zB;replace yE:=eqB hb yE zE;replace zE:=zHl hb zE;replace hBo:=hBo.trans (hb.mono hBo.size);clear hb
    all_goals go_wp2_with fail
    all_goals first | go_ret | go_ret2
    all_goals exact ⟨rfl,((hBo).alloc (by first | exact hBo.size | (have:=hBo.size;simp;omega)) _)⟩
   ·
    have hpb:(p == rc)=false:=by simp;omega
    clear hne hpa;go_enter Tryz.func70,Tryz.ntmps70;go_wp2_with fail;obtain ⟨s3,hws⟩:∃ s,s=(((w.alloc (.cells #[.string rs,.int .i64 rc,.int .i64 rr,.bool rf,.bool rg] 31)).alloc (.cells #[.string ts,.int .i64 tc,.int .i64 tt,.bool tf,.bool tg] 31)).alloc (.cells #[.int .i64 rc,.int .i64 rr,.int .i64 tc,.int .i64 tt] 119)):=⟨_,rfl⟩;have hBs:=bs3 (Below.refl w.heap.size w) hws;obtain ⟨A,hdA⟩:∃ b,b=w.heap.size:=⟨_,rfl⟩;obtain ⟨B,hdB⟩:∃ b,b=w.heap.size+1:=⟨_,rfl⟩;obtain ⟨E,hdE⟩:∃ b,b=w.heap.size+1+1:=⟨_,rfl⟩;have hsz:s3.heap.size=w.heap.size+1+1+1:=by rw [hws];simp
    have yA:=by2 (b:=A) hws hdA;have zA:A < s3.heap.size:=by omega
    have lA:w.heap.size≤A:=by omega
    have yB:=by1 (b:=B) hws (by simp [hdB]);have zB:B < s3.heap.size:=by omega
    have lB:w.heap.size≤B:=by omega
    have yE:=by0 (b:=E) hws (by simp [hdE]);have zE:E < s3.heap.size:=by omega
    have lE:w.heap.size≤E:=by omega
    rw [← hws];try rw [← hdE]
    try rw [← hdB]
    try rw [← hdA]
    clear hws hsz hdA hdB hdE;have hBo:=hBs;clear hBs;refine (HN.out _).mono ?_;rintro e s4 ⟨rfl,hb⟩;replace yA:=eqB hb yA zA;replace zA:=zHl hb zA;replace yB:=eqB hb yB zB;replace zB:=zHl hb zB;replace yE:=eqB hb yE zE;replace zE:=zHl hb zE;replace hBo:=hBo.trans (hb.mono hBo.size);clear hb
    all_goals go_wp2_with fail
    all_goals first | go_ret | go_ret2
    all_goals exact ⟨rfl,((hBo).alloc (by first | exact hBo.size | (have:=hBo.size;simp;omega)) _)⟩
  ·
   obtain ⟨u1,u2,u3,u4,hv⟩:=b5d rc rr tc tt;rw [hv] at hn;have he:=b8m h0;generalize a8z rc rr tc tt=e at *;have HN:=Lib.hid hn;clear hn hv h0 hR hT hr ht hz;go_enter Tryz.func70,Tryz.ntmps70;go_wp2_with fail;obtain ⟨s5,hws⟩:∃ s,s=(((w.alloc (.cells #[.string rs,.int .i64 rc,.int .i64 rr,.bool rf,.bool rg] 31)).alloc (.cells #[.string ts,.int .i64 tc,.int .i64 tt,.bool tf,.bool tg] 31)).alloc (.cells #[.int .i64 rc,.int .i64 rr,.int .i64 tc,.int .i64 tt] 119)):=⟨_,rfl⟩;have hBs:=bs3 (Below.refl w.heap.size w) hws;obtain ⟨A,hdA⟩:∃ b,b=w.heap.size:=⟨_,rfl⟩;obtain ⟨B,hdB⟩:∃ b,b=w.heap.size+1:=⟨_,rfl⟩;obtain ⟨E,hdE⟩:∃ b,b=w.heap.size+1+1:=⟨_,rfl⟩;have hsz:s5.heap.size=w.heap.size+1+1+1:=by rw [hws];simp
   have yA:=by2 (b:=A) hws hdA;have zA:A < s5.heap.size:=by omega
   have lA:w.heap.size≤A:=by omega
   have yB:=by1 (b:=B) hws (by simp [hdB]);have zB:B < s5.heap.size:=by omega
   have lB:w.heap.size≤B:=by omega
   have yE:=by0 (b:=E) hws (by simp [hdE]);have zE:E < s5.heap.size:=by omega
   have lE:w.heap.size≤E:=by omega
   rw [← hws];try rw [← hdE]
   try rw [← hdB]
   try rw [← hdA]
   clear hws hsz hdA hdB hdE;have hBo:=hBs;clear hBs;refine (HN.out _).mono ?_;rintro e s6 ⟨rfl,hb⟩;replace yA:=eqB hb yA zA;replace zA:=zHl hb zA;replace yB:=eqB hb yB zB;replace zB:=zHl hb zB;replace yE:=eqB hb yE zE;replace zE:=zHl hb zE;replace hBo:=hBo.trans (hb.mono hBo.size);clear hb
   all_goals go_wp2_with fail
   all_goals first | go_ret | go_ret2
   all_goals exact ⟨rfl,((hBo).alloc (by first | exact hBo.size | (have:=hBo.size;simp;omega)) _)⟩
 | true =>
  obtain ⟨h0,h1,h2⟩:=(a7h _ _ _ _).1 hz.symm;have hv:b6k rc rr tc tt=a1e (min rc tc) (min rr tt) (max rc tc) (max rr tt):=if_pos h0;rw [hv,h0,Int.min_eq_left h1,Int.min_eq_left h2,Int.max_eq_right h1,Int.max_eq_right h2] at hn;have HN:=Lib.hid hn;rw [Bool.true_and];clear hn h0 h1 h2 hv hz;generalize a8g rs rc rr=b1 at *;generalize a8g ts tc tt=b2 at *;have HR:=Lib.hid hR;have HT:=Lib.hid hT;clear hR hT hr ht
  cases b1 with
  | false =>
   rw [Bool.false_and,Bool.false_and];clear HT;go_enter Tryz.func70,Tryz.ntmps70;go_wp2_with fail;obtain ⟨s7,hws⟩:∃ s,s=(((w.alloc (.cells #[.string rs,.int .i64 rc,.int .i64 rr,.bool rf,.bool rg] 31)).alloc (.cells #[.string ts,.int .i64 tc,.int .i64 tt,.bool tf,.bool tg] 31)).alloc (.cells #[.int .i64 rc,.int .i64 rr,.int .i64 tc,.int .i64 tt] 119)):=⟨_,rfl⟩;have hBs:=bs3 (Below.refl w.heap.size w) hws;obtain ⟨A,hdA⟩:∃ b,b=w.heap.size:=⟨_,rfl⟩;obtain ⟨B,hdB⟩:∃ b,b=w.heap.size+1:=⟨_,rfl⟩;obtain ⟨E,hdE⟩:∃ b,b=w.heap.size+1+1:=⟨_,rfl⟩;have hsz:s7.heap.size=w.heap.size+1+1+1:=by rw [hws];simp
   have yA:=by2 (b:=A) hws hdA;have zA:A < s7.heap.size:=by omega
   have lA:w.heap.size≤A:=by omega
   have yB:=by1 (b:=B) hws (by simp [hdB]);have zB:B < s7.heap.size:=by omega
   have lB:w.heap.size≤B:=by omega
   have yE:=by0 (b:=E) hws (by simp [hdE]);have zE:E < s7.heap.size:=by omega
   have lE:w.heap.size≤E:=by omega
   rw [← hws];try rw [← hdE]
   try rw [← hdB]
   try rw [← hdA]
   clear hws hsz hdA hdB hdE;have hBo:=hBs;clear hBs;refine (HN.out _).mono ?_;rintro e s8 ⟨rfl,hb⟩;replace yA:=eqB hb yA zA;replace zA:=zHl hb zA;replace yB:=eqB hb yB zB;replace zB:=zHl hb zB;replace yE:=eqB hb yE zE;replace zE:=zHl hb zE;replace hBo:=hBo.trans (hb.mono hBo.size);clear hb;go_wp2_with fail;obtain ⟨s9,hws⟩:∃ s,s=(s8.alloc (.cells #[.int .i64 rc,.int .i64 rr,.int .i64 tc,.int .i64 tt] 119)):=⟨_,rfl⟩;have hBs:=bs1 hBo hws;obtain ⟨G,hdG⟩:∃ b,b=s8.heap.size:=⟨_,rfl⟩;have hsz:s9.heap.size=s8.heap.size+1:=by rw [hws];simp
   have hQC:∀ p v,s8.cell? p=some v→s9.cell? p=some v:=fun p v h => by rw [hws];exact (alK h)
   have hQZ:∀ b,b < s8.heap.size→b < s9.heap.size:=fun b h => by omega
   replace yA:=eqE hws (eqA yA zA);replace zA:=hQZ _ zA;replace yB:=eqE hws (eqA yB zB);replace zB:=hQZ _ zB;replace yE:=eqE hws (eqA yE zE);replace zE:=hQZ _ zE;clear hQC hQZ;have yG:=by0 (b:=G) hws hdG;have zG:G < s9.heap.size:=by omega
   have lG:w.heap.size≤G:=by have:=hBo.size;omega
   rw [← hws];try rw [← hdG]
   clear hBo;clear hws hsz hdG;have hBo:=hBs;clear hBs;refine (HR.out _).mono ?_;rintro e s10 ⟨rfl,hb⟩;replace yA:=eqB hb yA zA;replace zA:=zHl hb zA;replace yB:=eqB hb yB zB;replace zB:=zHl hb zB;replace yE:=eqB hb yE zE;replace zE:=zHl hb zE;replace yG:=eqB hb yG zG;replace zG:=zHl hb zG;replace hBo:=hBo.trans (hb.mono hBo.size);clear hb
   all_goals go_wp2_with fail
   all_goals first | go_ret | go_ret2
   all_goals exact ⟨rfl,hBo⟩
  | true =>
   rw [Bool.true_and]
   cases b2 with
   | false =>
    rw [Bool.false_and];go_enter Tryz.func70,Tryz.ntmps70;go_wp2_with fail;obtain ⟨s11,hws⟩:∃ s,s=(((w.alloc (.cells #[.string rs,.int .i64 rc,.int .i64 rr,.bool rf,.bool rg] 31)).alloc (.cells #[.string ts,.int .i64 tc,.int .i64 tt,.bool tf,.bool tg] 31)).alloc (.cells #[.int .i64 rc,.int .i64 rr,.int .i64 tc,.int .i64 tt] 119)):=⟨_,rfl⟩;have hBs:=bs3 (Below.refl w.heap.size w) hws;obtain ⟨A,hdA⟩:∃ b,b=w.heap.size:=⟨_,rfl⟩;obtain ⟨B,hdB⟩:∃ b,b=w.heap.size+1:=⟨_,rfl⟩;obtain ⟨E,hdE⟩:∃ b,b=w.heap.size+1+1:=⟨_,rfl⟩;have hsz:s11.heap.size=w.heap.size+1+1+1:=by rw [hws];simp
    have yA:=by2 (b:=A) hws hdA;have zA:A < s11.heap.size:=by omega
    have lA:w.heap.size≤A:=by omega
    have yB:=by1 (b:=B) hws (by simp [hdB]);have zB:B < s11.heap.size:=by omega
    have lB:w.heap.size≤B:=by omega
    have yE:=by0 (b:=E) hws (by simp [hdE]);have zE:E < s11.heap.size:=by omega
    have lE:w.heap.size≤E:=by omega
    rw [← hws];try rw [← hdE]
    try rw [← hdB]
    try rw [← hdA]
    clear hws hsz hdA hdB hdE;have hBo:=hBs;clear hBs;refine (HN.out _).mono ?_;rintro e s12 ⟨rfl,hb⟩;replace yA:=eqB hb yA zA;replace zA:=zHl hb zA;replace yB:=eqB hb yB zB;replace zB:=zHl hb zB;replace yE:=eqB hb yE zE;replace zE:=zHl hb zE;replace hBo:=hBo.trans (hb.mono hBo.size);clear hb;go_wp2_with fail;obtain ⟨s13,hws⟩:∃ s,s=(s12.alloc (.cells #[.int .i64 rc,.int .i64 rr,.int .i64 tc,.int .i64 tt] 119)):=⟨_,rfl⟩;have hBs:=bs1 hBo hws;obtain ⟨G,hdG⟩:∃ b,b=s12.heap.size:=⟨_,rfl⟩;have hsz:s13.heap.size=s12.heap.size+1:=by rw [hws];simp
    have hQC:∀ p v,s12.cell? p=some v→s13.cell? p=some v:=fun p v h => by rw [hws];exact (alK h)
    have hQZ:∀ b,b < s12.heap.size→b < s13.heap.size:=fun b h => by omega
    replace yA:=eqE hws (eqA yA zA);replace zA:=hQZ _ zA;replace yB:=eqE hws (eqA yB zB);replace zB:=hQZ _ zB;replace yE:=eqE hws (eqA yE zE);replace zE:=hQZ _ zE;clear hQC hQZ;have yG:=by0 (b:=G) hws hdG;have zG:G < s13.heap.size:=by omega
    have lG:w.heap.size≤G:=by have:=hBo.size;omega
    rw [← hws];try rw [← hdG]
    clear hBo;clear hws hsz hdG;have hBo:=hBs;clear hBs;refine (HR.out _).mono ?_;rintro e s14 ⟨rfl,hb⟩;replace yA:=eqB hb yA zA;replace zA:=zHl hb zA;replace yB:=eqB hb yB zB;replace zB:=zHl hb zB;replace yE:=eqB hb yE zE;replace zE:=zHl hb zE;replace yG:=eqB hb yG zG;replace zG:=zHl hb zG;replace hBo:=hBo.trans (hb.mono hBo.size);clear hb;go_wp2_with fail;refine (HT.out _).mono ?_;rintro e s15 ⟨rfl,hb⟩;replace yA:=eqB hb yA zA;replace zA:=zHl hb zA;replace yB:=eqB hb yB zB;replace zB:=zHl hb zB;replace yE:=eqB hb yE zE;replace zE:=zHl hb zE;replace yG:=eqB hb yG zG;replace zG:=zHl hb zG;replace hBo:=hBo.trans (hb.mono hBo.size);clear hb
    all_goals go_wp2_with fail
    all_goals first | go_ret | go_ret2
    all_goals exact ⟨rfl,hBo⟩
   | true =>
    rw [Bool.true_and]
    have hse:decide (ts.size=0)=ts.toList.isEmpty:=by
     rw [ByteArray.toList_eq,Bool.eq_iff_iff,decide_eq_true_eq,List.isEmpty_iff];constructor
     ·
      intro h;exact List.eq_nil_of_length_eq_zero (by simpa using h)
     ·
      intro h;have:=congrArg List.length h;simpa using this
    have HSE:=Lib.hid hse;clear hse;go_enter Tryz.func70,Tryz.ntmps70;go_wp2_with fail;obtain ⟨s16,hws⟩:∃ s,s=(((w.alloc (.cells #[.string rs,.int .i64 rc,.int .i64 rr,.bool rf,.bool rg] 31)).alloc (.cells #[.string ts,.int .i64 tc,.int .i64 tt,.bool tf,.bool tg] 31)).alloc (.cells #[.int .i64 rc,.int .i64 rr,.int .i64 tc,.int .i64 tt] 119)):=⟨_,rfl⟩;have hBs:=bs3 (Below.refl w.heap.size w) hws;obtain ⟨A,hdA⟩:∃ b,b=w.heap.size:=⟨_,rfl⟩;obtain ⟨B,hdB⟩:∃ b,b=w.heap.size+1:=⟨_,rfl⟩;obtain ⟨E,hdE⟩:∃ b,b=w.heap.size+1+1:=⟨_,rfl⟩;have hsz:s16.heap.size=w.heap.size+1+1+1:=by rw [hws];simp
    have yA:=by2 (b:=A) hws hdA;have zA:A < s16.heap.size:=by omega
    have lA:w.heap.size≤A:=by omega
    have yB:=by1 (b:=B) hws (by simp [hdB]);have zB:B < s16.heap.size:=by omega
    have lB:w.heap.size≤B:=by omega
    have yE:=by0 (b:=E) hws (by simp [hdE]);have zE:E < s16.heap.size:=by omega
    have lE:w.heap.size≤E:=by omega
    rw [← hws];try rw [← hdE]
    try rw [← hdB]
    try rw [← hdA]
    clear hws hsz hdA hdB hdE;have hBo:=hBs;clear hBs;refine (HN.out _).mono ?_;rintro e s17 ⟨rfl,hb⟩;replace yA:=eqB hb yA zA;replace zA:=zHl hb zA;replace yB:=eqB hb yB zB;replace zB:=zHl hb zB;replace yE:=eqB hb yE zE;replace zE:=zHl hb zE;replace hBo:=hBo.trans (hb.mono hBo.size);clear hb;go_wp2_with fail;obtain ⟨s18,hws⟩:∃ s,s=(s17.alloc (.cells #[.int .i64 rc,.int .i64 rr,.int .i64 tc,.int .i64 tt] 119)):=⟨_,rfl⟩;have hBs:=bs1 hBo hws;obtain ⟨G,hdG⟩:∃ b,b=s17.heap.size:=⟨_,rfl⟩;have hsz:s18.heap.size=s17.heap.size+1:=by rw [hws];simp
    have hQC:∀ p v,s17.cell? p=some v→s18.cell? p=some v:=fun p v h => by rw [hws];exact (alK h)
    have hQZ:∀ b,b < s17.heap.size→b < s18.heap.size:=fun b h => by omega
    replace yA:=eqE hws (eqA yA zA);replace zA:=hQZ _ zA;replace yB:=eqE hws (eqA yB zB);replace zB:=hQZ _ zB;replace yE:=eqE hws (eqA yE zE);replace zE:=hQZ _ zE;clear hQC hQZ;have yG:=by0 (b:=G) hws hdG;have zG:G < s18.heap.size:=by omega
    have lG:w.heap.size≤G:=by have:=hBo.size;omega
    rw [← hws];try rw [← hdG]
    clear hBo;clear hws hsz hdG;have hBo:=hBs;clear hBs;refine (HR.out _).mono ?_;rintro e s19 ⟨rfl,hb⟩;replace yA:=eqB hb yA zA;replace zA:=zHl hb zA;replace yB:=eqB hb yB zB;replace zB:=zHl hb zB;replace yE:=eqB hb yE zE;replace zE:=zHl hb zE;replace yG:=eqB hb yG zG;replace zG:=zHl hb zG;replace hBo:=hBo.trans (hb.mono hBo.size);clear hb;go_wp2_with fail;refine (HT.out _).mono ?_;rintro e s20 ⟨rfl,hb⟩;replace yA:=eqB hb yA zA;replace zA:=zHl hb zA;replace yB:=eqB hb yB zB;replace zB:=zHl hb zB;replace yE:=eqB hb yE zE;replace zE:=zHl hb zE;replace yG:=eqB hb yG zG;replace zG:=zHl hb zG;replace hBo:=hBo.trans (hb.mono hBo.size);clear hb;go_wp2_with fail
    all_goals go_ret
    all_goals exact ⟨a0d HSE.out.symm,hBo⟩
end Go.Proofs.YtfbgmokjemmceaaGreatDoor
