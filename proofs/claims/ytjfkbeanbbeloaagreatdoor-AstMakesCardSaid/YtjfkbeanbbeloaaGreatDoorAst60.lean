/-
  
  
  
-/
import Derived.Test.YtjfkbeanbbeloaaGreatDoorAst53
import Derived.Test.YtjfkbeanbbeloaaGreatDoorAst49
set_option maxHeartbeats 8000000
set_option maxRecDepth 100000
namespace Go.Proofs.YtjfkbeanbbeloaaGreatDoor
open Go.RowKit Go.Shelf
set_option linter.unusedSimpArgs false
set_option linter.unusedVariables false
abbrev d2h (E:Int) (u:Value):Value:=if E=0 then u else .slice none 0 0
theorem d2f (u v:Value) (N:List Nd) (A:List Int) (w:World) (hN:NodesAt w u N) (hA:IntsAt w v A) (hf:∀ n ∈ N,Fits n) (h300:N.length≤300→A.length≤1000) (hl:N.length≤100000) :
  Calls Tryz.prog 22 #[.agg #[u,v]] w fun e w' => e=.returned (.tuple #[.agg #[d2h (b2b N A) u,d2h (b2b N A) v],.int .i64 (b2b N A)])∧Below w.heap.size w w':=by
 have hud:undef=Value.tuple #[]:=rfl;have hNC:=zh hN;have hAC:=zh hA;obtain ⟨bn,cn,rfl,_⟩:=hN.slice;obtain ⟨bv,cv,rfl,_⟩:=hA.slice;unfold b2b d2h;by_cases h3:300 < N.length
 ·
  rw [if_pos h3];have hb:(300:Int) < N.length:=by omega
  clear hN hA hf h300 h3 hNC hAC;generalize N.length=L at *;generalize A.length=K at *;go_enter Tryz.func22,Tryz.ntmps22
  go_upto_region 1 with (fail)
  obtain ⟨s1,hws⟩:∃ s,s=((w.alloc (.cells #[.slice bn L cn,.slice bv K cv] 36)).alloc (.cells #[.slice none 0 0,.slice none 0 0] 36)):=⟨_,rfl⟩;have hBs:=bs2 (Below.refl w.heap.size w) hws;obtain ⟨F,hdF⟩:∃ b,b=w.heap.size:=⟨_,rfl⟩;obtain ⟨R,hdR⟩:∃ b,b=w.heap.size+1:=⟨_,rfl⟩;have hsz:s1.heap.size=w.heap.size+1+1:=by rw [hws];simp
  have dRF:R≠F:=by omega
  have hN:=bx1 (b:=F) hws hdF;have kF0:=hN 0 _ rfl;have kF1:=hN 1 _ rfl;clear hN;have zF:F < s1.heap.size:=by omega
  have lF:w.heap.size≤F:=by omega
  have hN:=bx0 (b:=R) hws (by simp [hdR]);have hM:=bf0 (b:=R) hws (by simp [hdR]);have kR0:=hN 0 _ rfl;have kR1:=hN 1 _ rfl;have fR0:=hM 0;have fR1:=hM 1;clear hN hM;have zR:R < s1.heap.size:=by omega
  have lR:w.heap.size≤R:=by omega
  rw [← hws];try rw [← hdR]
  try rw [← hdF]
  clear hws hsz hdF hdR;have hBo:=hBs;clear hBs;go_wp2_with fail;refine bodyPost_ret (v:=.tuple #[.agg #[.slice none 0 0,.slice none 0 0],.int .i64 9]) (by simp [results,Tryz.results22,go_sem,kR0,kR1,fR0,fR1,zR]) rfl ⟨rfl,?_⟩;exact (hBo.setCell lR _).setCell lR _
 ·
  rw [if_neg h3];have hb : ¬ (300:Int) < N.length:=by omega
  have hr:=fun W hN hA => a3t (.slice bn N.length cn) (.slice bv A.length cv) N A W hN hA hf (h300 (by omega)) (by omega)
  generalize a0w N A=b at *;have HR:=zh hr;clear hN hA hf h300 h3 hr;obtain ⟨L,hL⟩:∃ L,L=N.length:=⟨_,rfl⟩;obtain ⟨K,hK⟩:∃ K,K=A.length:=⟨_,rfl⟩;rw [← hL] at hb hl hNC HR ⊢;rw [← hK] at hAC HR ⊢;clear hL hK;go_enter Tryz.func22,Tryz.ntmps22
  go_upto_region 1 with (fail)
  obtain ⟨s2,hws⟩:∃ s,s=((w.alloc (.cells #[.slice bn L cn,.slice bv K cv] 36)).alloc (.cells #[.slice none 0 0,.slice none 0 0] 36)):=⟨_,rfl⟩;have hBs:=bs2 (Below.refl w.heap.size w) hws;obtain ⟨F,hdF⟩:∃ b,b=w.heap.size:=⟨_,rfl⟩;obtain ⟨R,hdR⟩:∃ b,b=w.heap.size+1:=⟨_,rfl⟩;have hsz:s2.heap.size=w.heap.size+1+1:=by rw [hws];simp
  have dRF:R≠F:=by omega
  have hN:=bx1 (b:=F) hws hdF;have kF0:=hN 0 _ rfl;have kF1:=hN 1 _ rfl;clear hN;have zF:F < s2.heap.size:=by omega
  have lF:w.heap.size≤F:=by omega
  have hN:=bx0 (b:=R) hws (by simp [hdR]);have hM:=bf0 (b:=R) hws (by simp [hdR]);have kR0:=hN 0 _ rfl;have kR1:=hN 1 _ rfl;have fR0:=hM 0;have fR1:=hM 1;clear hN hM;have zR:R < s2.heap.size:=by omega
  have lR:w.heap.size≤R:=by omega
  rw [← hws];try rw [← hdR]
  try rw [← hdF]
  clear hws hsz hdF hdR;have hBo:=hBs;clear hBs;go_wp2_with fail;refine (HR.out _ (hNC.out.below hBo) (hAC.out.below hBo)).mono ?_;rintro e w1 ⟨rfl,hb1⟩;have hb:=hb1;clear hb1;replace kF0:=a0f hb kF0 zF;replace kF1:=a0f hb kF1 zF;replace zF:=zHl hb zF;replace kR0:=a0f hb kR0 zR;replace kR1:=a0f hb kR1 zR;replace fR0:=a0g hb fR0 zR;replace fR1:=a0g hb fR1 zR;replace zR:=zHl hb zR;replace hBo:=hBo.trans (hb.mono hBo.size);clear hb
  cases b with
  | true =>
   go_wp2_with fail;refine bodyPost_ret (v:=.tuple #[.agg #[.slice bn L cn,.slice bv K cv],.int .i64 0]) (by simp [results,Tryz.results22,go_sem,kR0,kR1,fR0,fR1,zR]) rfl ⟨rfl,?_⟩;exact (hBo.setCell lR _).setCell lR _
  | false =>
   go_wp2_with fail;refine bodyPost_ret (v:=.tuple #[.agg #[.slice none 0 0,.slice none 0 0],.int .i64 8]) (by simp [results,Tryz.results22,go_sem,kR0,kR1,fR0,fR1,zR]) rfl ⟨rfl,?_⟩;exact (hBo.setCell lR _).setCell lR _
set_option maxHeartbeats 16000000
theorem gal {W W':World} {row:Option Nat} {b o:Nat} {x:Value} {ob:Obj} (hg:(W.alloc ob).grownBy W' row) (h:W.cell? ⟨b,o,none⟩=some x) (hr:∀ g,row=some g→b≠g):W'.cell? ⟨b,o,none⟩=some x:=a0a hg (a0b h) hr
theorem gfl {W W':World} {row:Option Nat} {b o:Nat} {ob:Obj} (hg:(W.alloc ob).grownBy W' row) (hb:b < W.heap.size) (h:W.frozen? ⟨b,o,none⟩=false) (hr:∀ g,row=some g→b≠g):W'.frozen? ⟨b,o,none⟩=false:=a0m hg (alZ hb) (alF hb h) hr
theorem d3g (op:Int):a1x (nd0 8 op ⟨#[]⟩)=(decide (1≤op) && decide (op≤12)):=by
 have hl:decide (lvI 8 op < 8)=(decide (1≤op) && decide (op≤12)):=by
  rw [Bool.eq_iff_iff,Bool.and_eq_true,decide_eq_true_eq,decide_eq_true_eq,decide_eq_true_eq];unfold lvI;constructor
  ·
   intro h
   (repeat' split at h) <;> omega
  ·
   intro h
   (repeat' split) <;> omega
 have h2:a2r (nd0 8 op ⟨#[]⟩) (a0s (nd0 8 op ⟨#[]⟩))=true:=(a2o _ _).2 rfl;have h1:a4i (nd0 8 op ⟨#[]⟩)=decide (lvI 8 op < 8):=rfl;unfold a1x;rw [h1,h2,hl,Bool.and_true]
theorem d3h (op:Int):a1x (nd0 7 op ⟨#[]⟩)=(decide (op=13) || decide (op=14)):=by
 have hl:decide (lvI 7 op < 8)=(decide (op=13) || decide (op=14)):=by
  rw [Bool.eq_iff_iff,Bool.or_eq_true,decide_eq_true_eq,decide_eq_true_eq,decide_eq_true_eq];unfold lvI;constructor
  ·
   intro h
   (repeat' split at h) <;> omega
  ·
   intro h
   (repeat' split) <;> omega
 have h2:a2r (nd0 7 op ⟨#[]⟩) (a0s (nd0 7 op ⟨#[]⟩))=true:=(a2o _ _).2 rfl;have h1:a4i (nd0 7 op ⟨#[]⟩)=decide (lvI 7 op < 8):=rfl;unfold a1x;rw [h1,h2,hl,Bool.and_true]
theorem d2k {n:Nd} {l:List (List Nd × List Int)} (h : ¬ (a1x n=true∧∀ g ∈ l,a0w g.1 g.2=true)):a3a n l=([],[],3):=by unfold a3a;rw [if_neg h]
def d2r (N:List Nd) (A:List Int):List Nd × List Int × Int:=if b2b N A=0 then (N,A,0) else ([],[],b2b N A)
theorem d2l {n:Nd} {l:List (List Nd × List Int)} (h:a1x n=true) (hr:∀ g ∈ l,a0w g.1 g.2=true) (h20:l.length≤20):a3a n l=d2r ((a0u l).N ++ [a5k n (a0u l)]) ((a0u l).A ++ a5g n (a0u l)):=by
 unfold a3a d2r;rw [if_pos ⟨h,hr⟩,if_neg (by omega)]
def d1w (R:List Nd × List Int × Int) (w:World) (e:Ending) (w':World):Prop:=c3c R.1 R.2.1 R.2.2 w e w'
theorem d1x {w w':World} (hb:Below w.heap.size w w'):d1w ([],[],3) w (.returned (.tuple #[.agg #[.slice none 0 0,.slice none 0 0],.int .i64 3])) w':=d2g hb
theorem d2m {N:List Nd} {A:List Int} {u v:Value} {w w':World} (hN:NodesAt w' u N) (hA:IntsAt w' v A) (hb:Below w.heap.size w w'):d1w (d2r N A) w (.returned (.tuple #[.agg #[d2h (b2b N A) u,d2h (b2b N A) v],.int .i64 (b2b N A)])) w':=by
 unfold d2r d2h d1w;by_cases h:b2b N A=0
 ·
  rw [if_pos h,if_pos h,if_pos h,h];exact ⟨⟨_,_,rfl,hN,hA⟩,hb⟩
 ·
  rw [if_neg h,if_neg h,if_neg h];exact d2g hb
theorem d1u (E:Int) (b:Option Addr) (l c:Nat):∃ a b' c',Value.slice a b' c'=d2h E (.slice b l c):=by
 unfold d2h
 split
 ·
  exact ⟨_,_,_,rfl⟩
 ·
  exact ⟨_,_,_,rfl⟩
theorem d1t {W:World} {v:Value} {N:List Nd} {p:Addr} {x:Value} (h:NodesAt W v N) (hp:∀ g,v.ownBlock=some g→p.block≠g):NodesAt (W.setCell p x) v N:=by
 rcases h with h | ⟨g,o,cap,hv,h1,h2,hc⟩
 ·
  exact Or.inl h
 ·
  exact Or.inr ⟨g,o,cap,hv,h1,h2,fun k n hk j u hu => a0e (hc k n hk j u hu) (hp g (by rw [hv];rfl))⟩
theorem d1v {W:World} {v:Value} {A:List Int} {p:Addr} {x:Value} (h:IntsAt W v A) (hp:∀ g,v.ownBlock=some g→p.block≠g):IntsAt (W.setCell p x) v A:=by
 rcases h with h | ⟨g,o,cap,hv,h1,h2,hc⟩
 ·
  exact Or.inl h
 ·
  exact Or.inr ⟨g,o,cap,hv,h1,h2,fun k hk => a0e (hc k hk) (hp g (by rw [hv];rfl))⟩
theorem d3m (op:Int) (u v u2 v2:Value) (N M:List Nd) (A B:List Int) (w:World) (hN:NodesAt w u N) (hA:IntsAt w v A) (hM:NodesAt w u2 M) (hB:IntsAt w v2 B) (hf:∀ n ∈ N,Fits n) (hf2:∀ n ∈ M,Fits n) (l1:N.length≤1000) (l2:A.length≤1000) (l3:M.length≤1000) (l4:B.length≤1000) :
  Calls Tryz.prog 8 #[.int .i64 op,.agg #[u,v],.agg #[u2,v2]] w (d1w (a3a (nd0 8 op ⟨#[]⟩) [(N,A),(M,B)]) w):=by
 have hud:undef=Value.tuple #[]:=rfl;obtain ⟨Po,hPo⟩:∃ Po,Po=d1w (a3a (nd0 8 op ⟨#[]⟩) [(N,A),(M,B)]) w:=⟨_,rfl⟩;rw [← hPo];have HPO:=zh hPo;have hr1:=fun W hN hA => a3t u v N A W hN hA hf l2 l1
 have hr2:=fun W hM hB => a3t u2 v2 M B W hM hB hf2 l4 l3
 have hM2:Hid (a0w N A=true→a0w M B=true→1≤op→op≤12→a3a (nd0 8 op ⟨#[]⟩) [(N,A),(M,B)]=d2r (N ++ M.map (mvN N.length A.length) ++ [{ nd0 8 op ⟨#[]⟩ with a:=(N.length:Int) - 1,b:=((N.length+M.length:Nat):Int) - 1 }]) (A ++ B.map (·+(N.length:Int)))):=zh (fun h1 h2 h3 h4 => by
  rw [d2l (by rw [d3g,decide_eq_true h3,decide_eq_true h4];rfl) (fun g hg => by
   rcases List.mem_cons.1 hg with rfl | hg
   ·
    exact h1
   ·
    rw [List.mem_singleton.1 hg];exact h2) (by simp),d1e]
  unfold a5g;rw [if_neg (show ¬ (8:Int)=9 by omega),List.append_nil]
  rfl)
 have hBD:Hid (¬ (a0w N A=true∧a0w M B=true∧1≤op∧op≤12)→a3a (nd0 8 op ⟨#[]⟩) [(N,A),(M,B)]=([],[],3)):=zh (fun h => d2k (fun hh => h ⟨hh.2 (N,A) (by simp),hh.2 (M,B) (by simp),by
  have:=hh.1;rw [d3g,Bool.and_eq_true,decide_eq_true_eq,decide_eq_true_eq] at this
  exact this⟩))
 have HBH:=zh (fun (h:a0w M B=true) W hN hA hM hB => d2b u v u2 v2 N M A B W hN hA hM hB (c0c h) (b7b h) (by omega) (by omega) l3 l4);have HNC:=zh hN;have HAC:=zh hA;have HMC:=zh hM;have HBC:=zh hB;have HR1:=zh hr1;have HR2:=zh hr2;have HF1:=zh hf;have HF2:=zh hf2;obtain ⟨bn,cn,rfl,_⟩:=hN.slice;clear hPo hr1 hr2 hN hA hM hB hf hf2;go_enter Tryz.func8,Tryz.ntmps8
 go_upto_region 1 with (fail)
 obtain ⟨L,hL⟩:∃ L,L=N.length:=⟨_,rfl⟩;have HNL:=zh hL;rw [← hL] at HNC HR1 HBH ⊢;clear hL;obtain ⟨s1,hws⟩:∃ s,s=(((w.alloc (.cells #[.slice bn L cn,v] 36)).alloc (.cells #[u2,v2] 36)).alloc (.cells #[.slice none 0 0,.slice none 0 0] 36)):=⟨_,rfl⟩;have hBs:=bs3 (Below.refl w.heap.size w) hws;obtain ⟨F,hdF⟩:∃ b,b=w.heap.size:=⟨_,rfl⟩;obtain ⟨G,hdG⟩:∃ b,b=w.heap.size+1:=⟨_,rfl⟩;obtain ⟨R,hdR⟩:∃ b,b=w.heap.size+1+1:=⟨_,rfl⟩;have hsz:s1.heap.size=w.heap.size+1+1+1:=by rw [hws];simp
 have dRF:R≠F:=by omega
 have dRG:R≠G:=by omega
 have hN:=bx2 (b:=F) hws hdF;have kF0:=hN 0 _ rfl;have kF1:=hN 1 _ rfl;clear hN;have zF:F < s1.heap.size:=by omega
 have lF:w.heap.size≤F:=by omega
 have hN:=bx1 (b:=G) hws (by simp [hdG]);have kG0:=hN 0 _ rfl;have kG1:=hN 1 _ rfl;clear hN;have zG:G < s1.heap.size:=by omega
 have lG:w.heap.size≤G:=by omega
 have hN:=bx0 (b:=R) hws (by simp [hdR]);have hM:=bf0 (b:=R) hws (by simp [hdR]);have kR0:=hN 0 _ rfl;have kR1:=hN 1 _ rfl;have fR0:=hM 0;have fR1:=hM 1;clear hN hM;have zR:R < s1.heap.size:=by omega
 have lR:w.heap.size≤R:=by omega
 rw [← hws];try rw [← hdR]
 try rw [← hdG]
 try rw [← hdF]
 clear hws hsz hdF hdG hdR;have hBo:=hBs;clear hBs;go_wp2_with fail;refine (HR1.out _ (HNC.out.below hBo) (HAC.out.below hBo)).mono ?_;rintro e w1 ⟨rfl,hb⟩;replace kF0:=a0f hb kF0 zF;replace kF1:=a0f hb kF1 zF;replace zF:=zHl hb zF;replace kG0:=a0f hb kG0 zG;replace kG1:=a0f hb kG1 zG;replace zG:=zHl hb zG;replace kR0:=a0f hb kR0 zR;replace kR1:=a0f hb kR1 zR;replace fR0:=a0g hb fR0 zR;replace fR1:=a0g hb fR1 zR;replace zR:=zHl hb zR;replace hBo:=hBo.trans (hb.mono hBo.size);clear hb
 cases hb1:a0w N A with
 | false =>
  have HBAD:=zh (hBD.out (fun h => by rw [hb1] at h;cases h.1));clear hb1;go_wp2_with fail;refine bodyPost_ret (v:=.tuple #[.agg #[.slice none 0 0,.slice none 0 0],.int .i64 3]) (by simp [results,Tryz.results8,go_sem,kR0,kR1,fR0,fR1,zR]) rfl ?_;rw [HPO.out,HBAD.out];exact d1x ((hBo.setCell lR _).setCell lR _)
 | true =>
  go_wp2_with fail;refine (HR2.out _ (HMC.out.below hBo) (HBC.out.below hBo)).mono ?_;rintro e w2 ⟨rfl,hb⟩;replace kF0:=a0f hb kF0 zF;replace kF1:=a0f hb kF1 zF;replace zF:=zHl hb zF;replace kG0:=a0f hb kG0 zG;replace kG1:=a0f hb kG1 zG;replace zG:=zHl hb zG;replace kR0:=a0f hb kR0 zR;replace kR1:=a0f hb kR1 zR;replace fR0:=a0g hb fR0 zR;replace fR1:=a0g hb fR1 zR;replace zR:=zHl hb zR;replace hBo:=hBo.trans (hb.mono hBo.size);clear hb
  cases hb2:a0w M B with
  | false =>
   have HBAD:=zh (hBD.out (fun h => by rw [hb2] at h;cases h.2.1));clear hb1 hb2;go_wp2_with fail;refine bodyPost_ret (v:=.tuple #[.agg #[.slice none 0 0,.slice none 0 0],.int .i64 3]) (by simp [results,Tryz.results8,go_sem,kR0,kR1,fR0,fR1,zR]) rfl ?_;rw [HPO.out,HBAD.out];exact d1x ((hBo.setCell lR _).setCell lR _)
  | true =>
   by_cases o1:1≤op
   rotate_left
   ·
    have HBAD:=zh (hBD.out (fun h => o1 h.2.2.1));have o3:op < 1:=by omega
    clear hb1 hb2 o1;go_wp2_with fail;refine bodyPost_ret (v:=.tuple #[.agg #[.slice none 0 0,.slice none 0 0],.int .i64 3]) (by simp [results,Tryz.results8,go_sem,kR0,kR1,fR0,fR1,zR]) rfl ?_;rw [HPO.out,HBAD.out];exact d1x ((hBo.setCell lR _).setCell lR _)
   ·
    by_cases o2:op≤12
    rotate_left
    ·
     have HBAD:=zh (hBD.out (fun h => o2 h.2.2.2));have o3:12 < op:=by omega
     clear hb1 hb2 o2;go_wp2_with fail;refine bodyPost_ret (v:=.tuple #[.agg #[.slice none 0 0,.slice none 0 0],.int .i64 3]) (by simp [results,Tryz.results8,go_sem,kR0,kR1,fR0,fR1,zR]) rfl ?_;rw [HPO.out,HBAD.out];exact d1x ((hBo.setCell lR _).setCell lR _)
    ·
     have HMD:=zh (hM2.out hb1 hb2 o1 o2);have HBB:=zh (HBH.out hb2);have HLN:=zh (a4v hb1);have HLM:=zh (a4v hb2);clear hb1 hb2 HBH hM2 hBD HR1 HR2;go_wp2_with fail;refine (HBB.out _ (HNC.out.below hBo) (HAC.out.below hBo) (HMC.out.below hBo) (HBC.out.below hBo)).mono ?_;rintro e w5 ⟨⟨us,vs,rfl,hn5,ha5,hap⟩,hb⟩;obtain ⟨B0,hB0⟩:∃ z,z=w2.heap.size:=⟨_,rfl⟩;rw [← hB0] at hn5 ha5;obtain ⟨JN,hJN⟩:∃ z,z=N ++ M.map (mvN (L:Int) A.length):=⟨_,rfl⟩;obtain ⟨JA,hJA⟩:∃ z,z=A ++ B.map (·+(L:Int)):=⟨_,rfl⟩;rw [← hJN] at hn5;rw [← hJA] at ha5;have HJN:=zh hJN;have HJA:=zh hJA;have HJL:Hid (JN.length=L+M.length):=zh (by rw [hJN,List.length_append,List.length_map,← HNL.out]);obtain ⟨jl,hjl⟩:∃ z,z=JN.length:=⟨_,rfl⟩;obtain ⟨al,hal⟩:∃ z,z=JA.length:=⟨_,rfl⟩;rw [← hjl] at hn5;rw [← hal] at ha5;have HJL2:=zh hjl;have HAL2:=zh hal;obtain ⟨b5,c5,rfl⟩:=a0l hn5;obtain ⟨b6,c6,rfl⟩:=a0l ha5;have HFB:Hid (F < B0):=zh (by rw [hB0];exact zF);have HGB:Hid (G < B0):=zh (by rw [hB0];exact zG);have HRB:Hid (R < B0):=zh (by rw [hB0];exact zR);have HN5:=zh hn5;have HA5:=zh ha5;have HA5L:Hid (∀ y,(Value.slice b6 al c6).ownBlock=some y→y < w5.heap.size):=zh (fun y hy => (ha5.lt y hy).2);have HWB:Hid (w.heap.size≤B0):=zh (by rw [hB0];exact hBo.size);have HN5L:Hid (∀ y,(Value.slice b5 jl c5).ownBlock=some y→y < w5.heap.size):=zh (fun y hy => (hn5.lt y hy).2);have HAP:=zh hap;have HBS0:Hid (B0≤w5.heap.size):=zh (by rw [hB0];exact hb.size);have HJ1:Hid (JN.length≤100000):=zh (by have:=HJL.out;have:=HLN.out;have:=HLM.out;have:=HNL.out;omega);clear hn5 ha5 hap hJN hJA hjl hal hB0 HBB;replace kF0:=a0f hb kF0 zF;replace kF1:=a0f hb kF1 zF;replace zF:=zHl hb zF;replace kG0:=a0f hb kG0 zG;replace kG1:=a0f hb kG1 zG;replace zG:=zHl hb zG;replace kR0:=a0f hb kR0 zR;replace kR1:=a0f hb kR1 zR;replace fR0:=a0g hb fR0 zR;replace fR1:=a0g hb fR1 zR;replace zR:=zHl hb zR;replace hBo:=hBo.trans (hb.mono hBo.size);clear hb
     go_upto_region 4 with (fail)
     obtain ⟨s2,hws⟩:∃ s,s=(w5.alloc (.cells #[.slice b5 jl c5,.slice b6 al c6] 36)):=⟨_,rfl⟩;have hBs:=bs1 hBo hws;obtain ⟨H,hdH⟩:∃ b,b=w5.heap.size:=⟨_,rfl⟩;have hUp:Below w5.heap.size w5 s2:=by rw [hws];exact (a0i (Below.refl _ _))
     have hAH:w5.heap.size≤H:=by omega
     have hsz:s2.heap.size=w5.heap.size+1:=by rw [hws];simp
     have dRH:R≠H:=by omega
     have dHF:H≠F:=by omega
     have dHG:H≠G:=by omega
     have dHR:H≠R:=by omega
     have hQC:∀ p v,w5.cell? p=some v→s2.cell? p=some v:=fun p v h => by rw [hws];exact (alK h)
     have hQZ:∀ b,b < w5.heap.size→b < s2.heap.size:=fun b h => by omega
     have hQF:∀ b j,b < w5.heap.size→w5.frozen? ⟨b,j,none⟩=false→s2.frozen? ⟨b,j,none⟩=false:=fun b j z h => by rw [hws];exact (alF z h)
     replace kF0:=hQC _ _ kF0;replace kF1:=hQC _ _ kF1;replace zF:=hQZ _ zF;replace kG0:=hQC _ _ kG0;replace kG1:=hQC _ _ kG1;replace zG:=hQZ _ zG;replace kR0:=hQC _ _ kR0;replace fR0:=hQF _ _ zR fR0;replace kR1:=hQC _ _ kR1;replace fR1:=hQF _ _ zR fR1;replace zR:=hQZ _ zR;clear hQC hQZ hQF;have hN:=bx0 (b:=H) hws hdH;have hM:=bf0 (b:=H) hws hdH;have kH0:=hN 0 _ rfl;have kH1:=hN 1 _ rfl;have fH0:=hM 0;have fH1:=hM 1;clear hN hM;have zH:H < s2.heap.size:=by omega
     have lH:w.heap.size≤H:=by have:=hBo.size;omega
     rw [← hws];try rw [← hdH]
     clear hBo;clear hws hsz hdH;have hBo:=hBs;clear hBs;have HAH:=zh hAH;have HN6:=zh (a1g HN5.out hUp);have HA6:=zh (a1g HA5.out hUp);have HBS:Hid (B0≤s2.heap.size):=zh (Nat.le_trans HBS0.out hUp.size);clear hAH hUp HN5 HA5 HBS0;have HPR:Hid (∀ y,(Value.slice b5 jl c5).ownBlock=some y→R≠y):=fun y hy e => by have h1:=(HN6.out.lt y hy).1;have h2:=HRB.out;omega
     have HPH:Hid (∀ y,(Value.slice b5 jl c5).ownBlock=some y→H≠y):=fun y hy e => by have h1:=HN5L.out y hy;have h2:=HAH.out;omega
     have HPF:Hid (∀ y,(Value.slice b5 jl c5).ownBlock=some y→F≠y):=fun y hy e => by have h1:=(HN6.out.lt y hy).1;have h2:=HFB.out;omega
     have HPG:Hid (∀ y,(Value.slice b5 jl c5).ownBlock=some y→G≠y):=fun y hy e => by have h1:=(HN6.out.lt y hy).1;have h2:=HGB.out;omega
     have hw1:IntKind.i64.wrap ((L:Int) - 1)=(L:Int) - 1:=IntWalk.i64_in _ (by have:=HLN.out;have:=HNL.out;omega);have hw2:IntKind.i64.wrap ((jl:Int) - 1)=(jl:Int) - 1:=IntWalk.i64_in _ (by have:=HLN.out;have:=HNL.out;have:=HJL2.out;have:=HJL.out;have:=HLM.out;omega);obtain ⟨T,hT⟩:∃ T:Nd,T={ nd0 8 op ⟨#[]⟩ with a:=(L:Int) - 1,b:=(jl:Int) - 1 }:=⟨_,rfl⟩;have HTT:=zh hT;clear hT
     go_upto_region 6 with (first | (refine a1j rfl _ rfl T (by rw [HTT.out];first | rfl | (show _=Value.agg _;rfl)) ?_) | (at_builtin;refine a1k rfl _ _ rfl (base:=B0) (v:=.slice b5 jl c5) (N:=JN) (M:=[T]) (by rfl) (HJL2.out ▸ HN6.out.alloc _) (by rfl) (a4u _ T _) HJ1.out (by simp) (by have:=HBS.out;simp;omega) ?_;intro v2 wf hown2 hgrow2 hnear2;obtain ⟨b2,c2,rfl⟩:=a0l hown2;have kF0:=gal hgrow2 kF0 HPF.out;have kF1:=gal hgrow2 kF1 HPF.out;have kG0:=gal hgrow2 kG0 HPG.out;have kG1:=gal hgrow2 kG1 HPG.out;have kR0:=gal hgrow2 kR0 HPR.out;have kR1:=gal hgrow2 kR1 HPR.out;have fR0:=gfl hgrow2 zR fR0 HPR.out;have fR1:=gfl hgrow2 zR fR1 HPR.out;have kH0:=gal hgrow2 kH0 HPH.out;have kH1:=gal hgrow2 kH1 HPH.out;have fH0:=gfl hgrow2 zH fH0 HPH.out))
     obtain ⟨wg,hwg⟩:∃ z,z=wf.setCell ⟨H,0,none⟩ (.slice b2 (JN.length+1) c2):=⟨_,rfl⟩;rw [← hwg];have hl2:(JN ++ [T]).length=JN.length+1:=by simp
     rw [hl2] at hown2 hnear2
     have HHN:Hid (∀ g,(Value.slice b2 (JN.length+1) c2).ownBlock=some g→H≠g∧R≠g):=fun g hg => by
      have h1:=(hown2.lt g hg).1;have h2:=HRB.out;refine ⟨fun e => ?_,fun e => by omega⟩
      rcases hnear2 g hg with h3 | h3
      ·
       exact HPH.out g h3 e
      ·
       have:H < s2.heap.size:=zH;simp at h3;omega
     have HHA:Hid (∀ g,(Value.slice b6 al c6).ownBlock=some g→H≠g∧R≠g):=fun g hg => by
      have h1:=(HA6.out.lt g hg).1;have h2:=HRB.out;have h3:=HA5L.out g hg;have h4:=HAH.out;exact ⟨fun e => by omega,fun e => by omega⟩
     have hown2:wf.ownsRow B0 30 19 (.slice b2 (JN.length+1) c2) (JN ++ [T]).length (nodeL (JN ++ [T])):=by rw [hl2];exact hown2
     have HNG:Hid (NodesAt wg (.slice b2 (JN.length+1) c2) (JN ++ [T])):=zh (by rw [hwg];exact d1t (NodesAt.of_owns hown2).2 (fun g hg => (HHN.out g hg).1));have HAG:Hid (IntsAt wg (.slice b6 al c6) JA):=zh (by rw [hwg];exact d1v (IntsAt.of_owns (a2q (HA6.out.alloc _) hgrow2 HAP.out)).2 (fun g hg => (HHA.out g hg).1));have HBG:Hid (Below w.heap.size w wg):=zh (by rw [hwg];exact (a3m (hBo.alloc hBo.size _) (HN6.out.alloc _) HWB.out (by have:=hBo.size;simp;omega) hgrow2).setCell lH _);have hzs:s2.heap.size≤wg.heap.size:=by rw [hwg];have:=hgrow2.size;simp at this ⊢;omega
     have hRH:R≠H:=dRH;have q0:wg.cell? ⟨R,0,none⟩=some (.slice none 0 0):=by rw [hwg];exact a0e kR0 (Ne.symm hRH)
     have q1:wg.cell? ⟨R,1,none⟩=some (.slice none 0 0):=by rw [hwg];exact a0e kR1 (Ne.symm hRH)
     have r0:wg.frozen? ⟨R,0,none⟩=false:=by rw [hwg];exact frz_set.trans fR0
     have r1:wg.frozen? ⟨R,1,none⟩=false:=by rw [hwg];exact frz_set.trans fR1
     have t0:wg.cell? ⟨H,0,none⟩=some (.slice b2 (JN.length+1) c2):=by rw [hwg];exact a0z kH0 fH0
     have t1:wg.cell? ⟨H,1,none⟩=some (.slice b6 al c6):=by rw [hwg];exact a0h kH1 (by omega)
     have zRg:R < wg.heap.size:=by have:R < s2.heap.size:=zR;omega
     have zHg:H < wg.heap.size:=by have:H < s2.heap.size:=zH;omega
     have HFT:Hid (∀ n ∈ JN ++ [T],Fits n):=fun n hn => by
      rcases List.mem_append.1 hn with hn | hn
      ·
       rw [HJN.out] at hn
       rcases List.mem_append.1 hn with hn | hn
       ·
        exact HF1.out n hn
       ·
        obtain ⟨m,hm,rfl⟩:=List.mem_map.1 hn;exact c5t _ _ (HF2.out m hm)
      ·
       rw [List.mem_singleton.1 hn,HTT.out];exact c9g 8 op _ (show (ByteArray.mk #[]).size≤500 by decide)
     have HMR:Hid (a3a (nd0 8 op ⟨#[]⟩) [(N,A),(M,B)]=d2r (JN ++ [T]) JA):=zh (by rw [HMD.out,HTT.out,HJN.out,HJA.out,HJL2.out,HJL.out,HNL.out]);have HDN:=zh (d2f (.slice b2 (JN.length+1) c2) (.slice b6 al c6) (JN ++ [T]) JA wg HNG.out HAG.out HFT.out (fun _ => by have:=HLN.out;have:=HLM.out;rw [HJA.out,List.length_append,List.length_map];omega) (by have:=HJ1.out;have:=HJL.out;have:=HNL.out;rw [hl2];omega));obtain ⟨E,hE⟩:∃ z,z=b2b (JN ++ [T]) JA:=⟨_,rfl⟩;obtain ⟨ub,ul,uc,hpu⟩:∃ a b c,Value.slice a b c=d2h E (.slice b2 (JN.length+1) c2):=d1u _ _ _ _;obtain ⟨vb,vl,vc,hpv⟩:∃ a b c,Value.slice a b c=d2h E (.slice b6 al c6):=d1u _ _ _ _;rw [← hE,← hpu,← hpv] at HDN;have HE:=zh hE;have HPU:=zh hpu;have HPV:=zh hpv;obtain ⟨jn,hjn⟩:∃ z,z=JN.length+1:=⟨_,rfl⟩;rw [← hjn] at HNG HDN HPU HHN t0 ⊢;clear hwg hown2 hgrow2 hnear2 hl2 kF0 kF1 kG0 kG1 kR0 kR1 fR0 fR1 kH0 kH1 fH0 hzs hRH hE hpu hpv hjn zF zG zR zH hBo HMD HTT HJN HJA HJL HJL2 HAL2 HN6 HA6 HAP HPR HPH HPF HPG HF1 HF2 HFT HN5L HA5L hw1 hw2;go_wp2_with fail;refine HDN.out.mono ?_;rintro e w7 ⟨rfl,hb⟩;have kR0:=a0f hb q0 zRg;have kR1:=a0f hb q1 zRg;have fR0:=a0g hb r0 zRg;have fR1:=a0g hb r1 zRg;have zR:R < w7.heap.size:=Nat.lt_of_lt_of_le zRg hb.size;have HB7:=zh hb;clear hb q0 q1 r0 r1 t0 t1 zRg zHg;go_wp2_with fail;refine bodyPost_ret (v:=.tuple #[.agg #[.slice ub ul uc,.slice vb vl vc],.int .i64 E]) (by simp [results,Tryz.results8,go_sem,kR0,kR1,fR0,fR1,zR]) rfl ?_;rw [HPO.out,HMR.out,HPU.out,HPV.out,HE.out];exact d2m (d1t (d1t (HNG.out.below HB7.out) (fun g hg => (HHN.out g hg).2)) (fun g hg => (HHN.out g hg).2)) (d1v (d1v (HAG.out.below HB7.out) (fun g hg => (HHA.out g hg).2)) (fun g hg => (HHA.out g hg).2)) (((HBG.out.trans (HB7.out.mono HBG.out.size)).setCell lR _).setCell lR _)
theorem d4q (N:List Nd) (A:List Int):a0u [(N,A)]=⟨N,A,[(N.length:Int) - 1]⟩:=by
 have e:N.map (mvN 0 0)=N:=by
  conv => rhs;rw [← List.map_id N]
  exact List.map_congr_left fun n _ => d0q n
 have e2:A.map (·+(0:Int))=A:=by
  conv => rhs;rw [← List.map_id A]
  exact List.map_congr_left fun n _ => by simp
 show Jn.nil.next (N,A)=_;unfold Jn.next Jn.nil;simp only [List.length_nil,Int.natCast_zero,List.nil_append,Nat.zero_add];rw [Jn.mk.injEq];exact ⟨e,e2,rfl⟩
theorem d4b (N:List Nd) : [] ++ N.map (mvN ((([]:List Nd).length:Nat):Int) ((([]:List Int).length:Nat):Int))=N:=by
 rw [List.nil_append]
 conv => rhs;rw [← List.map_id N]
 exact List.map_congr_left fun n _ => d0q n
theorem d4r (A:List Int) : [] ++ A.map (·+((([]:List Nd).length:Nat):Int))=A:=by
 rw [List.nil_append]
 conv => rhs;rw [← List.map_id A]
 exact List.map_congr_left fun n _ => Int.add_zero n
theorem d3n (op:Int) (u v:Value) (N:List Nd) (A:List Int) (w:World) (hN:NodesAt w u N) (hA:IntsAt w v A) (hf:∀ n ∈ N,Fits n) (l1:N.length≤1000) (l2:A.length≤1000) :
  Calls Tryz.prog 6 #[.int .i64 op,.agg #[u,v]] w (d1w (a3a (nd0 7 op ⟨#[]⟩) [(N,A)]) w):=by
 have hud:undef=Value.tuple #[]:=rfl;obtain ⟨Po,hPo⟩:∃ Po,Po=d1w (a3a (nd0 7 op ⟨#[]⟩) [(N,A)]) w:=⟨_,rfl⟩;rw [← hPo];have HPO:=zh hPo;have hr1:=fun W hN hA => a3t u v N A W hN hA hf l2 l1
 have hM2:Hid (a0w N A=true→op=13 ∨ op=14→a3a (nd0 7 op ⟨#[]⟩) [(N,A)]=d2r (N ++ [{ nd0 7 op ⟨#[]⟩ with a:=(N.length:Int) - 1 }]) A):=zh (fun h1 h3 => by
  rw [d2l (by rw [d3h];rcases h3 with rfl | rfl <;> rfl) (fun g hg => by rw [List.mem_singleton.1 hg];exact h1) (by simp),d4q];unfold a5g;rw [if_neg (show ¬ (7:Int)=9 by omega),List.append_nil]
  rfl)
 have hBD:Hid (¬ (a0w N A=true∧(op=13 ∨ op=14))→a3a (nd0 7 op ⟨#[]⟩) [(N,A)]=([],[],3)):=zh (fun h => d2k (fun hh => h ⟨hh.2 (N,A) (by simp),by
  have:=hh.1;rw [d3h,Bool.or_eq_true,decide_eq_true_eq,decide_eq_true_eq] at this
  exact this⟩))
 have HBH:=zh (fun (h:a0w N A=true) W hN hA => d4b N ▸ d4r A ▸ d2b (.slice none 0 0) (.slice none 0 0) u v [] N [] A W (Or.inl ⟨rfl,rfl⟩) (Or.inl ⟨rfl,rfl⟩) hN hA (c0c h) (b7b h) (by simp) (by simp) l1 l2);have HNC:=zh hN;have HAC:=zh hA;have HR1:=zh hr1;have HF1:=zh hf;obtain ⟨bn,cn,rfl,_⟩:=hN.slice;clear hPo hr1 hN hA hf;go_enter Tryz.func6,Tryz.ntmps6
 go_upto_region 1 with (fail)
 obtain ⟨L,hL⟩:∃ L,L=N.length:=⟨_,rfl⟩;have HNL:=zh hL;rw [← hL] at HNC HR1 HBH ⊢;clear hL;obtain ⟨s1,hws⟩:∃ s,s=((w.alloc (.cells #[.slice bn L cn,v] 36)).alloc (.cells #[.slice none 0 0,.slice none 0 0] 36)):=⟨_,rfl⟩;have hBs:=bs2 (Below.refl w.heap.size w) hws;obtain ⟨F,hdF⟩:∃ b,b=w.heap.size:=⟨_,rfl⟩;obtain ⟨R,hdR⟩:∃ b,b=w.heap.size+1:=⟨_,rfl⟩;have hsz:s1.heap.size=w.heap.size+1+1:=by rw [hws];simp
 have dRF:R≠F:=by omega
 have hN:=bx1 (b:=F) hws hdF;have kF0:=hN 0 _ rfl;have kF1:=hN 1 _ rfl;clear hN;have zF:F < s1.heap.size:=by omega
 have lF:w.heap.size≤F:=by omega
 have hN:=bx0 (b:=R) hws (by simp [hdR]);have hM:=bf0 (b:=R) hws (by simp [hdR]);have kR0:=hN 0 _ rfl;have kR1:=hN 1 _ rfl;have fR0:=hM 0;have fR1:=hM 1;clear hN hM;have zR:R < s1.heap.size:=by omega
 have lR:w.heap.size≤R:=by omega
 rw [← hws];try rw [← hdR]
 try rw [← hdF]
 clear hws hsz hdF hdR;have hBo:=hBs;clear hBs;go_wp2_with fail;refine (HR1.out _ (HNC.out.below hBo) (HAC.out.below hBo)).mono ?_;rintro e w1 ⟨rfl,hb⟩;replace kF0:=a0f hb kF0 zF;replace kF1:=a0f hb kF1 zF;replace zF:=zHl hb zF;replace kR0:=a0f hb kR0 zR;replace kR1:=a0f hb kR1 zR;replace fR0:=a0g hb fR0 zR;replace fR1:=a0g hb fR1 zR;replace zR:=zHl hb zR;replace hBo:=hBo.trans (hb.mono hBo.size);clear hb
 cases hb1:a0w N A with
 | false =>
  have HBAD:=zh (hBD.out (fun h => by rw [hb1] at h;cases h.1));clear hb1;go_wp2_with fail;refine bodyPost_ret (v:=.tuple #[.agg #[.slice none 0 0,.slice none 0 0],.int .i64 3]) (by simp [results,Tryz.results6,go_sem,kR0,kR1,fR0,fR1,zR]) rfl ?_;rw [HPO.out,HBAD.out];exact d1x ((hBo.setCell lR _).setCell lR _)
 | true =>
  by_cases o1:op=13 ∨ op=14
  rotate_left
  ·
   have HBAD:=zh (hBD.out (fun h => o1 h.2));have o3:(op != 13)=true:=bne_iff_ne.2 fun h => o1 (Or.inl h)
   have o4:(op != 14)=true:=bne_iff_ne.2 fun h => o1 (Or.inr h)
   clear hb1 o1;go_wp2_with fail;refine bodyPost_ret (v:=.tuple #[.agg #[.slice none 0 0,.slice none 0 0],.int .i64 3]) (by simp [results,Tryz.results6,go_sem,kR0,kR1,fR0,fR1,zR]) rfl ?_;rw [HPO.out,HBAD.out];exact d1x ((hBo.setCell lR _).setCell lR _)
  ·
   have HMD:=zh (hM2.out hb1 o1);have HBB:=zh (HBH.out hb1);have HLN:=zh (a4v hb1);clear hb1 HBH hM2 hBD HR1
   rcases o1 with o1 | o1
   case' inl =>
    have o3:(op != 13)=false:=by rw [o1];rfl
    clear o1;go_wp2_with fail
   case' inr =>
    have o3:(op != 13)=true:=by rw [o1];rfl
    have o4:(op != 14)=false:=by rw [o1];rfl
    clear o1;go_wp2_with fail
   all_goals
    refine (HBB.out _ (HNC.out.below hBo) (HAC.out.below hBo)).mono ?_;rintro e w5 ⟨⟨us,vs,rfl,hn5,ha5,hap⟩,hb⟩;obtain ⟨B0,hB0⟩:∃ z,z=w1.heap.size:=⟨_,rfl⟩;rw [← hB0] at hn5 ha5;obtain ⟨JN,hJN⟩:∃ z,z=N:=⟨_,rfl⟩;obtain ⟨JA,hJA⟩:∃ z,z=A:=⟨_,rfl⟩;rw [← hJN] at hn5;rw [← hJA] at ha5;have HJN:=zh hJN;have HJA:=zh hJA;have HJL:Hid (JN.length=L):=zh (by rw [hJN,HNL.out]);obtain ⟨jl,hjl⟩:∃ z,z=JN.length:=⟨_,rfl⟩;obtain ⟨al,hal⟩:∃ z,z=JA.length:=⟨_,rfl⟩;rw [← hjl] at hn5;rw [← hal] at ha5;have HJL2:=zh hjl;have HAL2:=zh hal;obtain ⟨b5,c5,rfl⟩:=a0l hn5;obtain ⟨b6,c6,rfl⟩:=a0l ha5;have HFB:Hid (F < B0):=zh (by rw [hB0];exact zF);have HRB:Hid (R < B0):=zh (by rw [hB0];exact zR);have HN5:=zh hn5;have HA5:=zh ha5;have HA5L:Hid (∀ y,(Value.slice b6 al c6).ownBlock=some y→y < w5.heap.size):=zh (fun y hy => (ha5.lt y hy).2);have HWB:Hid (w.heap.size≤B0):=zh (by rw [hB0];exact hBo.size);have HN5L:Hid (∀ y,(Value.slice b5 jl c5).ownBlock=some y→y < w5.heap.size):=zh (fun y hy => (hn5.lt y hy).2);have HAP:=zh hap;have HBS0:Hid (B0≤w5.heap.size):=zh (by rw [hB0];exact hb.size);have HJ1:Hid (JN.length≤100000):=zh (by have:=HJL.out;have:=HLN.out;have:=HNL.out;omega);clear hn5 ha5 hap hJN hJA hjl hal hB0 HBB;replace kF0:=a0f hb kF0 zF;replace kF1:=a0f hb kF1 zF;replace zF:=zHl hb zF;replace kR0:=a0f hb kR0 zR;replace kR1:=a0f hb kR1 zR;replace fR0:=a0g hb fR0 zR;replace fR1:=a0g hb fR1 zR;replace zR:=zHl hb zR;replace hBo:=hBo.trans (hb.mono hBo.size);clear hb
    go_upto_region 4 with (fail)
    obtain ⟨s2,hws⟩:∃ s,s=(w5.alloc (.cells #[.slice b5 jl c5,.slice b6 al c6] 36)):=⟨_,rfl⟩;have hBs:=bs1 hBo hws;obtain ⟨H,hdH⟩:∃ b,b=w5.heap.size:=⟨_,rfl⟩;have hUp:Below w5.heap.size w5 s2:=by rw [hws];exact (a0i (Below.refl _ _))
    have hAH:w5.heap.size≤H:=by omega
    have hsz:s2.heap.size=w5.heap.size+1:=by rw [hws];simp
    have dRH:R≠H:=by omega
    have dHF:H≠F:=by omega
    have dHR:H≠R:=by omega
    have hQC:∀ p v,w5.cell? p=some v→s2.cell? p=some v:=fun p v h => by rw [hws];exact (alK h)
    have hQZ:∀ b,b < w5.heap.size→b < s2.heap.size:=fun b h => by omega
    have hQF:∀ b j,b < w5.heap.size→w5.frozen? ⟨b,j,none⟩=false→s2.frozen? ⟨b,j,none⟩=false:=fun b j z h => by rw [hws];exact (alF z h)
    replace kF0:=hQC _ _ kF0;replace kF1:=hQC _ _ kF1;replace zF:=hQZ _ zF;replace kR0:=hQC _ _ kR0;replace fR0:=hQF _ _ zR fR0;replace kR1:=hQC _ _ kR1;replace fR1:=hQF _ _ zR fR1;replace zR:=hQZ _ zR;clear hQC hQZ hQF;have hN:=bx0 (b:=H) hws hdH;have hM:=bf0 (b:=H) hws hdH;have kH0:=hN 0 _ rfl;have kH1:=hN 1 _ rfl;have fH0:=hM 0;have fH1:=hM 1;clear hN hM;have zH:H < s2.heap.size:=by omega
    have lH:w.heap.size≤H:=by have:=hBo.size;omega
    rw [← hws];try rw [← hdH]
    clear hBo;clear hws hsz hdH;have hBo:=hBs;clear hBs;have HAH:=zh hAH;have HN6:=zh (a1g HN5.out hUp);have HA6:=zh (a1g HA5.out hUp);have HBS:Hid (B0≤s2.heap.size):=zh (Nat.le_trans HBS0.out hUp.size);clear hAH hUp HN5 HA5 HBS0;have HPR:Hid (∀ y,(Value.slice b5 jl c5).ownBlock=some y→R≠y):=fun y hy e => by have h1:=(HN6.out.lt y hy).1;have h2:=HRB.out;omega
    have HPH:Hid (∀ y,(Value.slice b5 jl c5).ownBlock=some y→H≠y):=fun y hy e => by have h1:=HN5L.out y hy;have h2:=HAH.out;omega
    have HPF:Hid (∀ y,(Value.slice b5 jl c5).ownBlock=some y→F≠y):=fun y hy e => by have h1:=(HN6.out.lt y hy).1;have h2:=HFB.out;omega
    have hw1:IntKind.i64.wrap ((L:Int) - 1)=(L:Int) - 1:=IntWalk.i64_in _ (by have:=HLN.out;have:=HNL.out;omega);obtain ⟨T,hT⟩:∃ T:Nd,T={ nd0 7 op ⟨#[]⟩ with a:=(L:Int) - 1 }:=⟨_,rfl⟩;have HTT:=zh hT;clear hT
    go_upto_region 5 with (first | (refine a1j rfl _ rfl T (by rw [HTT.out];first | rfl | (show _=Value.agg _;rfl)) ?_) | (at_builtin;refine a1k rfl _ _ rfl (base:=B0) (v:=.slice b5 jl c5) (N:=JN) (M:=[T]) (by rfl) (HJL2.out ▸ HN6.out.alloc _) (by rfl) (a4u _ T _) HJ1.out (by simp) (by have:=HBS.out;simp;omega) ?_;intro v2 wf hown2 hgrow2 hnear2;obtain ⟨b2,c2,rfl⟩:=a0l hown2;have kF0:=gal hgrow2 kF0 HPF.out;have kF1:=gal hgrow2 kF1 HPF.out;have kR0:=gal hgrow2 kR0 HPR.out;have kR1:=gal hgrow2 kR1 HPR.out;have fR0:=gfl hgrow2 zR fR0 HPR.out;have fR1:=gfl hgrow2 zR fR1 HPR.out;have kH0:=gal hgrow2 kH0 HPH.out;have kH1:=gal hgrow2 kH1 HPH.out;have fH0:=gfl hgrow2 zH fH0 HPH.out))
    obtain ⟨wg,hwg⟩:∃ z,z=wf.setCell ⟨H,0,none⟩ (.slice b2 (JN.length+1) c2):=⟨_,rfl⟩;rw [← hwg];have hl2:(JN ++ [T]).length=JN.length+1:=by simp
    rw [hl2] at hown2 hnear2
    have HHN:Hid (∀ g,(Value.slice b2 (JN.length+1) c2).ownBlock=some g→H≠g∧R≠g):=fun g hg => by
     have h1:=(hown2.lt g hg).1;have h2:=HRB.out;refine ⟨fun e => ?_,fun e => by omega⟩
     rcases hnear2 g hg with h3 | h3
     ·
      exact HPH.out g h3 e
     ·
      have:H < s2.heap.size:=zH;simp at h3;omega
    have HHA:Hid (∀ g,(Value.slice b6 al c6).ownBlock=some g→H≠g∧R≠g):=fun g hg => by
     have h1:=(HA6.out.lt g hg).1;have h2:=HRB.out;have h3:=HA5L.out g hg;have h4:=HAH.out;exact ⟨fun e => by omega,fun e => by omega⟩
    have hown2:wf.ownsRow B0 30 19 (.slice b2 (JN.length+1) c2) (JN ++ [T]).length (nodeL (JN ++ [T])):=by rw [hl2];exact hown2
    have HNG:Hid (NodesAt wg (.slice b2 (JN.length+1) c2) (JN ++ [T])):=zh (by rw [hwg];exact d1t (NodesAt.of_owns hown2).2 (fun g hg => (HHN.out g hg).1));have HAG:Hid (IntsAt wg (.slice b6 al c6) JA):=zh (by rw [hwg];exact d1v (IntsAt.of_owns (a2q (HA6.out.alloc _) hgrow2 HAP.out)).2 (fun g hg => (HHA.out g hg).1));have HBG:Hid (Below w.heap.size w wg):=zh (by rw [hwg];exact (a3m (hBo.alloc hBo.size _) (HN6.out.alloc _) HWB.out (by have:=hBo.size;simp;omega) hgrow2).setCell lH _);have hzs:s2.heap.size≤wg.heap.size:=by rw [hwg];have:=hgrow2.size;simp at this ⊢;omega
    have hRH:R≠H:=dRH;have q0:wg.cell? ⟨R,0,none⟩=some (.slice none 0 0):=by rw [hwg];exact a0e kR0 (Ne.symm hRH)
    have q1:wg.cell? ⟨R,1,none⟩=some (.slice none 0 0):=by rw [hwg];exact a0e kR1 (Ne.symm hRH)
    have r0:wg.frozen? ⟨R,0,none⟩=false:=by rw [hwg];exact frz_set.trans fR0
    have r1:wg.frozen? ⟨R,1,none⟩=false:=by rw [hwg];exact frz_set.trans fR1
    have t0:wg.cell? ⟨H,0,none⟩=some (.slice b2 (JN.length+1) c2):=by rw [hwg];exact a0z kH0 fH0
    have t1:wg.cell? ⟨H,1,none⟩=some (.slice b6 al c6):=by rw [hwg];exact a0h kH1 (by omega)
    have zRg:R < wg.heap.size:=by have:R < s2.heap.size:=zR;omega
    have zHg:H < wg.heap.size:=by have:H < s2.heap.size:=zH;omega
    have HFT:Hid (∀ n ∈ JN ++ [T],Fits n):=fun n hn => by
     rcases List.mem_append.1 hn with hn | hn
     ·
      rw [HJN.out] at hn;exact HF1.out n hn
     ·
      rw [List.mem_singleton.1 hn,HTT.out];exact c9g 7 op _ (show (ByteArray.mk #[]).size≤500 by decide)
    have HMR:Hid (a3a (nd0 7 op ⟨#[]⟩) [(N,A)]=d2r (JN ++ [T]) JA):=zh (by rw [HMD.out,HTT.out,HJN.out,HJA.out,HNL.out]);have HDN:=zh (d2f (.slice b2 (JN.length+1) c2) (.slice b6 al c6) (JN ++ [T]) JA wg HNG.out HAG.out HFT.out (fun _ => by have:=HLN.out;rw [HJA.out];omega) (by have:=HJ1.out;have:=HJL.out;have:=HNL.out;rw [hl2];omega));obtain ⟨E,hE⟩:∃ z,z=b2b (JN ++ [T]) JA:=⟨_,rfl⟩;obtain ⟨ub,ul,uc,hpu⟩:∃ a b c,Value.slice a b c=d2h E (.slice b2 (JN.length+1) c2):=d1u _ _ _ _;obtain ⟨vb,vl,vc,hpv⟩:∃ a b c,Value.slice a b c=d2h E (.slice b6 al c6):=d1u _ _ _ _;rw [← hE,← hpu,← hpv] at HDN;have HE:=zh hE;have HPU:=zh hpu;have HPV:=zh hpv;obtain ⟨jn,hjn⟩:∃ z,z=JN.length+1:=⟨_,rfl⟩;rw [← hjn] at HNG HDN HPU HHN t0 ⊢;clear hwg hown2 hgrow2 hnear2 hl2 kF0 kF1 kR0 kR1 fR0 fR1 kH0 kH1 fH0 hzs hRH hE hpu hpv hjn zF zR zH hBo HMD HTT HJN HJA HJL HJL2 HAL2 HN6 HA6 HAP HPR HPH HPF HF1 HFT HN5L HA5L hw1;go_wp2_with fail;refine HDN.out.mono ?_;rintro e w7 ⟨rfl,hb⟩;have kR0:=a0f hb q0 zRg;have kR1:=a0f hb q1 zRg;have fR0:=a0g hb r0 zRg;have fR1:=a0g hb r1 zRg;have zR:R < w7.heap.size:=Nat.lt_of_lt_of_le zRg hb.size;have HB7:=zh hb;clear hb q0 q1 r0 r1 t0 t1 zRg zHg;go_wp2_with fail;refine bodyPost_ret (v:=.tuple #[.agg #[.slice ub ul uc,.slice vb vl vc],.int .i64 E]) (by simp [results,Tryz.results6,go_sem,kR0,kR1,fR0,fR1,zR]) rfl ?_;rw [HPO.out,HMR.out,HPU.out,HPV.out,HE.out];exact d2m (d1t (d1t (HNG.out.below HB7.out) (fun g hg => (HHN.out g hg).2)) (fun g hg => (HHN.out g hg).2)) (d1v (d1v (HAG.out.below HB7.out) (fun g hg => (HHA.out g hg).2)) (fun g hg => (HHA.out g hg).2)) (((HBG.out.trans (HB7.out.mono HBG.out.size)).setCell lR _).setCell lR _)
end Go.Proofs.YtjfkbeanbbeloaaGreatDoor
