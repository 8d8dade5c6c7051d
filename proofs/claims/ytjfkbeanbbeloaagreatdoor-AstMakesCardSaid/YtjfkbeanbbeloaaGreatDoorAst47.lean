import Derived.Test.YtjfkbeanbbeloaaGreatDoorAst43
import Derived.Test.YtjfkbeanbbeloaaGreatDoorAst48
set_option maxHeartbeats 64000000
set_option maxRecDepth 100000
namespace Go.Proofs.YtjfkbeanbbeloaaGreatDoor
open Go.RowKit Go.Shelf
set_option linter.unusedSimpArgs false
set_option linter.unusedVariables false
theorem FAt.drew {W:World} {P base:Nat} {N:List Nd} {A T:List Int} {u v t:Value} (h:FAt W P base N A T u v t):FAt W.drew P base N A T u v t :=
 ⟨h.c0,h.c1,h.f0,h.f1,h.ou.drew,h.ov.drew,h.ot.drew,h.uv,h.ut,h.vt,h.pb,h.bw⟩
theorem FAt.far {W:World} {P base:Nat} {N:List Nd} {A T:List Int} {u v t:Value} (h:FAt W P base N A T u v t) {b o:Nat} {x:Value} (hb:b < base) (hne:b≠P):FAt (W.setCell ⟨b,o,none⟩ x) P base N A T u v t :=
 ⟨a0e h.c0 (by dsimp only;omega),a0e h.c1 (by dsimp only;omega),frz_set.trans h.f0,frz_set.trans h.f1,ownsRow_setCell_below h.ou hb _,ownsRow_setCell_below h.ov hb _,ownsRow_setCell_below h.ot hb _,h.uv,h.ut,h.vt,h.pb,by simpa using h.bw⟩
theorem a5h (u v:Value) (N:List Nd) (A:List Int) (w:World) (hN:NodesAt w u N) (hA:IntsAt w v A) (hf:∀ n ∈ N,Fits n) (hnm:NamesAt w) (hl2:N.length≤100000) (hl:N.length≤300→A.length≤1000) :
  Calls Tryz.prog 31 #[.agg #[u,v]] w (a2t (a1q (cN N) (N.map shN) A) w):=by
 by_cases h:N.length≤300
 ·
  exact a6g u v N A w hN hA hf hnm (hl h) (by omega)
 ·
  have hud:undef=Value.tuple #[]:=rfl;have HR:Hid (a1q (cN N) (N.map shN) A=(0,3)):=zh (by unfold a1q;rw [List.length_map,if_pos (by omega)]);obtain ⟨R,hR⟩:∃ R,R=a1q (cN N) (N.map shN) A:=⟨_,rfl⟩;rw [← hR] at HR ⊢;obtain ⟨Po,hPo⟩:∃ Po,Po=a2t R w:=⟨_,rfl⟩;rw [← hPo];have HPO:=zh hPo;obtain ⟨bn,cn,rfl,_⟩:=hN.slice;obtain ⟨ba,ca,rfl,_⟩:=hA.slice;have h300:300 < N.length:=by omega
  generalize N.length=L at *;generalize A.length=K at *;clear hR hPo hN hA hf hnm hl h;go_enter Tryz.func31,Tryz.ntmps31
  go_upto_region 1 with (fail)
  obtain ⟨s1,hws⟩:∃ s,s=(w.alloc (.cells #[.slice bn L cn,.slice ba K ca] 36)):=⟨_,rfl⟩;have hBs:=bs1 (Below.refl w.heap.size w) hws;obtain ⟨F,hdF⟩:∃ b,b=w.heap.size:=⟨_,rfl⟩;have hsz:s1.heap.size=w.heap.size+1:=by rw [hws];simp
  have hN:=bx0 (b:=F) hws hdF;have kF0:=hN 0 _ rfl;have kF1:=hN 1 _ rfl;clear hN;have zF:F < s1.heap.size:=by omega
  have lF:w.heap.size≤F:=by omega
  rw [← hws];try rw [← hdF]
  clear hws hsz hdF;have hBo:=hBs;clear hBs;go_wp2_with fail;show Po _ _;rw [HPO.out];exact a3l HR.out rfl hBo
theorem c3g {n:Nd} {s:Jn} (h:a1x n=true) (hk:n.k=7 ∨ n.k=8 ∨ n.k=9) (h9:n.k=9→s.T.length≤20∧(s.T.length=0→s.A.length=0)):a1x (a5k n s)=true:=by
 obtain ⟨k,o,a,b,qn,qa,qd,x,tr,r,t⟩:=n;dsimp only at hk h9;unfold a1x at h ⊢;rw [Bool.and_eq_true,a2o] at h ⊢;unfold a5k;dsimp only
 rcases hk with hk | hk | hk
 ·
  subst hk;simp [a4i,a0s] at h ⊢;exact h
 ·
  subst hk;simp [a4i,a0s] at h ⊢;exact h
 ·
  subst hk;obtain ⟨t1,t2⟩:=h9 rfl;simp [a4i,a0s] at h ⊢;obtain ⟨⟨_,h3⟩,h4⟩:=h;refine ⟨⟨⟨by omega,?_⟩,h3⟩,h4⟩;by_cases h0:s.T=[]
  ·
   exact Or.inr (List.eq_nil_of_length_eq_zero (t2 (by rw [h0];rfl)))
  ·
   exact Or.inl h0
theorem c3h {n:Nd} {l:List (List Nd × List Int)} (hc:a1x n=true) (hk:(n.k=7∧l.length=1) ∨ (n.k=8∧l.length=2) ∨ n.k=9) (hr:∀ g ∈ l,a0w g.1 g.2=true) (h20:l.length≤20) :
  b5o (a1q (cN ((a0u l).N ++ [a5k n (a0u l)])) (((a0u l).N ++ [a5k n (a0u l)]).map shN) ((a0u l).A ++ a5g n (a0u l))).2=b2b ((a0u l).N ++ [a5k n (a0u l)]) ((a0u l).A ++ a5g n (a0u l)):=by
 have hst:Stands ((a0u l).N.map shN,(a0u l).A) (a0u l).T:=c0d l Jn.nil b7a hr;have hC:∀ n ∈ (a0u l).N,a1x n=true:=c7t l Jn.nil (fun n h => by cases h) hr;obtain ⟨_,_,l3⟩:=b4h l Jn.nil (Nat.le_refl _) hr;have hT:(a0u l).T.length=l.length:=by rw [a0u,l3];exact Nat.zero_add _
 have h0:(a0u l).T.length=0→(a0u l).A.length=0:=fun h => by
  have:l=[]:=List.eq_nil_of_length_eq_zero (by omega);subst this;rfl
 generalize a0u l=J at *;obtain ⟨JN,JA,JT⟩:=J;dsimp only at hst hC hT h0;refine c0e (s:=⟨JN,JA,JT⟩) hst hC (c3g hc (by omega) (fun _ => ⟨by show JT.length≤20;omega,h0⟩)) ?_ ?_ ?_
 all_goals
  obtain ⟨k,o,a,b,qn,qa,qd,x,tr,r,t⟩:=n;dsimp only at hk;unfold a5k a5g;dsimp only
 ·
  rcases hk with ⟨hk,hl⟩ | ⟨hk,hl⟩ | hk
  ·
   subst hk
   match JT,(show JT.length=1 by omega) with
   | [t0],_ => simp [kidsS,shN]
  ·
   subst hk
   match JT,(show JT.length=2 by omega) with
   | [t0,t1],_ => simp [kidsS,shN]
  ·
   subst hk;simp [kidsS,shN]
 ·
  intro h9 hb
  rcases hk with ⟨hk,hl⟩ | ⟨hk,hl⟩ | hk
  ·
   subst hk;simp at h9
  ·
   subst hk;simp at h9
  ·
   subst hk;simp
 ·
  rcases hk with ⟨hk,hl⟩ | ⟨hk,hl⟩ | hk
  ·
   subst hk;simp [a0n,shN]
  ·
   subst hk;simp [a0n,shN]
  ·
   subst hk;by_cases e:JT=[]
   ·
    subst e;simp [a0n,shN]
   ·
    have:0 < JT.length:=List.length_pos_iff.2 e;simp [a0n,shN,e]
def FormNew (N:List Nd) (A:List Int) (err:Int) (w:World) (e:Ending) (w':World):Prop:=(∃ us vs,e=.returned (.tuple #[.agg #[us,vs],.int .i64 err])∧w'.ownsRow w.heap.size 30 19 us N.length (nodeL N)∧w'.ownsRow w.heap.size 3 1 vs A.length (intL A))∧Below w.heap.size w w'
theorem a1a {err:Int} {w w':World} (hb:Below w.heap.size w w'):FormNew [] [] err w (.returned (.tuple #[.agg #[.slice none 0 0,.slice none 0 0],.int .i64 err])) w':=⟨⟨_,_,rfl,World.ownsRow_nil _ _ _ _,World.ownsRow_nil _ _ _ _⟩,hb⟩
theorem FormNew.form {N:List Nd} {A:List Int} {err:Int} {w:World} {e:Ending} {w':World} (h:FormNew N A err w e w'):c3c N A err w e w':=by
 obtain ⟨⟨us,vs,he,h1,h2⟩,hb⟩:=h;exact ⟨⟨us,vs,he,(NodesAt.of_owns h1).2,(IntsAt.of_owns h2).2⟩,hb⟩
def c9f (t0:World) (G:Nat) (l:List (List Nd × List Int)) (tv r:Value) (wr:World):Prop:=∃ (k:Nat) (u v:Value),k≤l.length∧r=.int .i64 k∧FAt wr G (G+1) (a0u (l.take k)).N (a0u (l.take k)).A (a0u (l.take k)).T u v tv∧Below G t0 wr
theorem c0i {l:List (List Nd × List Int)} (hr:∀ g ∈ l,a0w g.1 g.2=true) (k:Nat):(a0u (l.take k)).A.length+(a0u (l.take k)).T.length≤(a0u (l.take k)).N.length∧(a0u (l.take k)).N.length≤300 * l.length∧(a0u (l.take k)).T.length≤l.length:=by
 obtain ⟨h1,h2,h3⟩:=b4h (l.take k) Jn.nil (Nat.le_refl _) (fun g h => hr g (List.mem_of_mem_take h));have h4:(l.take k).length≤l.length:=List.length_take_le' ..;have h5:Jn.nil.N.length=0:=rfl;have h6:Jn.nil.T.length=0:=rfl;have h7:300 * (l.take k).length≤300 * l.length:=Nat.mul_le_mul_left _ h4;unfold a0u;omega
theorem b7d (n:Nd) (v:Value) (l:List (List Nd × List Int)) (w:World) (hv:FormsAt w v l) (hs:Small l) (hf:Fits n) (hnm:NamesAt w) (hl:l.length≤1000) (hk:(n.k=7∧l.length=1) ∨ (n.k=8∧l.length=2) ∨ n.k=9) :
  Calls Tryz.prog 19 #[ndV n,v] w (FormNew (a3a n l).1 (a3a n l).2.1 (a3a n l).2.2 w):=by
 have hud:undef=Value.tuple #[]:=rfl;obtain ⟨K19,hz19,HK19⟩:=a0q;obtain ⟨Po,hPo⟩:∃ Po,Po=FormNew (a3a n l).1 (a3a n l).2.1 (a3a n l).2.2 w:=⟨_,rfl⟩;rw [← hPo];have HPO:=zh hPo;have hcan:=fun w hN => a4c n w hf hN
 have hall:=fun w hv hnm => c5x v l w hv hs hnm (by omega)
 have HNM:=zh hnm;have HV:=zh hv;have HFI:=zh hf;have HS:=zh hs;obtain ⟨bl,cl,rfl,hcs⟩:=hv.slice;have HCS:=zh hcs;have HKK:=zh hk;have HGE:Hid (∀ k,k < l.length→∃ g,l[k]?=some g):=fun k h => ⟨_,List.getElem?_eq_getElem h⟩
 clear hPo hf hs hnm hv hcs hk
 cases hc:a1x n with
 | false =>
  rw [hc] at hcan;have HC:=zh hcan;have HMD:Hid (a3a n l=([],[],3)):=if_neg (fun h => by rw [hc] at h;cases h.1);clear hcan hall hc;generalize l.length=L at *;go_enter Tryz.func19,Tryz.ntmps19
  go_upto_region 1 with (fail)
  obtain ⟨s2,hws⟩:∃ s,s=((w.alloc (.cells #[.int .i64 n.k,.int .i64 n.o,.int .i64 n.a,.int .i64 n.b,.bool n.qn,.string n.qa,.string n.qd,.string n.s,.bool n.tr,.string n.r.sh,.int .i64 n.r.c,.int .i64 n.r.r,.bool n.r.fc,.bool n.r.fr,.string n.t.sh,.int .i64 n.t.c,.int .i64 n.t.r,.bool n.t.fc,.bool n.t.fr] 30)).alloc (.cells #[.slice none 0 0,.slice none 0 0] 36)):=⟨_,rfl⟩;have hBs:=bs2 (Below.refl w.heap.size w) hws;obtain ⟨X,hdX⟩:∃ b,b=w.heap.size:=⟨_,rfl⟩;obtain ⟨C,hdC⟩:∃ b,b=w.heap.size+1:=⟨_,rfl⟩;have hsz:s2.heap.size=w.heap.size+1+1:=by rw [hws];simp
  have dCX:C≠X:=by omega
  have yX:=by1 (b:=X) hws hdX;have zX:X < s2.heap.size:=by omega
  have lX:w.heap.size≤X:=by omega
  have hN:=bx0 (b:=C) hws (by simp [hdC]);have hM:=bf0 (b:=C) hws (by simp [hdC]);have kC0:=hN 0 _ rfl;have kC1:=hN 1 _ rfl;have fC0:=hM 0;have fC1:=hM 1;clear hN hM;have zC:C < s2.heap.size:=by omega
  have lC:w.heap.size≤C:=by omega
  have LX:=eqL (P:=Tryz.prog) HK19 rfl yX;rw [← hws];try rw [← hdC]
  try rw [← hdX]
  clear hws hsz hdX hdC;have hBo:=hBs;clear hBs;go_wp2_with fail;refine (HC.out _ (HNM.out.below hBo)).mono ?_;rintro e w5 ⟨rfl,hb⟩;replace yX:=eqB hb yX zX;replace zX:=zHl hb zX;replace kC0:=a0f hb kC0 zC;replace kC1:=a0f hb kC1 zC;replace fC0:=a0g hb fC0 zC;replace fC1:=a0g hb fC1 zC;replace zC:=zHl hb zC;replace hBo:=hBo.trans (hb.mono hBo.size);clear hb;replace LX:=eqL (P:=Tryz.prog) HK19 rfl yX;go_wp2_with fail;refine bodyPost_ret (v:=.tuple #[.agg #[.slice none 0 0,.slice none 0 0],.int .i64 3]) (by simp [results,Tryz.results19,go_sem,kC0,kC1,fC0,fC1,zC]) rfl ?_;rw [HPO.out,HMD.out];exact a1a ((hBo.setCell lC _).setCell lC _)
 | true =>
  rw [hc] at hcan;have HC:=zh hcan
  cases ha:c0g l with
  | false =>
   rw [ha] at hall;have HA:=zh hall;have HMD:Hid (a3a n l=([],[],3)):=if_neg (fun h => by rw [allR_iff.2 h.2] at ha;cases ha);clear hcan hall hc ha;obtain ⟨L,hL⟩:∃ L,L=l.length:=⟨_,rfl⟩;rw [← hL] at HA HV ⊢;clear hL;go_enter Tryz.func19,Tryz.ntmps19
   go_upto_region 1 with (fail)
   obtain ⟨s3,hws⟩:∃ s,s=((w.alloc (.cells #[.int .i64 n.k,.int .i64 n.o,.int .i64 n.a,.int .i64 n.b,.bool n.qn,.string n.qa,.string n.qd,.string n.s,.bool n.tr,.string n.r.sh,.int .i64 n.r.c,.int .i64 n.r.r,.bool n.r.fc,.bool n.r.fr,.string n.t.sh,.int .i64 n.t.c,.int .i64 n.t.r,.bool n.t.fc,.bool n.t.fr] 30)).alloc (.cells #[.slice none 0 0,.slice none 0 0] 36)):=⟨_,rfl⟩;have hBs:=bs2 (Below.refl w.heap.size w) hws;obtain ⟨X,hdX⟩:∃ b,b=w.heap.size:=⟨_,rfl⟩;obtain ⟨C,hdC⟩:∃ b,b=w.heap.size+1:=⟨_,rfl⟩;have hsz:s3.heap.size=w.heap.size+1+1:=by rw [hws];simp
   have dCX:C≠X:=by omega
   have yX:=by1 (b:=X) hws hdX;have zX:X < s3.heap.size:=by omega
   have lX:w.heap.size≤X:=by omega
   have hN:=bx0 (b:=C) hws (by simp [hdC]);have hM:=bf0 (b:=C) hws (by simp [hdC]);have kC0:=hN 0 _ rfl;have kC1:=hN 1 _ rfl;have fC0:=hM 0;have fC1:=hM 1;clear hN hM;have zC:C < s3.heap.size:=by omega
   have lC:w.heap.size≤C:=by omega
   have LX:=eqL (P:=Tryz.prog) HK19 rfl yX;rw [← hws];try rw [← hdC]
   try rw [← hdX]
   clear hws hsz hdX hdC;have hBo:=hBs;clear hBs;go_wp2_with fail;refine (HC.out _ (HNM.out.below hBo)).mono ?_;rintro e w5 ⟨rfl,hb⟩;replace yX:=eqB hb yX zX;replace zX:=zHl hb zX;replace kC0:=a0f hb kC0 zC;replace kC1:=a0f hb kC1 zC;replace fC0:=a0g hb fC0 zC;replace fC1:=a0g hb fC1 zC;replace zC:=zHl hb zC;replace hBo:=hBo.trans (hb.mono hBo.size);clear hb;replace LX:=eqL (P:=Tryz.prog) HK19 rfl yX;go_wp2_with fail;refine (HA.out _ (HV.out.below hBo) (HNM.out.below hBo)).mono ?_;rintro e w6 ⟨rfl,hb⟩;replace yX:=eqB hb yX zX;replace zX:=zHl hb zX;replace kC0:=a0f hb kC0 zC;replace kC1:=a0f hb kC1 zC;replace fC0:=a0g hb fC0 zC;replace fC1:=a0g hb fC1 zC;replace zC:=zHl hb zC;replace hBo:=hBo.trans (hb.mono hBo.size);clear hb;replace LX:=eqL (P:=Tryz.prog) HK19 rfl yX;go_wp2_with fail;refine bodyPost_ret (v:=.tuple #[.agg #[.slice none 0 0,.slice none 0 0],.int .i64 3]) (by simp [results,Tryz.results19,go_sem,kC0,kC1,fC0,fC1,zC]) rfl ?_;rw [HPO.out,HMD.out];exact a1a ((hBo.setCell lC _).setCell lC _)
  | true =>
   rw [ha] at hall;have HA:=zh hall;have hright:=allR_iff.1 ha;by_cases h20:20 < l.length
   ·
    have HMD:Hid (a3a n l=([],[],2)):=(if_pos ⟨hc,hright⟩).trans (if_pos h20);clear hcan hall hc ha hright;obtain ⟨L,hL⟩:∃ L,L=l.length:=⟨_,rfl⟩;rw [← hL] at HA HV h20 ⊢;clear hL;have h20':(20:Int) < L:=by omega
    go_enter Tryz.func19,Tryz.ntmps19
    go_upto_region 1 with (fail)
    obtain ⟨s4,hws⟩:∃ s,s=((w.alloc (.cells #[.int .i64 n.k,.int .i64 n.o,.int .i64 n.a,.int .i64 n.b,.bool n.qn,.string n.qa,.string n.qd,.string n.s,.bool n.tr,.string n.r.sh,.int .i64 n.r.c,.int .i64 n.r.r,.bool n.r.fc,.bool n.r.fr,.string n.t.sh,.int .i64 n.t.c,.int .i64 n.t.r,.bool n.t.fc,.bool n.t.fr] 30)).alloc (.cells #[.slice none 0 0,.slice none 0 0] 36)):=⟨_,rfl⟩;have hBs:=bs2 (Below.refl w.heap.size w) hws;obtain ⟨X,hdX⟩:∃ b,b=w.heap.size:=⟨_,rfl⟩;obtain ⟨C,hdC⟩:∃ b,b=w.heap.size+1:=⟨_,rfl⟩;have hsz:s4.heap.size=w.heap.size+1+1:=by rw [hws];simp
    have dCX:C≠X:=by omega
    have yX:=by1 (b:=X) hws hdX;have zX:X < s4.heap.size:=by omega
    have lX:w.heap.size≤X:=by omega
    have hN:=bx0 (b:=C) hws (by simp [hdC]);have hM:=bf0 (b:=C) hws (by simp [hdC]);have kC0:=hN 0 _ rfl;have kC1:=hN 1 _ rfl;have fC0:=hM 0;have fC1:=hM 1;clear hN hM;have zC:C < s4.heap.size:=by omega
    have lC:w.heap.size≤C:=by omega
    have LX:=eqL (P:=Tryz.prog) HK19 rfl yX;rw [← hws];try rw [← hdC]
    try rw [← hdX]
    clear hws hsz hdX hdC;have hBo:=hBs;clear hBs;go_wp2_with fail;refine (HC.out _ (HNM.out.below hBo)).mono ?_;rintro e w5 ⟨rfl,hb⟩;replace yX:=eqB hb yX zX;replace zX:=zHl hb zX;replace kC0:=a0f hb kC0 zC;replace kC1:=a0f hb kC1 zC;replace fC0:=a0g hb fC0 zC;replace fC1:=a0g hb fC1 zC;replace zC:=zHl hb zC;replace hBo:=hBo.trans (hb.mono hBo.size);clear hb;replace LX:=eqL (P:=Tryz.prog) HK19 rfl yX;go_wp2_with fail;refine (HA.out _ (HV.out.below hBo) (HNM.out.below hBo)).mono ?_;rintro e w6 ⟨rfl,hb⟩;replace yX:=eqB hb yX zX;replace zX:=zHl hb zX;replace kC0:=a0f hb kC0 zC;replace kC1:=a0f hb kC1 zC;replace fC0:=a0g hb fC0 zC;replace fC1:=a0g hb fC1 zC;replace zC:=zHl hb zC;replace hBo:=hBo.trans (hb.mono hBo.size);clear hb;replace LX:=eqL (P:=Tryz.prog) HK19 rfl yX;go_wp2_with fail;refine bodyPost_ret (v:=.tuple #[.agg #[.slice none 0 0,.slice none 0 0],.int .i64 2]) (by simp [results,Tryz.results19,go_sem,kC0,kC1,fC0,fC1,zC]) rfl ?_;rw [HPO.out,HMD.out];exact a1a ((hBo.setCell lC _).setCell lC _)
   ·
    obtain ⟨ER,hER⟩:∃ z,z=b2b ((a0u l).N ++ [a5k n (a0u l)]) ((a0u l).A ++ a5g n (a0u l)):=⟨_,rfl⟩;have hmd:a3a n l=if ER=0 then ((a0u l).N ++ [a5k n (a0u l)],(a0u l).A ++ a5g n (a0u l),0) else ([],[],ER):=by rw [hER];exact (if_pos ⟨hc,hright⟩).trans (if_neg h20)
    have hnst:=c3h hc HKK.out hright (by omega);rw [← hER] at hnst;have HMADE0:=zh hmd;have HER0:=zh hnst;have HRIGHT:=zh hright;have HBD:=zh (fun k => c0i hright k);have HFT0:=zh (c5v l Jn.nil (fun n h => by cases h) (fun g hg => (HS.out g hg).1));have hl20:l.length≤20:=by omega
    obtain ⟨L,hL⟩:∃ L,L=l.length:=⟨_,rfl⟩;rw [← hL] at HA HV HGE hl20 HBD HKK ⊢;have HLL:=zh hL;have hl20':(L:Int)≤20:=by omega
    clear hcan hall hc ha hright hmd hnst h20 hER hL hl;go_enter Tryz.func19,Tryz.ntmps19
    go_upto_region 1 with (fail)
    obtain ⟨s5,hws⟩:∃ s,s=((w.alloc (.cells #[.int .i64 n.k,.int .i64 n.o,.int .i64 n.a,.int .i64 n.b,.bool n.qn,.string n.qa,.string n.qd,.string n.s,.bool n.tr,.string n.r.sh,.int .i64 n.r.c,.int .i64 n.r.r,.bool n.r.fc,.bool n.r.fr,.string n.t.sh,.int .i64 n.t.c,.int .i64 n.t.r,.bool n.t.fc,.bool n.t.fr] 30)).alloc (.cells #[.slice none 0 0,.slice none 0 0] 36)):=⟨_,rfl⟩;have hBs:=bs2 (Below.refl w.heap.size w) hws;obtain ⟨X,hdX⟩:∃ b,b=w.heap.size:=⟨_,rfl⟩;obtain ⟨C,hdC⟩:∃ b,b=w.heap.size+1:=⟨_,rfl⟩;have hsz:s5.heap.size=w.heap.size+1+1:=by rw [hws];simp
    have dXC:X≠C:=by omega
    have dCX:C≠X:=by omega
    have hN:=bx1 (b:=X) hws hdX;have hM:=bf1 (b:=X) hws hdX;have kX0:=hN 0 _ rfl;have kX1:=hN 1 _ rfl;have kX2:=hN 2 _ rfl;have kX3:=hN 3 _ rfl;have kX4:=hN 4 _ rfl;have kX5:=hN 5 _ rfl;have kX6:=hN 6 _ rfl;have kX7:=hN 7 _ rfl;have kX8:=hN 8 _ rfl;have kX9:=hN 9 _ rfl;have kX10:=hN 10 _ rfl;have kX11:=hN 11 _ rfl;have kX12:=hN 12 _ rfl;have kX13:=hN 13 _ rfl;have kX14:=hN 14 _ rfl;have kX15:=hN 15 _ rfl;have kX16:=hN 16 _ rfl;have kX17:=hN 17 _ rfl;have kX18:=hN 18 _ rfl;have fX0:=hM 0;have fX1:=hM 1;have fX2:=hM 2;have fX3:=hM 3;have fX4:=hM 4;have fX5:=hM 5;have fX6:=hM 6;have fX7:=hM 7;have fX8:=hM 8;have fX9:=hM 9;have fX10:=hM 10;have fX11:=hM 11;have fX12:=hM 12;have fX13:=hM 13;have fX14:=hM 14;have fX15:=hM 15;have fX16:=hM 16;have fX17:=hM 17;have fX18:=hM 18;clear hN hM;have zX:X < s5.heap.size:=by omega
    have lX:w.heap.size≤X:=by omega
    have hN:=bx0 (b:=C) hws (by simp [hdC]);have hM:=bf0 (b:=C) hws (by simp [hdC]);have kC0:=hN 0 _ rfl;have kC1:=hN 1 _ rfl;have fC0:=hM 0;have fC1:=hM 1;clear hN hM;have zC:C < s5.heap.size:=by omega
    have lC:w.heap.size≤C:=by omega
    have LX:=a0o s5 X HK19 kX0 kX1 kX2 kX3 kX4 kX5 kX6 kX7 kX8 kX9 kX10 kX11 kX12 kX13 kX14 kX15 kX16 kX17 kX18;rw [← hws];try rw [← hdC]
    try rw [← hdX]
    clear hws hsz hdX hdC;have hBo:=hBs;clear hBs;go_wp2_with fail;refine (HC.out _ (HNM.out.below hBo)).mono ?_;rintro e w5 ⟨rfl,hb⟩;have q:=fun {j u} h => a0f (p:=⟨X,j,none⟩) (v:=u) hb h zX;replace kX0:=q kX0;replace kX1:=q kX1;replace kX2:=q kX2;replace kX3:=q kX3;replace kX4:=q kX4;replace kX5:=q kX5;replace kX6:=q kX6;replace kX7:=q kX7;replace kX8:=q kX8;replace kX9:=q kX9;replace kX10:=q kX10;replace kX11:=q kX11;replace kX12:=q kX12;replace kX13:=q kX13;replace kX14:=q kX14;replace kX15:=q kX15;replace kX16:=q kX16;replace kX17:=q kX17;replace kX18:=q kX18;clear q;replace fX0:=a0g hb fX0 zX;replace fX1:=a0g hb fX1 zX;replace fX2:=a0g hb fX2 zX;replace fX3:=a0g hb fX3 zX;replace fX4:=a0g hb fX4 zX;replace fX5:=a0g hb fX5 zX;replace fX6:=a0g hb fX6 zX;replace fX7:=a0g hb fX7 zX;replace fX8:=a0g hb fX8 zX;replace fX9:=a0g hb fX9 zX;replace fX10:=a0g hb fX10 zX;replace fX11:=a0g hb fX11 zX;replace fX12:=a0g hb fX12 zX;replace fX13:=a0g hb fX13 zX;replace fX14:=a0g hb fX14 zX;replace fX15:=a0g hb fX15 zX;replace fX16:=a0g hb fX16 zX;replace fX17:=a0g hb fX17 zX;replace fX18:=a0g hb fX18 zX;replace zX:=zHl hb zX
    replace kC0:=a0f hb kC0 zC;replace kC1:=a0f hb kC1 zC;replace fC0:=a0g hb fC0 zC;replace fC1:=a0g hb fC1 zC;replace zC:=zHl hb zC;replace hBo:=hBo.trans (hb.mono hBo.size);clear hb;replace LX:=a0o w5 X HK19 kX0 kX1 kX2 kX3 kX4 kX5 kX6 kX7 kX8 kX9 kX10 kX11 kX12 kX13 kX14 kX15 kX16 kX17 kX18;go_wp2_with fail;refine (HA.out _ (HV.out.below hBo) (HNM.out.below hBo)).mono ?_;rintro e w6 ⟨rfl,hb⟩;have q:=fun {j u} h => a0f (p:=⟨X,j,none⟩) (v:=u) hb h zX;replace kX0:=q kX0;replace kX1:=q kX1;replace kX2:=q kX2;replace kX3:=q kX3;replace kX4:=q kX4;replace kX5:=q kX5;replace kX6:=q kX6;replace kX7:=q kX7;replace kX8:=q kX8;replace kX9:=q kX9;replace kX10:=q kX10;replace kX11:=q kX11;replace kX12:=q kX12;replace kX13:=q kX13;replace kX14:=q kX14;replace kX15:=q kX15;replace kX16:=q kX16;replace kX17:=q kX17;replace kX18:=q kX18;clear q;replace fX0:=a0g hb fX0 zX;replace fX1:=a0g hb fX1 zX;replace fX2:=a0g hb fX2 zX;replace fX3:=a0g hb fX3 zX;replace fX4:=a0g hb fX4 zX;replace fX5:=a0g hb fX5 zX;replace fX6:=a0g hb fX6 zX;replace fX7:=a0g hb fX7 zX;replace fX8:=a0g hb fX8 zX;replace fX9:=a0g hb fX9 zX;replace fX10:=a0g hb fX10 zX;replace fX11:=a0g hb fX11 zX;replace fX12:=a0g hb fX12 zX;replace fX13:=a0g hb fX13 zX;replace fX14:=a0g hb fX14 zX;replace fX15:=a0g hb fX15 zX;replace fX16:=a0g hb fX16 zX;replace fX17:=a0g hb fX17 zX;replace fX18:=a0g hb fX18 zX;replace zX:=zHl hb zX
    replace kC0:=a0f hb kC0 zC;replace kC1:=a0f hb kC1 zC;replace fC0:=a0g hb fC0 zC;replace fC1:=a0g hb fC1 zC;replace zC:=zHl hb zC;replace hBo:=hBo.trans (hb.mono hBo.size);clear hb;replace LX:=a0o w6 X HK19 kX0 kX1 kX2 kX3 kX4 kX5 kX6 kX7 kX8 kX9 kX10 kX11 kX12 kX13 kX14 kX15 kX16 kX17 kX18
    go_upto_region 6 with (fail)
    have zX1:=zX;have zC1:=zC;obtain ⟨s6,hws⟩:∃ s,s=(w6.alloc (.cells #[.slice none 0 0,.slice none 0 0] 36)):=⟨_,rfl⟩;have hBs:=bs1 hBo hws;obtain ⟨G,hdG⟩:∃ b,b=w6.heap.size:=⟨_,rfl⟩;have hUp:Below w6.heap.size w6 s6:=by rw [hws];exact (a0i (Below.refl _ _))
    have hAG:w6.heap.size≤G:=by omega
    have hsz:s6.heap.size=w6.heap.size+1:=by rw [hws];simp
    have dXG:X≠G:=by omega
    have dCG:C≠G:=by omega
    have dGX:G≠X:=by omega
    have dGC:G≠C:=by omega
    have hQC:∀ p v,w6.cell? p=some v→s6.cell? p=some v:=fun p v h => by rw [hws];exact (alK h)
    have hQZ:∀ b,b < w6.heap.size→b < s6.heap.size:=fun b h => by omega
    have hQF:∀ b j,b < w6.heap.size→w6.frozen? ⟨b,j,none⟩=false→s6.frozen? ⟨b,j,none⟩=false:=fun b j z h => by rw [hws];exact (alF z h)
    replace kX0:=hQC _ _ kX0;replace fX0:=hQF _ _ zX fX0;replace kX1:=hQC _ _ kX1;replace fX1:=hQF _ _ zX fX1;replace kX2:=hQC _ _ kX2;replace fX2:=hQF _ _ zX fX2;replace kX3:=hQC _ _ kX3;replace fX3:=hQF _ _ zX fX3;replace kX4:=hQC _ _ kX4;replace fX4:=hQF _ _ zX fX4;replace kX5:=hQC _ _ kX5;replace fX5:=hQF _ _ zX fX5;replace kX6:=hQC _ _ kX6;replace fX6:=hQF _ _ zX fX6;replace kX7:=hQC _ _ kX7;replace fX7:=hQF _ _ zX fX7;replace kX8:=hQC _ _ kX8;replace fX8:=hQF _ _ zX fX8;replace kX9:=hQC _ _ kX9;replace fX9:=hQF _ _ zX fX9;replace kX10:=hQC _ _ kX10;replace fX10:=hQF _ _ zX fX10;replace kX11:=hQC _ _ kX11;replace fX11:=hQF _ _ zX fX11;replace kX12:=hQC _ _ kX12;replace fX12:=hQF _ _ zX fX12;replace kX13:=hQC _ _ kX13;replace fX13:=hQF _ _ zX fX13;replace kX14:=hQC _ _ kX14;replace fX14:=hQF _ _ zX fX14;replace kX15:=hQC _ _ kX15;replace fX15:=hQF _ _ zX fX15;replace kX16:=hQC _ _ kX16;replace fX16:=hQF _ _ zX fX16;replace kX17:=hQC _ _ kX17;replace fX17:=hQF _ _ zX fX17;replace kX18:=hQC _ _ kX18;replace fX18:=hQF _ _ zX fX18;replace zX:=hQZ _ zX;replace kC0:=hQC _ _ kC0;replace fC0:=hQF _ _ zC fC0;replace kC1:=hQC _ _ kC1;replace fC1:=hQF _ _ zC fC1;replace zC:=hQZ _ zC;clear hQC hQZ hQF;have hN:=bx0 (b:=G) hws hdG;have hM:=bf0 (b:=G) hws hdG;have kG0:=hN 0 _ rfl;have kG1:=hN 1 _ rfl;have fG0:=hM 0;have fG1:=hM 1;clear hN hM;have zG:G < s6.heap.size:=by omega
    have lG:w.heap.size≤G:=by have:=hBo.size;omega
    replace LX:=a0o s6 X HK19 kX0 kX1 kX2 kX3 kX4 kX5 kX6 kX7 kX8 kX9 kX10 kX11 kX12 kX13 kX14 kX15 kX16 kX17 kX18;rw [← hws];try rw [← hdG]
    clear hBo;clear hws hsz hdG;have hBo:=hBs;clear hBs;have hXG:X < G:=by omega
    have hCG:C < G:=by omega
    go_wp2_with fail;obtain ⟨t0,ht0⟩:∃ t,t=s6:=⟨_,rfl⟩;subst ht0;have HZ:Hid (∀ W,Below G t0 W→Below w.heap.size w W):=fun W h => hBo.trans (h.mono lG)
    have HFA:Hid (FAt t0 G (G+1) [] [] [] (.slice none 0 0) (.slice none 0 0) (.slice none 0 0)):=⟨kG0,kG1,fG0,fG1,World.ownsRow_nil _ _ _ _,World.ownsRow_nil _ _ _ _,World.ownsRow_nil _ _ _ _,fun g h => by simp [Value.ownBlock] at h,fun g h => by simp [Value.ownBlock] at h,fun g h => by simp [Value.ownBlock] at h,Nat.lt_succ_self G,zG⟩
    have HX1:Hid (∀ W,Below G t0 W→∀ j u,(ndL n)[j]?=some u→W.cell? ⟨X,j,none⟩=some u):=fun W h j u hu => (h.cell (p:=⟨X,j,none⟩) hXG).trans (by
     match j,hu with
     | 0,hu => exact kX0.trans hu
     | 1,hu => exact kX1.trans hu
     | 2,hu => exact kX2.trans hu
     | 3,hu => exact kX3.trans hu
     | 4,hu => exact kX4.trans hu
     | 5,hu => exact kX5.trans hu
     | 6,hu => exact kX6.trans hu
     | 7,hu => exact kX7.trans hu
     | 8,hu => exact kX8.trans hu
     | 9,hu => exact kX9.trans hu
     | 10,hu => exact kX10.trans hu
     | 11,hu => exact kX11.trans hu
     | 12,hu => exact kX12.trans hu
     | 13,hu => exact kX13.trans hu
     | 14,hu => exact kX14.trans hu
     | 15,hu => exact kX15.trans hu
     | 16,hu => exact kX16.trans hu
     | 17,hu => exact kX17.trans hu
     | 18,hu => exact kX18.trans hu)
    have HX2:Hid (∀ W,Below G t0 W→W.frozen? ⟨X,2,none⟩=false∧W.frozen? ⟨X,3,none⟩=false):=fun W h => ⟨(h.frozen (p:=⟨X,2,none⟩) hXG).trans fX2,(h.frozen (p:=⟨X,3,none⟩) hXG).trans fX3⟩
    have HC1:Hid (∀ W,Below G t0 W→W.cell? ⟨C,0,none⟩=some (.slice none 0 0)∧W.cell? ⟨C,1,none⟩=some (.slice none 0 0)∧W.frozen? ⟨C,0,none⟩=false∧W.frozen? ⟨C,1,none⟩=false):=fun W h => ⟨(h.cell (p:=⟨C,0,none⟩) hCG).trans kC0,(h.cell (p:=⟨C,1,none⟩) hCG).trans kC1,(h.frozen (p:=⟨C,0,none⟩) hCG).trans fC0,(h.frozen (p:=⟨C,1,none⟩) hCG).trans fC1⟩
    have HLC:=zh lC;have HLX:=zh lX;have HLG:=zh lG;have HCG:=zh hCG;have HXG:=zh hXG;have HXC:=zh dXC;clear hud hBo hUp hAG zX1 zC1 hXG hCG dXC dCX dXG dGX dCG dGC LX;clear kX0 fX0;clear kX1 fX1;clear kX2 fX2;clear kX3 fX3;clear kX4 fX4;clear kX5 fX5;clear kX6 fX6;clear kX7 fX7;clear kX8 fX8;clear kX9 fX9;clear kX10 fX10;clear kX11 fX11;clear kX12 fX12;clear kX13 fX13;clear kX14 fX14;clear kX15 fX15;clear kX16 fX16;clear kX17 fX17;clear kX18 fX18;clear zX lX kC0 kC1 fC0 fC1 zC lC kG0 kG1 fG0 fG1 zG lG
    go_loopw [7,27] (c9f t0 G l) (fun _ r _ => L - (intOf r).toNat)
    case atStart => exact ⟨0,_,_,Nat.zero_le _,rfl,HFA.out,Below.refl _ _⟩
    case round =>
     obtain ⟨k,u1,v1,hk,rfl,hfa,hW⟩:=hrel;rw [← HLL.out] at hk;have hBo:=HZ.out _ hW;have HW:=zh hW;obtain ⟨s1,s2,s3⟩:=HBD.out k;by_cases hlt:k < L
     ·
      obtain ⟨g,hg⟩:=HGE.out k hlt;have HNX:=zh (b7c hg);have hgr:=HRIGHT.out g (List.mem_of_getElem? hg);obtain ⟨r1,r2,r3⟩:=a4v hgr;have HGF:=zh hgr;obtain ⟨gg,oo,us,vs,rfl,c1,c2,c3,c4⟩:=HCS.out k g hg;obtain ⟨bp,cp,rfl,_⟩:=c3.slice;obtain ⟨bq,cq,rfl,_⟩:=c4.slice;have c1':=a0f hBo c1 (a0j c1);have c2':=a0f hBo c2 (a0j c2);have HNG:=zh (fun W (hW:Below w.heap.size w W) => (⟨c3.below hW,c4.below hW⟩:NodesAt W (.slice bp g.1.length cp) g.1∧IntsAt W (.slice bq g.2.length cq) g.2));obtain ⟨s,hs⟩:∃ s,s=a0u (l.take k):=⟨_,rfl⟩;rw [← hs] at hfa HNX s1 s2 s3;obtain ⟨SN,SA,ST⟩:=s;dsimp only at hfa s1 s2 s3;obtain ⟨bu,cu,rfl⟩:=a0l hfa.ou;obtain ⟨bv,cv,rfl⟩:=a0l hfa.ov;have HWK:=zh hfa;have hkm:(k:Int)≤20:=by omega
      have HMVD:=zh (fun W hN hA => c0f (.slice bp g.1.length cp) (.slice bq g.2.length cq) g.1 g.2 SN.length SA.length W hN hA (c0c HGF.out) (b7b HGF.out) (by omega) (by omega) (by omega) (by omega) (by omega) (by omega));clear c1 c2 c3 c4 hg hgr hs hfa hW;obtain ⟨nt,hnt⟩:∃ z,z=(SN ++ g.1.map (mvN SN.length SA.length)).length:=⟨_,rfl⟩;have hnt2:nt=SN.length+g.1.length:=by rw [hnt];simp
      obtain ⟨kt,hkt⟩:∃ z,z=(SA ++ g.2.map (·+(SN.length:Int))).length:=⟨_,rfl⟩;have HNX2:Hid (a0u (l.take (k+1))=⟨SN ++ g.1.map (mvN SN.length SA.length),SA ++ g.2.map (·+(SN.length:Int)),ST ++ [(nt:Int) - 1]⟩):=zh (by rw [hnt2];exact HNX.out);obtain ⟨nn,hnn⟩:∃ z,z=SN.length:=⟨_,rfl⟩;obtain ⟨na,hna⟩:∃ z,z=SA.length:=⟨_,rfl⟩;rw [← hnn] at HWK HMVD HNX2 s1 s2 hnt hnt2 hkt;rw [← hna] at HWK HMVD HNX2 s1 hnt;have HNN:=zh hnn;have HNA:=zh hna;have HNT:=zh hnt;have HNT2:=zh hnt2;clear hnt2;have HKT:=zh hkt;clear hnn hna hnt hkt HNX
      go_upto_region 10 with (fail)
      obtain ⟨s7,hws⟩:∃ s,s=(wr.alloc (.cells #[.slice bp g.1.length cp,.slice bq g.2.length cq] 36)):=⟨_,rfl⟩;have hBs:=bs1 hBo hws;obtain ⟨Y,hdY⟩:∃ b,b=wr.heap.size:=⟨_,rfl⟩;have hUp:Below wr.heap.size wr s7:=by rw [hws];exact (a0i (Below.refl _ _))
      have hAY:wr.heap.size≤Y:=by omega
      have hsz:s7.heap.size=wr.heap.size+1:=by rw [hws];simp
      have hN:=bx0 (b:=Y) hws hdY;have hM:=bf0 (b:=Y) hws hdY;have kY0:=hN 0 _ rfl;have kY1:=hN 1 _ rfl;have fY0:=hM 0;have fY1:=hM 1;clear hN hM;have zY:Y < s7.heap.size:=by omega
      have lY:w.heap.size≤Y:=by have:=hBo.size;omega
      rw [← hws];try rw [← hdY]
      clear hBo;clear hws hsz hdY;have hBo:=hBs;clear hBs;have HWY:=zh (HWK.out.below hUp);have HBY:Hid (Below G t0 s7):=HW.out.trans (hUp.mono (Nat.le_of_lt HWK.out.pz));obtain ⟨n1,n2⟩:=HNG.out _ hBo;have HMC:=zh (HMVD.out _ n1 n2);have HYN:=zh hAY;have HYZ:=zh zY;have g0:=HWY.out.c0;have g1:=HWY.out.c1;have gz:=HWY.out.pz;have HGY:Hid (G < Y):=zh (by have:=HWK.out.pz;omega);clear n1 n2 hUp hAY;go_wp2_with fail;refine HMC.out.mono ?_;rintro e w5 ⟨⟨us2,vs2,rfl,ho1,ho2,hap⟩,hb⟩;obtain ⟨L1,hL1⟩:∃ z,z=(g.1.map (mvN nn na)).length:=⟨_,rfl⟩;obtain ⟨L2,hL2⟩:∃ z,z=(g.2.map (·+(nn:Int))).length:=⟨_,rfl⟩;rw [← hL1] at ho1;rw [← hL2] at ho2;clear hL1 hL2;obtain ⟨bx,cx,rfl⟩:=a0l ho1;obtain ⟨bz,cz,rfl⟩:=a0l ho2;have HW5:=zh (HWY.out.below hb);have HB5:=zh (HBY.out.trans (hb.mono (Nat.le_of_lt HWY.out.pz)));replace kY0:=a0f hb kY0 zY;replace kY1:=a0f hb kY1 zY;replace fY0:=a0g hb fY0 zY;replace fY1:=a0g hb fY1 zY;replace zY:=Nat.lt_of_lt_of_le zY hb.size;clear hBo g0 g1 gz hb HMC
      go_upto_region 11 with (fail)
      obtain ⟨wa,hwa⟩:∃ z,z=(w5.setCell ⟨Y,0,none⟩ (.slice bx L1 cx)).setCell ⟨Y,1,none⟩ (.slice bz L2 cz):=⟨_,rfl⟩;have HFa:Hid (FAt wa G (G+1) SN SA ST (.slice bu nn cu) (.slice bv na cv) u7):=zh (by rw [hwa];exact FAt.setNew (FAt.setNew HW5.out HWK.out HYN.out) HWK.out HYN.out);have HO1:=zh (show wa.ownsRow _ _ _ (.slice bx L1 cx) _ _ by rw [hwa];exact ownsRow_setCell_below (ownsRow_setCell_below ho1 HYZ.out _) HYZ.out _);have HO2:=zh (show wa.ownsRow _ _ _ (.slice bz L2 cz) _ _ by rw [hwa];exact ownsRow_setCell_below (ownsRow_setCell_below ho2 HYZ.out _) HYZ.out _);have y0:wa.cell? ⟨Y,0,none⟩=some (.slice bx L1 cx):=by rw [hwa];exact a0h (a0z kY0 fY0) (by omega)
      have y1:wa.cell? ⟨Y,1,none⟩=some (.slice bz L2 cz):=by rw [hwa];exact a0z (a0h kY1 (by omega)) (frz_set.trans fY1)
      have HBa:Hid (Below G t0 wa):=zh (by rw [hwa];exact (HB5.out.setCell (Nat.le_of_lt HGY.out) _).setCell (Nat.le_of_lt HGY.out) _);have yz:Y < wa.heap.size:=by rw [hwa];simpa using zY
      rw [← hwa];clear hwa ho1 ho2 kY0 kY1 fY0 fY1 zY;have p0:=HFa.out.c0;have p1:=HFa.out.c1;have pf0:=HFa.out.f0;have pz:=HFa.out.pz;have HPU:Hid (∀ y,(Value.slice bu nn cu).ownBlock=some y→G≠y):=fun y hy e => by have h1:=(HFa.out.ou.lt y hy).1;omega
      have HYU:Hid (∀ y,(Value.slice bu nn cu).ownBlock=some y→Y≠y):=fun y hy e => by have h1:=(HWK.out.ou.lt y hy).2;have:=HYN.out;omega
      have HUV:Hid (∀ y,(Value.slice bu nn cu).ownBlock=some y→(Value.slice bz L2 cz).ownBlock=some y→False):=fun y hy e => by have h1:=(HWK.out.ou.lt y hy).2;have h2:=(HO2.out.lt y e).1;have:=HYN.out;have:=HYZ.out;omega
      have hgl:(g.1.map (mvN nn na)).length≤100000:=by rw [List.length_map];omega
      go_upto_region 12 with (at_builtin;refine a1k rfl _ _ rfl (base:=G+1) (v:=.slice bu nn cu) (N:=SN) (M:=g.1.map (mvN nn na)) (by rfl) HFa.out.ou (by rfl) (NodesAt.of_owns HO1.out).2 (by rw [← HNN.out];omega) hgl HFa.out.bw ?_;intro v2 wb hown2 hgrow2 hnear2;rw [← HNT.out] at hown2;obtain ⟨b2,c2,rfl⟩:=a0l hown2;have pfd:=a0m hgrow2 pz pf0 HPU.out;have pcd:=a0a hgrow2 p0 HPU.out)
      obtain ⟨wc,hwc⟩:∃ z,z=wb.setCell ⟨G,0,none⟩ (.slice b2 nt c2):=⟨_,rfl⟩;have HFc:=zh (show FAt wc G (G+1) (SN ++ g.1.map (mvN nn na)) SA ST (.slice b2 nt c2) (.slice bv na cv) u7 by rw [hwc];exact FAt.setN HFa.out hgrow2 (by rw [← HNT.out];exact hown2) hnear2);have HO3:=zh (show wc.ownsRow _ _ _ (.slice bz L2 cz) _ _ by rw [hwc];exact ownsRow_setCell_below (a2q HO2.out hgrow2 HUV.out) (by have:=HYZ.out;have:=HGY.out;show G < _;omega) _);have y2:wc.cell? ⟨Y,1,none⟩=some (.slice bz L2 cz):=by rw [hwc];exact a0e (a0a hgrow2 y1 HYU.out) (by have:=HGY.out;dsimp only;omega)
      have HBc:Hid (Below G t0 wc):=zh (by
       rw [hwc]
       exact (a3m HBa.out HFa.out.ou (by omega) (by omega) hgrow2).setCell (Nat.le_refl G) _)
      rw [← hwc];clear hwc pfd pcd hown2 hgrow2 hnear2 p0 p1 pf0 pz y0 y1 yz HPU HYU HUV HFa HO1 HO2 HBa;have p1:=HFc.out.c1;have pf1:=HFc.out.f1;have pz:=HFc.out.pz;have HPU:Hid (∀ y,(Value.slice bv na cv).ownBlock=some y→G≠y):=fun y hy e => by have h1:=(HFc.out.ov.lt y hy).1;omega
      have hgl2:(g.2.map (·+(nn:Int))).length≤100000:=by rw [List.length_map];omega
      go_upto_region 13 with (at_builtin;refine a1s rfl _ _ rfl (base:=G+1) (v:=.slice bv na cv) (A:=SA) (B:=g.2.map (·+(nn:Int))) (by rfl) HFc.out.ov (by rfl) (IntsAt.of_owns HO3.out).2 (by rw [← HNA.out];omega) hgl2 HFc.out.bw ?_;intro v3 wd hown3 hgrow3 hnear3;rw [← HKT.out] at hown3;obtain ⟨b3,c3,rfl⟩:=a0l hown3;have pfd:=a0m hgrow3 pz pf1 HPU.out;have pcd:=a0a hgrow3 p1 HPU.out)
      obtain ⟨we,hwe⟩:∃ z,z=wd.setCell ⟨G,1,none⟩ (.slice b3 kt c3):=⟨_,rfl⟩;have hfe:FAt we G (G+1) (SN ++ g.1.map (mvN nn na)) (SA ++ g.2.map (·+(nn:Int))) ST (.slice b2 nt c2) (.slice b3 kt c3) u7:=by rw [hwe];exact FAt.setA HFc.out hgrow3 (by rw [← HKT.out];exact hown3) hnear3
      have HBe:Hid (Below G t0 we):=zh (by
       rw [hwe]
       exact (a3m HBc.out HFc.out.ov (by omega) (by omega) hgrow3).setCell (Nat.le_refl G) _)
      rw [← hwe];have HFe:=zh hfe;clear hwe pfd pcd hown3 hgrow3 hnear3 p1 pf1 pz HPU HFc HO3 HBc y2 hfe;have p0:=HFe.out.c0;have pz:=HFe.out.pz;have hntb:(nt:Int)≤100000:=by have:=HNT2.out;omega
      have hntp:1≤(nt:Int):=by have:=HNT2.out;omega
      go_wp2_with (at_builtin;refine a1s rfl _ _ rfl (base:=G+1) (A:=ST) (B:=[(nt:Int) - 1]) (by rfl) (HFe.out.ot.alloc _) (by rfl) (a5o we _ ((nt:Int) - 1) 3 rfl) (by omega) (by simp) (by have:=HFe.out.bw;simp;omega) ?_;intro v4 wf hown4 hgrow4 hnear4)
      go_roundw
      case rel =>
       refine ⟨k+1,.slice b2 nt c2,.slice b3 kt c3,by rw [← HLL.out];omega,by go_num,?_,?_⟩
       ·
        rw [HNX2.out];exact FAt.setT (HFe.out.below (a0i (Below.refl _ _)):FAt (World.alloc we _) G (G+1) _ _ _ _ _ _) hgrow4 hown4 hnear4
       ·
        exact a3m (HBe.out.alloc (by omega) _) (HFe.out.ot.alloc _) (by omega) (by simp;omega) hgrow4
      case measure => simp [intOf];omega
     ·
      obtain rfl:k=L:=by omega
      obtain ⟨J,hJ⟩:∃ z,z=a0u l:=⟨_,rfl⟩
      have hTL0:(a0u l).T.length=l.length:=by
       obtain ⟨_,_,l3⟩:=b4h l Jn.nil (Nat.le_refl _) HRIGHT.out;rw [a0u,l3];exact Nat.zero_add _
      rw [HLL.out,List.take_length,← hJ] at hfa s1 s2 s3;rw [← hJ] at hTL0;rw [← HLL.out] at hTL0 s2 s3;obtain ⟨JN,JA,JT⟩:=J;dsimp only at hfa s1 s2 s3 hTL0;have HJ:Hid (a0u l=⟨JN,JA,JT⟩):=zh hJ.symm;obtain ⟨na,hna⟩:∃ z,z=JA.length:=⟨_,rfl⟩;obtain ⟨tl,htl⟩:∃ z,z=JT.length:=⟨_,rfl⟩;obtain ⟨jt,hjt⟩:∃ z,z=JN.length+1:=⟨_,rfl⟩;have HJT0:=zh hjt.symm;have HNA:=zh hna;have HTL:=zh htl;have hfv:=hfa.ov;have hft:=hfa.ot;rw [← hna] at hfv;rw [← htl] at hft;obtain ⟨bv,cv,rfl⟩:=a0l hfv;obtain ⟨bt,ct,rfl⟩:=a0l hft;have HFJ:=zh hfa;have HJL:Hid (JN.length≤6000):=zh (by omega);have HJA:Hid (JA.length+JT.length≤JN.length):=zh s1;have hnab:na≤6000:=by omega
      have htlb:tl=k:=by omega
      have HJF:Hid (∀ x ∈ JN,Fits x):=fun x hx => HFT0.out x (by have:=HJ.out;unfold a0u at this;rw [this];exact hx)
      have HNDX:Hid (NdAt wr X n):=fun j u hu => HX1.out _ HW.out j u hu
      have x0:=HNDX.out 0 _ rfl;obtain ⟨xf2,xf3⟩:=HX2.out _ HW.out;have x2:=HNDX.out 2 _ rfl;have x3:=HNDX.out 3 _ rfl;have HXF2:=zh xf2;have HXF3:=zh xf3;have zX:=a0j x0;have HCW0:=zh (HC1.out _ HW.out);have HBO:=zh hBo;have hXG:=HXG.out;clear hJ hTL0 hna htl hjt hfv hft hfa s1 s2 s3 hBo HFT0 HBD hW HX1 HX2 HC1 HFA HGE HCS
      rcases HKK.out with ⟨h7,hl1⟩ | ⟨h8,hl2⟩ | h9
      ·
       have g7:(n.k == 7)=true:=by simpa using h7
       obtain rfl:tl=1:=by omega
       obtain ⟨t0,rfl⟩:∃ t0,JT=[t0]:=by
        match JT,(show JT.length=1 by have:=HTL.out;omega) with
        | [t0],_ => exact ⟨t0,rfl⟩
       have HTP1:Hid ({ n with a:=t0,b:=n.b }=a5k n ⟨JN,JA,[t0]⟩):=zh (by unfold a5k;rw [if_pos h7];rfl);have HAA1:Hid (JA=JA ++ a5g n ⟨JN,JA,[t0]⟩):=zh (by unfold a5g;rw [if_neg (by omega),List.append_nil]);obtain ⟨gt,ot,ct',hv,_,_,zt,htc⟩:=(IntsAt.of_owns HFJ.out.ot).2.news (by simp);obtain ⟨rfl,rfl⟩:bt=some ⟨gt,ot,none⟩∧ct=ct':=by simpa using hv
       have c0:wr.cell? ⟨gt,ot,none⟩=some (.int .i64 t0):=by have:=htc 0 (by simp);simpa using this
       have HAL:Hid (∀ q:Nd,(JN ++ [q]).length≤300→JA.length≤1000):=fun q hq => by have:=HJA.out;rw [List.length_append] at hq;omega
       clear h7 hl1 hv htc htlb
       go_upto_region 23 with (fail)
       obtain ⟨ws,hws⟩:∃ z,z=wr.setCell ⟨X,2,none⟩ (.int .i64 t0):=⟨_,rfl⟩;have LX:Sem.run Tryz.prog (loadCellsFrom ⟨X,0,none⟩ 0 K19 #[]) ws=.ok (ndL { n with a:=t0,b:=n.b }).toArray ws:=by rw [hws];exact (HNDX.out.set2 HXF2.out t0).load HK19
       have HFW:Hid (FAt ws G (G+1) JN JA [t0] u1 (.slice bv na cv) (.slice (some ⟨gt,ot,none⟩) 1 ct)):=zh (by rw [hws];exact HFJ.out.far (by omega) (by omega));have HBW:Hid (Below w.heap.size w ws):=zh (by rw [hws];exact HBO.out.setCell HLX.out _)
       have HCW:Hid (ws.cell? ⟨C,0,none⟩=some (.slice none 0 0)∧ws.cell? ⟨C,1,none⟩=some (.slice none 0 0)∧ws.frozen? ⟨C,0,none⟩=false∧ws.frozen? ⟨C,1,none⟩=false):=zh (by
        obtain ⟨y1,y2,y3,y4⟩:=HCW0.out;have:=HXC.out;rw [hws]
        exact ⟨a0e y1 (by dsimp only;omega),a0e y2 (by dsimp only;omega),frz_set.trans y3,frz_set.trans y4⟩)
       rw [← hws];clear hws x0 x2 x3 xf2 xf3 zX c0 zt HNDX HCW0 HBO HFJ;have HER:Hid (b5o (a1q (cN (JN ++ [a5k n ⟨JN,JA,[t0]⟩])) ((JN ++ [a5k n ⟨JN,JA,[t0]⟩]).map shN) JA).2=ER):=zh (by have h:=HER0.out;rw [HJ.out] at h;dsimp only at h;rw [← HAA1.out] at h;exact h);rw [← HTP1.out] at HER;have HMADE:Hid (a3a n l=if ER=0 then (JN ++ [a5k n (a0u l)],JA,0) else ([],[],ER)):=zh (by have h:=HMADE0.out;rw [HJ.out] at h ⊢;dsimp only at h;rw [← HAA1.out] at h;exact h);have htp1:=HTP1.out;rw [← HJ.out] at htp1;have HTP:=zh htp1;clear htp1;clear HER0 HMADE0 HAA1 HTP1;obtain ⟨m,hm⟩:∃ m:Nd,m={ n with a:=t0,b:=n.b }:=⟨_,rfl⟩;have LX2:Sem.run Tryz.prog (loadCellsFrom ⟨X,0,none⟩ 0 K19 #[]) ws=.ok (ndL m).toArray ws:=by rw [hm];exact LX
       have HMF:Hid (Fits m):=zh (by rw [hm];exact HFI.out);have HND:Hid (b5o (a1q (cN (JN ++ [m])) ((JN ++ [m]).map shN) JA).2=ER):=zh (by rw [hm];exact HER.out);have HMT:Hid (m=a5k n (a0u l)):=zh (hm.trans HTP.out);have HJT:Hid ((JN ++ [m]).length=jt):=zh (by rw [List.length_append];exact HJT0.out);clear LX hm;have p0:=HFW.out.c0;have pf0:=HFW.out.f0;have zPw:=HFW.out.pz;have HPU:Hid (∀ y,u1.ownBlock=some y→G≠y):=fun y hy e => by have h1:=(HFW.out.ou.lt y hy).1;omega
       go_upto_region 24 with (first | (refine a1j rfl _ rfl m (by first | rfl | (show _=Value.agg _;rfl)) ?_) | (at_builtin;refine a1k rfl _ _ rfl (base:=G+1) (v:=u1) (N:=JN) (M:=[m]) (by rfl) (HFW.out.ou.alloc _) (by rfl) (a4u ws m _) (by have:=HJL.out;omega) (by simp) (by have:=HFW.out.bw;simp;omega) ?_;intro v5 w5 hown5 hgrow5 hnear5;rw [HJT.out] at hown5;obtain ⟨b5,c5,rfl⟩:=a0l hown5;have pfd:=a0m hgrow5 (alZ zPw) (alF zPw pf0) HPU.out;have pcd:=a0a hgrow5 (a0b (W:=ws) p0) HPU.out))
       have HF5:Hid (FAt (w5.setCell ⟨G,0,none⟩ (.slice b5 jt c5)) G (G+1) (JN ++ [m]) JA _ (.slice b5 jt c5) (.slice bv na cv) _):=FAt.setN (HFW.out.below (a0i (Below.refl _ _)):FAt (World.alloc ws _) G (G+1) _ _ _ _ _ _) hgrow5 (by rw [HJT.out];exact hown5) hnear5
       have HB5:Hid (Below w.heap.size w (w5.setCell ⟨G,0,none⟩ (.slice b5 jt c5))):=zh (by
        refine Below.setCell ?_ HLG.out _;refine Below.grown (w:=World.alloc ws _) (HBW.out.alloc HBW.out.size _) hgrow5 (by have:=HBW.out.size;simp;omega) (fun q hq => ?_);have h1:=(HFW.out.ou.lt q hq).1;have h2:=HLG.out
        omega)
       obtain ⟨w6,hw6⟩:∃ z,z=w5.setCell ⟨G,0,none⟩ (.slice b5 jt c5):=⟨_,rfl⟩;rw [← hw6] at HF5 HB5 ⊢
       have HCK:Hid (w6.cell? ⟨C,0,none⟩=some (.slice none 0 0)∧w6.cell? ⟨C,1,none⟩=some (.slice none 0 0)∧w6.frozen? ⟨C,0,none⟩=false∧w6.frozen? ⟨C,1,none⟩=false):=zh (by
        have hc:∀ y,u1.ownBlock=some y→C≠y:=fun y hy e => by have h1:=(HFW.out.ou.lt y hy).1;have h2:=HCG.out;omega
        have zc:C < ws.heap.size:=by have h2:=HCG.out;omega
        obtain ⟨q1,q2,q3,q4⟩:=HCW.out;have hne:G≠C:=by have h2:=HCG.out;omega
        rw [hw6]
        exact ⟨a0e (a0a hgrow5 (a0b (W:=ws) q1) hc) (by dsimp only;omega),a0e (a0a hgrow5 (a0b (W:=ws) q2) hc) (by dsimp only;omega),frz_set.trans (a0m hgrow5 (alZ zc) (alF zc q3) hc),frz_set.trans (a0m hgrow5 (alZ zc) (alF zc q4) hc)⟩)
       have HN6:=zh (HNM.out.below HB5.out)
       have HFL:Hid (∀ x ∈ JN ++ [m],Fits x):=fun x hx => by
        rcases List.mem_append.1 hx with h | h
        ·
         exact HJF.out x h
        ·
         rw [List.mem_singleton.1 h];exact HMF.out
       have HNE:=zh (a5h (.slice b5 jt c5) (.slice bv na cv) (JN ++ [m]) JA w6 HF5.out.nodes HF5.out.args HFL.out HN6.out (by rw [List.length_append];show JN.length+1≤100000;have:=HJL.out;omega) (HAL.out m));clear hw6 hown5 hgrow5 hnear5 pfd pcd p0 pf0 zPw HPU HFW LX2 HMF HFL;have d0:=HF5.out.c0;have d1:=HF5.out.c1;have zG6:=HF5.out.pz;go_wp2_with fail;refine HNE.out.mono ?_;rintro e w7 hp;unfold a2t at hp;rw [HND.out] at hp;obtain ⟨rfl,hb7⟩:=hp;obtain ⟨dep,hdep⟩:∃ z,z=(a1q (cN (JN ++ [m])) ((JN ++ [m]).map shN) JA).1:=⟨_,rfl⟩;rw [← hdep];clear hdep;have HF7:=zh (HF5.out.below hb7);have HB7:=zh (HB5.out.trans (hb7.mono HB5.out.size));have zC6:C < w6.heap.size:=by have h2:=HCG.out;omega
       obtain ⟨q1,q2,q3,q4⟩:=HCK.out;have kC0:=a0f hb7 q1 zC6;have kC1:=a0f hb7 q2 zC6;have fC0:=a0g hb7 q3 zC6;have fC1:=a0g hb7 q4 zC6;have zC:=Nat.lt_of_lt_of_le zC6 hb7.size;have e0:=HF7.out.c0;have e1:=HF7.out.c1;have zG7:=HF7.out.pz;clear hb7 q1 q2 q3 q4 zC6 d0 d1 zG6;have hCG:=HCG.out;by_cases hE:ER=0
       ·
        have HRES:Hid (a3a n l=(JN ++ [m],JA,0)):=zh (by rw [HMADE.out,if_pos hE,← HMT.out]);subst hE;go_wp2_with fail;refine bodyPost_ret (v:=.tuple #[.agg #[.slice b5 jt c5,(.slice bv na cv)],.int .i64 0]) (by simp [results,Tryz.results19,go_sem,kC0,kC1,fC0,fC1,zC,e0,e1,zG7]) rfl ?_;rw [HPO.out,HRES.out];have hst:∀ {size n:Nat} {t:TypeId} {x:Value} {xs:List Value},w7.ownsRow (G+1) t size x n xs→((w7.setCell ⟨C,0,none⟩ (.slice b5 jt c5)).setCell ⟨C,1,none⟩ (.slice bv na cv)).ownsRow (G+1) t size x n xs:=fun h => ownsRow_setCell_below (ownsRow_setCell_below h (by show C < G+1;omega) _) (by show C < G+1;omega) _
        exact ⟨⟨_,_,rfl,a2f (hst HF7.out.ou) (by have:=HLG.out;omega),a2f (hst HF7.out.ov) (by have:=HLG.out;omega)⟩,(HB7.out.setCell HLC.out _).setCell HLC.out _⟩
       ·
        have HRES:Hid (a3a n l=([],[],ER)):=zh (by rw [HMADE.out,if_neg hE]);have hE2:(ER != 0)=true:=by simpa using hE
        clear hE;go_wp2_with fail;refine bodyPost_ret (v:=.tuple #[.agg #[.slice none 0 0,.slice none 0 0],.int .i64 ER]) (by simp [results,Tryz.results19,go_sem,kC0,kC1,fC0,fC1,zC]) rfl ?_;rw [HPO.out,HRES.out];exact a1a ((HB7.out.setCell HLC.out _).setCell HLC.out _)
      ·
       have g7:(n.k == 7)=false:=by rw [h8];rfl
       have g8:(n.k == 8)=true:=by simpa using h8
       obtain rfl:tl=2:=by omega
       obtain ⟨t0,t1,rfl⟩:∃ t0 t1,JT=[t0,t1]:=by
        match JT,(show JT.length=2 by have:=HTL.out;omega) with
        | [t0,t1],_ => exact ⟨t0,t1,rfl⟩
       have HTP1:Hid ({ n with a:=t0,b:=t1 }=a5k n ⟨JN,JA,[t0,t1]⟩):=zh (by unfold a5k;rw [if_neg (by omega),if_pos h8];rfl);have HAA1:Hid (JA=JA ++ a5g n ⟨JN,JA,[t0,t1]⟩):=zh (by unfold a5g;rw [if_neg (by omega),List.append_nil]);obtain ⟨gt,ot,ct',hv,_,_,zt,htc⟩:=(IntsAt.of_owns HFJ.out.ot).2.news (by simp);obtain ⟨rfl,rfl⟩:bt=some ⟨gt,ot,none⟩∧ct=ct':=by simpa using hv
       have c0:wr.cell? ⟨gt,ot,none⟩=some (.int .i64 t0):=by have:=htc 0 (by simp);simpa using this
       have c1:wr.cell? ⟨gt,ot+1,none⟩=some (.int .i64 t1):=by have:=htc 1 (by simp);simpa using this
       have HAL:Hid (∀ q:Nd,(JN ++ [q]).length≤300→JA.length≤1000):=fun q hq => by have:=HJA.out;rw [List.length_append] at hq;omega
       have hgt:G+1≤gt:=(HFJ.out.ot.lt gt rfl).1;clear h8 hl2 hv htc htlb
       go_upto_region 19 with (fail)
       have hgX:X≠gt:=by omega
       have hgX2:gt≠X:=by omega
       go_region
       go_upto_region 23 with (fail)
       obtain ⟨ws,hws⟩:∃ z,z=((wr.setCell ⟨X,2,none⟩ (.int .i64 t0)).setCell ⟨X,3,none⟩ (.int .i64 t1)).drew:=⟨_,rfl⟩
       have LX:Sem.run Tryz.prog (loadCellsFrom ⟨X,0,none⟩ 0 K19 #[]) ws=.ok (ndL { n with a:=t0,b:=t1 }).toArray ws:=by
        have hx:NdAt ws X { n with a:=t0,b:=t1 }:=fun j u hu => by rw [hws];exact ((HNDX.out.set2 HXF2.out t0).set3 (frz_set.trans HXF3.out) t1) j u hu
        exact hx.load HK19
       have HFW:Hid (FAt ws G (G+1) JN JA [t0,t1] u1 (.slice bv na cv) (.slice (some ⟨gt,ot,none⟩) 2 ct)):=zh (by rw [hws];exact ((HFJ.out.far (by omega) (by omega)).far (by omega) (by omega)).drew);have HBW:Hid (Below w.heap.size w ws):=zh (by rw [hws];exact ((HBO.out.setCell HLX.out _).setCell HLX.out _).drew)
       have HCW:Hid (ws.cell? ⟨C,0,none⟩=some (.slice none 0 0)∧ws.cell? ⟨C,1,none⟩=some (.slice none 0 0)∧ws.frozen? ⟨C,0,none⟩=false∧ws.frozen? ⟨C,1,none⟩=false):=zh (by
        obtain ⟨y1,y2,y3,y4⟩:=HCW0.out;have:=HXC.out;rw [hws]
        exact ⟨(a0e (a0e y1 (by dsimp only;omega)) (by dsimp only;omega):((wr.setCell ⟨X,2,none⟩ (.int .i64 t0)).setCell ⟨X,3,none⟩ (.int .i64 t1)).cell? ⟨C,0,none⟩=_),(a0e (a0e y2 (by dsimp only;omega)) (by dsimp only;omega):((wr.setCell ⟨X,2,none⟩ (.int .i64 t0)).setCell ⟨X,3,none⟩ (.int .i64 t1)).cell? ⟨C,1,none⟩=_),(frz_set.trans (frz_set.trans y3):((wr.setCell ⟨X,2,none⟩ (.int .i64 t0)).setCell ⟨X,3,none⟩ (.int .i64 t1)).frozen? ⟨C,0,none⟩=false),(frz_set.trans (frz_set.trans y4):((wr.setCell ⟨X,2,none⟩ (.int .i64 t0)).setCell ⟨X,3,none⟩ (.int .i64 t1)).frozen? ⟨C,1,none⟩=false)⟩)
       rw [← hws];clear hws x0 x2 x3 xf2 xf3 zX c0 c1 zt hgt hgX hgX2 HNDX HCW0 HBO HFJ;have HER:Hid (b5o (a1q (cN (JN ++ [a5k n ⟨JN,JA,[t0,t1]⟩])) ((JN ++ [a5k n ⟨JN,JA,[t0,t1]⟩]).map shN) JA).2=ER):=zh (by have h:=HER0.out;rw [HJ.out] at h;dsimp only at h;rw [← HAA1.out] at h;exact h);rw [← HTP1.out] at HER;have HMADE:Hid (a3a n l=if ER=0 then (JN ++ [a5k n (a0u l)],JA,0) else ([],[],ER)):=zh (by have h:=HMADE0.out;rw [HJ.out] at h ⊢;dsimp only at h;rw [← HAA1.out] at h;exact h);have htp1:=HTP1.out;rw [← HJ.out] at htp1;have HTP:=zh htp1;clear htp1;clear HER0 HMADE0 HAA1 HTP1;obtain ⟨m,hm⟩:∃ m:Nd,m={ n with a:=t0,b:=t1 }:=⟨_,rfl⟩;have LX2:Sem.run Tryz.prog (loadCellsFrom ⟨X,0,none⟩ 0 K19 #[]) ws=.ok (ndL m).toArray ws:=by rw [hm];exact LX
       have HMF:Hid (Fits m):=zh (by rw [hm];exact HFI.out);have HND:Hid (b5o (a1q (cN (JN ++ [m])) ((JN ++ [m]).map shN) JA).2=ER):=zh (by rw [hm];exact HER.out);have HMT:Hid (m=a5k n (a0u l)):=zh (hm.trans HTP.out);have HJT:Hid ((JN ++ [m]).length=jt):=zh (by rw [List.length_append];exact HJT0.out);clear LX hm;have p0:=HFW.out.c0;have pf0:=HFW.out.f0;have zPw:=HFW.out.pz;have HPU:Hid (∀ y,u1.ownBlock=some y→G≠y):=fun y hy e => by have h1:=(HFW.out.ou.lt y hy).1;omega
       go_upto_region 24 with (first | (refine a1j rfl _ rfl m (by first | rfl | (show _=Value.agg _;rfl)) ?_) | (at_builtin;refine a1k rfl _ _ rfl (base:=G+1) (v:=u1) (N:=JN) (M:=[m]) (by rfl) (HFW.out.ou.alloc _) (by rfl) (a4u ws m _) (by have:=HJL.out;omega) (by simp) (by have:=HFW.out.bw;simp;omega) ?_;intro v5 w5 hown5 hgrow5 hnear5;rw [HJT.out] at hown5;obtain ⟨b5,c5,rfl⟩:=a0l hown5;have pfd:=a0m hgrow5 (alZ zPw) (alF zPw pf0) HPU.out;have pcd:=a0a hgrow5 (a0b (W:=ws) p0) HPU.out))
       have HF5:Hid (FAt (w5.setCell ⟨G,0,none⟩ (.slice b5 jt c5)) G (G+1) (JN ++ [m]) JA _ (.slice b5 jt c5) (.slice bv na cv) _):=FAt.setN (HFW.out.below (a0i (Below.refl _ _)):FAt (World.alloc ws _) G (G+1) _ _ _ _ _ _) hgrow5 (by rw [HJT.out];exact hown5) hnear5
       have HB5:Hid (Below w.heap.size w (w5.setCell ⟨G,0,none⟩ (.slice b5 jt c5))):=zh (by
        refine Below.setCell ?_ HLG.out _;refine Below.grown (w:=World.alloc ws _) (HBW.out.alloc HBW.out.size _) hgrow5 (by have:=HBW.out.size;simp;omega) (fun q hq => ?_);have h1:=(HFW.out.ou.lt q hq).1;have h2:=HLG.out
        omega)
       obtain ⟨w6,hw6⟩:∃ z,z=w5.setCell ⟨G,0,none⟩ (.slice b5 jt c5):=⟨_,rfl⟩;rw [← hw6] at HF5 HB5 ⊢
       have HCK:Hid (w6.cell? ⟨C,0,none⟩=some (.slice none 0 0)∧w6.cell? ⟨C,1,none⟩=some (.slice none 0 0)∧w6.frozen? ⟨C,0,none⟩=false∧w6.frozen? ⟨C,1,none⟩=false):=zh (by
        have hc:∀ y,u1.ownBlock=some y→C≠y:=fun y hy e => by have h1:=(HFW.out.ou.lt y hy).1;have h2:=HCG.out;omega
        have zc:C < ws.heap.size:=by have h2:=HCG.out;omega
        obtain ⟨q1,q2,q3,q4⟩:=HCW.out;have hne:G≠C:=by have h2:=HCG.out;omega
        rw [hw6]
        exact ⟨a0e (a0a hgrow5 (a0b (W:=ws) q1) hc) (by dsimp only;omega),a0e (a0a hgrow5 (a0b (W:=ws) q2) hc) (by dsimp only;omega),frz_set.trans (a0m hgrow5 (alZ zc) (alF zc q3) hc),frz_set.trans (a0m hgrow5 (alZ zc) (alF zc q4) hc)⟩)
       have HN6:=zh (HNM.out.below HB5.out)
       have HFL:Hid (∀ x ∈ JN ++ [m],Fits x):=fun x hx => by
        rcases List.mem_append.1 hx with h | h
        ·
         exact HJF.out x h
        ·
         rw [List.mem_singleton.1 h];exact HMF.out
       have HNE:=zh (a5h (.slice b5 jt c5) (.slice bv na cv) (JN ++ [m]) JA w6 HF5.out.nodes HF5.out.args HFL.out HN6.out (by rw [List.length_append];show JN.length+1≤100000;have:=HJL.out;omega) (HAL.out m));clear hw6 hown5 hgrow5 hnear5 pfd pcd p0 pf0 zPw HPU HFW LX2 HMF HFL;have d0:=HF5.out.c0;have d1:=HF5.out.c1;have zG6:=HF5.out.pz;go_wp2_with fail;refine HNE.out.mono ?_;rintro e w7 hp;unfold a2t at hp;rw [HND.out] at hp;obtain ⟨rfl,hb7⟩:=hp;obtain ⟨dep,hdep⟩:∃ z,z=(a1q (cN (JN ++ [m])) ((JN ++ [m]).map shN) JA).1:=⟨_,rfl⟩;rw [← hdep];clear hdep;have HF7:=zh (HF5.out.below hb7);have HB7:=zh (HB5.out.trans (hb7.mono HB5.out.size));have zC6:C < w6.heap.size:=by have h2:=HCG.out;omega
       obtain ⟨q1,q2,q3,q4⟩:=HCK.out;have kC0:=a0f hb7 q1 zC6;have kC1:=a0f hb7 q2 zC6;have fC0:=a0g hb7 q3 zC6;have fC1:=a0g hb7 q4 zC6;have zC:=Nat.lt_of_lt_of_le zC6 hb7.size;have e0:=HF7.out.c0;have e1:=HF7.out.c1;have zG7:=HF7.out.pz;clear hb7 q1 q2 q3 q4 zC6 d0 d1 zG6;have hCG:=HCG.out;by_cases hE:ER=0
       ·
        have HRES:Hid (a3a n l=(JN ++ [m],JA,0)):=zh (by rw [HMADE.out,if_pos hE,← HMT.out]);subst hE;go_wp2_with fail;refine bodyPost_ret (v:=.tuple #[.agg #[.slice b5 jt c5,(.slice bv na cv)],.int .i64 0]) (by simp [results,Tryz.results19,go_sem,kC0,kC1,fC0,fC1,zC,e0,e1,zG7]) rfl ?_;rw [HPO.out,HRES.out];have hst:∀ {size n:Nat} {t:TypeId} {x:Value} {xs:List Value},w7.ownsRow (G+1) t size x n xs→((w7.setCell ⟨C,0,none⟩ (.slice b5 jt c5)).setCell ⟨C,1,none⟩ (.slice bv na cv)).ownsRow (G+1) t size x n xs:=fun h => ownsRow_setCell_below (ownsRow_setCell_below h (by show C < G+1;omega) _) (by show C < G+1;omega) _
        exact ⟨⟨_,_,rfl,a2f (hst HF7.out.ou) (by have:=HLG.out;omega),a2f (hst HF7.out.ov) (by have:=HLG.out;omega)⟩,(HB7.out.setCell HLC.out _).setCell HLC.out _⟩
       ·
        have HRES:Hid (a3a n l=([],[],ER)):=zh (by rw [HMADE.out,if_neg hE]);have hE2:(ER != 0)=true:=by simpa using hE
        clear hE;go_wp2_with fail;refine bodyPost_ret (v:=.tuple #[.agg #[.slice none 0 0,.slice none 0 0],.int .i64 ER]) (by simp [results,Tryz.results19,go_sem,kC0,kC1,fC0,fC1,zC]) rfl ?_;rw [HPO.out,HRES.out];exact a1a ((HB7.out.setCell HLC.out _).setCell HLC.out _)
      ·
       have g7:(n.k == 7)=false:=by rw [h9];rfl
       have g8:(n.k == 8)=false:=by rw [h9];rfl
       have g9:(n.k == 9)=true:=by simpa using h9
       have HTP1:Hid ({ n with a:=(na:Int),b:=(tl:Int) }=a5k n ⟨JN,JA,JT⟩):=zh (by unfold a5k;rw [if_neg (by omega),if_neg (by omega),HNA.out,HTL.out]);have HAA1:Hid (JA ++ JT=JA ++ a5g n ⟨JN,JA,JT⟩):=zh (by unfold a5g;rw [if_pos h9]);have HAL:Hid (∀ q:Nd,(JN ++ [q]).length≤300→(JA ++ JT).length≤1000):=fun q hq => by have:=HJA.out;rw [List.length_append] at hq ⊢;omega
       have k1:=HFJ.out.c1;have kz:=HFJ.out.pz;clear h9 htlb
       go_upto_region 22 with (fail)
       obtain ⟨wb,hwb⟩:∃ z,z=(wr.setCell ⟨X,2,none⟩ (.int .i64 (na:Int))).setCell ⟨X,3,none⟩ (.int .i64 (tl:Int)):=⟨_,rfl⟩;have HN9:Hid (NdAt wb X { n with a:=(na:Int),b:=(tl:Int) }):=zh (by rw [hwb];exact (HNDX.out.set2 HXF2.out _).set3 (frz_set.trans HXF3.out) _);have HF9:Hid (FAt wb G (G+1) JN JA JT u1 (.slice bv na cv) (.slice bt tl ct)):=zh (by rw [hwb];exact (HFJ.out.far (by omega) (by omega)).far (by omega) (by omega));have HB9:Hid (Below w.heap.size w wb):=zh (by rw [hwb];exact (HBO.out.setCell HLX.out _).setCell HLX.out _)
       have HC9:Hid (wb.cell? ⟨C,0,none⟩=some (.slice none 0 0)∧wb.cell? ⟨C,1,none⟩=some (.slice none 0 0)∧wb.frozen? ⟨C,0,none⟩=false∧wb.frozen? ⟨C,1,none⟩=false):=zh (by
        obtain ⟨y1,y2,y3,y4⟩:=HCW0.out;have:=HXC.out;rw [hwb]
        exact ⟨a0e (a0e y1 (by dsimp only;omega)) (by dsimp only;omega),a0e (a0e y2 (by dsimp only;omega)) (by dsimp only;omega),frz_set.trans (frz_set.trans y3),frz_set.trans (frz_set.trans y4)⟩)
       rw [← hwb];clear hwb k1 kz x0 x2 x3 xf2 xf3 zX HNDX HCW0 HBO HFJ;have p1:=HF9.out.c1;have pf1:=HF9.out.f1;have pz:=HF9.out.pz;have HPU:Hid (∀ y,(Value.slice bv na cv).ownBlock=some y→G≠y):=fun y hy e => by have h1:=(HF9.out.ov.lt y hy).1;omega
       obtain ⟨kt,hkt⟩:∃ z,z=(JA ++ JT).length:=⟨_,rfl⟩;have HKT:=zh hkt;have hab:JA.length≤100000:=by have:=HNA.out;omega
       have htb:JT.length≤100000:=by have:=HJA.out;have:=HJL.out;omega
       have HAB:=zh hab;have HTB:=zh htb;clear hkt hab htb
       go_upto_region 23 with (at_builtin;refine a1s rfl _ _ rfl (base:=G+1) (v:=.slice bv na cv) (A:=JA) (B:=JT) (by rfl) HF9.out.ov (by rfl) HF9.out.tops HAB.out HTB.out HF9.out.bw ?_;intro v9 wd hown9 hgrow9 hnear9;rw [← HKT.out] at hown9;obtain ⟨b9,c9,rfl⟩:=a0l hown9;have pfd:=a0m hgrow9 pz pf1 HPU.out;have pcd:=a0a hgrow9 p1 HPU.out)
       obtain ⟨ws,hws⟩:∃ z,z=wd.setCell ⟨G,1,none⟩ (.slice b9 kt c9):=⟨_,rfl⟩
       have LX:Sem.run Tryz.prog (loadCellsFrom ⟨X,0,none⟩ 0 K19 #[]) ws=.ok (ndL { n with a:=(na:Int),b:=(tl:Int) }).toArray ws:=by
        have hx:NdAt ws X { n with a:=(na:Int),b:=(tl:Int) }:=fun j u hu => by
         rw [hws];exact a0e (a0a hgrow9 (HN9.out j u hu) (fun y hy e => by have h1:=(HF9.out.ov.lt y hy).1;omega)) (by dsimp only;omega)
        exact hx.load HK19
       have HFW:Hid (FAt ws G (G+1) JN (JA ++ JT) JT u1 (.slice b9 kt c9) (.slice bt tl ct)):=zh (by rw [hws];exact FAt.setA HF9.out hgrow9 (by rw [← HKT.out];exact hown9) hnear9)
       have HBW:Hid (Below w.heap.size w ws):=zh (by
        rw [hws]
        exact (a3m HB9.out HF9.out.ov (by have:=HLG.out;omega) HB9.out.size hgrow9).setCell HLG.out _)
       have HCW:Hid (ws.cell? ⟨C,0,none⟩=some (.slice none 0 0)∧ws.cell? ⟨C,1,none⟩=some (.slice none 0 0)∧ws.frozen? ⟨C,0,none⟩=false∧ws.frozen? ⟨C,1,none⟩=false):=zh (by
        obtain ⟨y1,y2,y3,y4⟩:=HC9.out;have hcg:=HCG.out;have hc:∀ y,(Value.slice bv na cv).ownBlock=some y→C≠y:=fun y hy e => by have h1:=(HF9.out.ov.lt y hy).1;omega
        have zc:=a0j y1;rw [hws]
        exact ⟨a0e (a0a hgrow9 y1 hc) (by dsimp only;omega),a0e (a0a hgrow9 y2 hc) (by dsimp only;omega),frz_set.trans (a0m hgrow9 zc y3 hc),frz_set.trans (a0m hgrow9 zc y4 hc)⟩)
       rw [← hws];clear hws pfd pcd hown9 hgrow9 hnear9 p1 pf1 pz HPU HN9 HF9 HB9 HC9;have HER:Hid (b5o (a1q (cN (JN ++ [a5k n ⟨JN,JA,JT⟩])) ((JN ++ [a5k n ⟨JN,JA,JT⟩]).map shN) (JA ++ JT)).2=ER):=zh (by have h:=HER0.out;rw [HJ.out] at h;dsimp only at h;rw [← HAA1.out] at h;exact h);rw [← HTP1.out] at HER;have HMADE:Hid (a3a n l=if ER=0 then (JN ++ [a5k n (a0u l)],(JA ++ JT),0) else ([],[],ER)):=zh (by have h:=HMADE0.out;rw [HJ.out] at h ⊢;dsimp only at h;rw [← HAA1.out] at h;exact h);have htp1:=HTP1.out;rw [← HJ.out] at htp1;have HTP:=zh htp1;clear htp1;clear HER0 HMADE0 HAA1 HTP1;obtain ⟨m,hm⟩:∃ m:Nd,m={ n with a:=(na:Int),b:=(tl:Int) }:=⟨_,rfl⟩;have LX2:Sem.run Tryz.prog (loadCellsFrom ⟨X,0,none⟩ 0 K19 #[]) ws=.ok (ndL m).toArray ws:=by rw [hm];exact LX
       have HMF:Hid (Fits m):=zh (by rw [hm];exact HFI.out);have HND:Hid (b5o (a1q (cN (JN ++ [m])) ((JN ++ [m]).map shN) (JA ++ JT)).2=ER):=zh (by rw [hm];exact HER.out);have HMT:Hid (m=a5k n (a0u l)):=zh (hm.trans HTP.out);have HJT:Hid ((JN ++ [m]).length=jt):=zh (by rw [List.length_append];exact HJT0.out);clear LX hm;have p0:=HFW.out.c0;have pf0:=HFW.out.f0;have zPw:=HFW.out.pz;have HPU:Hid (∀ y,u1.ownBlock=some y→G≠y):=fun y hy e => by have h1:=(HFW.out.ou.lt y hy).1;omega
       go_upto_region 24 with (first | (refine a1j rfl _ rfl m (by first | rfl | (show _=Value.agg _;rfl)) ?_) | (at_builtin;refine a1k rfl _ _ rfl (base:=G+1) (v:=u1) (N:=JN) (M:=[m]) (by rfl) (HFW.out.ou.alloc _) (by rfl) (a4u ws m _) (by have:=HJL.out;omega) (by simp) (by have:=HFW.out.bw;simp;omega) ?_;intro v5 w5 hown5 hgrow5 hnear5;rw [HJT.out] at hown5;obtain ⟨b5,c5,rfl⟩:=a0l hown5;have pfd:=a0m hgrow5 (alZ zPw) (alF zPw pf0) HPU.out;have pcd:=a0a hgrow5 (a0b (W:=ws) p0) HPU.out))
       have HF5:Hid (FAt (w5.setCell ⟨G,0,none⟩ (.slice b5 jt c5)) G (G+1) (JN ++ [m]) (JA ++ JT) _ (.slice b5 jt c5) (.slice b9 kt c9) _):=FAt.setN (HFW.out.below (a0i (Below.refl _ _)):FAt (World.alloc ws _) G (G+1) _ _ _ _ _ _) hgrow5 (by rw [HJT.out];exact hown5) hnear5
       have HB5:Hid (Below w.heap.size w (w5.setCell ⟨G,0,none⟩ (.slice b5 jt c5))):=zh (by
        refine Below.setCell ?_ HLG.out _;refine Below.grown (w:=World.alloc ws _) (HBW.out.alloc HBW.out.size _) hgrow5 (by have:=HBW.out.size;simp;omega) (fun q hq => ?_);have h1:=(HFW.out.ou.lt q hq).1;have h2:=HLG.out
        omega)
       obtain ⟨w6,hw6⟩:∃ z,z=w5.setCell ⟨G,0,none⟩ (.slice b5 jt c5):=⟨_,rfl⟩;rw [← hw6] at HF5 HB5 ⊢
       have HCK:Hid (w6.cell? ⟨C,0,none⟩=some (.slice none 0 0)∧w6.cell? ⟨C,1,none⟩=some (.slice none 0 0)∧w6.frozen? ⟨C,0,none⟩=false∧w6.frozen? ⟨C,1,none⟩=false):=zh (by
        have hc:∀ y,u1.ownBlock=some y→C≠y:=fun y hy e => by have h1:=(HFW.out.ou.lt y hy).1;have h2:=HCG.out;omega
        have zc:C < ws.heap.size:=by have h2:=HCG.out;omega
        obtain ⟨q1,q2,q3,q4⟩:=HCW.out;have hne:G≠C:=by have h2:=HCG.out;omega
        rw [hw6]
        exact ⟨a0e (a0a hgrow5 (a0b (W:=ws) q1) hc) (by dsimp only;omega),a0e (a0a hgrow5 (a0b (W:=ws) q2) hc) (by dsimp only;omega),frz_set.trans (a0m hgrow5 (alZ zc) (alF zc q3) hc),frz_set.trans (a0m hgrow5 (alZ zc) (alF zc q4) hc)⟩)
       have HN6:=zh (HNM.out.below HB5.out)
       have HFL:Hid (∀ x ∈ JN ++ [m],Fits x):=fun x hx => by
        rcases List.mem_append.1 hx with h | h
        ·
         exact HJF.out x h
        ·
         rw [List.mem_singleton.1 h];exact HMF.out
       have HNE:=zh (a5h (.slice b5 jt c5) (.slice b9 kt c9) (JN ++ [m]) (JA ++ JT) w6 HF5.out.nodes HF5.out.args HFL.out HN6.out (by rw [List.length_append];show JN.length+1≤100000;have:=HJL.out;omega) (HAL.out m));clear hw6 hown5 hgrow5 hnear5 pfd pcd p0 pf0 zPw HPU HFW LX2 HMF HFL;have d0:=HF5.out.c0;have d1:=HF5.out.c1;have zG6:=HF5.out.pz;go_wp2_with fail;refine HNE.out.mono ?_;rintro e w7 hp;unfold a2t at hp;rw [HND.out] at hp;obtain ⟨rfl,hb7⟩:=hp;obtain ⟨dep,hdep⟩:∃ z,z=(a1q (cN (JN ++ [m])) ((JN ++ [m]).map shN) (JA ++ JT)).1:=⟨_,rfl⟩;rw [← hdep];clear hdep;have HF7:=zh (HF5.out.below hb7);have HB7:=zh (HB5.out.trans (hb7.mono HB5.out.size));have zC6:C < w6.heap.size:=by have h2:=HCG.out;omega
       obtain ⟨q1,q2,q3,q4⟩:=HCK.out;have kC0:=a0f hb7 q1 zC6;have kC1:=a0f hb7 q2 zC6;have fC0:=a0g hb7 q3 zC6;have fC1:=a0g hb7 q4 zC6;have zC:=Nat.lt_of_lt_of_le zC6 hb7.size;have e0:=HF7.out.c0;have e1:=HF7.out.c1;have zG7:=HF7.out.pz;clear hb7 q1 q2 q3 q4 zC6 d0 d1 zG6;have hCG:=HCG.out;by_cases hE:ER=0
       ·
        have HRES:Hid (a3a n l=(JN ++ [m],(JA ++ JT),0)):=zh (by rw [HMADE.out,if_pos hE,← HMT.out]);subst hE;go_wp2_with fail;refine bodyPost_ret (v:=.tuple #[.agg #[.slice b5 jt c5,(.slice b9 kt c9)],.int .i64 0]) (by simp [results,Tryz.results19,go_sem,kC0,kC1,fC0,fC1,zC,e0,e1,zG7]) rfl ?_;rw [HPO.out,HRES.out];have hst:∀ {size n:Nat} {t:TypeId} {x:Value} {xs:List Value},w7.ownsRow (G+1) t size x n xs→((w7.setCell ⟨C,0,none⟩ (.slice b5 jt c5)).setCell ⟨C,1,none⟩ (.slice b9 kt c9)).ownsRow (G+1) t size x n xs:=fun h => ownsRow_setCell_below (ownsRow_setCell_below h (by show C < G+1;omega) _) (by show C < G+1;omega) _
        exact ⟨⟨_,_,rfl,a2f (hst HF7.out.ou) (by have:=HLG.out;omega),a2f (hst HF7.out.ov) (by have:=HLG.out;omega)⟩,(HB7.out.setCell HLC.out _).setCell HLC.out _⟩
       ·
        have HRES:Hid (a3a n l=([],[],ER)):=zh (by rw [HMADE.out,if_neg hE]);have hE2:(ER != 0)=true:=by simpa using hE
        clear hE;go_wp2_with fail;refine bodyPost_ret (v:=.tuple #[.agg #[.slice none 0 0,.slice none 0 0],.int .i64 ER]) (by simp [results,Tryz.results19,go_sem,kC0,kC1,fC0,fC1,zC]) rfl ?_;rw [HPO.out,HRES.out];exact a1a ((HB7.out.setCell HLC.out _).setCell HLC.out _)
end Go.Proofs.YtjfkbeanbbeloaaGreatDoor
