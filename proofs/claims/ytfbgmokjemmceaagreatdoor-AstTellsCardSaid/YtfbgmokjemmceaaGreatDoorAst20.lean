import Derived.Test.YtfbgmokjemmceaaGreatDoorAst18
set_option maxHeartbeats 8000000
set_option maxRecDepth 100000
namespace Go.Proofs.YtfbgmokjemmceaaGreatDoor
open Go.RowKit Go.Shelf
set_option linter.unusedSimpArgs false
set_option linter.unusedVariables false
abbrev intL (l:List Int):List Value:=l.map (Value.int .i64)
theorem IntsAt.of_owns {W:World} {v:Value} {n base:Nat} {t:TypeId} {A:List Int} (h:W.ownsRow base t 1 v n (intL A)):n=A.length∧IntsAt W v A:=by
 have hl:=h.1;rw [List.length_map,Nat.mul_one] at hl;refine ⟨hl.symm,?_⟩
 rcases h.2 with ⟨hv,h0⟩ | ⟨g,cap,cur,hv,_,hgg,hn,hm,_⟩
 ·
  exact Or.inl ⟨hv,List.eq_nil_of_length_eq_zero (by omega)⟩
 ·
  refine Or.inr ⟨g,0,cap,by rw [hv,hl],by omega,hm,fun k hk => ?_⟩
  have hc:=h.cells (g:=g) (by rw [hv];rfl) k (.int .i64 (A.getD k 0)) (by rw [List.getElem?_map,List.getElem?_eq_getElem hk,List.getD_eq_getElem?_getD,List.getElem?_eq_getElem hk];rfl);rw [Addr.add_lit] at hc;exact hc
theorem a7x {W:World} {g o:Nat} {A:List Int} (hc:∀ k,k < A.length→W.cell? ⟨g,o+k,none⟩=some (.int .i64 (A.getD k 0))):∀ j u,(intL A)[j]?=some u→W.cell? ((⟨g,o,none⟩:Addr).add j)=some u:=by
 intro j u hu;rw [List.getElem?_map] at hu
 cases h:A[j]? with
 | none => rw [h] at hu;cases hu
 | some x =>
  rw [h] at hu;obtain ⟨hj,_⟩:=List.getElem?_eq_some_iff.1 h;rw [Addr.add_lit,hc j hj,List.getD_eq_getElem?_getD,h];exact hu
theorem IntsAt.news {W:World} {v:Value} {A:List Int} (h:IntsAt W v A) (h0:0 < A.length):∃ g o cap,v=.slice (some ⟨g,o,none⟩) A.length cap∧A.length≤cap∧cap≤maxLen∧g < W.heap.size∧∀ k,k < A.length→W.cell? ⟨g,o+k,none⟩=some (.int .i64 (A.getD k 0)):=by
 rcases h with ⟨_,rfl⟩ | ⟨g,o,cap,hv,h1,h2,hc⟩
 ·
  simp at h0
 ·
  exact ⟨g,o,cap,hv,h1,h2,a0j (hc 0 h0),hc⟩
theorem c2t {W:World} {g o a b:Nat} {A:List Int} (hc:∀ k,k < A.length→W.cell? ⟨g,o+k,none⟩=some (.int .i64 (A.getD k 0))) (h:a+b≤A.length):∀ j u,(intL ((A.drop a).take b))[j]?=some u→W.cell? ((⟨g,o+a,none⟩:Addr).add j)=some u:=by
 refine a7x fun k hk => ?_
 have hl:((A.drop a).take b).length=b:=by simp;omega
 rw [hl] at hk;rw [Nat.add_assoc,hc (a+k) (by omega),List.getD_eq_getElem?_getD,List.getD_eq_getElem?_getD,List.getElem?_take_of_lt hk,List.getElem?_drop]
theorem a4d {A:List Int} {n:Sh} (h:n.k≠9):a1h A n=true:=by unfold a1h;rw [decide_eq_false h];rfl
theorem b1q {A:List Int} {n:Sh} (h : ¬ 0 < n.b):a1h A n=true:=by unfold a1h;rw [decide_eq_false h,Bool.and_false,Bool.false_and];rfl
theorem b6p {A:List Int} {n:Sh} (h9:n.k=9) (h:0 < n.b) (hn : ¬ (0≤n.a∧n.a+n.b≤A.length)):a1h A n=false:=by
 cases hx:a1h A n with
 | false => rfl
 | true => exact absurd ((a2g _ _).1 hx h9 h) hn
def b1r (A:List Int) (n:Sh) (w:World) (e:Ending) (w':World):Prop:=(∃ r,e=.returned (.tuple #[r,.bool (a1h A n)])∧IntsAt w' r (if a1h A n then kidsS A n else []))∧Below w.heap.size w w'
theorem a5q (u v:Value) (N:List Nd) (A:List Int) (i:Nat) (n:Nd) (w:World) (hN:NodesAt w u N) (hA:IntsAt w v A) (hi:N[i]?=some n) (hl:A.length≤1000) (hl2:N.length≤1000) :
  Calls Tryz.prog 38 #[.agg #[u,v],.int .i64 (i:Int)] w (b1r A (shN n) w):=by
 have hud:undef=Value.tuple #[]:=rfl;obtain ⟨K19,hz19,HK19⟩:=a0q;have hin:=(List.getElem?_eq_some_iff.1 hi).1;obtain ⟨bn,cn,rfl,hN2⟩:=hN.slice;obtain ⟨gn,on,rfl,hcn⟩:=hN2 i n hi
 have HLN:Hid (∀ W,Below w.heap.size w W→Sem.run Tryz.prog (loadCellsFrom ⟨gn,on+i * K19,none⟩ 0 K19 #[]) W=.ok #[.int .i64 n.k,.int .i64 n.o,.int .i64 n.a,.int .i64 n.b,.bool n.qn,.string n.qa,.string n.qd,.string n.s,.bool n.tr,.string n.r.sh,.int .i64 n.r.c,.int .i64 n.r.r,.bool n.r.fc,.bool n.r.fr,.string n.t.sh,.int .i64 n.t.c,.int .i64 n.t.r,.bool n.t.fc,.bool n.t.fr] W):=fun W hW =>
  a0p W gn (on+i * K19) HK19 n (fun j u hu => by rw [HK19.out];exact a0f hW (hcn j u hu) (a0j (hcn j u hu)))
 obtain ⟨Po,hPo⟩:∃ Po,Po=b1r A (shN n) w:=⟨_,rfl⟩;rw [← hPo];have HPO:=Lib.hid hPo;have HA:=Lib.hid hA;have hB:=Below.refl w.heap.size w;obtain ⟨L,hL⟩:∃ L,L=N.length:=⟨_,rfl⟩;rw [← hL] at hin hl2 ⊢;clear hPo hA hN hN2 hcn hi hL;by_cases h7:n.k=7
 ·
  have g7:(n.k == 7)=true:=by simpa using h7
  have HX:Hid (a1h A (shN n)=true):=a4d (n:=shN n) (by show n.k≠9;omega);have HX2:Hid (kidsS A (shN n)=[n.a]):=if_pos h7;clear h7;go_enter Tryz.func38,Tryz.ntmps38
  go_upto_region 1 with (fail)
  obtain ⟨s1,hws⟩:∃ s,s=(w.alloc (.cells #[.slice (some ⟨gn,on,none⟩) L cn,v] 25)):=⟨_,rfl⟩;have hBs:=bs1 (Below.refl w.heap.size w) hws;obtain ⟨F,hdF⟩:∃ b,b=w.heap.size:=⟨_,rfl⟩;have hsz:s1.heap.size=w.heap.size+1:=by rw [hws];simp
  have hN:=bx0 (b:=F) hws hdF;have kF0:=hN 0 _ rfl;have kF1:=hN 1 _ rfl;clear hN;have zF:F < s1.heap.size:=by omega
  have lF:w.heap.size≤F:=by omega
  rw [← hws];try rw [← hdF]
  clear hws hsz hdF;have hBo:=hBs;clear hBs;have LN:=HLN.out _ hBo
  go_upto_region 2 with (refine a0c rfl _ _ rfl rfl _ _ _ rfl rfl rfl (by rfl) (by rfl) (by rfl) ?_)
  obtain ⟨s2,hws⟩:∃ s,s=(s1.alloc (.cells #[.int .i64 n.k,.int .i64 n.o,.int .i64 n.a,.int .i64 n.b,.bool n.qn,.string n.qa,.string n.qd,.string n.s,.bool n.tr,.string n.r.sh,.int .i64 n.r.c,.int .i64 n.r.r,.bool n.r.fc,.bool n.r.fr,.string n.t.sh,.int .i64 n.t.c,.int .i64 n.t.r,.bool n.t.fc,.bool n.t.fr] 33)):=⟨_,rfl⟩;have hBs:=bs1 hBo hws;obtain ⟨X,hdX⟩:∃ b,b=s1.heap.size:=⟨_,rfl⟩;have hsz:s2.heap.size=s1.heap.size+1:=by rw [hws];simp
  have hQC:∀ p v,s1.cell? p=some v→s2.cell? p=some v:=fun p v h => by rw [hws];exact (alK h)
  have hQZ:∀ b,b < s1.heap.size→b < s2.heap.size:=fun b h => by omega
  replace kF0:=hQC _ _ kF0;replace kF1:=hQC _ _ kF1;replace zF:=hQZ _ zF;clear hQC hQZ;have yX:=by0 (b:=X) hws hdX;have zX:X < s2.heap.size:=by omega
  have lX:w.heap.size≤X:=by have:=hBo.size;omega
  have LX:=eqL (P:=Tryz.prog) HK19 rfl yX;rw [← hws];try rw [← hdX]
  clear hBo;clear hws hsz hdX;have hBo:=hBs;clear hBs;clear LN;go_wp2_with fail;show Po _ _;rw [HPO.out];refine ⟨⟨_,by first | (rw [HX.out];done) | (rw [HX.out];rfl),?_⟩,a0i hBo⟩
  rw [HX.out,if_pos rfl,HX2.out];exact a5o _ _ _ _ rfl
 have g7:(n.k == 7)=false:=by simpa using h7
 by_cases h8:n.k=8
 ·
  have g8:(n.k == 8)=true:=by simpa using h8
  have HX:Hid (a1h A (shN n)=true):=a4d (n:=shN n) (by show n.k≠9;omega);have HX2:Hid (kidsS A (shN n)=[n.a,n.b]):=(if_neg h7).trans (if_pos h8);clear h7 h8;go_enter Tryz.func38,Tryz.ntmps38
  go_upto_region 1 with (fail)
  obtain ⟨s3,hws⟩:∃ s,s=(w.alloc (.cells #[.slice (some ⟨gn,on,none⟩) L cn,v] 25)):=⟨_,rfl⟩;have hBs:=bs1 (Below.refl w.heap.size w) hws;obtain ⟨F,hdF⟩:∃ b,b=w.heap.size:=⟨_,rfl⟩;have hsz:s3.heap.size=w.heap.size+1:=by rw [hws];simp
  have hN:=bx0 (b:=F) hws hdF;have kF0:=hN 0 _ rfl;have kF1:=hN 1 _ rfl;clear hN;have zF:F < s3.heap.size:=by omega
  have lF:w.heap.size≤F:=by omega
  rw [← hws];try rw [← hdF]
  clear hws hsz hdF;have hBo:=hBs;clear hBs;have LN:=HLN.out _ hBo
  go_upto_region 2 with (refine a0c rfl _ _ rfl rfl _ _ _ rfl rfl rfl (by rfl) (by rfl) (by rfl) ?_)
  obtain ⟨s4,hws⟩:∃ s,s=(s3.alloc (.cells #[.int .i64 n.k,.int .i64 n.o,.int .i64 n.a,.int .i64 n.b,.bool n.qn,.string n.qa,.string n.qd,.string n.s,.bool n.tr,.string n.r.sh,.int .i64 n.r.c,.int .i64 n.r.r,.bool n.r.fc,.bool n.r.fr,.string n.t.sh,.int .i64 n.t.c,.int .i64 n.t.r,.bool n.t.fc,.bool n.t.fr] 33)):=⟨_,rfl⟩;have hBs:=bs1 hBo hws;obtain ⟨X,hdX⟩:∃ b,b=s3.heap.size:=⟨_,rfl⟩;have hsz:s4.heap.size=s3.heap.size+1:=by rw [hws];simp
  have hQC:∀ p v,s3.cell? p=some v→s4.cell? p=some v:=fun p v h => by rw [hws];exact (alK h)
  have hQZ:∀ b,b < s3.heap.size→b < s4.heap.size:=fun b h => by omega
  replace kF0:=hQC _ _ kF0;replace kF1:=hQC _ _ kF1;replace zF:=hQZ _ zF;clear hQC hQZ;have yX:=by0 (b:=X) hws hdX;have zX:X < s4.heap.size:=by omega
  have lX:w.heap.size≤X:=by have:=hBo.size;omega
  have LX:=eqL (P:=Tryz.prog) HK19 rfl yX;rw [← hws];try rw [← hdX]
  clear hBo;clear hws hsz hdX;have hBo:=hBs;clear hBs;clear LN;go_wp2_with fail;show Po _ _;rw [HPO.out];refine ⟨⟨_,by first | (rw [HX.out];done) | (rw [HX.out];rfl),?_⟩,a0i hBo⟩
  rw [HX.out,if_pos rfl,HX2.out];exact b1n _ _ _ _ _ rfl
 have g8:(n.k == 8)=false:=by simpa using h8
 by_cases h9:n.k=9
 ·
  have g9:(n.k == 9)=true:=by simpa using h9
  have HX2:Hid (kidsS A (shN n)=(A.drop n.a.toNat).take n.b.toNat):=(if_neg h7).trans ((if_neg h8).trans (if_pos h9));by_cases hb:0 < n.b
  ·
   by_cases hab:0≤n.a∧n.a+n.b≤A.length
   ·
    have HX:Hid (a1h A (shN n)=true):=(a2g A (shN n)).2 (fun _ _ => hab);obtain ⟨gv,ov,cv,rfl,hv1,hv2,zv,hvc⟩:=(HA.out).news (by omega);have hvm:A.length≤1000:=hl;obtain ⟨a',ha'⟩:∃ a':Nat,n.a=a':=⟨n.a.toNat,by omega⟩;obtain ⟨b',hb'⟩:∃ b':Nat,n.b=b':=⟨n.b.toNat,by omega⟩;rw [ha',hb',Int.toNat_natCast,Int.toNat_natCast] at HX2;have hsub:a'+b'≤A.length:=by omega
    have hb1:0 < b':=by omega
    have HVC:=Lib.hid hvc;have HSUB:=Lib.hid hsub;obtain ⟨LA,hLA⟩:∃ LA,LA=A.length:=⟨_,rfl⟩;rw [← hLA] at hv1 hsub hvm ⊢;have e1:a'≤cv:=by omega
    have e2:a'+b'≤cv:=by omega
    have e3 : ¬ cv=a':=by omega
    have e4:(a':Int)≤LA:=by omega
    have e5:(b':Int)≤LA - a':=by omega
    have e6:(0:Int) < b':=by omega
    obtain ⟨i0,hi0,hz0,hz1,hz2⟩:=info_parts Tryz.infoInt;have hk1:(0+b')≤maxLen:=by unfold maxLen;omega
    have hk3:(0+b') * 8≤140737488355328:=by omega
    have HLEN:Hid ((intL ((A.drop a').take b')).length=b' * 1):=Lib.hid <| by rw [List.length_map,List.length_take,List.length_drop];have:=HSUB.out;omega
    obtain ⟨k,o,a,b,qn,qa,qd,x,tr,r,t⟩:=n;dsimp only at ha' hb' g7 g8 g9 HLN;subst ha' hb';clear h7 h8 h9 hb hab hvc hl hLA;go_enter Tryz.func38,Tryz.ntmps38
    go_upto_region 1 with (fail)
    obtain ⟨s5,hws⟩:∃ s,s=(w.alloc (.cells #[.slice (some ⟨gn,on,none⟩) L cn,.slice (some ⟨gv,ov,none⟩) LA cv] 25)):=⟨_,rfl⟩;have hBs:=bs1 (Below.refl w.heap.size w) hws;obtain ⟨F,hdF⟩:∃ b,b=w.heap.size:=⟨_,rfl⟩;have hsz:s5.heap.size=w.heap.size+1:=by rw [hws];simp
    have hN:=bx0 (b:=F) hws hdF;have kF0:=hN 0 _ rfl;have kF1:=hN 1 _ rfl;clear hN;have zF:F < s5.heap.size:=by omega
    have lF:w.heap.size≤F:=by omega
    rw [← hws];try rw [← hdF]
    clear hws hsz hdF;have hBo:=hBs;clear hBs;have LN:=HLN.out _ hBo
    go_upto_region 2 with (refine a0c rfl _ _ rfl rfl _ _ _ rfl rfl rfl (by rfl) (by rfl) (by rfl) ?_)
    obtain ⟨s6,hws⟩:∃ s,s=(s5.alloc (.cells #[.int .i64 k,.int .i64 o,.int .i64 (a':Int),.int .i64 (b':Int),.bool qn,.string qa,.string qd,.string x,.bool tr,.string r.sh,.int .i64 r.c,.int .i64 r.r,.bool r.fc,.bool r.fr,.string t.sh,.int .i64 t.c,.int .i64 t.r,.bool t.fc,.bool t.fr] 33)):=⟨_,rfl⟩;have hBs:=bs1 hBo hws;obtain ⟨X,hdX⟩:∃ b,b=s5.heap.size:=⟨_,rfl⟩;have hsz:s6.heap.size=s5.heap.size+1:=by rw [hws];simp
    have hQC:∀ p v,s5.cell? p=some v→s6.cell? p=some v:=fun p v h => by rw [hws];exact (alK h)
    have hQZ:∀ b,b < s5.heap.size→b < s6.heap.size:=fun b h => by omega
    replace kF0:=hQC _ _ kF0;replace kF1:=hQC _ _ kF1;replace zF:=hQZ _ zF;clear hQC hQZ;have yX:=by0 (b:=X) hws hdX;have zX:X < s6.heap.size:=by omega
    have lX:w.heap.size≤X:=by have:=hBo.size;omega
    have LX:=eqL (P:=Tryz.prog) HK19 rfl yX;rw [← hws];try rw [← hdX]
    clear hBo;clear hws hsz hdX;have hBo:=hBs;clear hBs;clear LN;have HNEW:=Lib.hid (fun W (hW:Below w.heap.size w W) => c2t (W:=W) (g:=gv) (o:=ov) (a:=a') (b:=b') (A:=A) (fun k hk => a0f hW (HVC.out k hk) zv) HSUB.out);go_wp2_with (at_builtin;(refine wpList_append_own _ rfl _ _ 23 rfl w.heap.size 3 i0 (.int .i64 0) 1 8 Tryz.underlying23 hi0 hz0 hz1 hz2 rfl (by decide) _ _ _ rfl (World.ownsRow_nil _ _ _ _) ⟨gv,ov+a',none⟩ (a'+b' - a') _ (intL ((A.drop a').take b')) rfl (by rw [Nat.add_sub_cancel_left];exact HLEN.out) (HNEW.out _ hBo) (ints_oneCell _ _) (by rw [Nat.add_sub_cancel_left];exact hk1) (by rw [Nat.add_sub_cancel_left];exact hk3) hBo.size ?_);intro v1 w2 hown1 hgrow1 _);show Po _ _;rw [HPO.out];refine ⟨⟨_,by first | (rw [HX.out];done) | (rw [HX.out];rfl),?_⟩,hBo.grown hgrow1 hBo.size (fun q hq => by cases hq)⟩
    rw [HX.out,if_pos rfl,HX2.out];exact (IntsAt.of_owns (A:=(A.drop a').take b') hown1).2
   ·
    have HX:Hid (a1h A (shN n)=false):=b6p (n:=shN n) h9 hb hab;obtain ⟨bv,cv,rfl,_⟩:=HA.out.slice;obtain ⟨LA,hLA⟩:∃ LA,LA=A.length:=⟨_,rfl⟩;rw [← hLA] at hab hl ⊢;clear h7 h8 h9 hLA HX2;by_cases ha:n.a < 0
    ·
     clear hab;go_enter Tryz.func38,Tryz.ntmps38
     go_upto_region 1 with (fail)
     obtain ⟨s7,hws⟩:∃ s,s=(w.alloc (.cells #[.slice (some ⟨gn,on,none⟩) L cn,.slice bv LA cv] 25)):=⟨_,rfl⟩;have hBs:=bs1 (Below.refl w.heap.size w) hws;obtain ⟨F,hdF⟩:∃ b,b=w.heap.size:=⟨_,rfl⟩;have hsz:s7.heap.size=w.heap.size+1:=by rw [hws];simp
     have hN:=bx0 (b:=F) hws hdF;have kF0:=hN 0 _ rfl;have kF1:=hN 1 _ rfl;clear hN;have zF:F < s7.heap.size:=by omega
     have lF:w.heap.size≤F:=by omega
     rw [← hws];try rw [← hdF]
     clear hws hsz hdF;have hBo:=hBs;clear hBs;have LN:=HLN.out _ hBo
     go_upto_region 2 with (refine a0c rfl _ _ rfl rfl _ _ _ rfl rfl rfl (by rfl) (by rfl) (by rfl) ?_)
     obtain ⟨s8,hws⟩:∃ s,s=(s7.alloc (.cells #[.int .i64 n.k,.int .i64 n.o,.int .i64 n.a,.int .i64 n.b,.bool n.qn,.string n.qa,.string n.qd,.string n.s,.bool n.tr,.string n.r.sh,.int .i64 n.r.c,.int .i64 n.r.r,.bool n.r.fc,.bool n.r.fr,.string n.t.sh,.int .i64 n.t.c,.int .i64 n.t.r,.bool n.t.fc,.bool n.t.fr] 33)):=⟨_,rfl⟩;have hBs:=bs1 hBo hws;obtain ⟨X,hdX⟩:∃ b,b=s7.heap.size:=⟨_,rfl⟩;have hsz:s8.heap.size=s7.heap.size+1:=by rw [hws];simp
     have hQC:∀ p v,s7.cell? p=some v→s8.cell? p=some v:=fun p v h => by rw [hws];exact (alK h)
     have hQZ:∀ b,b < s7.heap.size→b < s8.heap.size:=fun b h => by omega
     replace kF0:=hQC _ _ kF0;replace kF1:=hQC _ _ kF1;replace zF:=hQZ _ zF;clear hQC hQZ;have yX:=by0 (b:=X) hws hdX;have zX:X < s8.heap.size:=by omega
     have lX:w.heap.size≤X:=by have:=hBo.size;omega
     have LX:=eqL (P:=Tryz.prog) HK19 rfl yX;rw [← hws];try rw [← hdX]
     clear hBo;clear hws hsz hdX;have hBo:=hBs;clear hBs;clear LN;go_wp2_with fail;show Po _ _;rw [HPO.out];refine ⟨⟨_,by first | (rw [HX.out];done) | (rw [HX.out];rfl),?_⟩,hBo⟩
     rw [HX.out];exact Or.inl ⟨rfl,rfl⟩
    ·
     by_cases ha2:(LA:Int) < n.a
     ·
      have ha:0≤n.a:=by omega
      clear hab;go_enter Tryz.func38,Tryz.ntmps38
      go_upto_region 1 with (fail)
      obtain ⟨s9,hws⟩:∃ s,s=(w.alloc (.cells #[.slice (some ⟨gn,on,none⟩) L cn,.slice bv LA cv] 25)):=⟨_,rfl⟩;have hBs:=bs1 (Below.refl w.heap.size w) hws;obtain ⟨F,hdF⟩:∃ b,b=w.heap.size:=⟨_,rfl⟩;have hsz:s9.heap.size=w.heap.size+1:=by rw [hws];simp
      have hN:=bx0 (b:=F) hws hdF;have kF0:=hN 0 _ rfl;have kF1:=hN 1 _ rfl;clear hN;have zF:F < s9.heap.size:=by omega
      have lF:w.heap.size≤F:=by omega
      rw [← hws];try rw [← hdF]
      clear hws hsz hdF;have hBo:=hBs;clear hBs;have LN:=HLN.out _ hBo
      go_upto_region 2 with (refine a0c rfl _ _ rfl rfl _ _ _ rfl rfl rfl (by rfl) (by rfl) (by rfl) ?_)
      obtain ⟨s10,hws⟩:∃ s,s=(s9.alloc (.cells #[.int .i64 n.k,.int .i64 n.o,.int .i64 n.a,.int .i64 n.b,.bool n.qn,.string n.qa,.string n.qd,.string n.s,.bool n.tr,.string n.r.sh,.int .i64 n.r.c,.int .i64 n.r.r,.bool n.r.fc,.bool n.r.fr,.string n.t.sh,.int .i64 n.t.c,.int .i64 n.t.r,.bool n.t.fc,.bool n.t.fr] 33)):=⟨_,rfl⟩;have hBs:=bs1 hBo hws;obtain ⟨X,hdX⟩:∃ b,b=s9.heap.size:=⟨_,rfl⟩;have hsz:s10.heap.size=s9.heap.size+1:=by rw [hws];simp
      have hQC:∀ p v,s9.cell? p=some v→s10.cell? p=some v:=fun p v h => by rw [hws];exact (alK h)
      have hQZ:∀ b,b < s9.heap.size→b < s10.heap.size:=fun b h => by omega
      replace kF0:=hQC _ _ kF0;replace kF1:=hQC _ _ kF1;replace zF:=hQZ _ zF;clear hQC hQZ;have yX:=by0 (b:=X) hws hdX;have zX:X < s10.heap.size:=by omega
      have lX:w.heap.size≤X:=by have:=hBo.size;omega
      have LX:=eqL (P:=Tryz.prog) HK19 rfl yX;rw [← hws];try rw [← hdX]
      clear hBo;clear hws hsz hdX;have hBo:=hBs;clear hBs;clear LN;go_wp2_with fail;show Po _ _;rw [HPO.out];refine ⟨⟨_,by first | (rw [HX.out];done) | (rw [HX.out];rfl),?_⟩,hBo⟩
      rw [HX.out];exact Or.inl ⟨rfl,rfl⟩
     ·
      have ha:0≤n.a:=by omega
      have ha2:n.a≤(LA:Int):=by omega
      have ha3:(LA:Int) - n.a < n.b:=by omega
      clear hab;go_enter Tryz.func38,Tryz.ntmps38
      go_upto_region 1 with (fail)
      obtain ⟨s11,hws⟩:∃ s,s=(w.alloc (.cells #[.slice (some ⟨gn,on,none⟩) L cn,.slice bv LA cv] 25)):=⟨_,rfl⟩;have hBs:=bs1 (Below.refl w.heap.size w) hws;obtain ⟨F,hdF⟩:∃ b,b=w.heap.size:=⟨_,rfl⟩;have hsz:s11.heap.size=w.heap.size+1:=by rw [hws];simp
      have hN:=bx0 (b:=F) hws hdF;have kF0:=hN 0 _ rfl;have kF1:=hN 1 _ rfl;clear hN;have zF:F < s11.heap.size:=by omega
      have lF:w.heap.size≤F:=by omega
      rw [← hws];try rw [← hdF]
      clear hws hsz hdF;have hBo:=hBs;clear hBs;have LN:=HLN.out _ hBo
      go_upto_region 2 with (refine a0c rfl _ _ rfl rfl _ _ _ rfl rfl rfl (by rfl) (by rfl) (by rfl) ?_)
      obtain ⟨s12,hws⟩:∃ s,s=(s11.alloc (.cells #[.int .i64 n.k,.int .i64 n.o,.int .i64 n.a,.int .i64 n.b,.bool n.qn,.string n.qa,.string n.qd,.string n.s,.bool n.tr,.string n.r.sh,.int .i64 n.r.c,.int .i64 n.r.r,.bool n.r.fc,.bool n.r.fr,.string n.t.sh,.int .i64 n.t.c,.int .i64 n.t.r,.bool n.t.fc,.bool n.t.fr] 33)):=⟨_,rfl⟩;have hBs:=bs1 hBo hws;obtain ⟨X,hdX⟩:∃ b,b=s11.heap.size:=⟨_,rfl⟩;have hsz:s12.heap.size=s11.heap.size+1:=by rw [hws];simp
      have hQC:∀ p v,s11.cell? p=some v→s12.cell? p=some v:=fun p v h => by rw [hws];exact (alK h)
      have hQZ:∀ b,b < s11.heap.size→b < s12.heap.size:=fun b h => by omega
      replace kF0:=hQC _ _ kF0;replace kF1:=hQC _ _ kF1;replace zF:=hQZ _ zF;clear hQC hQZ;have yX:=by0 (b:=X) hws hdX;have zX:X < s12.heap.size:=by omega
      have lX:w.heap.size≤X:=by have:=hBo.size;omega
      have LX:=eqL (P:=Tryz.prog) HK19 rfl yX;rw [← hws];try rw [← hdX]
      clear hBo;clear hws hsz hdX;have hBo:=hBs;clear hBs;clear LN;go_wp2_with fail;show Po _ _;rw [HPO.out];refine ⟨⟨_,by first | (rw [HX.out];done) | (rw [HX.out];rfl),?_⟩,hBo⟩
      rw [HX.out];exact Or.inl ⟨rfl,rfl⟩
  ·
   have HX:Hid (a1h A (shN n)=true):=b1q (n:=shN n) hb;have hbn:n.b≤0:=by omega
   have HX3:Hid (kidsS A (shN n)=[]):=by rw [HX2.out,show n.b.toNat=0 by omega];rfl
   clear h7 h8 h9 hb;go_enter Tryz.func38,Tryz.ntmps38
   go_upto_region 1 with (fail)
   obtain ⟨s13,hws⟩:∃ s,s=(w.alloc (.cells #[.slice (some ⟨gn,on,none⟩) L cn,v] 25)):=⟨_,rfl⟩;have hBs:=bs1 (Below.refl w.heap.size w) hws;obtain ⟨F,hdF⟩:∃ b,b=w.heap.size:=⟨_,rfl⟩;have hsz:s13.heap.size=w.heap.size+1:=by rw [hws];simp
   have hN:=bx0 (b:=F) hws hdF;have kF0:=hN 0 _ rfl;have kF1:=hN 1 _ rfl;clear hN;have zF:F < s13.heap.size:=by omega
   have lF:w.heap.size≤F:=by omega
   rw [← hws];try rw [← hdF]
   clear hws hsz hdF;have hBo:=hBs;clear hBs;have LN:=HLN.out _ hBo
   go_upto_region 2 with (refine a0c rfl _ _ rfl rfl _ _ _ rfl rfl rfl (by rfl) (by rfl) (by rfl) ?_)
   obtain ⟨s14,hws⟩:∃ s,s=(s13.alloc (.cells #[.int .i64 n.k,.int .i64 n.o,.int .i64 n.a,.int .i64 n.b,.bool n.qn,.string n.qa,.string n.qd,.string n.s,.bool n.tr,.string n.r.sh,.int .i64 n.r.c,.int .i64 n.r.r,.bool n.r.fc,.bool n.r.fr,.string n.t.sh,.int .i64 n.t.c,.int .i64 n.t.r,.bool n.t.fc,.bool n.t.fr] 33)):=⟨_,rfl⟩;have hBs:=bs1 hBo hws;obtain ⟨X,hdX⟩:∃ b,b=s13.heap.size:=⟨_,rfl⟩;have hsz:s14.heap.size=s13.heap.size+1:=by rw [hws];simp
   have hQC:∀ p v,s13.cell? p=some v→s14.cell? p=some v:=fun p v h => by rw [hws];exact (alK h)
   have hQZ:∀ b,b < s13.heap.size→b < s14.heap.size:=fun b h => by omega
   replace kF0:=hQC _ _ kF0;replace kF1:=hQC _ _ kF1;replace zF:=hQZ _ zF;clear hQC hQZ;have yX:=by0 (b:=X) hws hdX;have zX:X < s14.heap.size:=by omega
   have lX:w.heap.size≤X:=by have:=hBo.size;omega
   have LX:=eqL (P:=Tryz.prog) HK19 rfl yX;rw [← hws];try rw [← hdX]
   clear hBo;clear hws hsz hdX;have hBo:=hBs;clear hBs;clear LN;go_wp2_with fail;show Po _ _;rw [HPO.out];refine ⟨⟨_,by first | (rw [HX.out];done) | (rw [HX.out];rfl),?_⟩,hBo⟩
   rw [HX.out,if_pos rfl,HX3.out];exact Or.inl ⟨rfl,rfl⟩
 ·
  have g9:(n.k == 9)=false:=by simpa using h9
  have HX:Hid (a1h A (shN n)=true):=a4d (n:=shN n) h9;have HX3:Hid (kidsS A (shN n)=[]):=(if_neg h7).trans ((if_neg h8).trans (if_neg h9));clear h7 h8 h9;go_enter Tryz.func38,Tryz.ntmps38
  go_upto_region 1 with (fail)
  obtain ⟨s15,hws⟩:∃ s,s=(w.alloc (.cells #[.slice (some ⟨gn,on,none⟩) L cn,v] 25)):=⟨_,rfl⟩;have hBs:=bs1 (Below.refl w.heap.size w) hws;obtain ⟨F,hdF⟩:∃ b,b=w.heap.size:=⟨_,rfl⟩;have hsz:s15.heap.size=w.heap.size+1:=by rw [hws];simp
  have hN:=bx0 (b:=F) hws hdF;have kF0:=hN 0 _ rfl;have kF1:=hN 1 _ rfl;clear hN;have zF:F < s15.heap.size:=by omega
  have lF:w.heap.size≤F:=by omega
  rw [← hws];try rw [← hdF]
  clear hws hsz hdF;have hBo:=hBs;clear hBs;have LN:=HLN.out _ hBo
  go_upto_region 2 with (refine a0c rfl _ _ rfl rfl _ _ _ rfl rfl rfl (by rfl) (by rfl) (by rfl) ?_)
  obtain ⟨s16,hws⟩:∃ s,s=(s15.alloc (.cells #[.int .i64 n.k,.int .i64 n.o,.int .i64 n.a,.int .i64 n.b,.bool n.qn,.string n.qa,.string n.qd,.string n.s,.bool n.tr,.string n.r.sh,.int .i64 n.r.c,.int .i64 n.r.r,.bool n.r.fc,.bool n.r.fr,.string n.t.sh,.int .i64 n.t.c,.int .i64 n.t.r,.bool n.t.fc,.bool n.t.fr] 33)):=⟨_,rfl⟩;have hBs:=bs1 hBo hws;obtain ⟨X,hdX⟩:∃ b,b=s15.heap.size:=⟨_,rfl⟩;have hsz:s16.heap.size=s15.heap.size+1:=by rw [hws];simp
  have hQC:∀ p v,s15.cell? p=some v→s16.cell? p=some v:=fun p v h => by rw [hws];exact (alK h)
  have hQZ:∀ b,b < s15.heap.size→b < s16.heap.size:=fun b h => by omega
  replace kF0:=hQC _ _ kF0;replace kF1:=hQC _ _ kF1;replace zF:=hQZ _ zF;clear hQC hQZ;have yX:=by0 (b:=X) hws hdX;have zX:X < s16.heap.size:=by omega
  have lX:w.heap.size≤X:=by have:=hBo.size;omega
  have LX:=eqL (P:=Tryz.prog) HK19 rfl yX;rw [← hws];try rw [← hdX]
  clear hBo;clear hws hsz hdX;have hBo:=hBs;clear hBs;clear LN;go_wp2_with fail;show Po _ _;rw [HPO.out];refine ⟨⟨_,by first | (rw [HX.out];done) | (rw [HX.out];rfl),?_⟩,hBo⟩
  rw [HX.out,if_pos rfl,HX3.out];exact Or.inl ⟨rfl,rfl⟩
end Go.Proofs.YtfbgmokjemmceaaGreatDoor
