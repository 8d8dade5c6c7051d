import Derived.Test.YtfbgmokjemmceaaGreatDoorAst51
import Derived.Test.YtfbgmokjemmceaaGreatDoorAst39
set_option maxHeartbeats 16000000
set_option maxRecDepth 100000
namespace Go.Proofs.YtfbgmokjemmceaaGreatDoor
open Go.RowKit Go.Shelf
set_option linter.unusedSimpArgs false
set_option linter.unusedVariables false
theorem c0q:a0w [] []=false:=by unfold a0w a1w;simp
theorem b4l (w:World) (hnm:NamesAt w):Calls Tryz.prog 7 #[] w fun e w' => e=.returned (.bool true)∧Below w.heap.size w w':=by
 have hud:undef=Value.tuple #[]:=rfl;obtain ⟨K19,hz19,HK19⟩:=a0q;have HNM:=Lib.hid hnm;have H1:=Lib.hid (fun w => a9g 1 false ⟨#[1]⟩ ⟨#[1]⟩ w (by decide) (by decide) (by decide) (by decide) num_one.1 num_one.2.1 num_one.2.2 (by decide) (by decide) b5r);have H2:=Lib.hid (fun w => a9g 2 false ⟨#[2]⟩ ⟨#[1]⟩ w (by decide) (by decide) (by decide) (by decide) num_two.1 num_two.2.1 num_two.2.2 (by decide) (by decide) b5s);obtain ⟨hmade,hright⟩:=b7g b5r b5s;have hf1:∀ n ∈ [a2k false ⟨#[1]⟩ ⟨#[1]⟩],a2b n:=fun n hn => by rw [List.mem_singleton.1 hn];exact ⟨by decide,by decide,by decide,by decide,by decide⟩
 have hf2:∀ n ∈ [a2k false ⟨#[2]⟩ ⟨#[1]⟩],a2b n:=fun n hn => by rw [List.mem_singleton.1 hn];exact ⟨by decide,by decide,by decide,by decide,by decide⟩
 have hfk:a2b { a7l with a:=0,b:=1 }:=⟨by decide,by decide,by decide,by decide,by decide⟩
 have HT:Hid (∀ u v u2 v2 W,NodesAt W u [a2k false ⟨#[1]⟩ ⟨#[1]⟩]→IntsAt W v []→NodesAt W u2 [a2k false ⟨#[2]⟩ ⟨#[1]⟩]→IntsAt W v2 []→NamesAt W→Calls Tryz.prog 21 #[.int .i64 1,.agg #[u,v],.agg #[u2,v2]] W (c3i ([a2k false ⟨#[1]⟩ ⟨#[1]⟩,a2k false ⟨#[2]⟩ ⟨#[1]⟩,{ a7l with a:=0,b:=1 }],[],0) W)):=fun u v u2 v2 W h1 h2 h3 h4 h5 => by
  rw [← hmade];exact c3j 1 u v u2 v2 _ _ [] [] W h1 h2 h3 h4 hf1 hf2 (by simp) (by simp) (by simp) (by simp) h5
 have HR:=Lib.hid (fun u v W hN hA hnm => a3y u v [a2k false ⟨#[1]⟩ ⟨#[1]⟩,a2k false ⟨#[2]⟩ ⟨#[1]⟩,{ a7l with a:=0,b:=1 }] [] W hN hA (fun n hn => by
  rcases List.mem_cons.1 hn with rfl | hn
  ·
   exact hf1 _ (List.mem_cons_self ..)
  ·
   rcases List.mem_cons.1 hn with rfl | hn
   ·
    exact hf2 _ (List.mem_cons_self ..)
   ·
    rw [List.mem_singleton.1 hn];exact hfk) hnm (by simp) (by simp))
 rw [hright] at HR;have HR0:=Lib.hid (fun W hnm => a3y (.slice none 0 0) (.slice none 0 0) [] [] W (Or.inl ⟨rfl,rfl⟩) (Or.inl ⟨rfl,rfl⟩) (fun n hn => by cases hn) hnm (by simp) (by simp));rw [c0q] at HR0;have ho:=fun w => a9f (-1) (mkR (-1) 1) w (by decide) (by decide) rfl (by decide) (by decide)
 rw [num_neg.1,num_neg.2.1,num_neg.2.2] at ho;have HO:=Lib.hid ho
 have HL:Hid (∀ W,NamesAt W→Calls Tryz.prog 27 #[.agg #[.int .i64 1,.int .i64 0,.int .i64 0,.int .i64 0,.bool true,.string ⟨#[1]⟩,.string ⟨#[1]⟩,.string ⟨#[]⟩,.bool false,.string ⟨#[]⟩,.int .i64 0,.int .i64 0,.bool false,.bool false,.string ⟨#[]⟩,.int .i64 0,.int .i64 0,.bool false,.bool false]] W (FormNew [] [] 3 W)):=fun W h => by
  have h:=b7e (a2k true ⟨#[1]⟩ ⟨#[1]⟩) W ⟨by decide,by decide,by decide,by decide,by decide⟩ h;rw [if_neg (by rw [c3l];exact Bool.false_ne_true)] at h;exact h
 obtain ⟨NK,hNK⟩:∃ z,z=[a2k false ⟨#[1]⟩ ⟨#[1]⟩,a2k false ⟨#[2]⟩ ⟨#[1]⟩,{ a7l with a:=0,b:=1 }]:=⟨_,rfl⟩;rw [← hNK] at HT HR;have HNK:=Lib.hid hNK
 have HEQ:∀ W,(binOp .eql 33 (.agg #[.int .i64 8,.int .i64 1,.int .i64 0,.int .i64 1,.bool false,.string ⟨#[]⟩,.string ⟨#[]⟩,.string ⟨#[]⟩,.bool false,.string ⟨#[]⟩,.int .i64 0,.int .i64 0,.bool false,.bool false,.string ⟨#[]⟩,.int .i64 0,.int .i64 0,.bool false,.bool false]) (.agg #[.int .i64 8,.int .i64 1,.int .i64 0,.int .i64 1,.bool false,.string ⟨#[]⟩,.string ⟨#[]⟩,.string ⟨#[]⟩,.bool false,.string ⟨#[]⟩,.int .i64 0,.int .i64 0,.bool false,.bool false,.string ⟨#[]⟩,.int .i64 0,.int .i64 0,.bool false,.bool false])).run Tryz.prog W=.ok (.bool true) W:=fun W => by
  have h:=a1b { a7l with a:=0,b:=1 } { a7l with a:=0,b:=1 } W;rw [(a2o _ _).2 rfl] at h;exact h
 clear hmade hright hf1 hf2 hfk ho hNK hnm;go_enter Tryz.func7,Tryz.ntmps7;go_wp2_with fail;refine (H1.out w).mono ?_;rintro e w1 ⟨⟨u1,v1,rfl,a1,a2⟩,hb1⟩;have A1:=Lib.hid a1;have A2:=Lib.hid a2;have B1:=Lib.hid hb1;clear a1 a2 hb1;go_wp2_with fail;refine (H2.out w1).mono ?_;rintro e w2 ⟨⟨u2,v2,rfl,a3,a4⟩,hb2⟩;have A3:=Lib.hid a3;have A4:=Lib.hid a4;have B2:=Lib.hid hb2;clear a3 a4 hb2;go_wp2_with fail;refine (HT.out u1 v1 u2 v2 w2 (A1.out.below B2.out) (A2.out.below B2.out) A3.out A4.out ((HNM.out.below B1.out).below B2.out)).mono ?_;rintro e w3 ⟨⟨us,vs,rfl,hn,ha⟩,hb3⟩;dsimp only at hn ha;rw [show NK.length=3 by rw [HNK.out];rfl] at hn;have hnn:=(NodesAt.of_owns (N:=NK) hn).2;have hai:=(IntsAt.of_owns (A:=[]) ha).2;obtain ⟨b5,c5,rfl⟩:=a0l hn;obtain ⟨b6,c6,rfl⟩:=a0l ha;have hBo:Below w.heap.size w w3:=(B1.out.trans (B2.out.mono B1.out.size)).trans (hb3.mono (Nat.le_trans B1.out.size B2.out.size));obtain ⟨bq,cq,hq,hcs⟩:=hnn.slice;obtain ⟨gq,oq,hbq,hc2⟩:=hcs 2 { a7l with a:=0,b:=1 } (by rw [HNK.out];rfl);obtain ⟨rfl,h3,rfl⟩:b5=bq∧3=NK.length∧c5=cq:=by simpa using hq
 clear h3;subst hbq;have HN3:=Lib.hid hnn;have HA3:=Lib.hid hai;have HC2:=Lib.hid hc2;clear hn ha hnn hai hb3 hq hcs hc2 H1 H2 HT A1 A2 A3 A4 B1 B2
 go_upto_region 2 with (fail)
 obtain ⟨s1,hws⟩:∃ s,s=(w3.alloc (.cells #[.slice (some ⟨gq,oq,none⟩) 3 c5,.slice b6 0 c6] 25)):=⟨_,rfl⟩;have hBs:=bs1 hBo hws;obtain ⟨F,hdF⟩:∃ b,b=w3.heap.size:=⟨_,rfl⟩;have hUp:Below w3.heap.size w3 s1:=by rw [hws];exact (a0i (Below.refl _ _))
 have hAF:w3.heap.size≤F:=by omega
 have hsz:s1.heap.size=w3.heap.size+1:=by rw [hws];simp
 have hN:=bx0 (b:=F) hws hdF;have kF0:=hN 0 _ rfl;have kF1:=hN 1 _ rfl;clear hN;have zF:F < s1.heap.size:=by omega
 have lF:w.heap.size≤F:=by have:=hBo.size;omega
 rw [← hws];try rw [← hdF]
 clear hBo;clear hws hsz hdF;have hBo:=hBs;clear hBs;have HU:=Lib.hid hUp;clear hUp hAF;go_wp2_with fail;obtain ⟨wf,hwf⟩:∃ z,z=s1:=⟨_,rfl⟩;subst hwf;refine (HO.out wf).mono ?_;rintro e w5 ⟨rfl,hb⟩;have HU5:=Lib.hid (HU.out.trans (hb.mono HU.out.size));replace kF0:=a0f hb kF0 zF;replace kF1:=a0f hb kF1 zF;replace zF:=zHl hb zF;replace hBo:=hBo.trans (hb.mono hBo.size);clear hb;go_wp2_with fail;refine (HL.out w5 (HNM.out.below hBo)).mono ?_;rintro e w6 ⟨⟨u4,v4,rfl,hn,ha⟩,hb⟩;obtain ⟨b7,c7,rfl⟩:=a0l hn;obtain ⟨b8,c8,rfl⟩:=a0l ha;have HU6:=Lib.hid (HU5.out.trans (hb.mono HU5.out.size));clear hn ha;replace kF0:=a0f hb kF0 zF;replace kF1:=a0f hb kF1 zF;replace zF:=zHl hb zF;replace hBo:=hBo.trans (hb.mono hBo.size);clear hb
 go_upto_region 3 with (fail)
 obtain ⟨s2,hws⟩:∃ s,s=(w6.alloc (.cells #[.slice b7 0 c7,.slice b8 0 c8] 25)):=⟨_,rfl⟩;have hBs:=bs1 hBo hws;obtain ⟨H,hdH⟩:∃ b,b=w6.heap.size:=⟨_,rfl⟩;have hUp:Below w6.heap.size w6 s2:=by rw [hws];exact (a0i (Below.refl _ _))
 have hAH:w6.heap.size≤H:=by omega
 have hsz:s2.heap.size=w6.heap.size+1:=by rw [hws];simp
 have hQC:∀ p v,w6.cell? p=some v→s2.cell? p=some v:=fun p v h => by rw [hws];exact (alK h)
 have hQZ:∀ b,b < w6.heap.size→b < s2.heap.size:=fun b h => by omega
 replace kF0:=hQC _ _ kF0;replace kF1:=hQC _ _ kF1;replace zF:=hQZ _ zF;clear hQC hQZ;have hN:=bx0 (b:=H) hws hdH;have kH0:=hN 0 _ rfl;have kH1:=hN 1 _ rfl;clear hN;have zH:H < s2.heap.size:=by omega
 have lH:w.heap.size≤H:=by have:=hBo.size;omega
 rw [← hws];try rw [← hdH]
 clear hBo;clear hws hsz hdH;have hBo:=hBs;clear hBs;have HU7:=Lib.hid (HU6.out.trans (hUp.mono HU6.out.size));have LN:Sem.run Tryz.prog (loadCellsFrom ⟨gq,oq+2 * K19,none⟩ 0 K19 #[]) s2=.ok #[.int .i64 8,.int .i64 1,.int .i64 0,.int .i64 1,.bool false,.string ⟨#[]⟩,.string ⟨#[]⟩,.string ⟨#[]⟩,.bool false,.string ⟨#[]⟩,.int .i64 0,.int .i64 0,.bool false,.bool false,.string ⟨#[]⟩,.int .i64 0,.int .i64 0,.bool false,.bool false] s2:=a0p _ gq (oq+2 * K19) HK19 { a7l with a:=0,b:=1 } (fun j u hu => by rw [HK19.out];exact a0f HU7.out (HC2.out j u hu) (a0j (HC2.out j u hu)));have HN7:=Lib.hid (HN3.out.below HU7.out);have HA7:=Lib.hid (HA3.out.below HU7.out);have HM7:=Lib.hid (HNM.out.below hBo);clear hUp hAH;go_wp2_with fail;refine (HR.out _ _ _ HN7.out HA7.out HM7.out).mono ?_;rintro e w8 ⟨rfl,hb⟩;replace kF0:=a0f hb kF0 zF;replace kF1:=a0f hb kF1 zF;replace zF:=zHl hb zF;replace kH0:=a0f hb kH0 zH;replace kH1:=a0f hb kH1 zH;replace zH:=zHl hb zH;replace hBo:=hBo.trans (hb.mono hBo.size);clear hb;have HM8:=Lib.hid (HNM.out.below hBo);go_wp2_with fail;refine (HR0.out _ HM8.out).mono ?_;rintro e w9 ⟨rfl,hb⟩;replace kF0:=a0f hb kF0 zF;replace kF1:=a0f hb kF1 zF;replace zF:=zHl hb zF;replace kH0:=a0f hb kH0 zH;replace kH1:=a0f hb kH1 zH;replace zH:=zHl hb zH;replace hBo:=hBo.trans (hb.mono hBo.size);clear hb;go_wp2_with fail
 go_ret
 exact ⟨rfl,hBo⟩
end Go.Proofs.YtfbgmokjemmceaaGreatDoor
