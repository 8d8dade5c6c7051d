/-
  
  
-/
import Derived.Test.YtjfkbeanbbeloaaGreatDoorAst53
import Derived.Test.YtjfkbeanbbeloaaGreatDoorAst49
set_option maxHeartbeats 16000000
set_option maxRecDepth 100000
namespace Go.Proofs.YtjfkbeanbbeloaaGreatDoor
open Go.RowKit Go.Shelf
set_option linter.unusedSimpArgs false
set_option linter.unusedVariables false
theorem d0y {W0:World} {bn:Option Addr} {cn:Nat} {N:List Nd} (h:NodesAt W0 (.slice bn N.length cn) N) {a b:Nat} (hab:a < b) (hb:b≤N.length) :
  ∃ bt ct,(∀ W,Sem.run Tryz.prog (Instr.slice 33 (.slice bn N.length cn) (some (.int .i64 (a:Int))) (some (.int .i64 (b:Int))) none) W=.ok (.slice bt (b - a) ct) W)∧NodesAt W0 (.slice bt (b - a) ct) ((N.take b).drop a):=by
 have hlen:((N.take b).drop a).length=b - a:=by rw [List.length_drop,List.length_take,Nat.min_eq_left hb]
 rcases h with ⟨hv,rfl⟩ | ⟨g,o,cap,hv,h1,h2,hc⟩
 ·
  simp at hb;omega
 ·
  obtain ⟨rfl,rfl⟩:bn=some ⟨g,o,none⟩∧cn=cap:=by simpa using hv
  have h3:(a:Int)≤b:=by omega
  have h4:(b:Int)≤cn:=by omega
  have h5 : ¬ cn - a=0:=by omega
  have h6:a≤b:=by omega
  have h7:b≤cn:=by omega
  refine ⟨some ⟨g,o+a * 19,none⟩,cn - a,fun W => ?_,Or.inr ⟨g,o+a * 19,cn - a,by rw [hlen],by rw [hlen];omega,by omega,fun k n hk j u hu => ?_⟩⟩
  ·
   simp [go_sem,h3,h4,h5,h6,h7,Addr.add_lit];try (intro hx;omega)
  ·
   rw [List.getElem?_drop,List.getElem?_take] at hk
   split at hk
   ·
    have:=hc (a+k) n hk j u hu;rw [show o+(a+k) * 19+j=o+a * 19+k * 19+j by omega] at this;exact this
   ·
    cases hk
theorem d1i {W0:World} {ba:Option Addr} {ca:Nat} {A:List Int} (h:IntsAt W0 (.slice ba A.length ca) A) {a c:Nat} (hb:a+c≤A.length) :
  ∃ bt ct,(∀ W,Sem.run Tryz.prog (Instr.slice 34 (.slice ba A.length ca) (some (.int .i64 (a:Int))) (some (.int .i64 ((a:Int)+(c:Int)))) none) W=.ok (.slice bt c ct) W)∧IntsAt W0 (.slice bt c ct) ((A.drop a).take c):=by
 have hlen:((A.drop a).take c).length=c:=by rw [List.length_take,List.length_drop];omega
 rcases h with ⟨hv,rfl⟩ | ⟨g,o,cap,hv,h1,h2,hc⟩
 ·
  obtain ⟨rfl,rfl⟩:ba=none∧ca=0:=by simpa using hv
  obtain ⟨rfl,rfl⟩:a=0∧c=0:=by simp at hb;omega
  exact ⟨none,0,fun W => by simp [go_sem],Or.inl ⟨rfl,rfl⟩⟩
 ·
  obtain ⟨rfl,rfl⟩:ba=some ⟨g,o,none⟩∧ca=cap:=by simpa using hv
  have h3:(a:Int)≤(a:Int)+c:=by omega
  have h4:(a:Int)+(c:Int)≤ca:=by omega
  have h6:((a:Int)+(c:Int)).toNat=a+c:=by omega
  by_cases h5:ca - a=0
  ·
   obtain rfl:c=0:=by omega
   refine ⟨some ⟨g,o,none⟩,0,fun W => ?_,Or.inr ⟨g,o,0,by rw [hlen],by rw [hlen];exact Nat.le_refl _,Nat.zero_le _,fun k hk => ?_⟩⟩
   ·
    have h7:a≤ca:=by omega
    simp [go_sem,h4,h5,h7];try (intro hx;omega)
   ·
    rw [hlen] at hk;exact absurd hk (Nat.not_lt_zero _)
  ·
   refine ⟨some ⟨g,o+a,none⟩,ca - a,fun W => ?_,?_⟩
   ·
    have h7:a≤ca:=by omega
    have h8:a+c≤ca:=by omega
    simp [go_sem,h3,h4,h5,h6,h7,h8,Addr.add_lit];try (intro hx;omega)
   ·
    exact IntsAt.sub hc hb (by omega) (by omega)
theorem d1q {w s W:World} (HF:Hid (∀ W,Below s.heap.size s W→Below w.heap.size w W)) (h:Below s.heap.size s W:=by repeat (with_reducible first | assumption | exact Below.refl _ _ | apply a0i | apply Below.drew)):Below w.heap.size w W:=HF.out _ h
def d1r (s:World) (v0 v1:Value) (p:Value) (wx:World):Prop:=∃ Q,p=.pointer (some ⟨Q,0,none⟩)∧s.heap.size≤Q∧wx.cell? ⟨Q,0,none⟩=some v0∧wx.cell? ⟨Q,1,none⟩=some v1∧Below s.heap.size s wx
theorem d0j (u v:Value) (N:List Nd) (A:List Int) (i s:Nat) (w:World) (hN:NodesAt w u N) (hA:IntsAt w v A) (hf:∀ n ∈ N,Fits n) (hnm:NamesAt w) (hr:a0w N A=true) (hi:i < N.length) (hF:Forest (N.map shN) A s [(i:Int)] (i+1)) :
  Calls Tryz.prog 11 #[.agg #[u,v],.int .i64 (i:Int)] w (c3i ((c9u N A s i).1,(c9u N A s i).2,0) w):=by
 have hud:undef=Value.tuple #[]:=rfl;have lens:=a4v hr;obtain ⟨l1,l2,l3⟩:=lens;obtain ⟨_,hb9,hcl⟩:=c9t hr;have hall:=c0b hr;have hn9:=b8z hall;have hb20:∀ n ∈ N,n.k=9→0≤n.b∧n.b≤20:=fun n hn h9 => ⟨(hn9 n hn h9).1,(hn9 n hn h9).2.1⟩
 have hsi:s < i+1:=by
  obtain ⟨m,k,_,e2,f1,f2,_⟩:=Forest.last (l:=[]) hF;have:=f1.le;have:=f2.le;omega
 have hok:∀ n ∈ N,kidsOk A (shN n)∧(n.k=9→0≤n.b∧(n.b=0→n.a=0)):=fun n hn => by
  obtain ⟨k,hk⟩:=List.getElem?_of_mem hn;have hk2:=(List.getElem?_eq_some_iff.1 hk).1;have h1:=(a9b (a9t (N:=N)) hr (m:=k) (by rw [List.length_map];exact hk2)).1;rw [show (N.map shN).getD k default=shN n by rw [List.getD_eq_getElem?_getD,List.getElem?_map,hk];rfl] at h1;exact ⟨h1,fun h9 => ⟨(hn9 n hn h9).1,(hn9 n hn h9).2.2⟩⟩
 obtain ⟨bn,cn,rfl,_⟩:=hN.slice;obtain ⟨bv,cv,rfl,_⟩:=hA.slice;have sub1:∀ n ∈ (N.take (i+1)).drop s,n ∈ N:=fun n hn => List.mem_of_mem_take (List.mem_of_mem_drop hn)
 have sub2:∀ n ∈ N.take s,n ∈ N:=fun n hn => List.mem_of_mem_take hn
 have c0:0≤clS (N.take s):=d0o fun n hn => hb9 n (sub2 n hn)
 have c1:0≤clS ((N.take (i+1)).drop s):=d0o fun n hn => hb9 n (sub1 n hn)
 have c2:0≤clS (N.drop (i+1)):=d0o fun n hn => hb9 n (List.mem_of_mem_drop hn)
 have c3:clS (N.take s)+(clS ((N.take (i+1)).drop s)+clS (N.drop (i+1)))=A.length:=by
  rw [← hcl,← c9x,← c9x]
  congr 1
  rw [← List.append_assoc]
  have e1:N.take s ++ (N.take (i+1)).drop s=N.take (i+1):=by
   have:=List.take_append_drop s (N.take (i+1))
   rwa [List.take_take,Nat.min_eq_left (by omega)] at this
  rw [e1,List.take_append_drop]
 obtain ⟨an,han⟩:∃ a:Nat,clS (N.take s)=a:=⟨_,(Int.toNat_of_nonneg c0).symm⟩;obtain ⟨cc,hcc⟩:∃ a:Nat,clS ((N.take (i+1)).drop s)=a:=⟨_,(Int.toNat_of_nonneg c1).symm⟩;have hac:an+cc≤A.length:=by omega
 obtain ⟨hh1,hh2⟩:=d0d hN (b:=s) (by omega);obtain ⟨bt,ct,hs1,hs2⟩:=d0y hN (a:=s) (b:=i+1) hsi (by omega);obtain ⟨bq,cq,ht1,ht2⟩:=d1i hA (a:=an) (c:=cc) hac;have hrt:=fun W hN hA hnm => a3y (.slice bn N.length cn) (.slice bv A.length cv) N A W hN hA hf hnm (by omega) (by omega)
 rw [hr] at hrt;have hhas:=fun W => c5o bn N.length cn (.slice bv A.length cv) (i:Int) W (by omega)
 rw [decide_eq_true (show (0:Int)≤i∧(i:Int) < N.length by omega)] at hhas;have hbeg:=fun W hN hA => d0x (.slice bn N.length cn) (.slice bv A.length cv) N A i s W hN hA hi (by omega) (by omega) hok hF
 have hca1:=fun W h => d0c (.slice bn s cn) (N.take s) W h (fun n hn => hb20 n (sub2 n hn)) (by rw [List.length_take];omega)
 have hca2:=fun W h => d0c (.slice bt (i+1 - s) ct) ((N.take (i+1)).drop s) W h (fun n hn => hb20 n (sub1 n hn)) (by rw [List.length_drop,List.length_take];omega)
 have hmv:=fun W h1 h2 => c0f (.slice bt (i+1 - s) ct) (.slice bq cc cq) ((N.take (i+1)).drop s) ((A.drop an).take cc) (-(s:Int)) (-(an:Int)) W h1 h2 (fun n hn => c0c hr n (sub1 n hn)) (fun x hx => b7b hr x (List.mem_of_mem_drop (List.mem_of_mem_take hx))) (by omega) (by omega) (by omega) (by omega) (by rw [List.length_take,List.length_drop];omega) (by rw [List.length_drop,List.length_take];omega)
 rw [han] at hca1;rw [hcc] at hca2;obtain ⟨RN,hRN⟩:∃ z,z=(c9u N A s i).1:=⟨_,rfl⟩;obtain ⟨RA,hRA⟩:∃ z,z=(c9u N A s i).2:=⟨_,rfl⟩;have e1:((N.take (i+1)).drop s).map (mvN (-(s:Int)) (-(an:Int)))=RN:=by rw [hRN];unfold c9u;rw [han]
 have e2:((A.drop an).take cc).map (·+-(s:Int))=RA:=by rw [hRA];unfold c9u;rw [han,hcc];rfl
 rw [e1,e2] at hmv;obtain ⟨Po,hPo⟩:∃ Po,Po=c3i ((c9u N A s i).1,(c9u N A s i).2,0) w:=⟨_,rfl⟩;rw [← hPo];rw [← hRN,← hRA] at hPo;have HPO:=zh hPo;have HR:Hid (∀ W,Below w.heap.size w W→Calls Tryz.prog 16 #[.agg #[.slice bn N.length cn,.slice bv A.length cv]] W fun e w' => e=.returned (.bool true)∧Below W.heap.size W w'):=fun W h => hrt W (hN.below h) (hA.below h) (hnm.below h)
 have HH:=zh hhas;have HB:Hid (∀ W,Below w.heap.size w W→Calls Tryz.prog 25 #[.agg #[.slice bn N.length cn,.slice bv A.length cv],.int .i64 (i:Int)] W fun e w' => e=.returned (.int .i64 (s:Int))∧Below W.heap.size W w'):=fun W h => hbeg W (hN.below h) (hA.below h)
 have HC1:Hid (∀ W,Below w.heap.size w W→Calls Tryz.prog 26 #[.slice bn s cn] W fun e w' => e=.returned (.int .i64 (an:Int))∧Below W.heap.size W w'):=fun W h => hca1 W (hh2.below h)
 have HC2:Hid (∀ W,Below w.heap.size w W→Calls Tryz.prog 26 #[.slice bt (i+1 - s) ct] W fun e w' => e=.returned (.int .i64 (cc:Int))∧Below W.heap.size W w'):=fun W h => hca2 W (hs2.below h)
 have HMV:Hid (∀ W,Below w.heap.size w W→Calls Tryz.prog 27 #[.agg #[.slice bt (i+1 - s) ct,.slice bq cc cq],.int .i64 (-(s:Int)),.int .i64 (-(an:Int))] W (b9w RN RA W)):=fun W h => hmv W (hs2.below h) (ht2.below h)
 have hq1:IntKind.i64.wrap (-(s:Int))=-(s:Int):=IntWalk.i64_in _ (by omega);have hq2:IntKind.i64.wrap (-(an:Int))=-(an:Int):=IntWalk.i64_in _ (by omega);have hq3:IntKind.i64.wrap ((an:Int)+(cc:Int))=(an:Int)+(cc:Int):=IntWalk.i64_in _ (by omega);obtain ⟨L,hL⟩:∃ L,L=N.length:=⟨_,rfl⟩;obtain ⟨K,hK⟩:∃ K,K=A.length:=⟨_,rfl⟩;obtain ⟨p,hp⟩:∃ p,p=i+1 - s:=⟨_,rfl⟩;have hi1:((i+1:Nat):Int)=(i:Int)+1:=by omega
 rw [hi1] at hs1;rw [← hL] at HR HH HB hh1 hs1 ⊢;rw [← hK] at HR HH HB ht1 ⊢;rw [← hp] at HC2 HMV hs1;have hi3:i≤1000:=by omega
 clear hPo hN hA hf hnm hr hi hF l1 l2 l3 hb9 hcl hall hn9 hb20 hsi hok sub1 sub2 c0 c1 c2 c3 han hcc hac hh2 hs2 ht2 hrt hhas hbeg hca1 hca2 hmv e1 e2 hRN hRA hL hK hp hi1;go_enter Tryz.func11,Tryz.ntmps11;go_wp2_with fail;obtain ⟨s1,hws⟩:∃ s,s=((w.alloc (.cells #[.slice bn L cn,.slice bv K cv] 36)).alloc (.cells #[.slice none 0 0,.slice none 0 0] 36)):=⟨_,rfl⟩;have hBs:=bs2 (Below.refl w.heap.size w) hws;obtain ⟨F,hdF⟩:∃ b,b=w.heap.size:=⟨_,rfl⟩;obtain ⟨R,hdR⟩:∃ b,b=w.heap.size+1:=⟨_,rfl⟩;have hsz:s1.heap.size=w.heap.size+1+1:=by rw [hws];simp
 have dRF:R≠F:=by omega
 have hN:=bx1 (b:=F) hws hdF;have kF0:=hN 0 _ rfl;have kF1:=hN 1 _ rfl;clear hN;have zF:F < s1.heap.size:=by omega
 have lF:w.heap.size≤F:=by omega
 have hN:=bx0 (b:=R) hws (by simp [hdR]);have hM:=bf0 (b:=R) hws (by simp [hdR]);have kR0:=hN 0 _ rfl;have kR1:=hN 1 _ rfl;have fR0:=hM 0;have fR1:=hM 1;clear hN hM;have zR:R < s1.heap.size:=by omega
 have lR:w.heap.size≤R:=by omega
 rw [← hws];try rw [← hdR]
 try rw [← hdF]
 clear hws hsz hdF hdR;have hBo:=hBs;clear hBs;go_wp2_with fail;refine (HR.out _ hBo).mono ?_;rintro e s2 ⟨rfl,hb⟩;replace kF0:=a0f hb kF0 zF;replace kF1:=a0f hb kF1 zF;replace zF:=zHl hb zF;replace kR0:=a0f hb kR0 zR;replace kR1:=a0f hb kR1 zR;replace fR0:=a0g hb fR0 zR;replace fR1:=a0g hb fR1 zR;replace zR:=zHl hb zR;replace hBo:=hBo.trans (hb.mono hBo.size);clear hb;go_wp2_with fail;refine (HH.out _).mono ?_;rintro e s3 ⟨rfl,hb⟩;replace kF0:=a0f hb kF0 zF;replace kF1:=a0f hb kF1 zF;replace zF:=zHl hb zF;replace kR0:=a0f hb kR0 zR;replace kR1:=a0f hb kR1 zR;replace fR0:=a0g hb fR0 zR;replace fR1:=a0g hb fR1 zR;replace zR:=zHl hb zR;replace hBo:=hBo.trans (hb.mono hBo.size);clear hb;go_wp2_with fail;refine (HB.out _ hBo).mono ?_;rintro e s4 ⟨rfl,hb⟩;replace kF0:=a0f hb kF0 zF;replace kF1:=a0f hb kF1 zF;replace zF:=zHl hb zF;replace kR0:=a0f hb kR0 zR;replace kR1:=a0f hb kR1 zR;replace fR0:=a0g hb fR0 zR;replace fR1:=a0g hb fR1 zR;replace zR:=zHl hb zR;replace hBo:=hBo.trans (hb.mono hBo.size);clear hb;go_wp2_with fail;refine (HC1.out _ hBo).mono ?_;rintro e s5 ⟨rfl,hb⟩;replace kF0:=a0f hb kF0 zF;replace kF1:=a0f hb kF1 zF;replace zF:=zHl hb zF;replace kR0:=a0f hb kR0 zR;replace kR1:=a0f hb kR1 zR;replace fR0:=a0g hb fR0 zR;replace fR1:=a0g hb fR1 zR;replace zR:=zHl hb zR;replace hBo:=hBo.trans (hb.mono hBo.size);clear hb
 go_upto_region 8 with (fail)
 go_cut [9] (d1r s5 (.slice bt p ct) (.slice bq cc cq))
 case first =>
  have HF:Hid (∀ W,Below s5.heap.size s5 W→Below w.heap.size w W):=fun W hW => hBo.trans (hW.mono hBo.size)
  clear hBo
  first | (go_region_held3 (fun w' => w'.cell? ⟨F,0,none⟩=some (.slice bn L cn)∧w'.cell? ⟨F,1,none⟩=some (.slice bv K cv)∧w'.cell? ⟨R,0,none⟩=some (.slice none 0 0)∧w'.cell? ⟨R,1,none⟩=some (.slice none 0 0))
   (first | go_keep | ((repeat' apply And.intro) <;> ((repeat (with_reducible first | apply a0b | apply a0x | refine a0e ?_ (by (try dsimp only);omega))) <;> first | assumption | (rw [hcx _ _ (by assumption)];assumption)))) (first
   | (go_at_call 26;refine (HC2.out _ (d1q HF)).mono ?_;rintro e x6 ⟨rfl,hbx⟩;have hTx:Below s5.heap.size s5 x6:=bHb hbx;obtain ⟨hcx,hfx⟩:=a0k hTx;have hzx:=hbx.size;(try simp at hzx);(try have hQZ:=Nat.lt_of_succ_le hzx);(try have hzm:=Nat.lt_of_succ_lt (Nat.lt_of_succ_le hzx));have hzq:=hTx.size;(try have hzo:s5.heap.size < x6.heap.size:=(by omega));(try have hzp:s5.heap.size+1 < x6.heap.size:=(by omega));have hzt:∀ b,b < _→b < _:=fun b h => Nat.lt_of_lt_of_le h hbx.size;obtain ⟨hcy,hfy⟩:=a0k hbx;clear hbx))) | fail
  all_goals go_wp2_with fail
  all_goals go_meet
  all_goals refine ⟨_,rfl,?_,?_,?_,?_⟩
  all_goals first | omega | (simp [*,go_sem];done) | ((repeat (with_reducible refine a0e ?_ (by (try dsimp only);omega)));simp (maxDischargeDepth:=7) [*,go_sem];done) | (repeat (with_reducible first | assumption | exact Below.refl _ _ | apply a0i | apply Below.drew | refine c0x ?_ (by (try dsimp only);omega)))
 case rest =>
  obtain ⟨Q,rfl,hQ,kQ0,kQ1,hT⟩:=hcut;have dRQ:R≠Q:=by omega
  obtain ⟨hcx,hfx⟩:=a0k hT;replace kF0:=(hcx F 0 zF).trans kF0;replace kF1:=(hcx F 1 zF).trans kF1;replace zF:=zHl hT zF;replace kR0:=(hcx R 0 zR).trans kR0;replace fR0:=(hfx R 0 zR).trans fR0;replace kR1:=(hcx R 1 zR).trans kR1;replace fR1:=(hfx R 1 zR).trans fR1;replace zR:=zHl hT zR;have lQ:=Nat.le_trans hBo.size hQ;have zQ:=World.block_lt_of_cell? _ _ kQ0;replace hBo:=hBo.trans (hT.mono hBo.size);clear hT hcx hfx hQ;go_wp2_with fail;refine (HMV.out _ hBo).mono ?_;rintro e w5 ⟨⟨us,vs,rfl,hn5,ha5,_⟩,hb⟩;obtain ⟨rl,hrl⟩:∃ z,z=RN.length:=⟨_,rfl⟩;obtain ⟨al,hal⟩:∃ z,z=RA.length:=⟨_,rfl⟩;rw [← hrl] at hn5;rw [← hal] at ha5;have HRL:=zh hrl;have HAL:=zh hal;clear hrl hal;obtain ⟨b5,c5,rfl⟩:=a0l hn5;obtain ⟨b6,c6,rfl⟩:=a0l ha5;have HN5:=zh hn5;have HA5:=zh ha5;have HZ2:=zh zR;have HLB:=zh hBo.size;clear hn5 ha5;replace kF0:=a0f hb kF0 zF;replace kF1:=a0f hb kF1 zF;replace zF:=zHl hb zF;replace kR0:=a0f hb kR0 zR;replace kR1:=a0f hb kR1 zR;replace fR0:=a0g hb fR0 zR;replace fR1:=a0g hb fR1 zR;replace zR:=zHl hb zR;replace kQ0:=a0f hb kQ0 zQ;replace kQ1:=a0f hb kQ1 zQ;replace zQ:=zHl hb zQ;replace hBo:=hBo.trans (hb.mono hBo.size);clear hb;go_wp2_with fail;refine bodyPost_ret (v:=.tuple #[.agg #[.slice b5 rl c5,.slice b6 al c6],.int .i64 0]) (by simp [results,Tryz.results11,go_sem,kR0,kR1,fR0,fR1,zR]) rfl ?_;rw [HPO.out];have hst:∀ {base size n:Nat} {t:TypeId} {x:Value} {xs:List Value},R < base→w5.ownsRow base t size x n xs→((w5.setCell ⟨R,0,none⟩ (.slice b5 rl c5)).setCell ⟨R,1,none⟩ (.slice b6 al c6)).ownsRow base t size x n xs:=fun h0 h => ownsRow_setCell_below (ownsRow_setCell_below h h0 _) h0 _
  exact ⟨⟨_,_,rfl,by dsimp only;rw [← HRL.out];exact a2f (hst HZ2.out HN5.out) HLB.out,by dsimp only;rw [← HAL.out];exact a2f (hst HZ2.out HA5.out) HLB.out⟩,(hBo.setCell lR _).setCell lR _⟩
set_option maxHeartbeats 8000000
theorem d3a (u v:Value) (N:List Nd) (A:List Int) (i:Int) (w:World) (hN:NodesAt w u N) (hA:IntsAt w v A) (hf:∀ n ∈ N,Fits n) (hnm:NamesAt w) (l1:N.length≤1000) (l2:A.length≤1000) (hno:a0w N A=true→¬ (0≤i∧i < N.length)) :
  Calls Tryz.prog 11 #[.agg #[u,v],.int .i64 i] w (c3i ([],[],if a0w N A then 2 else 3) w):=by
 have hud:undef=Value.tuple #[]:=rfl;obtain ⟨bn,cn,rfl,_⟩:=hN.slice;obtain ⟨bv,cv,rfl,_⟩:=hA.slice;have hrt:=fun W hN hA hnm => a3y (.slice bn N.length cn) (.slice bv A.length cv) N A W hN hA hf hnm l2 l1
 have hhas:=fun W => c5o bn N.length cn (.slice bv A.length cv) i W l1
 obtain ⟨b,hb⟩:∃ b,b=a0w N A:=⟨_,rfl⟩;rw [← hb] at hrt hno ⊢;have HR:Hid (∀ W,Below w.heap.size w W→Calls Tryz.prog 16 #[.agg #[.slice bn N.length cn,.slice bv A.length cv]] W fun e w' => e=.returned (.bool b)∧Below W.heap.size W w'):=fun W h => hrt W (hN.below h) (hA.below h) (hnm.below h)
 have HH:Hid (b=true→∀ W,Calls Tryz.prog 24 #[.agg #[.slice bn N.length cn,.slice bv A.length cv],.int .i64 i] W fun e w' => e=.returned (.bool false)∧Below W.heap.size W w'):=fun h W => by
  have:=hhas W;rw [decide_eq_false (hno h)] at this;exact this
 obtain ⟨L,hL⟩:∃ L,L=N.length:=⟨_,rfl⟩;obtain ⟨K,hK⟩:∃ K,K=A.length:=⟨_,rfl⟩;rw [← hL] at HR HH ⊢;rw [← hK] at HR HH ⊢;clear hN hA hf hnm hno hrt hhas hb hL hK l1 l2
 cases b with
 | false =>
  rw [if_neg Bool.false_ne_true];obtain ⟨Po,hPo⟩:∃ Po,Po=c3i ([],[],3) w:=⟨_,rfl⟩;rw [← hPo];have HPO:=zh hPo;clear hPo HH;go_enter Tryz.func11,Tryz.ntmps11;go_wp2_with fail;obtain ⟨s1,hws⟩:∃ s,s=((w.alloc (.cells #[.slice bn L cn,.slice bv K cv] 36)).alloc (.cells #[.slice none 0 0,.slice none 0 0] 36)):=⟨_,rfl⟩;have hBs:=bs2 (Below.refl w.heap.size w) hws;obtain ⟨F,hdF⟩:∃ b,b=w.heap.size:=⟨_,rfl⟩;obtain ⟨R,hdR⟩:∃ b,b=w.heap.size+1:=⟨_,rfl⟩;have hsz:s1.heap.size=w.heap.size+1+1:=by rw [hws];simp
  have dRF:R≠F:=by omega
  have hN:=bx1 (b:=F) hws hdF;have kF0:=hN 0 _ rfl;have kF1:=hN 1 _ rfl;clear hN;have zF:F < s1.heap.size:=by omega
  have lF:w.heap.size≤F:=by omega
  have hN:=bx0 (b:=R) hws (by simp [hdR]);have hM:=bf0 (b:=R) hws (by simp [hdR]);have kR0:=hN 0 _ rfl;have kR1:=hN 1 _ rfl;have fR0:=hM 0;have fR1:=hM 1;clear hN hM;have zR:R < s1.heap.size:=by omega
  have lR:w.heap.size≤R:=by omega
  rw [← hws];try rw [← hdR]
  try rw [← hdF]
  clear hws hsz hdF hdR;have hBo:=hBs;clear hBs;go_wp2_with fail;refine (HR.out _ hBo).mono ?_;rintro e s2 ⟨rfl,hb⟩;replace kF0:=a0f hb kF0 zF;replace kF1:=a0f hb kF1 zF;replace zF:=zHl hb zF;replace kR0:=a0f hb kR0 zR;replace kR1:=a0f hb kR1 zR;replace fR0:=a0g hb fR0 zR;replace fR1:=a0g hb fR1 zR;replace zR:=zHl hb zR;replace hBo:=hBo.trans (hb.mono hBo.size);clear hb;go_wp2_with fail;refine bodyPost_ret (v:=.tuple #[.agg #[.slice none 0 0,.slice none 0 0],.int .i64 3]) (by simp [results,Tryz.results11,go_sem,kR0,kR1,fR0,fR1,zR]) rfl ?_;rw [HPO.out];exact a1a ((hBo.setCell lR _).setCell lR _)
 | true =>
  rw [if_pos rfl];have HH2:=zh (HH.out rfl);obtain ⟨Po,hPo⟩:∃ Po,Po=c3i ([],[],2) w:=⟨_,rfl⟩;rw [← hPo];have HPO:=zh hPo;clear hPo HH;go_enter Tryz.func11,Tryz.ntmps11;go_wp2_with fail;obtain ⟨s3,hws⟩:∃ s,s=((w.alloc (.cells #[.slice bn L cn,.slice bv K cv] 36)).alloc (.cells #[.slice none 0 0,.slice none 0 0] 36)):=⟨_,rfl⟩;have hBs:=bs2 (Below.refl w.heap.size w) hws;obtain ⟨F,hdF⟩:∃ b,b=w.heap.size:=⟨_,rfl⟩;obtain ⟨R,hdR⟩:∃ b,b=w.heap.size+1:=⟨_,rfl⟩;have hsz:s3.heap.size=w.heap.size+1+1:=by rw [hws];simp
  have dRF:R≠F:=by omega
  have hN:=bx1 (b:=F) hws hdF;have kF0:=hN 0 _ rfl;have kF1:=hN 1 _ rfl;clear hN;have zF:F < s3.heap.size:=by omega
  have lF:w.heap.size≤F:=by omega
  have hN:=bx0 (b:=R) hws (by simp [hdR]);have hM:=bf0 (b:=R) hws (by simp [hdR]);have kR0:=hN 0 _ rfl;have kR1:=hN 1 _ rfl;have fR0:=hM 0;have fR1:=hM 1;clear hN hM;have zR:R < s3.heap.size:=by omega
  have lR:w.heap.size≤R:=by omega
  rw [← hws];try rw [← hdR]
  try rw [← hdF]
  clear hws hsz hdF hdR;have hBo:=hBs;clear hBs;go_wp2_with fail;refine (HR.out _ hBo).mono ?_;rintro e s4 ⟨rfl,hb⟩;replace kF0:=a0f hb kF0 zF;replace kF1:=a0f hb kF1 zF;replace zF:=zHl hb zF;replace kR0:=a0f hb kR0 zR;replace kR1:=a0f hb kR1 zR;replace fR0:=a0g hb fR0 zR;replace fR1:=a0g hb fR1 zR;replace zR:=zHl hb zR;replace hBo:=hBo.trans (hb.mono hBo.size);clear hb;go_wp2_with fail;refine (HH2.out _).mono ?_;rintro e s5 ⟨rfl,hb⟩;replace kF0:=a0f hb kF0 zF;replace kF1:=a0f hb kF1 zF;replace zF:=zHl hb zF;replace kR0:=a0f hb kR0 zR;replace kR1:=a0f hb kR1 zR;replace fR0:=a0g hb fR0 zR;replace fR1:=a0g hb fR1 zR;replace zR:=zHl hb zR;replace hBo:=hBo.trans (hb.mono hBo.size);clear hb;go_wp2_with fail;refine bodyPost_ret (v:=.tuple #[.agg #[.slice none 0 0,.slice none 0 0],.int .i64 2]) (by simp [results,Tryz.results11,go_sem,kR0,kR1,fR0,fR1,zR]) rfl ?_;rw [HPO.out];exact a1a ((hBo.setCell lR _).setCell lR _)
end Go.Proofs.YtjfkbeanbbeloaaGreatDoor
