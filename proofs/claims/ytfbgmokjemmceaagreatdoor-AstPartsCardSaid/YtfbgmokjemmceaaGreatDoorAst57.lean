/-
  
  
  
-/
import Derived.Test.YtfbgmokjemmceaaGreatDoorAst53
import Derived.Test.YtfbgmokjemmceaaGreatDoorAst52
set_option maxHeartbeats 16000000
set_option maxRecDepth 100000
namespace Go.Proofs.YtfbgmokjemmceaaGreatDoor
open Go.RowKit Go.Shelf
set_option linter.unusedSimpArgs false
set_option linter.unusedVariables false
theorem d0y {W0:World} {bn:Option Addr} {cn:Nat} {N:List Nd} (h:NodesAt W0 (.slice bn N.length cn) N) {a b:Nat} (hab:a < b) (hb:b≤N.length) :
  ∃ bt ct,(∀ W,Sem.run Tryz.prog (Instr.slice 22 (.slice bn N.length cn) (some (.int .i64 (a:Int))) (some (.int .i64 (b:Int))) none) W=.ok (.slice bt (b - a) ct) W)∧NodesAt W0 (.slice bt (b - a) ct) ((N.take b).drop a):=by
 have hlen:((N.take b).drop a).length=b - a:=by rw [List.length_drop,List.length_take,Nat.min_eq_left hb]
 rcases h with ⟨hv,rfl⟩ | ⟨g,o,cap,hv,h1,h2,hc⟩
 ·
  simp at hb;omega
 ·
  obtain ⟨rfl,rfl⟩:bn=some ⟨g,o,none⟩∧cn=cap:=by simpa using hv
  have h3:(a:Int)≤b:=by omega
  have h4:(b:Int)≤cn:=by omega
  have h5 : ¬ cn - a=0:=by omega
  have h6:a≤b:=by omega
  have h7:b≤cn:=by omega
  refine ⟨some ⟨g,o+a * 19,none⟩,cn - a,fun W => ?_,Or.inr ⟨g,o+a * 19,cn - a,by rw [hlen],by rw [hlen];omega,by omega,fun k n hk j u hu => ?_⟩⟩
  ·
   simp [go_sem,h3,h4,h5,h6,h7,Addr.add_lit];try (intro hx;omega)
  ·
   rw [List.getElem?_drop,List.getElem?_take] at hk
   split at hk
   ·
    have:=hc (a+k) n hk j u hu;rw [show o+(a+k) * 19+j=o+a * 19+k * 19+j by omega] at this;exact this
   ·
    cases hk
theorem d1i {W0:World} {ba:Option Addr} {ca:Nat} {A:List Int} (h:IntsAt W0 (.slice ba A.length ca) A) {a c:Nat} (hb:a+c≤A.length) :
  ∃ bt ct,(∀ W,Sem.run Tryz.prog (Instr.slice 23 (.slice ba A.length ca) (some (.int .i64 (a:Int))) (some (.int .i64 ((a:Int)+(c:Int)))) none) W=.ok (.slice bt c ct) W)∧IntsAt W0 (.slice bt c ct) ((A.drop a).take c):=by
 have hlen:((A.drop a).take c).length=c:=by rw [List.length_take,List.length_drop];omega
 rcases h with ⟨hv,rfl⟩ | ⟨g,o,cap,hv,h1,h2,hc⟩
 ·
  obtain ⟨rfl,rfl⟩:ba=none∧ca=0:=by simpa using hv
  obtain ⟨rfl,rfl⟩:a=0∧c=0:=by simp at hb;omega
  exact ⟨none,0,fun W => by simp [go_sem],Or.inl ⟨rfl,rfl⟩⟩
 ·
  obtain ⟨rfl,rfl⟩:ba=some ⟨g,o,none⟩∧ca=cap:=by simpa using hv
  have h3:(a:Int)≤(a:Int)+c:=by omega
  have h4:(a:Int)+(c:Int)≤ca:=by omega
  have h6:((a:Int)+(c:Int)).toNat=a+c:=by omega
  by_cases h5:ca - a=0
  ·
   obtain rfl:c=0:=by omega
   refine ⟨some ⟨g,o,none⟩,0,fun W => ?_,Or.inr ⟨g,o,0,by rw [hlen],by rw [hlen];exact Nat.le_refl _,Nat.zero_le _,fun k hk => ?_⟩⟩
   ·
    have h7:a≤ca:=by omega
    simp [go_sem,h4,h5,h7];try (intro hx;omega)
   ·
    rw [hlen] at hk;exact absurd hk (Nat.not_lt_zero _)
  ·
   refine ⟨some ⟨g,o+a,none⟩,ca - a,fun W => ?_,?_⟩
   ·
    have h7:a≤ca:=by omega
    have h8:a+c≤ca:=by omega
    simp [go_sem,h3,h4,h5,h6,h7,h8,Addr.add_lit];try (intro hx;omega)
   ·
    exact IntsAt.sub hc hb (by omega) (by omega)
theorem d1q {w s W:World} (HF:Hid (∀ W,Below s.heap.size s W→Below w.heap.size w W)) (h:Below s.heap.size s W:=by repeat (with_reducible first | assumption | exact Below.refl _ _ | apply a0i | apply Below.drew)):Below w.heap.size w W:=HF.out _ h
def d1r (s:World) (v0 v1:Value) (p:Value) (wx:World):Prop:=∃ Q,p=.pointer (some ⟨Q,0,none⟩)∧s.heap.size≤Q∧wx.cell? ⟨Q,0,none⟩=some v0∧wx.cell? ⟨Q,1,none⟩=some v1∧Below s.heap.size s wx
theorem d0j (u v:Value) (N:List Nd) (A:List Int) (i s:Nat) (w:World) (hN:NodesAt w u N) (hA:IntsAt w v A) (hf:∀ n ∈ N,a2b n) (hnm:NamesAt w) (hr:a0w N A=true) (hi:i < N.length) (hF:Forest (N.map shN) A s [(i:Int)] (i+1)) :
  Calls Tryz.prog 25 #[.agg #[u,v],.int .i64 (i:Int)] w (c3i ((c9u N A s i).1,(c9u N A s i).2,0) w):=by
 have hud:undef=Value.tuple #[]:=rfl;have lens:=a4v hr;obtain ⟨l1,l2,l3⟩:=lens;obtain ⟨_,hb9,hcl⟩:=c9t hr;have hall:=c0b hr;have hn9:=b8z hall;have hb20:∀ n ∈ N,n.k=9→0≤n.b∧n.b≤20:=fun n hn h9 => ⟨(hn9 n hn h9).1,(hn9 n hn h9).2.1⟩
 have hsi:s < i+1:=by
  obtain ⟨m,k,_,e2,f1,f2,_⟩:=Forest.last (l:=[]) hF;have:=f1.le;have:=f2.le;omega
 have hok:∀ n ∈ N,kidsOk A (shN n)∧(n.k=9→0≤n.b∧(n.b=0→n.a=0)):=fun n hn => by
  obtain ⟨k,hk⟩:=List.getElem?_of_mem hn;have hk2:=(List.getElem?_eq_some_iff.1 hk).1;have h1:=(a9b (a9t (N:=N)) hr (m:=k) (by rw [List.length_map];exact hk2)).1;rw [show (N.map shN).getD k default=shN n by rw [List.getD_eq_getElem?_getD,List.getElem?_map,hk];rfl] at h1;exact ⟨h1,fun h9 => ⟨(hn9 n hn h9).1,(hn9 n hn h9).2.2⟩⟩
 obtain ⟨bn,cn,rfl,_⟩:=hN.slice;obtain ⟨bv,cv,rfl,_⟩:=hA.slice;have sub1:∀ n ∈ (N.take (i+1)).drop s,n ∈ N:=fun n hn => List.mem_of_mem_take (List.mem_of_mem_drop hn)
 have sub2:∀ n ∈ N.take s,n ∈ N:=fun n hn => List.mem_of_mem_take hn
 have c0:0≤clS (N.take s):=d0o fun n hn => hb9 n (sub2 n hn)
 have c1:0≤clS ((N.take (i+1)).drop s):=d0o fun n hn => hb9 n (sub1 n hn)
 have c2:0≤clS (N.drop (i+1)):=d0o fun n hn => hb9 n (List.mem_of_mem_drop hn)
 have c3:clS (N.take s)+(clS ((N.take (i+1)).drop s)+clS (N.drop (i+1)))=A.length:=by
  rw [← hcl,← c9x,← c9x]
  congr 1
  rw [← List.append_assoc]
  have e1:N.take s ++ (N.take (i+1)).drop s=N.take (i+1):=by
   have:=List.take_append_drop s (N.take (i+1))
   rwa [List.take_take,Nat.min_eq_left (by omega)] at this
  rw [e1,List.take_append_drop]
 obtain ⟨an,han⟩:∃ a:Nat,clS (N.take s)=a:=⟨_,(Int.toNat_of_nonneg c0).symm⟩;obtain ⟨cc,hcc⟩:∃ a:Nat,clS ((N.take (i+1)).drop s)=a:=⟨_,(Int.toNat_of_nonneg c1).symm⟩;have hac:an+cc≤A.length:=by omega
 obtain ⟨hh1,hh2⟩:=d0d hN (b:=s) (by omega);obtain ⟨bt,ct,hs1,hs2⟩:=d0y hN (a:=s) (b:=i+1) hsi (by omega);obtain ⟨bq,cq,ht1,ht2⟩:=d1i hA (a:=an) (c:=cc) hac;have hrt:=fun W hN hA hnm => a3y (.slice bn N.length cn) (.slice bv A.length cv) N A W hN hA hf hnm (by omega) (by omega)
 rw [hr] at hrt;have hhas:=fun W => c5o bn N.length cn (.slice bv A.length cv) (i:Int) W (by omega)
 rw [decide_eq_true (show (0:Int)≤i∧(i:Int) < N.length by omega)] at hhas;have hbeg:=fun W hN hA => d0x (.slice bn N.length cn) (.slice bv A.length cv) N A i s W hN hA hi (by omega) (by omega) hok hF
 have hca1:=fun W h => d0c (.slice bn s cn) (N.take s) W h (fun n hn => hb20 n (sub2 n hn)) (by rw [List.length_take];omega)
 have hca2:=fun W h => d0c (.slice bt (i+1 - s) ct) ((N.take (i+1)).drop s) W h (fun n hn => hb20 n (sub1 n hn)) (by rw [List.length_drop,List.length_take];omega)
 have hmv:=fun W h1 h2 => c0f (.slice bt (i+1 - s) ct) (.slice bq cc cq) ((N.take (i+1)).drop s) ((A.drop an).take cc) (-(s:Int)) (-(an:Int)) W h1 h2 (fun n hn => c0c hr n (sub1 n hn)) (fun x hx => b7b hr x (List.mem_of_mem_drop (List.mem_of_mem_take hx))) (by omega) (by omega) (by omega) (by omega) (by rw [List.length_take,List.length_drop];omega) (by rw [List.length_drop,List.length_take];omega)
 rw [han] at hca1;rw [hcc] at hca2;obtain ⟨RN,hRN⟩:∃ z,z=(c9u N A s i).1:=⟨_,rfl⟩;obtain ⟨RA,hRA⟩:∃ z,z=(c9u N A s i).2:=⟨_,rfl⟩;have e1:((N.take (i+1)).drop s).map (mvN (-(s:Int)) (-(an:Int)))=RN:=by rw [hRN];unfold c9u;rw [han]
 have e2:((A.drop an).take cc).map (·+-(s:Int))=RA:=by rw [hRA];unfold c9u;rw [han,hcc];rfl
 rw [e1,e2] at hmv;obtain ⟨Po,hPo⟩:∃ Po,Po=c3i ((c9u N A s i).1,(c9u N A s i).2,0) w:=⟨_,rfl⟩;rw [← hPo];rw [← hRN,← hRA] at hPo;have HPO:=Lib.hid hPo;have HR:Hid (∀ W,Below w.heap.size w W→Calls Tryz.prog 8 #[.agg #[.slice bn N.length cn,.slice bv A.length cv]] W fun e w' => e=.returned (.bool true)∧Below W.heap.size W w'):=fun W h => hrt W (hN.below h) (hA.below h) (hnm.below h)
 have HH:=Lib.hid hhas;have HB:Hid (∀ W,Below w.heap.size w W→Calls Tryz.prog 45 #[.agg #[.slice bn N.length cn,.slice bv A.length cv],.int .i64 (i:Int)] W fun e w' => e=.returned (.int .i64 (s:Int))∧Below W.heap.size W w'):=fun W h => hbeg W (hN.below h) (hA.below h)
 have HC1:Hid (∀ W,Below w.heap.size w W→Calls Tryz.prog 46 #[.slice bn s cn] W fun e w' => e=.returned (.int .i64 (an:Int))∧Below W.heap.size W w'):=fun W h => hca1 W (hh2.below h)
 have HC2:Hid (∀ W,Below w.heap.size w W→Calls Tryz.prog 46 #[.slice bt (i+1 - s) ct] W fun e w' => e=.returned (.int .i64 (cc:Int))∧Below W.heap.size W w'):=fun W h => hca2 W (hs2.below h)
 have HMV:Hid (∀ W,Below w.heap.size w W→Calls Tryz.prog 47 #[.agg #[.slice bt (i+1 - s) ct,.slice bq cc cq],.int .i64 (-(s:Int)),.int .i64 (-(an:Int))] W (b9w RN RA W)):=fun W h => hmv W (hs2.below h) (ht2.below h)
 have hq1:IntKind.i64.wrap (-(s:Int))=-(s:Int):=IntWalk.i64_in _ (by omega);have hq2:IntKind.i64.wrap (-(an:Int))=-(an:Int):=IntWalk.i64_in _ (by omega);have hq3:IntKind.i64.wrap ((an:Int)+(cc:Int))=(an:Int)+(cc:Int):=IntWalk.i64_in _ (by omega);obtain ⟨L,hL⟩:∃ L,L=N.length:=⟨_,rfl⟩;obtain ⟨K,hK⟩:∃ K,K=A.length:=⟨_,rfl⟩;obtain ⟨p,hp⟩:∃ p,p=i+1 - s:=⟨_,rfl⟩;have hi1:((i+1:Nat):Int)=(i:Int)+1:=by omega
 rw [hi1] at hs1;rw [← hL] at HR HH HB hh1 hs1 ⊢;rw [← hK] at HR HH HB ht1 ⊢;rw [← hp] at HC2 HMV hs1;have hi3:i≤1000:=by omega
 clear hPo hN hA hf hnm hr hi hF l1 l2 l3 hb9 hcl hall hn9 hb20 hsi hok sub1 sub2 c0 c1 c2 c3 han hcc hac hh2 hs2 ht2 hrt hhas hbeg hca1 hca2 hmv e1 e2 hRN hRA hL hK hp hi1;go_enter Tryz.func25,Tryz.ntmps25;go_wp2_with fail;obtain ⟨s1,hws⟩:∃ s,s=((w.alloc (.cells #[.slice bn L cn,.slice bv K cv] 25)).alloc (.cells #[.slice none 0 0,.slice none 0 0] 25)):=⟨_,rfl⟩;have hBs:=bs2 (Below.refl w.heap.size w) hws;obtain ⟨F,hdF⟩:∃ b,b=w.heap.size:=⟨_,rfl⟩;obtain ⟨R,hdR⟩:∃ b,b=w.heap.size+1:=⟨_,rfl⟩;have hsz:s1.heap.size=w.heap.size+1+1:=by rw [hws];simp
 have dRF:R≠F:=by omega
 have hN:=bx1 (b:=F) hws hdF;have kF0:=hN 0 _ rfl;have kF1:=hN 1 _ rfl;clear hN;have zF:F < s1.heap.size:=by omega
 have lF:w.heap.size≤F:=by omega
 have hN:=bx0 (b:=R) hws (by simp [hdR]);have hM:=bf0 (b:=R) hws (by simp [hdR]);have kR0:=hN 0 _ rfl;have kR1:=hN 1 _ rfl;have fR0:=hM 0;have fR1:=hM 1;clear hN hM;have zR:R < s1.heap.size:=by omega
 have lR:w.heap.size≤R:=by omega
 rw [← hws];try rw [← hdR]
 try rw [← hdF]
 clear hws hsz hdF hdR;have hBo:=hBs;clear hBs;go_wp2_with fail;refine (HR.out _ hBo).mono ?_;rintro e s2 ⟨rfl,hb⟩;replace kF0:=a0f hb kF0 zF;replace kF1:=a0f hb kF1 zF;replace zF:=zHl hb zF;replace kR0:=a0f hb kR0 zR;replace kR1:=a0f hb kR1 zR;replace fR0:=a0g hb fR0 zR;replace fR1:=a0g hb fR1 zR;replace zR:=zHl hb zR;replace hBo:=hBo.trans (hb.mono hBo.size);clear hb;go_wp2_with fail;refine (HH.out _).mono ?_;rintro e s3 ⟨rfl,hb⟩;replace kF0:=a0f hb kF0 zF;replace kF1:=a0f hb kF1 zF;replace zF:=zHl hb zF;replace kR0:=a0f hb kR0 zR;replace kR1:=a0f hb kR1 zR;replace fR0:=a0g hb fR0 zR;replace fR1:=a0g hb fR1 zR;replace zR:=zHl hb zR;replace hBo:=hBo.trans (hb.mono hBo.size);clear hb;go_wp2_with fail;refine (HB.out _ hBo).mono ?_;rintro e s4 ⟨rfl,hb⟩;replace kF0:=a0f hb kF0 zF;replace kF1:=a0f hb kF1 zF;replace zF:=zHl hb zF;replace kR0:=a0f hb kR0 zR;replace kR1:=a0f hb kR1 zR;replace fR0:=a0g hb fR0 zR;replace fR1:=a0g hb fR1 zR;replace zR:=zHl hb zR;replace hBo:=hBo.trans (hb.mono hBo.size);clear hb;go_wp2_with fail;refine (HC1.out _ hBo).mono ?_;rintro e s5 ⟨rfl,hb⟩;replace kF0:=a0f hb kF0 zF;replace kF1:=a0f hb kF1 zF;replace zF:=zHl hb zF;replace kR0:=a0f hb kR0 zR;replace kR1:=a0f hb kR1 zR;replace fR0:=a0g hb fR0 zR;replace fR1:=a0g hb fR1 zR;replace zR:=zHl hb zR;replace hBo:=hBo.trans (hb.mono hBo.size);clear hb
 go_upto_region 8 with (fail)
 go_cut [9] (d1r s5 (.slice bt p ct) (.slice bq cc cq))
 case first =>
  have HF:Hid (∀ W,Below s5.heap.size s5 W→Below w.heap.size w W):=fun W hW => hBo.trans (hW.mono hBo.size)
  clear hBo
  first | (go_region_held3 (fun w' => w'.cell? ⟨F,0,none⟩=some (.slice bn L cn)∧w'.cell? ⟨F,1,none⟩=some (.slice bv K cv)∧w'.cell? ⟨R,0,none⟩=some (.slice none 0 0)∧w'.cell? ⟨R,1,none⟩=some (.slice none 0 0))
   (first | go_keep | ((repeat' apply And.intro) <;> ((repeat (with_reducible first | apply a0b | apply a0x | refine a0e ?_ (by (try dsimp only);omega))) <;> first | assumption | (rw [hcx _ _ (by assumption)];assumption)))) (first
   | (go_at_call 46;refine (HC2.out _ (d1q HF)).mono ?_;rintro e x6 ⟨rfl,hbx⟩;have hTx:Below s5.heap.size s5 x6:=bHb hbx;obtain ⟨hcx,hfx⟩:=a0k hTx;have hzx:=hbx.size;(try simp at hzx);(try have hQZ:=Nat.lt_of_succ_le hzx);(try have hzm:=Nat.lt_of_succ_lt (Nat.lt_of_succ_le hzx));have hzq:=hTx.size;(try have hzo:s5.heap.size < x6.heap.size:=(by omega));(try have hzp:s5.heap.size+1 < x6.heap.size:=(by omega));have hzt:∀ b,b < _→b < _:=fun b h => Nat.lt_of_lt_of_le h hbx.size;obtain ⟨hcy,hfy⟩:=a0k hbx;clear hbx))) | fail
  all_goals go_wp2_with fail
  all_goals go_meet
  all_goals refine ⟨_,rfl,?_,?_,?_,?_⟩
  all_goals first | omega | (simp [*,go_sem];done) | ((repeat (with_reducible refine a0e ?_ (by (try dsimp only);omega)));simp (maxDischargeDepth:=7) [*,go_sem];done) | (repeat (with_reducible first | assumption | exact Below.refl _ _ | apply a0i | apply Below.drew | refine c0x ?_ (by (try dsimp only);omega)))
 case rest =>
  obtain ⟨Q,rfl,hQ,kQ0,kQ1,hT⟩:=hcut;have dRQ:R≠Q:=by omega
  obtain ⟨hcx,hfx⟩:=a0k hT;replace kF0:=(hcx F 0 zF).trans kF0;replace kF1:=(hcx F 1 zF).trans kF1;replace zF:=zHl hT zF;replace kR0:=(hcx R 0 zR).trans kR0;replace fR0:=(hfx R 0 zR).trans fR0;replace kR1:=(hcx R 1 zR).trans kR1;replace fR1:=(hfx R 1 zR).trans fR1;replace zR:=zHl hT zR;have lQ:=Nat.le_trans hBo.size hQ;have zQ:=World.block_lt_of_cell? _ _ kQ0;replace hBo:=hBo.trans (hT.mono hBo.size);clear hT hcx hfx hQ;go_wp2_with fail;refine (HMV.out _ hBo).mono ?_;rintro e w5 ⟨⟨us,vs,rfl,hn5,ha5,_⟩,hb⟩;obtain ⟨rl,hrl⟩:∃ z,z=RN.length:=⟨_,rfl⟩;obtain ⟨al,hal⟩:∃ z,z=RA.length:=⟨_,rfl⟩;rw [← hrl] at hn5;rw [← hal] at ha5;have HRL:=Lib.hid hrl;have HAL:=Lib.hid hal;clear hrl hal;obtain ⟨b5,c5,rfl⟩:=a0l hn5;obtain ⟨b6,c6,rfl⟩:=a0l ha5;have HN5:=Lib.hid hn5;have HA5:=Lib.hid ha5;have HZ2:=Lib.hid zR;have HLB:=Lib.hid hBo.size;clear hn5 ha5;replace kF0:=a0f hb kF0 zF;replace kF1:=a0f hb kF1 zF;replace zF:=zHl hb zF;replace kR0:=a0f hb kR0 zR;replace kR1:=a0f hb kR1 zR;replace fR0:=a0g hb fR0 zR;replace fR1:=a0g hb fR1 zR;replace zR:=zHl hb zR;replace kQ0:=a0f hb kQ0 zQ;replace kQ1:=a0f hb kQ1 zQ;replace zQ:=zHl hb zQ;replace hBo:=hBo.trans (hb.mono hBo.size);clear hb;go_wp2_with fail;refine bodyPost_ret (v:=.tuple #[.agg #[.slice b5 rl c5,.slice b6 al c6],.int .i64 0]) (by simp [results,Tryz.results25,go_sem,kR0,kR1,fR0,fR1,zR]) rfl ?_;rw [HPO.out];have hst:∀ {base size n:Nat} {t:TypeId} {x:Value} {xs:List Value},R < base→w5.ownsRow base t size x n xs→((w5.setCell ⟨R,0,none⟩ (.slice b5 rl c5)).setCell ⟨R,1,none⟩ (.slice b6 al c6)).ownsRow base t size x n xs:=fun h0 h => ownsRow_setCell_below (ownsRow_setCell_below h h0 _) h0 _
  exact ⟨⟨_,_,rfl,by dsimp only;rw [← HRL.out];exact a2f (hst HZ2.out HN5.out) HLB.out,by dsimp only;rw [← HAL.out];exact a2f (hst HZ2.out HA5.out) HLB.out⟩,(hBo.setCell lR _).setCell lR _⟩
end Go.Proofs.YtfbgmokjemmceaaGreatDoor
namespace Go.Proofs.YtfbgmokjemmceaaGreatDoor
open Go.RowKit Go.Shelf
theorem d0t {N X:List Nd} {A Y:List Int} (h:clS N=A.length) (h0:0 < N.length):c9u (N ++ X) (A ++ Y) 0 (N.length - 1)=(N,A):=by
 unfold c9u;rw [show N.length - 1+1=N.length by omega,List.take_left' rfl,List.drop_zero,List.take_zero,show clS []=0 from rfl,h,Int.toNat_natCast]
 have e:N.map (mvN (-((0:Nat):Int)) (-0))=N:=by
  conv => rhs;rw [← List.map_id N]
  exact List.map_congr_left fun n _ => d0q n
 have e2:A.map (·+-((0:Nat):Int))=A:=by
  conv => rhs;rw [← List.map_id A]
  exact List.map_congr_left fun n _ => by simp
 rw [e,show (0:Int).toNat=0 from rfl,List.drop_zero,List.take_left' rfl,e2]
theorem c9z {n:Nd} {N M RN:List Nd} {A B RA:List Int} {c:Int} (h:a3a n [(N,A),(M,B)]=(RN,RA,c)) (hn:a2b n) (h1:∀ m ∈ N,a2b m) (h2:∀ m ∈ M,a2b m):∀ m ∈ RN,a2b m:=by
 have ht:a2b (a5k n (a0u [(N,A),(M,B)])):=by
                             unfold a5k;split;· exact hn
                             split <;> exact hn
 have hj:=c5v [(N,A),(M,B)] Jn.nil (fun n h => by cases h) (fun g hg => by
  rcases List.mem_cons.1 hg with rfl | hg
  ·
   exact h1
  ·
   rw [List.mem_singleton.1 hg];exact h2)
 unfold a3a at h
 split at h
 ·
  split at h
  ·
   simp only [Prod.mk.injEq] at h;obtain ⟨rfl,_⟩:=h;intro m hm;cases hm
  ·
   split at h
   ·
    simp only [Prod.mk.injEq] at h;obtain ⟨rfl,_⟩:=h;intro m hm
    rcases List.mem_append.1 hm with hm | hm
    ·
     exact hj m hm
    ·
     rw [List.mem_singleton.1 hm];exact ht
   ·
    simp only [Prod.mk.injEq] at h;obtain ⟨rfl,_⟩:=h;intro m hm;cases hm
 ·
  simp only [Prod.mk.injEq] at h;obtain ⟨rfl,_⟩:=h;intro m hm;cases hm
theorem c9v {n:Nd} (hk:n.k=8 ∨ n.k=9) {N M RN:List Nd} {A B RA:List Int} (h:a3a n [(N,A),(M,B)]=(RN,RA,0)) :
  1≤N.length∧1≤M.length∧RN.length=N.length+M.length+1∧RN.length≤300∧RA.length≤300∧a5e RN RA ((RN.length:Int) - 1)=[((N.length - 1:Nat):Int),((N.length+M.length - 1:Nat):Int)]:=by
 obtain ⟨hf,hg,hr,T,Y,rfl,rfl,hkids,_,_⟩:=c9w hk h;have l1:=a4v hf;have l2:=a4v hg;have l3:=a4v hr
 have hlen:(N ++ M.map (mvN N.length A.length) ++ [T]).length=N.length+M.length+1:=by
  simp only [List.length_append,List.length_map,List.length_cons,List.length_nil]
 refine ⟨l1.1,l2.1,hlen,l3.2.1,by omega,?_⟩;unfold a5e;rw [if_pos ⟨hr,by omega,by omega⟩,← hkids,hlen,show (((N.length+M.length+1:Nat):Int) - 1).toNat=N.length+M.length by omega]
 congr 1
 rw [List.map_append,List.getD_eq_getElem?_getD,List.getElem?_append_right (by simp)];simp
theorem d0k {n:Nd} (hk:n.k=8 ∨ n.k=9) {N M RN:List Nd} {A B RA:List Int} (h:a3a n [(N,A),(M,B)]=(RN,RA,0)) (hn:a2b n) (h1:∀ m ∈ N,a2b m) (h2:∀ m ∈ M,a2b m) (u v:Value) (i:Int) (W:World) (hi:i=((N.length - 1:Nat):Int))
  (hN:NodesAt W u RN) (hA:IntsAt W v RA) (hnm:NamesAt W):Calls Tryz.prog 25 #[.agg #[u,v],.int .i64 i] W (c3i (N,A,0) W):=by
 obtain ⟨l1,l2,hlen,_,_,_⟩:=c9v hk h;have hft:=c9z h hn h1 h2;obtain ⟨hf,hg,hr,T,Y,hRN,hRA,hkids,hF,_⟩:=c9w hk h;obtain ⟨_,_,hc⟩:=c9t hf;have hc':=d0j u v RN RA (N.length - 1) 0 W hN hA hft hnm hr (by omega) (by rw [show N.length - 1+1=N.length by omega];exact hF)
 have e:c9u RN RA 0 (N.length - 1)=(N,A):=by
  rw [hRN,hRA,List.append_assoc,List.append_assoc];exact d0t hc (by omega)
 rw [e] at hc';subst hi;exact hc'
theorem d0l {n:Nd} (hk:n.k=8 ∨ n.k=9) {N M RN:List Nd} {A B RA:List Int} (h:a3a n [(N,A),(M,B)]=(RN,RA,0)) (hn:a2b n) (h1:∀ m ∈ N,a2b m) (h2:∀ m ∈ M,a2b m) (u v:Value) (i:Int) (W:World) (hi:i=((N.length+M.length - 1:Nat):Int))
  (hN:NodesAt W u RN) (hA:IntsAt W v RA) (hnm:NamesAt W):Calls Tryz.prog 25 #[.agg #[u,v],.int .i64 i] W (c3i (M,B,0) W):=by
 obtain ⟨l1,l2,hlen,_,_,_⟩:=c9v hk h;have hft:=c9z h hn h1 h2;obtain ⟨hf,hg,hr,T,Y,hRN,hRA,hkids,_,hF⟩:=c9w hk h;obtain ⟨_,_,hc⟩:=c9t hf;obtain ⟨_,_,hd⟩:=c9t hg;have hc':=d0j u v RN RA (N.length+M.length - 1) N.length W hN hA hft hnm hr (by omega) (by rw [show N.length+M.length - 1+1=N.length+M.length by omega];exact hF)
 have e:c9u RN RA N.length (N.length+M.length - 1)=(M,B):=by
  rw [hRN,hRA];exact d1d hc hd (by omega)
 rw [e] at hc';subst hi;exact hc'
end Go.Proofs.YtfbgmokjemmceaaGreatDoor
set_option maxHeartbeats 64000000
set_option maxRecDepth 100000
namespace Go.Proofs.YtfbgmokjemmceaaGreatDoor
open Go.RowKit Go.Shelf
set_option linter.unusedSimpArgs false
set_option linter.unusedVariables false
def d1s (s wx:World):Prop:=Below s.heap.size s wx
def d1n (s:World) (N:List Nd) (A:List Int) (p r:Value) (wx:World):Prop:=∃ Q us vs,p=.pointer (some ⟨Q,0,none⟩)∧r=.int .i64 0∧s.heap.size≤Q∧wx.cell? ⟨Q,0,none⟩=some us∧wx.cell? ⟨Q,1,none⟩=some vs ∧
 wx.ownsRow s.heap.size 33 19 us N.length (nodeL N)∧wx.ownsRow s.heap.size 3 1 vs A.length (intL A)∧Below s.heap.size s wx
theorem d0z {s x:World} {N:List Nd} {A:List Int} {us vs:Value} {t:TypeId} {base nl al:Nat} (h1:x.ownsRow base 33 19 us nl (nodeL N)) (h2:x.ownsRow base 3 1 vs al (intL A)) (e1:nl=N.length) (e2:al=A.length) (hb:s.heap.size≤base) (hT:Below s.heap.size s x) :
  d1n s N A (.pointer (some ⟨x.heap.size,0,none⟩)) (.int .i64 0) (x.alloc (.cells #[us,vs] t)):=by
 subst e1 e2;exact ⟨_,us,vs,rfl,rfl,hT.size,by simp [go_sem],by simp [go_sem],a2f (a1g h1 (a0i (Below.refl _ _))) hb,a2f (a1g h2 (a0i (Below.refl _ _))) hb,a0i hT⟩
theorem d1a {s x:World} {N:List Nd} {A:List Int} {us vs y0 y1:Value} {base nl al:Nat} (h1:x.ownsRow base 33 19 us nl (nodeL N)) (h2:x.ownsRow base 3 1 vs al (intL A)) (e1:nl=N.length) (e2:al=A.length) (hb:s.heap.size < base) (hT:Below s.heap.size s x)
  (q0:x.cell? ⟨s.heap.size,0,none⟩=some y0) (q1:x.cell? ⟨s.heap.size,1,none⟩=some y1) :
  d1n s N A (.pointer (some ⟨s.heap.size,0,none⟩)) (.int .i64 0) ((x.setCell ⟨s.heap.size,0,none⟩ us).setCell ⟨s.heap.size,1,none⟩ vs):=by
 subst e1 e2;exact ⟨_,us,vs,rfl,rfl,Nat.le_refl _,stO (stS q0) (by decide),stS (stO q1 (by decide)),a2f (ownsRow_setCell_below (ownsRow_setCell_below h1 hb _) hb _) (Nat.le_of_lt hb),a2f (ownsRow_setCell_below (ownsRow_setCell_below h2 hb _) hb _) (Nat.le_of_lt hb),(hT.setCell (Nat.le_refl _) _).setCell (Nat.le_refl _) _⟩
theorem d1o {s W:World} (h:Below s.heap.size s W:=by repeat (with_reducible first | assumption | exact Below.refl _ _ | apply a0i | apply Below.drew)):Below s.heap.size s W:=h
theorem d0u {N M:List Nd} {A B:List Int} (h1:∀ n ∈ N,a2b n) (h2:N.length≤1000) (h3:A.length≤1000) (h4:∀ n ∈ M,a2b n) (h5:M.length≤1000) (h6:B.length≤1000):Small [(N,A),(M,B)]:=c0k ⟨h1,h2,h3⟩ ⟨h4,h5,h6⟩
theorem d0m (u v u2 v2:Value) (N M:List Nd) (A B:List Int) (op:Int) (s:ByteArray) (w:World) (hN:NodesAt w u N) (hA:IntsAt w v A) (hM:NodesAt w u2 M) (hB:IntsAt w v2 B) (hnm:NamesAt w) :
  Calls Tryz.prog 5 #[.agg #[u,v],.agg #[u2,v2],.int .i64 op,.string s] w fun e w' => e=.returned (.bool true)∧Below w.heap.size w w':=by
 have hud:undef=Value.tuple #[]:=rfl;have HKN:=Lib.hid b4l;have HNM:=Lib.hid hnm;have hNC:=Lib.hid hN;have HA:=Lib.hid hA;have HM:=Lib.hid hM;have HB:=Lib.hid hB;obtain ⟨bn,cn,rfl,_⟩:=hN.slice;have hl1:=fun w hN hA => b1y (.slice bn N.length cn) v N A w hN hA
 have hl2:=fun w hM hB => b1y u2 v2 M B w hM hB
 clear hnm
 cases hx:litB N A with
 | false =>
  rw [hx] at hl1;have HL1:=Lib.hid hl1;clear hl1 hl2 hx hN hA hM hB;generalize N.length=L at *;go_enter Tryz.func5,Tryz.ntmps5
  go_upto_region 1 with (fail)
  obtain ⟨s1,hws⟩:∃ s,s=((w.alloc (.cells #[.slice bn L cn,v] 25)).alloc (.cells #[u2,v2] 25)):=⟨_,rfl⟩;have hBs:=bs2 (Below.refl w.heap.size w) hws;obtain ⟨F,hdF⟩:∃ b,b=w.heap.size:=⟨_,rfl⟩;obtain ⟨G,hdG⟩:∃ b,b=w.heap.size+1:=⟨_,rfl⟩;have hsz:s1.heap.size=w.heap.size+1+1:=by rw [hws];simp
  have hN:=bx1 (b:=F) hws hdF;have kF0:=hN 0 _ rfl;have kF1:=hN 1 _ rfl;clear hN;have zF:F < s1.heap.size:=by omega
  have lF:w.heap.size≤F:=by omega
  have hN:=bx0 (b:=G) hws (by simp [hdG]);have kG0:=hN 0 _ rfl;have kG1:=hN 1 _ rfl;clear hN;have zG:G < s1.heap.size:=by omega
  have lG:w.heap.size≤G:=by omega
  rw [← hws];try rw [← hdG]
  try rw [← hdF]
  clear hws hsz hdF hdG;have hBo:=hBs;clear hBs;go_wp2_with fail;refine (HL1.out _ (hNC.out.below hBo) (HA.out.below hBo)).mono ?_;rintro e w5 ⟨rfl,hb⟩;replace kF0:=a0f hb kF0 zF;replace kF1:=a0f hb kF1 zF;replace zF:=zHl hb zF;replace kG0:=a0f hb kG0 zG;replace kG1:=a0f hb kG1 zG;replace zG:=zHl hb zG;replace hBo:=hBo.trans (hb.mono hBo.size);clear hb;go_wp2_with fail;refine (HKN.out _ (HNM.out.below hBo)).mono ?_;rintro e w7 ⟨rfl,hb⟩;replace kF0:=a0f hb kF0 zF;replace kF1:=a0f hb kF1 zF;replace zF:=zHl hb zF;replace kG0:=a0f hb kG0 zG;replace kG1:=a0f hb kG1 zG;replace zG:=zHl hb zG;replace hBo:=hBo.trans (hb.mono hBo.size);clear hb;go_wp2_with fail
  go_ret
  exact ⟨rfl,hBo⟩
 | true =>
  rw [hx] at hl1;have HL1:=Lib.hid hl1
  cases hy:litB M B with
  | false =>
   rw [hy] at hl2;have HL2:=Lib.hid hl2;clear hl1 hl2 hx hy hN hA hM hB;generalize N.length=L at *;go_enter Tryz.func5,Tryz.ntmps5
   go_upto_region 1 with (fail)
   obtain ⟨s2,hws⟩:∃ s,s=((w.alloc (.cells #[.slice bn L cn,v] 25)).alloc (.cells #[u2,v2] 25)):=⟨_,rfl⟩;have hBs:=bs2 (Below.refl w.heap.size w) hws;obtain ⟨F,hdF⟩:∃ b,b=w.heap.size:=⟨_,rfl⟩;obtain ⟨G,hdG⟩:∃ b,b=w.heap.size+1:=⟨_,rfl⟩;have hsz:s2.heap.size=w.heap.size+1+1:=by rw [hws];simp
   have hN:=bx1 (b:=F) hws hdF;have kF0:=hN 0 _ rfl;have kF1:=hN 1 _ rfl;clear hN;have zF:F < s2.heap.size:=by omega
   have lF:w.heap.size≤F:=by omega
   have hN:=bx0 (b:=G) hws (by simp [hdG]);have kG0:=hN 0 _ rfl;have kG1:=hN 1 _ rfl;clear hN;have zG:G < s2.heap.size:=by omega
   have lG:w.heap.size≤G:=by omega
   rw [← hws];try rw [← hdG]
   try rw [← hdF]
   clear hws hsz hdF hdG;have hBo:=hBs;clear hBs;go_wp2_with fail;refine (HL1.out _ (hNC.out.below hBo) (HA.out.below hBo)).mono ?_;rintro e w5 ⟨rfl,hb⟩;replace kF0:=a0f hb kF0 zF;replace kF1:=a0f hb kF1 zF;replace zF:=zHl hb zF;replace kG0:=a0f hb kG0 zG;replace kG1:=a0f hb kG1 zG;replace zG:=zHl hb zG;replace hBo:=hBo.trans (hb.mono hBo.size);clear hb;go_wp2_with fail;refine (HL2.out _ (HM.out.below hBo) (HB.out.below hBo)).mono ?_;rintro e w6 ⟨rfl,hb⟩;replace kF0:=a0f hb kF0 zF;replace kF1:=a0f hb kF1 zF;replace zF:=zHl hb zF;replace kG0:=a0f hb kG0 zG;replace kG1:=a0f hb kG1 zG;replace zG:=zHl hb zG;replace hBo:=hBo.trans (hb.mono hBo.size);clear hb;go_wp2_with fail;refine (HKN.out _ (HNM.out.below hBo)).mono ?_;rintro e w7 ⟨rfl,hb⟩;replace kF0:=a0f hb kF0 zF;replace kF1:=a0f hb kF1 zF;replace zF:=zHl hb zF;replace kG0:=a0f hb kG0 zG;replace kG1:=a0f hb kG1 zG;replace zG:=zHl hb zG;replace hBo:=hBo.trans (hb.mono hBo.size);clear hb;go_wp2_with fail
   go_ret
   exact ⟨rfl,hBo⟩
  | true =>
   rw [hy] at hl2;have HL2:=Lib.hid hl2;by_cases hs1:s.size≤100
   rotate_left
   ·
    have hs2:(100:Int) < s.size:=by omega
    clear hl1 hl2 hx hy hN hA hM hB hs1;generalize N.length=L at *;go_enter Tryz.func5,Tryz.ntmps5
    go_upto_region 1 with (fail)
    obtain ⟨s3,hws⟩:∃ s,s=((w.alloc (.cells #[.slice bn L cn,v] 25)).alloc (.cells #[u2,v2] 25)):=⟨_,rfl⟩;have hBs:=bs2 (Below.refl w.heap.size w) hws;obtain ⟨F,hdF⟩:∃ b,b=w.heap.size:=⟨_,rfl⟩;obtain ⟨G,hdG⟩:∃ b,b=w.heap.size+1:=⟨_,rfl⟩;have hsz:s3.heap.size=w.heap.size+1+1:=by rw [hws];simp
    have hN:=bx1 (b:=F) hws hdF;have kF0:=hN 0 _ rfl;have kF1:=hN 1 _ rfl;clear hN;have zF:F < s3.heap.size:=by omega
    have lF:w.heap.size≤F:=by omega
    have hN:=bx0 (b:=G) hws (by simp [hdG]);have kG0:=hN 0 _ rfl;have kG1:=hN 1 _ rfl;clear hN;have zG:G < s3.heap.size:=by omega
    have lG:w.heap.size≤G:=by omega
    rw [← hws];try rw [← hdG]
    try rw [← hdF]
    clear hws hsz hdF hdG;have hBo:=hBs;clear hBs;go_wp2_with fail;refine (HL1.out _ (hNC.out.below hBo) (HA.out.below hBo)).mono ?_;rintro e w5 ⟨rfl,hb⟩;replace kF0:=a0f hb kF0 zF;replace kF1:=a0f hb kF1 zF;replace zF:=zHl hb zF;replace kG0:=a0f hb kG0 zG;replace kG1:=a0f hb kG1 zG;replace zG:=zHl hb zG;replace hBo:=hBo.trans (hb.mono hBo.size);clear hb;go_wp2_with fail;refine (HL2.out _ (HM.out.below hBo) (HB.out.below hBo)).mono ?_;rintro e w6 ⟨rfl,hb⟩;replace kF0:=a0f hb kF0 zF;replace kF1:=a0f hb kF1 zF;replace zF:=zHl hb zF;replace kG0:=a0f hb kG0 zG;replace kG1:=a0f hb kG1 zG;replace zG:=zHl hb zG;replace hBo:=hBo.trans (hb.mono hBo.size);clear hb;go_wp2_with fail;refine (HKN.out _ (HNM.out.below hBo)).mono ?_;rintro e w7 ⟨rfl,hb⟩;replace kF0:=a0f hb kF0 zF;replace kF1:=a0f hb kF1 zF;replace zF:=zHl hb zF;replace kG0:=a0f hb kG0 zG;replace kG1:=a0f hb kG1 zG;replace zG:=zHl hb zG;replace hBo:=hBo.trans (hb.mono hBo.size);clear hb;go_wp2_with fail
    go_ret
    exact ⟨rfl,hBo⟩
   ·
    obtain ⟨n1,n2,n3⟩:=b9o hx;obtain ⟨m1,m2,m3⟩:=b9o hy;have hs3:(s.size:Int)≤100:=by omega
    have hla:A.length≤1000:=by omega
    have hln:N.length≤1000:=by omega
    have hlm:M.length≤1000:=by omega
    have hlb:B.length≤1000:=by omega
    have ht:=fun W hN hA hM hB hnm => c3j op (.slice bn N.length cn) v u2 v2 N M A B W hN hA hM hB n3 m3 hln hla hlm hlb hnm
    have hc:=fun v W h hnm => d0v s v [(N,A),(M,B)] W h (d0u n3 hln hla m3 hlm hlb) (by omega) (by simp) hnm
    have hsa:=fun us vs u v W h1 h2 h3 h4 => b4c us vs u v N N A A W h1 h2 h3 h4 hln hla hln hla
    rw [b6x] at hsa;have hsb:=fun us vs u v W h1 h2 h3 h4 => b4c us vs u v M M B B W h1 h2 h3 h4 hlm hlb hlm hlb
    rw [b6x] at hsb;have HSA:=Lib.hid hsa;have HSB:=Lib.hid hsb;obtain ⟨⟨RN,RA,RE⟩,hR⟩:∃ R,R=a3a (nd0 8 op ⟨#[]⟩) [(N,A),(M,B)]:=⟨_,rfl⟩;obtain ⟨⟨CN,CA,CE⟩,hC⟩:∃ R,R=a3a (nd0 9 0 s) [(N,A),(M,B)]:=⟨_,rfl⟩;rw [← hR] at ht;rw [← hC] at hc;have HT:=Lib.hid ht;have HC:=Lib.hid hc
    have HP:Hid (RE=0→(N.length+M.length+1=RN.length∧1≤N.length∧1≤M.length∧RN.length≤300)∧(∀ u v i W,i=((N.length - 1:Nat):Int)→NodesAt W u RN→IntsAt W v RA→NamesAt W→Calls Tryz.prog 25 #[.agg #[u,v],.int .i64 i] W (c3i (N,A,0) W)) ∧
      ∀ u v i W,i=((N.length+M.length - 1:Nat):Int)→NodesAt W u RN→IntsAt W v RA→NamesAt W→Calls Tryz.prog 25 #[.agg #[u,v],.int .i64 i] W (c3i (M,B,0) W)):=Lib.hid (fun h => by
     subst h;obtain ⟨k1,k2,k3,k4,_,_⟩:=c9v (n:=nd0 8 op ⟨#[]⟩) (Or.inl rfl) hR.symm
     exact ⟨⟨k3.symm,k1,k2,k4⟩,fun u v i W => d0k (n:=nd0 8 op ⟨#[]⟩) (Or.inl rfl) hR.symm (c9g _ _ _ (by decide)) n3 m3 u v i W,fun u v i W => d0l (n:=nd0 8 op ⟨#[]⟩) (Or.inl rfl) hR.symm (c9g _ _ _ (by decide)) n3 m3 u v i W⟩)
    have HQ:Hid (CE=0→(N.length+M.length+1=CN.length∧1≤N.length∧1≤M.length∧CN.length≤300)∧(∀ u v i W,i=((N.length - 1:Nat):Int)→NodesAt W u CN→IntsAt W v CA→NamesAt W→Calls Tryz.prog 25 #[.agg #[u,v],.int .i64 i] W (c3i (N,A,0) W)) ∧
      (∀ u v i W,i=((N.length+M.length - 1:Nat):Int)→NodesAt W u CN→IntsAt W v CA→NamesAt W→Calls Tryz.prog 25 #[.agg #[u,v],.int .i64 i] W (c3i (M,B,0) W)) ∧
      ∀ u v W,NodesAt W u CN→IntsAt W v CA→NamesAt W→Calls Tryz.prog 11 #[.agg #[u,v],.int .i64 ((CN.length:Int) - 1)] W (b9b [((N.length - 1:Nat):Int),((N.length+M.length - 1:Nat):Int)] W)):=Lib.hid (fun h => by
     subst h;obtain ⟨k1,k2,k3,k4,k5,k6⟩:=c9v (n:=nd0 9 0 s) (Or.inr rfl) hC.symm;have hft:=c9z hC.symm (c9g 9 0 s (by omega)) n3 m3;refine ⟨⟨k3.symm,k1,k2,k4⟩,fun u v i W => d0k (n:=nd0 9 0 s) (Or.inr rfl) hC.symm (c9g _ _ _ (by omega)) n3 m3 u v i W,fun u v i W => d0l (n:=nd0 9 0 s) (Or.inr rfl) hC.symm (c9g _ _ _ (by omega)) n3 m3 u v i W,fun u v W h1 h2 h3 => ?_⟩
     have h:=b9n u v CN CA ((CN.length:Int) - 1) W h1 h2 hft h3 (by omega) (by omega);rw [k6] at h
     exact h)
    have HFS:=Lib.hid (fun W u v u2 v2 h1 h2 h3 h4 => c0j W u v u2 v2 (N,A) (M,B) 25 h1 h2 h3 h4);clear hl1 hl2 hx hy hN hA hM hB hs1 n1 n2 n3 m1 m2 m3 hla hlm hlb ht hc hsa hsb hR hC;obtain ⟨L,hL⟩:∃ L,L=N.length:=⟨_,rfl⟩;obtain ⟨K,hK⟩:∃ K,K=M.length:=⟨_,rfl⟩;have HNL:=Lib.hid hL;have HKL:=Lib.hid hK;rw [← hL] at hNC HT HP HQ HL1 hln ⊢;rw [← hK] at HP HQ;clear hL hK;go_enter Tryz.func5,Tryz.ntmps5
    go_upto_region 1 with (fail)
    obtain ⟨s4,hws⟩:∃ s,s=((w.alloc (.cells #[.slice bn L cn,v] 25)).alloc (.cells #[u2,v2] 25)):=⟨_,rfl⟩;have hBs:=bs2 (Below.refl w.heap.size w) hws;obtain ⟨F,hdF⟩:∃ b,b=w.heap.size:=⟨_,rfl⟩;obtain ⟨G,hdG⟩:∃ b,b=w.heap.size+1:=⟨_,rfl⟩;have hsz:s4.heap.size=w.heap.size+1+1:=by rw [hws];simp
    have hN:=bx1 (b:=F) hws hdF;have kF0:=hN 0 _ rfl;have kF1:=hN 1 _ rfl;clear hN;have zF:F < s4.heap.size:=by omega
    have lF:w.heap.size≤F:=by omega
    have hN:=bx0 (b:=G) hws (by simp [hdG]);have kG0:=hN 0 _ rfl;have kG1:=hN 1 _ rfl;clear hN;have zG:G < s4.heap.size:=by omega
    have lG:w.heap.size≤G:=by omega
    rw [← hws];try rw [← hdG]
    try rw [← hdF]
    clear hws hsz hdF hdG;have hBo:=hBs;clear hBs;go_wp2_with fail;refine (HL1.out _ (hNC.out.below hBo) (HA.out.below hBo)).mono ?_;rintro e w5 ⟨rfl,hb⟩;replace kF0:=a0f hb kF0 zF;replace kF1:=a0f hb kF1 zF;replace zF:=zHl hb zF;replace kG0:=a0f hb kG0 zG;replace kG1:=a0f hb kG1 zG;replace zG:=zHl hb zG;replace hBo:=hBo.trans (hb.mono hBo.size);clear hb;go_wp2_with fail;refine (HL2.out _ (HM.out.below hBo) (HB.out.below hBo)).mono ?_;rintro e w6 ⟨rfl,hb⟩;replace kF0:=a0f hb kF0 zF;replace kF1:=a0f hb kF1 zF;replace zF:=zHl hb zF;replace kG0:=a0f hb kG0 zG;replace kG1:=a0f hb kG1 zG;replace zG:=zHl hb zG;replace hBo:=hBo.trans (hb.mono hBo.size);clear hb;go_wp2_with fail;refine (HT.out _ (hNC.out.below hBo) (HA.out.below hBo) (HM.out.below hBo) (HB.out.below hBo) (HNM.out.below hBo)).mono ?_;rintro e w7 ⟨⟨us,vs,rfl,hn7,ha7⟩,hb⟩;dsimp only at hn7 ha7;obtain ⟨_,hnn⟩:=NodesAt.of_owns hn7;obtain ⟨_,haa⟩:=IntsAt.of_owns ha7;obtain ⟨rl,hrl⟩:∃ z,z=RN.length:=⟨_,rfl⟩;obtain ⟨al,hal⟩:∃ z,z=RA.length:=⟨_,rfl⟩;rw [← hrl] at hn7 HP;rw [← hal] at ha7;obtain ⟨b5,c5,rfl⟩:=a0l hn7;obtain ⟨b6,c6,rfl⟩:=a0l ha7;have HN7:=Lib.hid hnn;have HA7:=Lib.hid haa;clear hn7 ha7 hnn haa hrl hal;replace kF0:=a0f hb kF0 zF;replace kF1:=a0f hb kF1 zF;replace zF:=zHl hb zF;replace kG0:=a0f hb kG0 zG;replace kG1:=a0f hb kG1 zG;replace zG:=zHl hb zG;replace hBo:=hBo.trans (hb.mono hBo.size);clear hb
    go_upto_region 4 with (fail)
    obtain ⟨s5,hws⟩:∃ s,s=(w7.alloc (.cells #[.slice b5 rl c5,.slice b6 al c6] 25)):=⟨_,rfl⟩;have hBs:=bs1 hBo hws;obtain ⟨H,hdH⟩:∃ b,b=w7.heap.size:=⟨_,rfl⟩;have hUp:Below w7.heap.size w7 s5:=by rw [hws];exact (a0i (Below.refl _ _))
    have hAH:w7.heap.size≤H:=by omega
    have hsz:s5.heap.size=w7.heap.size+1:=by rw [hws];simp
    have hQC:∀ p v,w7.cell? p=some v→s5.cell? p=some v:=fun p v h => by rw [hws];exact (alK h)
    have hQZ:∀ b,b < w7.heap.size→b < s5.heap.size:=fun b h => by omega
    replace kF0:=hQC _ _ kF0;replace kF1:=hQC _ _ kF1;replace zF:=hQZ _ zF;replace kG0:=hQC _ _ kG0;replace kG1:=hQC _ _ kG1;replace zG:=hQZ _ zG;clear hQC hQZ;have hN:=bx0 (b:=H) hws hdH;have kH0:=hN 0 _ rfl;have kH1:=hN 1 _ rfl;clear hN;have zH:H < s5.heap.size:=by omega
    have lH:w.heap.size≤H:=by have:=hBo.size;omega
    rw [← hws];try rw [← hdH]
    clear hBo;clear hws hsz hdH;have hBo:=hBs;clear hBs;have HN8:Hid (NodesAt s5 (.slice b5 rl c5) RN):=Lib.hid (HN7.out.below hUp);have HA8:Hid (IntsAt s5 (.slice b6 al c6) RA):=Lib.hid (HA7.out.below hUp);clear hUp hAH HN7 HA7 HL1 HL2 HT
    go_upto_if 44 with (fail)
    go_cut [] (d1s s5)
    case first =>
     by_cases hre:RE=0
     ·
      obtain ⟨⟨e1,e2,e3,e4⟩,hp1,hp2⟩:=HP.out hre;subst hre;have HP1:=Lib.hid hp1;have HP2:=Lib.hid hp2;obtain ⟨w8,hw8⟩:∃ z,z=s5:=⟨_,rfl⟩;subst hw8;clear hp1 hp2 HP HQ HC HFS HKN;go_wp2_with fail;refine (HP1.out _ _ _ _ (by omega) HN8.out HA8.out (HNM.out.below hBo)).mono ?_;rintro e w9 ⟨⟨us,vs,rfl,hn,ha⟩,hb⟩;dsimp only at hn ha;have D1:=Lib.hid (NodesAt.of_owns hn).2;have D2:=Lib.hid (IntsAt.of_owns ha).2;have C1:=Lib.hid hb;rw [← HNL.out] at hn;obtain ⟨a1,ha1⟩:∃ z,z=A.length:=⟨_,rfl⟩;rw [← ha1] at ha;obtain ⟨b7,c7,rfl⟩:=a0l hn;obtain ⟨b8,c8,rfl⟩:=a0l ha;clear hn ha ha1;replace kF0:=a0f hb kF0 zF;replace kF1:=a0f hb kF1 zF;replace zF:=zHl hb zF;replace kG0:=a0f hb kG0 zG;replace kG1:=a0f hb kG1 zG;replace zG:=zHl hb zG;replace kH0:=a0f hb kH0 zH;replace kH1:=a0f hb kH1 zH;replace zH:=zHl hb zH;replace hBo:=hBo.trans (hb.mono hBo.size);clear hb
      go_upto_region 6 with (fail)
      obtain ⟨s6,hws⟩:∃ s,s=(w9.alloc (.cells #[.slice b7 L c7,.slice b8 a1 c8] 25)):=⟨_,rfl⟩;have hBs:=bs1 hBo hws;obtain ⟨P,hdP⟩:∃ b,b=w9.heap.size:=⟨_,rfl⟩;have hUp:Below w9.heap.size w9 s6:=by rw [hws];exact (a0i (Below.refl _ _))
      have hAP:w9.heap.size≤P:=by omega
      have hsz:s6.heap.size=w9.heap.size+1:=by rw [hws];simp
      have hQC:∀ p v,w9.cell? p=some v→s6.cell? p=some v:=fun p v h => by rw [hws];exact (alK h)
      have hQZ:∀ b,b < w9.heap.size→b < s6.heap.size:=fun b h => by omega
      replace kF0:=hQC _ _ kF0;replace kF1:=hQC _ _ kF1;replace zF:=hQZ _ zF;replace kG0:=hQC _ _ kG0;replace kG1:=hQC _ _ kG1;replace zG:=hQZ _ zG;replace kH0:=hQC _ _ kH0;replace kH1:=hQC _ _ kH1;replace zH:=hQZ _ zH;clear hQC hQZ;have hN:=bx0 (b:=P) hws hdP;have kP0:=hN 0 _ rfl;have kP1:=hN 1 _ rfl;clear hN;have zP:P < s6.heap.size:=by omega
      have lP:w.heap.size≤P:=by have:=hBo.size;omega
      rw [← hws];try rw [← hdP]
      clear hBo;clear hws hsz hdP;have hBo:=hBs;clear hBs;have D3:Hid (NodesAt s6 (.slice b7 L c7) N):=Lib.hid (D1.out.below hUp);have D4:Hid (IntsAt s6 (.slice b8 a1 c8) A):=Lib.hid (D2.out.below hUp);have C2:=Lib.hid (C1.out.trans (hUp.mono C1.out.size));clear hUp hAP D1 D2 C1;go_wp2_with fail;refine (HP2.out _ _ _ _ (by omega) (HN8.out.below C2.out) (HA8.out.below C2.out) (HNM.out.below hBo)).mono ?_;rintro e w10 ⟨⟨us,vs,rfl,hn,ha⟩,hb⟩;dsimp only at hn ha;have D1:=Lib.hid (NodesAt.of_owns hn).2;have D2:=Lib.hid (IntsAt.of_owns ha).2;have C3:=Lib.hid (C2.out.trans (hb.mono C2.out.size));have D5:=Lib.hid (D3.out.below hb);have D6:=Lib.hid (D4.out.below hb);rw [← HKL.out] at hn;obtain ⟨a2,ha2⟩:∃ z,z=B.length:=⟨_,rfl⟩;rw [← ha2] at ha;obtain ⟨b9,c9,rfl⟩:=a0l hn;obtain ⟨b10,c10,rfl⟩:=a0l ha;clear hn ha ha2 D3 D4 C2;replace kF0:=a0f hb kF0 zF;replace kF1:=a0f hb kF1 zF;replace zF:=zHl hb zF;replace kG0:=a0f hb kG0 zG;replace kG1:=a0f hb kG1 zG;replace zG:=zHl hb zG;replace kH0:=a0f hb kH0 zH;replace kH1:=a0f hb kH1 zH;replace zH:=zHl hb zH;replace kP0:=a0f hb kP0 zP;replace kP1:=a0f hb kP1 zP;replace zP:=zHl hb zP;replace hBo:=hBo.trans (hb.mono hBo.size);clear hb
      go_upto_region 7 with (fail)
      obtain ⟨s7,hws⟩:∃ s,s=(w10.alloc (.cells #[.slice b9 K c9,.slice b10 a2 c10] 25)):=⟨_,rfl⟩;have hBs:=bs1 hBo hws;obtain ⟨Q,hdQ⟩:∃ b,b=w10.heap.size:=⟨_,rfl⟩;have hUp:Below w10.heap.size w10 s7:=by rw [hws];exact (a0i (Below.refl _ _))
      have hAQ:w10.heap.size≤Q:=by omega
      have hsz:s7.heap.size=w10.heap.size+1:=by rw [hws];simp
      have hQC:∀ p v,w10.cell? p=some v→s7.cell? p=some v:=fun p v h => by rw [hws];exact (alK h)
      have hQZ:∀ b,b < w10.heap.size→b < s7.heap.size:=fun b h => by omega
      replace kF0:=hQC _ _ kF0;replace kF1:=hQC _ _ kF1;replace zF:=hQZ _ zF;replace kG0:=hQC _ _ kG0;replace kG1:=hQC _ _ kG1;replace zG:=hQZ _ zG;replace kH0:=hQC _ _ kH0;replace kH1:=hQC _ _ kH1;replace zH:=hQZ _ zH;replace kP0:=hQC _ _ kP0;replace kP1:=hQC _ _ kP1;replace zP:=hQZ _ zP;clear hQC hQZ;have hN:=bx0 (b:=Q) hws hdQ;have kQ0:=hN 0 _ rfl;have kQ1:=hN 1 _ rfl;clear hN;have zQ:Q < s7.heap.size:=by omega
      have lQ:w.heap.size≤Q:=by have:=hBo.size;omega
      rw [← hws];try rw [← hdQ]
      clear hBo;clear hws hsz hdQ;have hBo:=hBs;clear hBs;have D7:Hid (NodesAt s7 (.slice b9 K c9) M):=Lib.hid (D1.out.below hUp);have D8:Hid (IntsAt s7 (.slice b10 a2 c10) B):=Lib.hid (D2.out.below hUp);have D3:=Lib.hid (D5.out.below hUp);have D4:=Lib.hid (D6.out.below hUp);have C4:=Lib.hid (C3.out.trans (hUp.mono C3.out.size));clear hUp hAQ D1 D2 C3 D5 D6;go_wp2_with fail;refine (HSA.out _ _ _ _ _ D3.out D4.out (hNC.out.below hBo) (HA.out.below hBo)).mono ?_;rintro e w11 ⟨rfl,hb⟩;have D9:=Lib.hid (D7.out.below hb);have D10:=Lib.hid (D8.out.below hb);have C5:=Lib.hid (C4.out.trans (hb.mono C4.out.size));clear C4 D7 D8;replace kF0:=a0f hb kF0 zF;replace kF1:=a0f hb kF1 zF;replace zF:=zHl hb zF;replace kG0:=a0f hb kG0 zG;replace kG1:=a0f hb kG1 zG;replace zG:=zHl hb zG;replace kH0:=a0f hb kH0 zH;replace kH1:=a0f hb kH1 zH;replace zH:=zHl hb zH;replace kP0:=a0f hb kP0 zP;replace kP1:=a0f hb kP1 zP;replace zP:=zHl hb zP;replace kQ0:=a0f hb kQ0 zQ;replace kQ1:=a0f hb kQ1 zQ;replace zQ:=zHl hb zQ;replace hBo:=hBo.trans (hb.mono hBo.size);clear hb;go_wp2_with fail;refine (HSB.out _ _ _ _ _ D9.out D10.out (HM.out.below hBo) (HB.out.below hBo)).mono ?_;rintro e w12 ⟨rfl,hb⟩;have C6:=Lib.hid (C5.out.trans (hb.mono C5.out.size));clear C5 D9 D10;replace kF0:=a0f hb kF0 zF;replace kF1:=a0f hb kF1 zF;replace zF:=zHl hb zF;replace kG0:=a0f hb kG0 zG;replace kG1:=a0f hb kG1 zG;replace zG:=zHl hb zG;replace kH0:=a0f hb kH0 zH;replace kH1:=a0f hb kH1 zH;replace zH:=zHl hb zH;replace kP0:=a0f hb kP0 zP;replace kP1:=a0f hb kP1 zP;replace zP:=zHl hb zP;replace kQ0:=a0f hb kQ0 zQ;replace kQ1:=a0f hb kQ1 zQ;replace zQ:=zHl hb zQ;replace hBo:=hBo.trans (hb.mono hBo.size);clear hb;go_wp2_with fail
      go_meet
      exact C6.out
     ·
      have hrb:(RE == 0)=false:=by simpa using hre
      obtain ⟨w8,hw8⟩:∃ z,z=s5:=⟨_,rfl⟩;subst hw8;clear HP HQ HC HFS HKN hre;go_wp2_with fail
      go_meet
      exact Below.refl _ _
    case rest =>
     have hT:Below s5.heap.size s5 wc:=hcut;clear hcut HP HN8 HA8;obtain ⟨hcx,hfx⟩:=a0k hT;replace kF0:=(hcx F 0 zF).trans kF0;replace kF1:=(hcx F 1 zF).trans kF1;replace zF:=zHl hT zF;replace kG0:=(hcx G 0 zG).trans kG0;replace kG1:=(hcx G 1 zG).trans kG1;replace zG:=zHl hT zG;replace kH0:=(hcx H 0 zH).trans kH0;replace kH1:=(hcx H 1 zH).trans kH1;replace zH:=zHl hT zH;replace hBo:=hBo.trans (hT.mono hBo.size);clear hT hcx hfx;go_wp2_with fail;refine (HC.out _ _ (HFS.out wc _ _ _ _ (hNC.out.below hBo) (HA.out.below hBo) (HM.out.below hBo) (HB.out.below hBo)) (HNM.out.below (a0i hBo))).mono ?_;rintro e w7 ⟨⟨us,vs,rfl,hn,ha⟩,hb⟩;dsimp only at hn ha;have hb2:Below wc.heap.size wc w7:=(a0i (Below.refl _ _)).trans (hb.mono (by simp));clear hb;have hb:=hb2;clear hb2;have D1:=Lib.hid (NodesAt.of_owns hn).2;have D2:=Lib.hid (IntsAt.of_owns ha).2;obtain ⟨rc,hrc⟩:∃ z,z=CN.length:=⟨_,rfl⟩;obtain ⟨ac,hac⟩:∃ z,z=CA.length:=⟨_,rfl⟩;rw [← hrc] at hn HQ;rw [← hac] at ha;obtain ⟨e5,d5,rfl⟩:=a0l hn;obtain ⟨e6,d6,rfl⟩:=a0l ha;clear hn ha hrc hac;replace kF0:=a0f hb kF0 zF;replace kF1:=a0f hb kF1 zF;replace zF:=zHl hb zF;replace kG0:=a0f hb kG0 zG;replace kG1:=a0f hb kG1 zG;replace zG:=zHl hb zG;replace kH0:=a0f hb kH0 zH;replace kH1:=a0f hb kH1 zH;replace zH:=zHl hb zH;replace hBo:=hBo.trans (hb.mono hBo.size);clear hb
     go_upto_region 10 with (fail)
     obtain ⟨s8,hws⟩:∃ s,s=(w7.alloc (.cells #[.slice e5 rc d5,.slice e6 ac d6] 25)):=⟨_,rfl⟩;have hBs:=bs1 hBo hws;obtain ⟨C,hdC⟩:∃ b,b=w7.heap.size:=⟨_,rfl⟩;have hUp:Below w7.heap.size w7 s8:=by rw [hws];exact (a0i (Below.refl _ _))
     have hAC:w7.heap.size≤C:=by omega
     have hsz:s8.heap.size=w7.heap.size+1:=by rw [hws];simp
     have hQC:∀ p v,w7.cell? p=some v→s8.cell? p=some v:=fun p v h => by rw [hws];exact (alK h)
     have hQZ:∀ b,b < w7.heap.size→b < s8.heap.size:=fun b h => by omega
     replace kF0:=hQC _ _ kF0;replace kF1:=hQC _ _ kF1;replace zF:=hQZ _ zF;replace kG0:=hQC _ _ kG0;replace kG1:=hQC _ _ kG1;replace zG:=hQZ _ zG;replace kH0:=hQC _ _ kH0;replace kH1:=hQC _ _ kH1;replace zH:=hQZ _ zH;clear hQC hQZ;have hN:=bx0 (b:=C) hws hdC;have kC0:=hN 0 _ rfl;have kC1:=hN 1 _ rfl;clear hN;have zC:C < s8.heap.size:=by omega
     have lC:w.heap.size≤C:=by have:=hBo.size;omega
     rw [← hws];try rw [← hdC]
     clear hBo;clear hws hsz hdC;have hBo:=hBs;clear hBs;have D3:Hid (NodesAt s8 (.slice e5 rc d5) CN):=Lib.hid (D1.out.below hUp);have D4:Hid (IntsAt s8 (.slice e6 ac d6) CA):=Lib.hid (D2.out.below hUp);clear hUp hAC D1 D2 HC HFS;by_cases hce:CE=0
     rotate_left
     ·
      have hcb:(CE != 0)=true:=by simpa using hce
      clear hce;go_wp2_with fail;refine (HKN.out _ (HNM.out.below hBo)).mono ?_;rintro e w9 ⟨rfl,hb⟩;replace kF0:=a0f hb kF0 zF;replace kF1:=a0f hb kF1 zF;replace zF:=zHl hb zF;replace kG0:=a0f hb kG0 zG;replace kG1:=a0f hb kG1 zG;replace zG:=zHl hb zG;replace kH0:=a0f hb kH0 zH;replace kH1:=a0f hb kH1 zH;replace zH:=zHl hb zH;replace kC0:=a0f hb kC0 zC;replace kC1:=a0f hb kC1 zC;replace zC:=zHl hb zC;replace hBo:=hBo.trans (hb.mono hBo.size);clear hb;go_wp2_with fail
      go_ret
      exact ⟨rfl,hBo⟩
     ·
      obtain ⟨⟨e1,e2,e3,e4⟩,hp1,hp2,hp3⟩:=HQ.out hce;subst hce;have HP1:=Lib.hid hp1;have HP2:=Lib.hid hp2;have HK:=Lib.hid hp3;clear hp1 hp2 hp3 HQ;go_wp2_with fail;refine (HK.out _ _ _ D3.out D4.out (HNM.out.below hBo)).mono ?_;rintro e w9 ⟨⟨r,rfl,hr⟩,hb⟩;obtain ⟨bl,cl,rfl,hcl⟩:=hr.slice;obtain ⟨gl,ol,rfl,q0⟩:=hcl 0 (by simp);obtain ⟨g1,o1,he1,q1⟩:=hcl 1 (by simp);obtain ⟨rfl,rfl⟩:gl=g1∧ol=o1:=by simpa using he1
      have D5:=Lib.hid (D3.out.below hb);have D6:=Lib.hid (D4.out.below hb);simp only [List.length_cons,List.length_nil,Nat.add_zero,Nat.zero_add,Nat.reduceAdd,List.getD_cons_zero,List.getD_cons_succ] at q0 q1 ⊢;have zl:=a0j q0;dsimp only at zl;clear hr hcl he1 D3 D4 HK;replace kF0:=a0f hb kF0 zF;replace kF1:=a0f hb kF1 zF;replace zF:=zHl hb zF;replace kG0:=a0f hb kG0 zG;replace kG1:=a0f hb kG1 zG;replace zG:=zHl hb zG;replace kH0:=a0f hb kH0 zH;replace kH1:=a0f hb kH1 zH;replace zH:=zHl hb zH;replace kC0:=a0f hb kC0 zC;replace kC1:=a0f hb kC1 zC;replace zC:=zHl hb zC;replace hBo:=hBo.trans (hb.mono hBo.size);clear hb
      go_upto_region 15 with (fail)
      go_cut [18,19] (d1n w9 N A)
      case first =>
       have HF:Hid (∀ W,Below w9.heap.size w9 W→Below w.heap.size w W):=fun W hW => hBo.trans (hW.mono hBo.size)
       clear hBo
       first | (go_region_held3 (fun w' => w'.cell? ⟨F,0,none⟩=some (.slice bn L cn)∧w'.cell? ⟨F,1,none⟩=some (v)∧w'.cell? ⟨G,0,none⟩=some (u2)∧w'.cell? ⟨G,1,none⟩=some (v2)∧w'.cell? ⟨H,0,none⟩=some (.slice b5 rl c5)∧w'.cell? ⟨H,1,none⟩=some (.slice b6 al c6)∧w'.cell? ⟨C,0,none⟩=some (.slice e5 rc d5)∧w'.cell? ⟨C,1,none⟩=some (.slice e6 ac d6)∧w'.cell? ⟨gl,ol,none⟩=some (.int .i64 ((L - 1:Nat):Int)))
        (first | go_keep | ((repeat' apply And.intro) <;> ((repeat (with_reducible first | apply a0b | apply a0x | refine a0e ?_ (by (try dsimp only);omega))) <;> first | assumption | (rw [hcx _ _ (by assumption)];assumption)))) (first
        | (go_at_call 25;refine (HP1.out _ _ _ _ rfl (D5.out.below d1o) (D6.out.below d1o) (HNM.out.below (d1q HF))).mono ?_;rintro e x9 ⟨⟨us,vs,rfl,hn,ha⟩,hbx⟩;dsimp only at hn ha;obtain ⟨nl,hnl⟩:∃ z,z=N.length:=⟨_,rfl⟩;obtain ⟨al,hal⟩:∃ z,z=A.length:=⟨_,rfl⟩;rw [← hnl] at hn;rw [← hal] at ha;obtain ⟨br,cr,rfl⟩:=a0l hn;obtain ⟨bs,cs,rfl⟩:=a0l ha;have OX:=Lib.hid hn;have OY:=Lib.hid ha;have OL:=Lib.hid hnl;have OM:=Lib.hid hal;clear hn ha hnl hal;have hTx:Below w9.heap.size w9 x9:=bHb hbx;obtain ⟨hcx,hfx⟩:=a0k hTx;have hzx:=hbx.size;(try simp at hzx);(try have hQZ:=Nat.lt_of_succ_le hzx);have hzq:=hTx.size;(try have hzo:w9.heap.size < x9.heap.size:=(by omega));have hzt:∀ b,b < _→b < _:=fun b h => Nat.lt_of_lt_of_le h hbx.size;obtain ⟨hcy,hfy⟩:=a0k hbx;clear hbx))) | fail
       all_goals go_wp2_with fail
       all_goals go_meet
       all_goals first | exact d0z OX.out OY.out OL.out OM.out (by simp) hTx | exact d1a OX.out OY.out OL.out OM.out (by simp) hTx ((hcy _ _ (by simp)).trans (by simp [go_sem];rfl)) ((hcy _ _ (by simp)).trans (by simp [go_sem];rfl))
      case rest =>
       obtain ⟨P,us,vs,rfl,rfl,hP,kP0,kP1,hn,ha,hT⟩:=hcut;have D7:Hid (NodesAt wc us N):=Lib.hid (NodesAt.of_owns hn).2;have D8:Hid (IntsAt wc vs A):=Lib.hid (IntsAt.of_owns ha).2;have E5:=Lib.hid (D5.out.below hT);have E6:=Lib.hid (D6.out.below hT);replace q1:=a0f hT q1 zl;replace zl:=zHl hT zl;clear hn ha D5 D6 q0 HP1;obtain ⟨hcx,hfx⟩:=a0k hT;replace kF0:=(hcx F 0 zF).trans kF0;replace kF1:=(hcx F 1 zF).trans kF1;replace zF:=zHl hT zF;replace kG0:=(hcx G 0 zG).trans kG0;replace kG1:=(hcx G 1 zG).trans kG1;replace zG:=zHl hT zG;replace kH0:=(hcx H 0 zH).trans kH0;replace kH1:=(hcx H 1 zH).trans kH1;replace zH:=zHl hT zH;replace kC0:=(hcx C 0 zC).trans kC0;replace kC1:=(hcx C 1 zC).trans kC1;replace zC:=zHl hT zC;have lP:=Nat.le_trans hBo.size hP;have zP:=World.block_lt_of_cell? _ _ kP0;replace hBo:=hBo.trans (hT.mono hBo.size);clear hT hcx hfx hP;obtain ⟨wd,hwd⟩:∃ z,z=wc:=⟨_,rfl⟩;subst hwd
       go_upto_region 16 with (fail)
       go_cut [20,21] (d1n wd M B)
       case first =>
        have HF:Hid (∀ W,Below wd.heap.size wd W→Below w.heap.size w W):=fun W hW => hBo.trans (hW.mono hBo.size)
        clear hBo
        first | (go_region_held3 (fun w' => w'.cell? ⟨F,0,none⟩=some (.slice bn L cn)∧w'.cell? ⟨F,1,none⟩=some (v)∧w'.cell? ⟨G,0,none⟩=some (u2)∧w'.cell? ⟨G,1,none⟩=some (v2)∧w'.cell? ⟨H,0,none⟩=some (.slice b5 rl c5)∧w'.cell? ⟨H,1,none⟩=some (.slice b6 al c6)∧w'.cell? ⟨C,0,none⟩=some (.slice e5 rc d5)∧w'.cell? ⟨C,1,none⟩=some (.slice e6 ac d6)∧w'.cell? ⟨P,0,none⟩=some (us)∧w'.cell? ⟨P,1,none⟩=some (vs)∧w'.cell? ⟨gl,ol+1,none⟩=some (.int .i64 ((L+K - 1:Nat):Int)))
         (first | go_keep | ((repeat' apply And.intro) <;> ((repeat (with_reducible first | apply a0b | apply a0x | refine a0e ?_ (by (try dsimp only);omega))) <;> first | assumption | (rw [hcx _ _ (by assumption)];assumption)))) (first
         | (go_at_call 25;refine (HP2.out _ _ _ _ rfl (E5.out.below d1o) (E6.out.below d1o) (HNM.out.below (d1q HF))).mono ?_;rintro e x10 ⟨⟨us2,vs2,rfl,hn,ha⟩,hbx⟩;dsimp only at hn ha;obtain ⟨nl,hnl⟩:∃ z,z=M.length:=⟨_,rfl⟩;obtain ⟨al,hal⟩:∃ z,z=B.length:=⟨_,rfl⟩;rw [← hnl] at hn;rw [← hal] at ha;obtain ⟨br,cr,rfl⟩:=a0l hn;obtain ⟨bs,cs,rfl⟩:=a0l ha;have OX:=Lib.hid hn;have OY:=Lib.hid ha;have OL:=Lib.hid hnl;have OM:=Lib.hid hal;clear hn ha hnl hal;have hTx:Below wd.heap.size wd x10:=bHb hbx;obtain ⟨hcx,hfx⟩:=a0k hTx;have hzx:=hbx.size;(try simp at hzx);(try have hQZ:=Nat.lt_of_succ_le hzx);have hzq:=hTx.size;(try have hzo:wd.heap.size < x10.heap.size:=(by omega));have hzt:∀ b,b < _→b < _:=fun b h => Nat.lt_of_lt_of_le h hbx.size;obtain ⟨hcy,hfy⟩:=a0k hbx;clear hbx))) | fail
        all_goals go_wp2_with fail
        all_goals go_meet
        all_goals first | exact d0z OX.out OY.out OL.out OM.out (by simp) hTx | exact d1a OX.out OY.out OL.out OM.out (by simp) hTx ((hcy _ _ (by simp)).trans (by simp [go_sem];rfl)) ((hcy _ _ (by simp)).trans (by simp [go_sem];rfl))
       case rest =>
        obtain ⟨Q,us2,vs2,rfl,rfl,hQ,kQ0,kQ1,hn,ha,hT⟩:=hcut;have D9:Hid (NodesAt wc us2 M):=Lib.hid (NodesAt.of_owns hn).2;have D10:Hid (IntsAt wc vs2 B):=Lib.hid (IntsAt.of_owns ha).2;have E7:=Lib.hid (D7.out.below hT);have E8:=Lib.hid (D8.out.below hT);clear hn ha D7 D8 E5 E6 q1 zl HP2;obtain ⟨hcx,hfx⟩:=a0k hT;replace kF0:=(hcx F 0 zF).trans kF0;replace kF1:=(hcx F 1 zF).trans kF1;replace zF:=zHl hT zF;replace kG0:=(hcx G 0 zG).trans kG0;replace kG1:=(hcx G 1 zG).trans kG1;replace zG:=zHl hT zG;replace kH0:=(hcx H 0 zH).trans kH0;replace kH1:=(hcx H 1 zH).trans kH1;replace zH:=zHl hT zH;replace kC0:=(hcx C 0 zC).trans kC0;replace kC1:=(hcx C 1 zC).trans kC1;replace zC:=zHl hT zC;replace kP0:=(hcx P 0 zP).trans kP0;replace kP1:=(hcx P 1 zP).trans kP1;replace zP:=zHl hT zP;have lQ:=Nat.le_trans hBo.size hQ;have zQ:=World.block_lt_of_cell? _ _ kQ0;replace hBo:=hBo.trans (hT.mono hBo.size);clear hT hcx hfx hQ;go_wp2_with fail;refine (HSA.out _ _ _ _ _ E7.out E8.out (hNC.out.below hBo) (HA.out.below hBo)).mono ?_;rintro e w11 ⟨rfl,hb⟩;have E9:=Lib.hid (D9.out.below hb);have E10:=Lib.hid (D10.out.below hb);clear D9 D10 E7 E8;replace kF0:=a0f hb kF0 zF;replace kF1:=a0f hb kF1 zF;replace zF:=zHl hb zF;replace kG0:=a0f hb kG0 zG;replace kG1:=a0f hb kG1 zG;replace zG:=zHl hb zG;replace kH0:=a0f hb kH0 zH;replace kH1:=a0f hb kH1 zH;replace zH:=zHl hb zH;replace kC0:=a0f hb kC0 zC;replace kC1:=a0f hb kC1 zC;replace zC:=zHl hb zC;replace kP0:=a0f hb kP0 zP;replace kP1:=a0f hb kP1 zP;replace zP:=zHl hb zP;replace kQ0:=a0f hb kQ0 zQ;replace kQ1:=a0f hb kQ1 zQ;replace zQ:=zHl hb zQ;replace hBo:=hBo.trans (hb.mono hBo.size);clear hb;go_wp2_with fail;refine (HSB.out _ _ _ _ _ E9.out E10.out (HM.out.below hBo) (HB.out.below hBo)).mono ?_;rintro e w12 ⟨rfl,hb⟩;clear E9 E10;replace kF0:=a0f hb kF0 zF;replace kF1:=a0f hb kF1 zF;replace zF:=zHl hb zF;replace kG0:=a0f hb kG0 zG;replace kG1:=a0f hb kG1 zG;replace zG:=zHl hb zG;replace kH0:=a0f hb kH0 zH;replace kH1:=a0f hb kH1 zH;replace zH:=zHl hb zH;replace kC0:=a0f hb kC0 zC;replace kC1:=a0f hb kC1 zC;replace zC:=zHl hb zC;replace kP0:=a0f hb kP0 zP;replace kP1:=a0f hb kP1 zP;replace zP:=zHl hb zP;replace kQ0:=a0f hb kQ0 zQ;replace kQ1:=a0f hb kQ1 zQ;replace zQ:=zHl hb zQ;replace hBo:=hBo.trans (hb.mono hBo.size);clear hb;go_wp2_with fail;refine (HKN.out _ (HNM.out.below hBo)).mono ?_;rintro e w13 ⟨rfl,hb⟩;replace kF0:=a0f hb kF0 zF;replace kF1:=a0f hb kF1 zF;replace zF:=zHl hb zF;replace kG0:=a0f hb kG0 zG;replace kG1:=a0f hb kG1 zG;replace zG:=zHl hb zG;replace kH0:=a0f hb kH0 zH;replace kH1:=a0f hb kH1 zH;replace zH:=zHl hb zH;replace kC0:=a0f hb kC0 zC;replace kC1:=a0f hb kC1 zC;replace zC:=zHl hb zC;replace kP0:=a0f hb kP0 zP;replace kP1:=a0f hb kP1 zP;replace zP:=zHl hb zP;replace kQ0:=a0f hb kQ0 zQ;replace kQ1:=a0f hb kQ1 zQ;replace zQ:=zHl hb zQ;replace hBo:=hBo.trans (hb.mono hBo.size);clear hb;go_wp2_with fail
        go_ret
        exact ⟨rfl,hBo⟩
end Go.Proofs.YtfbgmokjemmceaaGreatDoor
