import Derived.Test.YtfbgmokjemmceaaGreatDoorAst14
import Derived.Outline
set_option maxHeartbeats 16000000
set_option maxRecDepth 100000
namespace Go.Proofs.YtfbgmokjemmceaaGreatDoor
open Go.RowKit Go.Shelf
set_option linter.unusedSimpArgs false
set_option linter.unusedVariables false
theorem a0p (W:World) (g o:Nat) {K:Nat} (hK:Hid (K=19)) (n:Nd) (h:∀ j u,(ndL n)[j]?=some u→W.cell? ⟨g,o+j,none⟩=some u) :
  Sem.run Tryz.prog (loadCellsFrom ⟨g,o,none⟩ 0 K #[]) W=.ok #[.int .i64 n.k,.int .i64 n.o,.int .i64 n.a,.int .i64 n.b,.bool n.qn,.string n.qa,.string n.qd,.string n.s,.bool n.tr,.string n.r.sh,.int .i64 n.r.c,.int .i64 n.r.r,.bool n.r.fc,.bool n.r.fr,.string n.t.sh,.int .i64 n.t.c,.int .i64 n.t.r,.bool n.t.fc,.bool n.t.fr] W :=
 run_loadCellsFrom_list Tryz.prog W ⟨g,o,none⟩ (ndL n) K hK.out.symm (fun j v hj => by rw [Addr.add_lit];exact h j v hj)
theorem a2m (N:List Nd) (c:Nat) (nc:Nd) (h:N[c]?=some nc):(N.map shN).getD c default=shN nc:=by
 rw [List.getD_eq_getElem?_getD,List.getElem?_map,h];rfl
theorem IntsAt.slice {W:World} {v:Value} {A:List Int} (h:IntsAt W v A):∃ (ba:Option Addr) (cap:Nat),v=.slice ba A.length cap∧∀ k,k < A.length→∃ g o,ba=some ⟨g,o,none⟩∧W.cell? ⟨g,o+k,none⟩=some (.int .i64 (A.getD k 0)):=by
 rcases h with ⟨rfl,rfl⟩ | ⟨g,o,cap,rfl,h1,h2,hc⟩
 ·
  exact ⟨none,0,rfl,fun k hk => by simp at hk⟩
 ·
  exact ⟨_,cap,rfl,fun k hk => ⟨g,o,rfl,hc k hk⟩⟩
theorem NodesAt.slice {W:World} {v:Value} {N:List Nd} (h:NodesAt W v N):∃ (ba:Option Addr) (cap:Nat),v=.slice ba N.length cap∧∀ (k:Nat) (n:Nd),N[k]?=some n→∃ g o,ba=some ⟨g,o,none⟩∧∀ j u,(ndL n)[j]?=some u→W.cell? ⟨g,o+k * 19+j,none⟩=some u:=by
 rcases h with ⟨rfl,rfl⟩ | ⟨g,o,cap,rfl,h1,h2,hc⟩
 ·
  exact ⟨none,0,rfl,fun k n hk => by simp at hk⟩
 ·
  exact ⟨_,cap,rfl,fun k n hk => ⟨g,o,rfl,hc k n hk⟩⟩
def b8u (t0:World) (NN:List Sh) (deps own:List Int) (n:Sh) (T:Int) (r d:Value) (wr:World):Prop:=∃ (k:Nat) (D:Int),k≤own.length∧r=.int .i64 D∧d=.int .i64 k∧a2z NN deps n k (own.drop k) D=T∧0≤D∧D≤1001∧Below t0.heap.size t0 wr
theorem a7w (P:Nat) (u v dv tv ov:Value) (ar:Int) (N:List Nd) (deps own:List Int) (n:Nd) (w:World)
  (kP0:w.cell? ⟨P,0,none⟩=some u) (kP2:w.cell? ⟨P,2,none⟩=some dv)
  (hN:NodesAt w u N) (hD:IntsAt w dv deps) (hO:IntsAt w ov own) (hown:∀ c ∈ own,0≤c∧c < deps.length) (hlen:deps.length≤N.length) (hlen2:N.length≤1000) (hd:∀ d ∈ deps,0≤d∧d≤1000) (hol:own.length≤1000) :
  Calls Tryz.prog 76 #[.pointer (some ⟨P,0,none⟩),ndV n,ov] w fun e w' => e=.returned (.int .i64 (a2z (N.map shN) deps (shN n) 0 own 0+a1v (shN n)))∧Below w.heap.size w w':=by
 have hud:undef=Value.tuple #[]:=rfl;obtain ⟨K19,hz19,HK19⟩:=a0q;obtain ⟨T,hT⟩:∃ T,T=a2z (N.map shN) deps (shN n) 0 own 0:=⟨_,rfl⟩;rw [← hT];have HT:=Lib.hid hT;have HOWN:=Lib.hid hown;have HLEN:=Lib.hid hlen;have HDD:=Lib.hid hd;have zP:=a0j kP0;obtain ⟨bo,co,rfl,hO2⟩:=hO.slice;obtain ⟨bd,cd,rfl,hD2⟩:=hD.slice;obtain ⟨bn,cn,rfl,hN2⟩:=hN.slice;have HO:=Lib.hid hO2;have HD:=Lib.hid hD2;have HNN:=Lib.hid hN2;have HDG:=Lib.hid (fun (c:Int) (hc:0≤c∧c < deps.length) => (show ∃ (j:Nat) (m:Nd),c=j∧j < deps.length∧N[j]?=some m from ⟨c.toNat,N[c.toNat]'(by omega),by omega,by omega,List.getElem?_eq_getElem (by omega)⟩));clear hT hown hd hO hD hN hO2 hD2 hN2;go_enter Tryz.func76,Tryz.ntmps76
 go_upto_region 1 with (fail)
 obtain ⟨s1,hws⟩:∃ s,s=(w.alloc (.cells #[.int .i64 n.k,.int .i64 n.o,.int .i64 n.a,.int .i64 n.b,.bool n.qn,.string n.qa,.string n.qd,.string n.s,.bool n.tr,.string n.r.sh,.int .i64 n.r.c,.int .i64 n.r.r,.bool n.r.fc,.bool n.r.fr,.string n.t.sh,.int .i64 n.t.c,.int .i64 n.t.r,.bool n.t.fc,.bool n.t.fr] 33)):=⟨_,rfl⟩;have hBs:=bs1 (Below.refl w.heap.size w) hws;obtain ⟨A,hdA⟩:∃ b,b=w.heap.size:=⟨_,rfl⟩;have hsz:s1.heap.size=w.heap.size+1:=by rw [hws];simp
 have hN:=bx0 (b:=A) hws hdA;have kA0:=hN 0 _ rfl;have kA1:=hN 1 _ rfl;have kA2:=hN 2 _ rfl;have kA3:=hN 3 _ rfl;have kA4:=hN 4 _ rfl;have kA5:=hN 5 _ rfl;have kA6:=hN 6 _ rfl;have kA7:=hN 7 _ rfl;have kA8:=hN 8 _ rfl;have kA9:=hN 9 _ rfl;have kA10:=hN 10 _ rfl;have kA11:=hN 11 _ rfl;have kA12:=hN 12 _ rfl;have kA13:=hN 13 _ rfl;have kA14:=hN 14 _ rfl;have kA15:=hN 15 _ rfl;have kA16:=hN 16 _ rfl;have kA17:=hN 17 _ rfl;have kA18:=hN 18 _ rfl;clear hN;have zA:A < s1.heap.size:=by omega
 have lA:w.heap.size≤A:=by omega
 have LA:=a0o s1 A HK19 kA0 kA1 kA2 kA3 kA4 kA5 kA6 kA7 kA8 kA9 kA10 kA11 kA12 kA13 kA14 kA15 kA16 kA17 kA18;rw [← hws];try rw [← hdA]
 clear hws hsz hdA;have hBo:=hBs;clear hBs;obtain ⟨t0,ht0⟩:∃ t,t=s1:=⟨_,rfl⟩;rw [← ht0] at hBo ⊢;have HZ:Hid (∀ W,Below t0.heap.size t0 W→Below w.heap.size w W):=fun W h => hBo.trans (h.mono hBo.size)
 have HA:Hid (∀ W,Below t0.heap.size t0 W→∀ j x,(ndL n)[j]?=some x→W.cell? ⟨A,j,none⟩=some x):=fun W h j x hx => by
  refine a0f h ?_ (by rw [ht0];exact zA);rw [ht0]
  match j,hx with
  | 0,hx => rw [← Option.some.inj hx];exact kA0
  | 1,hx => rw [← Option.some.inj hx];exact kA1
  | 2,hx => rw [← Option.some.inj hx];exact kA2
  | 3,hx => rw [← Option.some.inj hx];exact kA3
  | 4,hx => rw [← Option.some.inj hx];exact kA4
  | 5,hx => rw [← Option.some.inj hx];exact kA5
  | 6,hx => rw [← Option.some.inj hx];exact kA6
  | 7,hx => rw [← Option.some.inj hx];exact kA7
  | 8,hx => rw [← Option.some.inj hx];exact kA8
  | 9,hx => rw [← Option.some.inj hx];exact kA9
  | 10,hx => rw [← Option.some.inj hx];exact kA10
  | 11,hx => rw [← Option.some.inj hx];exact kA11
  | 12,hx => rw [← Option.some.inj hx];exact kA12
  | 13,hx => rw [← Option.some.inj hx];exact kA13
  | 14,hx => rw [← Option.some.inj hx];exact kA14
  | 15,hx => rw [← Option.some.inj hx];exact kA15
  | 16,hx => rw [← Option.some.inj hx];exact kA16
  | 17,hx => rw [← Option.some.inj hx];exact kA17
  | 18,hx => rw [← Option.some.inj hx];exact kA18
 have ZA:Hid (∀ W,Below t0.heap.size t0 W→A < W.heap.size):=fun W h => Nat.lt_of_lt_of_le (by rw [ht0];exact zA) h.size
 have HSTEP:Hid (∀ (k:Nat) (D c:Int),own[k]?=some c→own.drop k=c :: own.drop (k+1)):=fun k D c h => by
  obtain ⟨h1,h2⟩:=List.getElem?_eq_some_iff.1 h;rw [List.drop_eq_getElem_cons h1,h2]
 clear ht0 hBo LA;clear kA0 kA1 kA2 kA3 kA4 kA5 kA6 kA7 kA8 kA9 kA10 kA11 kA12 kA13 kA14 kA15 kA16 kA17 kA18 zA;go_wp2_with fail
 go_loopw [7,13] (b8u t0 (N.map shN) deps own (shN n) T) (fun _ d _ => own.length - (intOf d).toNat)
 case atStart => exact ⟨0,0,Nat.zero_le _,rfl,rfl,by rw [List.drop_zero];exact HT.out.symm,by omega,by omega,Below.refl _ _⟩
 case round =>
  obtain ⟨k,D,hk,rfl,rfl,hTk,d1,d2,hW⟩:=hrel;have hBo:=HZ.out _ hW;have hcn:=HA.out _ hW;have kA0:=hcn 0 _ rfl;have kA1:=hcn 1 _ rfl;have kA2:=hcn 2 _ rfl;have kA3:=hcn 3 _ rfl;have kA4:=hcn 4 _ rfl;have kA5:=hcn 5 _ rfl;have kA6:=hcn 6 _ rfl;have kA7:=hcn 7 _ rfl;have kA8:=hcn 8 _ rfl;have kA9:=hcn 9 _ rfl;have kA10:=hcn 10 _ rfl;have kA11:=hcn 11 _ rfl;have kA12:=hcn 12 _ rfl;have kA13:=hcn 13 _ rfl;have kA14:=hcn 14 _ rfl;have kA15:=hcn 15 _ rfl;have kA16:=hcn 16 _ rfl;have kA17:=hcn 17 _ rfl;have kA18:=hcn 18 _ rfl;have zA:=ZA.out _ hW;have LA:=a0o wr A HK19 kA0 kA1 kA2 kA3 kA4 kA5 kA6 kA7 kA8 kA9 kA10 kA11 kA12 kA13 kA14 kA15 kA16 kA17 kA18;have HW:=Lib.hid hW;have HTK:=Lib.hid hTk;clear hcn hW hTk;by_cases hlt:k < own.length
  ·
   obtain ⟨c,hc0⟩:∃ c,c=own.getD k 0:=⟨_,rfl⟩;have hcm:own[k]?=some c:=by rw [hc0,List.getD_eq_getElem?_getD,List.getElem?_eq_getElem hlt];rfl
   have hin:=HOWN.out c (List.mem_of_getElem? hcm);obtain ⟨j,m,rfl,hj,hNj⟩:=HDG.out c hin;obtain ⟨go,oo,rfl,hco⟩:=HO.out k hlt;obtain ⟨gd,od,rfl,hcd⟩:=HD.out j hj;obtain ⟨gn,on,rfl,hcn⟩:=HNN.out j m hNj;rw [← hc0] at hco;have q0:=a0f hBo kP0 zP;have q2:=a0f hBo kP2 zP;have q3:=a0f hBo hco (a0j hco);have q4:=a0f hBo hcd (a0j hcd);have HQ5:Hid (∀ i u,(ndL m)[i]?=some u→wr.cell? ⟨gn,on+j * K19+i,none⟩=some u):=fun i u hu => by rw [HK19.out];exact a0f hBo (hcn i u hu) (a0j (hcn i u hu))
   have zP2:P < wr.heap.size:=a0j q0;have zN:gn < wr.heap.size:=a0j (HQ5.out 0 _ rfl);obtain ⟨dj,hdj⟩:∃ d,d=deps.getD j 0:=⟨_,rfl⟩;rw [← hdj] at q4;have hdm:dj ∈ deps:=by rw [hdj,List.getD_eq_getElem?_getD,List.getElem?_eq_getElem hj];exact List.getElem_mem hj
   obtain ⟨x1,x2⟩:=HDD.out dj hdm;have LM:=a0p wr gn (on+j * K19) HK19 m HQ5.out;have hjN:j < N.length:=Nat.lt_of_lt_of_le hj HLEN.out;have HI:=Lib.hid (fun w => c2s n m k w)
   have HNEXT:Hid (a2z (N.map shN) deps (shN n) (k+1) (own.drop (k+1)) (max D (dj+if brk (shN n) (shN m) k then 1 else 0))=T):=by
    have e:=HTK.out;rw [HSTEP.out k D _ hcm,a2z,Int.toNat_natCast,a2m N j m hNj,← hdj] at e;exact e
   have HHJ:=Lib.hid hj;clear hc0 hcm hin hNj hco hcd hcn hdj hdm hj kP0 kP2 zP;generalize brk (shN n) (shN m) k=bb at *
   cases bb with
   | true =>
    go_upto_region 6 with (fail)
    have HF:Hid (∀ W,Below wr.heap.size wr W→Below w.heap.size w W):=fun W hW => hBo.trans (hW.mono hBo.size)
    clear hBo;refine wp_region_held_drew (S:=fun w' => w'.cell? ⟨A,0,none⟩=some (.int .i64 n.k)∧w'.cell? ⟨A,1,none⟩=some (.int .i64 n.o)∧w'.cell? ⟨A,2,none⟩=some (.int .i64 n.a)∧w'.cell? ⟨A,3,none⟩=some (.int .i64 n.b)∧w'.cell? ⟨A,4,none⟩=some (.bool n.qn)∧w'.cell? ⟨A,5,none⟩=some (.string n.qa)∧w'.cell? ⟨A,6,none⟩=some (.string n.qd)∧w'.cell? ⟨A,7,none⟩=some (.string n.s)∧w'.cell? ⟨A,8,none⟩=some (.bool n.tr)∧w'.cell? ⟨A,9,none⟩=some (.string n.r.sh)∧w'.cell? ⟨A,10,none⟩=some (.int .i64 n.r.c)∧w'.cell? ⟨A,11,none⟩=some (.int .i64 n.r.r)∧w'.cell? ⟨A,12,none⟩=some (.bool n.r.fc)∧w'.cell? ⟨A,13,none⟩=some (.bool n.r.fr)∧w'.cell? ⟨A,14,none⟩=some (.string n.t.sh)∧w'.cell? ⟨A,15,none⟩=some (.int .i64 n.t.c)∧w'.cell? ⟨A,16,none⟩=some (.int .i64 n.t.r)∧w'.cell? ⟨A,17,none⟩=some (.bool n.t.fc)∧w'.cell? ⟨A,18,none⟩=some (.bool n.t.fr)∧Sem.run Tryz.prog (loadCellsFrom ⟨A,0,none⟩ 0 K19 #[]) w'=.ok #[.int .i64 n.k,.int .i64 n.o,.int .i64 n.a,.int .i64 n.b,.bool n.qn,.string n.qa,.string n.qd,.string n.s,.bool n.tr,.string n.r.sh,.int .i64 n.r.c,.int .i64 n.r.r,.bool n.r.fc,.bool n.r.fr,.string n.t.sh,.int .i64 n.t.c,.int .i64 n.t.r,.bool n.t.fc,.bool n.t.fr] w'∧w'.cell? ⟨P,0,none⟩=some (.slice (some ⟨gn,on,none⟩) N.length cn)∧Sem.run Tryz.prog (loadCellsFrom ⟨gn,on+j * K19,none⟩ 0 K19 #[]) w'=.ok #[.int .i64 m.k,.int .i64 m.o,.int .i64 m.a,.int .i64 m.b,.bool m.qn,.string m.qa,.string m.qd,.string m.s,.bool m.tr,.string m.r.sh,.int .i64 m.r.c,.int .i64 m.r.r,.bool m.r.fc,.bool m.r.fr,.string m.t.sh,.int .i64 m.t.c,.int .i64 m.t.r,.bool m.t.fc,.bool m.t.fr] w') (by kernel_rfl) (by ((try dsimp only);((repeat' apply And.intro) <;> first | assumption| exact a0p _ _ _ HK19 m HQ5.out | exact a0p _ _ _ HK19 m (fun i u hu => (hcx _ _ zN).trans (HQ5.out i u hu)) | exact a0o _ A HK19 kA0 kA1 kA2 kA3 kA4 kA5 kA6 kA7 kA8 kA9 kA10 kA11 kA12 kA13 kA14 kA15 kA16 kA17 kA18 | (refine a0o _ _ HK19 ?_ ?_ ?_ ?_ ?_ ?_ ?_ ?_ ?_ ?_ ?_ ?_ ?_ ?_ ?_ ?_ ?_ ?_ ?_ <;> (rw [hcx _ _ (by assumption)];assumption)) | ((repeat (with_reducible first | apply a0b | apply a0x | refine a0e ?_ (by (try dsimp only);omega))) <;> first | assumption | (rw [hcx _ _ (by assumption)];assumption))))) (fun hHeld => ?_)
    refine tk 0 ?_;try simp only [pz]
    refine tk 1 ?_;try simp only [pz]
    refine tk 2 ?_;try simp only [pz]
    refine tk 3 ?_;try simp only [pz]
    refine tk 4 ?_;try simp only [pz]
    refine tk 5 ?_;try simp only [pz]
    refine tk 6 ?_;try simp only [pz]
    refine tk 7 ?_;try simp only [pz]
    refine tk 8 ?_;try simp only [pz]
    refine tk 9 ?_;try simp only [pz]
    refine rd1 10 (by kernel_rfl) rfl fun K hK => ?_
    go_simp
    (go_at_call 97;refine (HI.out _).mono ?_;rintro e x2 ⟨rfl,hbx⟩;have hTx:Below wr.heap.size wr x2:=bHb hbx;obtain ⟨hcx,hfx⟩:=a0k hTx)
    try (go_wp2_with fail)
    refine hK.out _ _ (by ((try dsimp only);((repeat' apply And.intro) <;> first | assumption| exact a0p _ _ _ HK19 m HQ5.out | exact a0p _ _ _ HK19 m (fun i u hu => (hcx _ _ zN).trans (HQ5.out i u hu)) | exact a0o _ A HK19 kA0 kA1 kA2 kA3 kA4 kA5 kA6 kA7 kA8 kA9 kA10 kA11 kA12 kA13 kA14 kA15 kA16 kA17 kA18 | (refine a0o _ _ HK19 ?_ ?_ ?_ ?_ ?_ ?_ ?_ ?_ ?_ ?_ ?_ ?_ ?_ ?_ ?_ ?_ ?_ ?_ ?_ <;> (rw [hcx _ _ (by assumption)];assumption)) | ((repeat (with_reducible first | apply a0b | apply a0x | refine a0e ?_ (by (try dsimp only);omega))) <;> first | assumption | (rw [hcx _ _ (by assumption)];assumption))))) (fun hHeld => ?_)
    clear hK K;try simp only [pz]
    refine wpAnyH_done (by kernel_rfl) ?_ _;go_wp2_with fail
    go_roundw
    case rel => exact ⟨k+1,max D (dj+1),by omega,rfl,by go_num,by simpa using HNEXT.out,by omega,by omega,HW.out.trans (hTx.mono HW.out.size)⟩
    case measure => simp [intOf];omega
   | false =>
    go_upto_region 6 with (fail)
    have HF:Hid (∀ W,Below wr.heap.size wr W→Below w.heap.size w W):=fun W hW => hBo.trans (hW.mono hBo.size)
    clear hBo;refine wp_region_held_drew (S:=fun w' => w'.cell? ⟨A,0,none⟩=some (.int .i64 n.k)∧w'.cell? ⟨A,1,none⟩=some (.int .i64 n.o)∧w'.cell? ⟨A,2,none⟩=some (.int .i64 n.a)∧w'.cell? ⟨A,3,none⟩=some (.int .i64 n.b)∧w'.cell? ⟨A,4,none⟩=some (.bool n.qn)∧w'.cell? ⟨A,5,none⟩=some (.string n.qa)∧w'.cell? ⟨A,6,none⟩=some (.string n.qd)∧w'.cell? ⟨A,7,none⟩=some (.string n.s)∧w'.cell? ⟨A,8,none⟩=some (.bool n.tr)∧w'.cell? ⟨A,9,none⟩=some (.string n.r.sh)∧w'.cell? ⟨A,10,none⟩=some (.int .i64 n.r.c)∧w'.cell? ⟨A,11,none⟩=some (.int .i64 n.r.r)∧w'.cell? ⟨A,12,none⟩=some (.bool n.r.fc)∧w'.cell? ⟨A,13,none⟩=some (.bool n.r.fr)∧w'.cell? ⟨A,14,none⟩=some (.string n.t.sh)∧w'.cell? ⟨A,15,none⟩=some (.int .i64 n.t.c)∧w'.cell? ⟨A,16,none⟩=some (.int .i64 n.t.r)∧w'.cell? ⟨A,17,none⟩=some (.bool n.t.fc)∧w'.cell? ⟨A,18,none⟩=some (.bool n.t.fr)∧Sem.run Tryz.prog (loadCellsFrom ⟨A,0,none⟩ 0 K19 #[]) w'=.ok #[.int .i64 n.k,.int .i64 n.o,.int .i64 n.a,.int .i64 n.b,.bool n.qn,.string n.qa,.string n.qd,.string n.s,.bool n.tr,.string n.r.sh,.int .i64 n.r.c,.int .i64 n.r.r,.bool n.r.fc,.bool n.r.fr,.string n.t.sh,.int .i64 n.t.c,.int .i64 n.t.r,.bool n.t.fc,.bool n.t.fr] w'∧w'.cell? ⟨P,0,none⟩=some (.slice (some ⟨gn,on,none⟩) N.length cn)∧Sem.run Tryz.prog (loadCellsFrom ⟨gn,on+j * K19,none⟩ 0 K19 #[]) w'=.ok #[.int .i64 m.k,.int .i64 m.o,.int .i64 m.a,.int .i64 m.b,.bool m.qn,.string m.qa,.string m.qd,.string m.s,.bool m.tr,.string m.r.sh,.int .i64 m.r.c,.int .i64 m.r.r,.bool m.r.fc,.bool m.r.fr,.string m.t.sh,.int .i64 m.t.c,.int .i64 m.t.r,.bool m.t.fc,.bool m.t.fr] w') (by kernel_rfl) (by ((try dsimp only);((repeat' apply And.intro) <;> first | assumption| exact a0p _ _ _ HK19 m HQ5.out | exact a0p _ _ _ HK19 m (fun i u hu => (hcx _ _ zN).trans (HQ5.out i u hu)) | exact a0o _ A HK19 kA0 kA1 kA2 kA3 kA4 kA5 kA6 kA7 kA8 kA9 kA10 kA11 kA12 kA13 kA14 kA15 kA16 kA17 kA18 | (refine a0o _ _ HK19 ?_ ?_ ?_ ?_ ?_ ?_ ?_ ?_ ?_ ?_ ?_ ?_ ?_ ?_ ?_ ?_ ?_ ?_ ?_ <;> (rw [hcx _ _ (by assumption)];assumption)) | ((repeat (with_reducible first | apply a0b | apply a0x | refine a0e ?_ (by (try dsimp only);omega))) <;> first | assumption | (rw [hcx _ _ (by assumption)];assumption))))) (fun hHeld => ?_)
    refine tk 0 ?_;try simp only [pz]
    refine tk 1 ?_;try simp only [pz]
    refine tk 2 ?_;try simp only [pz]
    refine tk 3 ?_;try simp only [pz]
    refine tk 4 ?_;try simp only [pz]
    refine tk 5 ?_;try simp only [pz]
    refine tk 6 ?_;try simp only [pz]
    refine tk 7 ?_;try simp only [pz]
    refine tk 8 ?_;try simp only [pz]
    refine tk 9 ?_;try simp only [pz]
    refine rd1 10 (by kernel_rfl) rfl fun K hK => ?_
    go_simp
    (go_at_call 97;refine (HI.out _).mono ?_;rintro e x3 ⟨rfl,hbx⟩;have hTx:Below wr.heap.size wr x3:=bHb hbx;obtain ⟨hcx,hfx⟩:=a0k hTx)
    try (go_wp2_with fail)
    refine hK.out _ _ (by ((try dsimp only);((repeat' apply And.intro) <;> first | assumption| exact a0p _ _ _ HK19 m HQ5.out | exact a0p _ _ _ HK19 m (fun i u hu => (hcx _ _ zN).trans (HQ5.out i u hu)) | exact a0o _ A HK19 kA0 kA1 kA2 kA3 kA4 kA5 kA6 kA7 kA8 kA9 kA10 kA11 kA12 kA13 kA14 kA15 kA16 kA17 kA18 | (refine a0o _ _ HK19 ?_ ?_ ?_ ?_ ?_ ?_ ?_ ?_ ?_ ?_ ?_ ?_ ?_ ?_ ?_ ?_ ?_ ?_ ?_ <;> (rw [hcx _ _ (by assumption)];assumption)) | ((repeat (with_reducible first | apply a0b | apply a0x | refine a0e ?_ (by (try dsimp only);omega))) <;> first | assumption | (rw [hcx _ _ (by assumption)];assumption))))) (fun hHeld => ?_)
    clear hK K;try simp only [pz]
    refine wpAnyH_done (by kernel_rfl) ?_ _;go_wp2_with fail
    go_roundw
    case rel => exact ⟨k+1,max D dj,by omega,rfl,by go_num,by simpa using HNEXT.out,by omega,by omega,HW.out.trans (hTx.mono HW.out.size)⟩
    case measure => simp [intOf];omega
  ·
   obtain rfl:k=own.length:=by omega
   have hTD:Hid (T=D):=by
    have e:=HTK.out;rw [List.drop_length,a2z] at e;exact e.symm
   have HLV:=Lib.hid (fun w => a1z n w);have hom:a1v (shN n)=if n.k=9 ∨ lvI n.k n.o=6 then 1 else 0:=rfl
   clear kP0 kP2 zP;by_cases h9:n.k=9
   ·
    have g9:(n.k == 9)=true:=by simpa using h9
    have HOM:=Lib.hid (hom.trans (if_pos (Or.inl h9)));clear h9 hom;go_wp2_with fail
    go_ret
    exact ⟨a1c (by rw [hTD.out,HOM.out]),HZ.out _ HW.out⟩
   ·
    have g9:(n.k == 9)=false:=by simpa using h9
    generalize lvI n.k n.o=lv at *;by_cases h6:lv=6
    ·
     have HOM:=Lib.hid (hom.trans (if_pos (Or.inr h6)));subst h6;clear h9 hom;go_wp2_with fail;refine (HLV.out _).mono ?_;rintro e wl ⟨rfl,hbl⟩;go_wp2_with fail
     go_ret
     exact ⟨a1c (by rw [hTD.out,HOM.out]),HZ.out _ (HW.out.trans (hbl.mono HW.out.size))⟩
    ·
     have g6:(lv == 6)=false:=by simpa using h6
     have HOM:=Lib.hid (hom.trans (if_neg (by rintro (h | h);exact h9 h;exact h6 h)));clear h9 hom h6;go_wp2_with fail;refine (HLV.out _).mono ?_;rintro e wl ⟨rfl,hbl⟩;go_wp2_with fail
     go_ret
     exact ⟨a1c (by rw [hTD.out,HOM.out];omega),HZ.out _ (HW.out.trans (hbl.mono HW.out.size))⟩
end Go.Proofs.YtfbgmokjemmceaaGreatDoor
