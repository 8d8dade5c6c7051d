import Derived.Test.YtddgjgcogkdplaaGreatDoorCel8
set_option maxHeartbeats 4000000
set_option maxRecDepth 100000
namespace Go.Proofs.YtddgjgcogkdplaaGreatDoor
open Go.RowKit Go.Shelf
set_option linter.unusedSimpArgs false
set_option linter.unusedVariables false
def chA (way a n:Int) (g p:Nat):Value:=.agg #[I6 (d7d way),I6 a,I6 n,.func (.func g) #[] #[],.func (.func p) #[] #[]]
theorem e0r (K:Nat) (HCF:∀ (x y:Value) (w:World),(callFunc K #[x,y]).run Tryz.prog w=.ok (.enter K #[x,y]) w) (q:Rf) (way a n v:Int) (t:Rf) (b:Bool) (w:World) (hs:q.sh.size<=maxLen) (hm:d8b way a n=true) (hr:d7t q=true)
  (HK:∀ (g p:Nat) (w:World),Calls Tryz.prog K #[chA way a n g p,I6 (plZ q way)] w fun e w'=>e=.returned (I6 v)/\Bl w w')
  (h:((v<1\/d7d way<v)/\t=rf0/\b=false)\/(1<=v/\v<=d7d way/\ptR q way v=t/\b=true)) :
  Calls Tryz.prog 78 #[.agg #[.string q.sh,I6 q.c,I6 q.r,.bool q.fc,.bool q.fr],I6 way,I6 a,I6 n,.func (.func K) #[] #[]] w fun e w'=>e=.returned (.tuple #[.agg #[.string t.sh,I6 t.c,I6 t.r,.bool t.fc,.bool t.fr],.bool b])/\Bl w w':=by
 have hud:=hUd;have HC:=zh (fun w=>d7g way a n w hm);have HR:=zh (fun w=>a6l q true w hs hr);have HG:=zh (fun w=>d8x q way _ w rfl);have hcg:=f0g way;have hcp:=f1q way;have HP:=zh (fun t w (h:ptR q way v=t)=>e1j q way v t w h);have HKK:=zh (fun w=>HK (e4e way) (e4f way) w);unfold chV at HC;unfold chA at HKK;generalize e4e way=g at *;generalize e4f way=p at *;generalize plZ q way=z at *;generalize d7d way=L at *;clear hm hr HK
 rcases h with ⟨h1,rfl,rfl⟩ | ⟨h1,h2,h3,rfl⟩
 ·
  rcases h1 with h1 | h1
  ·
   clear hcp HP;go_enter Tryz.func78,Tryz.ntmps78;go_wp2_with fail;obtain⟨s7,A,C,hws,hdA,hdC,hsz,zA,zC⟩:=nm2 w (.cells #[.string q.sh,I6 q.c,I6 q.r,.bool q.fc,.bool q.fr] 67) (.cells #[S0,I6 0,I6 0,.bool false,.bool false] 67);have dCA:C≠A:=by omega
   have yA:=by1 (b:=A) hws hdA;have yC:=by0 (b:=C) hws (by simp[hdC]);have fC:=bf0 (b:=C) hws (by simp[hdC]);have lC:w.heap.size<=C:=by omega
   have hBo:=bs2 bR hws;rw[<-hws];try rw[<-hdC]
   try rw[<-hdA]
   clear hws hsz hdA hdC;refine cAn (HC.out _) fun s8 hb=>?_
   replace yA:=eqB hb yA zA;replace zA:=zHl hb zA;replace yC:=eqB hb yC zC;replace fC:=fun j=>a0g hb (fC j) zC;replace zC:=zHl hb zC
   replace hBo:=bT hBo hb;clear hb;go_wp2_with fail;obtain⟨s9,Q,hws,hdQ,hsz,zQ⟩:=nm1 s8 (.cells #[I6 L,I6 a,I6 n,.func (.func g) #[] #[],.func (.func p) #[] #[]] 121);have hUp:=up1 hws;have dCQ:C≠Q:=by omega
   replace yA:=eqB hUp yA zA;replace zA:=zHl hUp zA;replace yC:=eqB hUp yC zC;replace fC:=fun j=>a0g hUp (fC j) zC;replace zC:=zHl hUp zC
   clear hUp;have yQ:=by0 (b:=Q) hws hdQ;replace hBo:=bs1 hBo hws;rw[<-hws];try rw[<-hdQ]
   clear hws hsz hdQ;refine cAn (HR.out _) fun s10 hb=>?_
   replace yA:=eqB hb yA zA;replace zA:=zHl hb zA;replace yC:=eqB hb yC zC;replace fC:=fun j=>a0g hb (fC j) zC;replace zC:=zHl hb zC
   replace yQ:=eqB hb yQ zQ;replace zQ:=zHl hb zQ;replace hBo:=bT hBo hb;clear hb;go_wp2_with fail;have HF:=hFF hBo;clear hBo;refine wrp (S:=fun w'=>(∀ j,w'.cell? ⟨A,j,none⟩=([.string q.sh,I6 q.c,I6 q.r,.bool q.fc,.bool q.fr]:List Value)[j]?)/\(∀ j,w'.cell? ⟨Q,j,none⟩=([I6 L,I6 a,I6 n,.func (.func g) #[] #[],.func (.func p) #[] #[]]:List Value)[j]?)) (by kernel_rfl) (fun w' hx=>by obtain⟨hcx,hfx⟩:=a0k hx;((try dsimp only);(first | go_keep | ((repeat' apply And.intro)<;>first | assumption | exact yA | exact fun j=>(hcx A j (by assumption)).trans (yA j) | exact eqS yA (by dsimp only;omega) | exact eqS (fun j=>(hcx A j (by assumption)).trans (yA j)) (by dsimp only;omega) | exact yQ | exact fun j=>(hcx Q j (by assumption)).trans (yQ j) | exact eqS yQ (by dsimp only;omega) | exact eqS (fun j=>(hcx Q j (by assumption)).trans (yQ j)) (by dsimp only;omega) | go_keep | (rw[hcx _ _ (by assumption)];assumption))))) (fun HKP hHeld=>?_)
   refine tk 0 ?_;simp only[pz];refine tk 1 ?_;simp only[pz];refine tk 2 ?_;simp only[pz];refine tk 3 ?_;simp only[pz];refine tk 4 ?_;simp only[pz];refine rd1 5 (by kernel_rfl) rfl fun K hK=>?_
   go_simp
   (refine cAn (HG.out _) fun x11 hbx=>?_;have hTx:Bl s10 x11:=bHb hbx;obtain⟨hcx,hfx⟩:=a0k hTx)
   try (go_wp2_with fail)
   refine hK.out _ _ (kHp HKP) (fun hHeld=>?_);clear hK K;try simp only[pz]
   refine rd1 6 (by kernel_rfl) rfl fun K hK=>?_
   go_simp
   (refine cAn (HKK.out _) fun x11 hbx=>?_;have hTx:Bl s10 x11:=bHb hbx;obtain⟨hcx,hfx⟩:=a0k hTx)
   try (go_wp2_with fail)
   refine hK.out _ _ (kHp HKP) (fun hHeld=>?_);clear hK K;try simp only[pz]
   refine tk 7 ?_;simp only[pz];refine wpAnyH_done (by kernel_rfl) ?_ _
   all_goals go_wp2_with fail
   all_goals refine bodyPost_ret (v:=.tuple #[.agg #[S0,I6 0,I6 0,.bool false,.bool false],.bool false]) (by simp[results,Tryz.results78,go_sem,hcx,yC,zC]) rfl ⟨rfl,?_⟩
   all_goals exact(sc5 (HF.out _ (by assumption)) lC)
  ·
   have h1' : ¬ v<1\/v<1:=by omega
   by_cases h5:v<1
   ·
    clear hcp HP;go_enter Tryz.func78,Tryz.ntmps78;go_wp2_with fail;obtain⟨s12,A,C,hws,hdA,hdC,hsz,zA,zC⟩:=nm2 w (.cells #[.string q.sh,I6 q.c,I6 q.r,.bool q.fc,.bool q.fr] 67) (.cells #[S0,I6 0,I6 0,.bool false,.bool false] 67);have dCA:C≠A:=by omega
    have yA:=by1 (b:=A) hws hdA;have yC:=by0 (b:=C) hws (by simp[hdC]);have fC:=bf0 (b:=C) hws (by simp[hdC]);have lC:w.heap.size<=C:=by omega
    have hBo:=bs2 bR hws;rw[<-hws];try rw[<-hdC]
    try rw[<-hdA]
    clear hws hsz hdA hdC;refine cAn (HC.out _) fun s13 hb=>?_
    replace yA:=eqB hb yA zA;replace zA:=zHl hb zA;replace yC:=eqB hb yC zC;replace fC:=fun j=>a0g hb (fC j) zC;replace zC:=zHl hb zC
    replace hBo:=bT hBo hb;clear hb;go_wp2_with fail;obtain⟨s14,Q,hws,hdQ,hsz,zQ⟩:=nm1 s13 (.cells #[I6 L,I6 a,I6 n,.func (.func g) #[] #[],.func (.func p) #[] #[]] 121);have hUp:=up1 hws;have dCQ:C≠Q:=by omega
    replace yA:=eqB hUp yA zA;replace zA:=zHl hUp zA;replace yC:=eqB hUp yC zC;replace fC:=fun j=>a0g hUp (fC j) zC;replace zC:=zHl hUp zC
    clear hUp;have yQ:=by0 (b:=Q) hws hdQ;replace hBo:=bs1 hBo hws;rw[<-hws];try rw[<-hdQ]
    clear hws hsz hdQ;refine cAn (HR.out _) fun s15 hb=>?_
    replace yA:=eqB hb yA zA;replace zA:=zHl hb zA;replace yC:=eqB hb yC zC;replace fC:=fun j=>a0g hb (fC j) zC;replace zC:=zHl hb zC
    replace yQ:=eqB hb yQ zQ;replace zQ:=zHl hb zQ;replace hBo:=bT hBo hb;clear hb;go_wp2_with fail;have HF:=hFF hBo;clear hBo;refine wrp (S:=fun w'=>(∀ j,w'.cell? ⟨A,j,none⟩=([.string q.sh,I6 q.c,I6 q.r,.bool q.fc,.bool q.fr]:List Value)[j]?)/\(∀ j,w'.cell? ⟨Q,j,none⟩=([I6 L,I6 a,I6 n,.func (.func g) #[] #[],.func (.func p) #[] #[]]:List Value)[j]?)) (by kernel_rfl) (fun w' hx=>by obtain⟨hcx,hfx⟩:=a0k hx;((try dsimp only);(first | go_keep | ((repeat' apply And.intro)<;>first | assumption | exact yA | exact fun j=>(hcx A j (by assumption)).trans (yA j) | exact eqS yA (by dsimp only;omega) | exact eqS (fun j=>(hcx A j (by assumption)).trans (yA j)) (by dsimp only;omega) | exact yQ | exact fun j=>(hcx Q j (by assumption)).trans (yQ j) | exact eqS yQ (by dsimp only;omega) | exact eqS (fun j=>(hcx Q j (by assumption)).trans (yQ j)) (by dsimp only;omega) | go_keep | (rw[hcx _ _ (by assumption)];assumption))))) (fun HKP hHeld=>?_)
    refine tk 0 ?_;simp only[pz];refine tk 1 ?_;simp only[pz];refine tk 2 ?_;simp only[pz];refine tk 3 ?_;simp only[pz];refine tk 4 ?_;simp only[pz];refine rd1 5 (by kernel_rfl) rfl fun K hK=>?_
    go_simp
    (refine cAn (HG.out _) fun x16 hbx=>?_;have hTx:Bl s15 x16:=bHb hbx;obtain⟨hcx,hfx⟩:=a0k hTx)
    try (go_wp2_with fail)
    refine hK.out _ _ (kHp HKP) (fun hHeld=>?_);clear hK K;try simp only[pz]
    refine rd1 6 (by kernel_rfl) rfl fun K hK=>?_
    go_simp
    (refine cAn (HKK.out _) fun x16 hbx=>?_;have hTx:Bl s15 x16:=bHb hbx;obtain⟨hcx,hfx⟩:=a0k hTx)
    try (go_wp2_with fail)
    refine hK.out _ _ (kHp HKP) (fun hHeld=>?_);clear hK K;try simp only[pz]
    refine tk 7 ?_;simp only[pz];refine wpAnyH_done (by kernel_rfl) ?_ _
    all_goals go_wp2_with fail
    all_goals refine bodyPost_ret (v:=.tuple #[.agg #[S0,I6 0,I6 0,.bool false,.bool false],.bool false]) (by simp[results,Tryz.results78,go_sem,hcx,yC,zC]) rfl ⟨rfl,?_⟩
    all_goals exact(sc5 (HF.out _ (by assumption)) lC)
   ·
    clear hcp HP h1';go_enter Tryz.func78,Tryz.ntmps78;go_wp2_with fail;obtain⟨s17,A,C,hws,hdA,hdC,hsz,zA,zC⟩:=nm2 w (.cells #[.string q.sh,I6 q.c,I6 q.r,.bool q.fc,.bool q.fr] 67) (.cells #[S0,I6 0,I6 0,.bool false,.bool false] 67);have dCA:C≠A:=by omega
    have yA:=by1 (b:=A) hws hdA;have yC:=by0 (b:=C) hws (by simp[hdC]);have fC:=bf0 (b:=C) hws (by simp[hdC]);have lC:w.heap.size<=C:=by omega
    have hBo:=bs2 bR hws;rw[<-hws];try rw[<-hdC]
    try rw[<-hdA]
    clear hws hsz hdA hdC;refine cAn (HC.out _) fun s18 hb=>?_
    replace yA:=eqB hb yA zA;replace zA:=zHl hb zA;replace yC:=eqB hb yC zC;replace fC:=fun j=>a0g hb (fC j) zC;replace zC:=zHl hb zC
    replace hBo:=bT hBo hb;clear hb;go_wp2_with fail;obtain⟨s19,Q,hws,hdQ,hsz,zQ⟩:=nm1 s18 (.cells #[I6 L,I6 a,I6 n,.func (.func g) #[] #[],.func (.func p) #[] #[]] 121);have hUp:=up1 hws;have dCQ:C≠Q:=by omega
    replace yA:=eqB hUp yA zA;replace zA:=zHl hUp zA;replace yC:=eqB hUp yC zC;replace fC:=fun j=>a0g hUp (fC j) zC;replace zC:=zHl hUp zC
    clear hUp;have yQ:=by0 (b:=Q) hws hdQ;replace hBo:=bs1 hBo hws;rw[<-hws];try rw[<-hdQ]
    clear hws hsz hdQ;refine cAn (HR.out _) fun s20 hb=>?_
    replace yA:=eqB hb yA zA;replace zA:=zHl hb zA;replace yC:=eqB hb yC zC;replace fC:=fun j=>a0g hb (fC j) zC;replace zC:=zHl hb zC
    replace yQ:=eqB hb yQ zQ;replace zQ:=zHl hb zQ;replace hBo:=bT hBo hb;clear hb;go_wp2_with fail;have HF:=hFF hBo;clear hBo;refine wrp (S:=fun w'=>(∀ j,w'.cell? ⟨A,j,none⟩=([.string q.sh,I6 q.c,I6 q.r,.bool q.fc,.bool q.fr]:List Value)[j]?)/\(∀ j,w'.cell? ⟨Q,j,none⟩=([I6 L,I6 a,I6 n,.func (.func g) #[] #[],.func (.func p) #[] #[]]:List Value)[j]?)) (by kernel_rfl) (fun w' hx=>by obtain⟨hcx,hfx⟩:=a0k hx;((try dsimp only);(first | go_keep | ((repeat' apply And.intro)<;>first | assumption | exact yA | exact fun j=>(hcx A j (by assumption)).trans (yA j) | exact eqS yA (by dsimp only;omega) | exact eqS (fun j=>(hcx A j (by assumption)).trans (yA j)) (by dsimp only;omega) | exact yQ | exact fun j=>(hcx Q j (by assumption)).trans (yQ j) | exact eqS yQ (by dsimp only;omega) | exact eqS (fun j=>(hcx Q j (by assumption)).trans (yQ j)) (by dsimp only;omega) | go_keep | (rw[hcx _ _ (by assumption)];assumption))))) (fun HKP hHeld=>?_)
    refine tk 0 ?_;simp only[pz];refine tk 1 ?_;simp only[pz];refine tk 2 ?_;simp only[pz];refine tk 3 ?_;simp only[pz];refine tk 4 ?_;simp only[pz];refine rd1 5 (by kernel_rfl) rfl fun K hK=>?_
    go_simp
    (refine cAn (HG.out _) fun x21 hbx=>?_;have hTx:Bl s20 x21:=bHb hbx;obtain⟨hcx,hfx⟩:=a0k hTx)
    try (go_wp2_with fail)
    refine hK.out _ _ (kHp HKP) (fun hHeld=>?_);clear hK K;try simp only[pz]
    refine rd1 6 (by kernel_rfl) rfl fun K hK=>?_
    go_simp
    (refine cAn (HKK.out _) fun x21 hbx=>?_;have hTx:Bl s20 x21:=bHb hbx;obtain⟨hcx,hfx⟩:=a0k hTx)
    try (go_wp2_with fail)
    refine hK.out _ _ (kHp HKP) (fun hHeld=>?_);clear hK K;try simp only[pz]
    refine tk 7 ?_;simp only[pz];refine wpAnyH_done (by kernel_rfl) ?_ _
    all_goals go_wp2_with fail
    all_goals refine bodyPost_ret (v:=.tuple #[.agg #[S0,I6 0,I6 0,.bool false,.bool false],.bool false]) (by simp[results,Tryz.results78,go_sem,hcx,yC,zC]) rfl ⟨rfl,?_⟩
    all_goals exact(sc5 (HF.out _ (by assumption)) lC)
 ·
  have HPP:=zh (fun w=>HP.out t w h3);clear HP h3;go_enter Tryz.func78,Tryz.ntmps78;go_wp2_with fail;obtain⟨s22,A,C,hws,hdA,hdC,hsz,zA,zC⟩:=nm2 w (.cells #[.string q.sh,I6 q.c,I6 q.r,.bool q.fc,.bool q.fr] 67) (.cells #[S0,I6 0,I6 0,.bool false,.bool false] 67);have dCA:C≠A:=by omega
  have yA:=by1 (b:=A) hws hdA;have yC:=by0 (b:=C) hws (by simp[hdC]);have fC:=bf0 (b:=C) hws (by simp[hdC]);have lC:w.heap.size<=C:=by omega
  have hBo:=bs2 bR hws;rw[<-hws];try rw[<-hdC]
  try rw[<-hdA]
  clear hws hsz hdA hdC;refine cAn (HC.out _) fun s23 hb=>?_
  replace yA:=eqB hb yA zA;replace zA:=zHl hb zA;replace yC:=eqB hb yC zC;replace fC:=fun j=>a0g hb (fC j) zC;replace zC:=zHl hb zC
  replace hBo:=bT hBo hb;clear hb;go_wp2_with fail;obtain⟨s24,Q,hws,hdQ,hsz,zQ⟩:=nm1 s23 (.cells #[I6 L,I6 a,I6 n,.func (.func g) #[] #[],.func (.func p) #[] #[]] 121);have hUp:=up1 hws;have dCQ:C≠Q:=by omega
  replace yA:=eqB hUp yA zA;replace zA:=zHl hUp zA;replace yC:=eqB hUp yC zC;replace fC:=fun j=>a0g hUp (fC j) zC;replace zC:=zHl hUp zC
  clear hUp;have yQ:=by0 (b:=Q) hws hdQ;replace hBo:=bs1 hBo hws;rw[<-hws];try rw[<-hdQ]
  clear hws hsz hdQ;refine cAn (HR.out _) fun s25 hb=>?_
  replace yA:=eqB hb yA zA;replace zA:=zHl hb zA;replace yC:=eqB hb yC zC;replace fC:=fun j=>a0g hb (fC j) zC;replace zC:=zHl hb zC
  replace yQ:=eqB hb yQ zQ;replace zQ:=zHl hb zQ;replace hBo:=bT hBo hb;clear hb;go_wp2_with fail;have HF:=hFF hBo;clear hBo;refine wrp (S:=fun w'=>(∀ j,w'.cell? ⟨A,j,none⟩=([.string q.sh,I6 q.c,I6 q.r,.bool q.fc,.bool q.fr]:List Value)[j]?)/\(∀ j,w'.cell? ⟨Q,j,none⟩=([I6 L,I6 a,I6 n,.func (.func g) #[] #[],.func (.func p) #[] #[]]:List Value)[j]?)) (by kernel_rfl) (fun w' hx=>by obtain⟨hcx,hfx⟩:=a0k hx;((try dsimp only);(first | go_keep | ((repeat' apply And.intro)<;>first | assumption | exact yA | exact fun j=>(hcx A j (by assumption)).trans (yA j) | exact eqS yA (by dsimp only;omega) | exact eqS (fun j=>(hcx A j (by assumption)).trans (yA j)) (by dsimp only;omega) | exact yQ | exact fun j=>(hcx Q j (by assumption)).trans (yQ j) | exact eqS yQ (by dsimp only;omega) | exact eqS (fun j=>(hcx Q j (by assumption)).trans (yQ j)) (by dsimp only;omega) | go_keep | (rw[hcx _ _ (by assumption)];assumption))))) (fun HKP hHeld=>?_)
  refine tk 0 ?_;simp only[pz];refine tk 1 ?_;simp only[pz];refine tk 2 ?_;simp only[pz];refine tk 3 ?_;simp only[pz];refine tk 4 ?_;simp only[pz];refine rd1 5 (by kernel_rfl) rfl fun K hK=>?_
  go_simp
  (refine cAn (HG.out _) fun x26 hbx=>?_;have hTx:Bl s25 x26:=bHb hbx;obtain⟨hcx,hfx⟩:=a0k hTx)
  try (go_wp2_with fail)
  refine hK.out _ _ (kHp HKP) (fun hHeld=>?_);clear hK K;try simp only[pz]
  refine rd1 6 (by kernel_rfl) rfl fun K hK=>?_
  go_simp
  (refine cAn (HKK.out _) fun x26 hbx=>?_;have hTx:Bl s25 x26:=bHb hbx;obtain⟨hcx,hfx⟩:=a0k hTx)
  try (go_wp2_with fail)
  refine hK.out _ _ (kHp HKP) (fun hHeld=>?_);clear hK K;try simp only[pz]
  refine tk 7 ?_;simp only[pz];refine wpAnyH_done (by kernel_rfl) ?_ _;go_wp2_with fail;replace yC:=fun j=>(hcx C j zC).trans (yC j)
  replace fC:=fun j=>(hfx C j zC).trans (fC j)
  replace zC:=zHl hTx zC;have hBo:=HF.out _ hTx;clear HF hcx hfx hTx;refine cAn (HPP.out _) fun s27 hb=>?_
  replace yC:=eqB hb yC zC;replace fC:=fun j=>a0g hb (fC j) zC
  replace hBo:=bT hBo hb;clear hb
  all_goals go_wp2_with fail
  all_goals refine bodyPost_ret (v:=.tuple #[.agg #[.string t.sh,I6 t.c,I6 t.r,.bool t.fc,.bool t.fr],.bool true]) (by simp[results,Tryz.results78,go_sem,yC,zC]) rfl ⟨rfl,?_⟩
  all_goals exact(sc5 hBo lC)
theorem d8z {q:Rf} {way a n:Int} (hm:d8b way a n=true) (hr:d7t q=true):e2b q way a n=decide (shP (plZ q way) a n<=d7d way):=by unfold e2b;rw[hm,hr];rfl
theorem d9o {q:Rf} {way a n:Int} (hm:d8b way a n=true) (hr:d7t q=true):d9n q way a n=!(decide (a<=plZ q way)&&decide (plZ q way<a+n)):=by unfold d9n;rw[hm,hr];rfl
theorem e5f (q:Rf) (way a n:Int) (t:Rf) (b:Bool) (w:World)
  (HF:∀ w,Calls Tryz.prog 78 #[.agg #[.string q.sh,I6 q.c,I6 q.r,.bool q.fc,.bool q.fr],I6 way,I6 a,I6 n,.func (.func 79) #[] #[]] w fun e w'=>e=.returned (.tuple #[.agg #[.string t.sh,I6 t.c,I6 t.r,.bool t.fc,.bool t.fr],.bool b])/\Bl w w') :
  Calls Tryz.prog 38 #[.agg #[.string q.sh,I6 q.c,I6 q.r,.bool q.fc,.bool q.fr],I6 way,I6 a,I6 n] w fun e w'=>e=.returned (.tuple #[.agg #[.string t.sh,I6 t.c,I6 t.r,.bool t.fc,.bool t.fr],.bool b])/\Bl w w':=by
 have HFF:=zh HF;clear HF;go_enter Tryz.func38,Tryz.ntmps38;go_wp2_with fail;obtain⟨s28,A,C,hws,hdA,hdC,hsz,zA,zC⟩:=nm2 w (.cells #[.string q.sh,I6 q.c,I6 q.r,.bool q.fc,.bool q.fr] 67) (.cells #[S0,I6 0,I6 0,.bool false,.bool false] 67);have dCA:C≠A:=by omega
 have yC:=by0 (b:=C) hws (by simp[hdC]);have fC:=bf0 (b:=C) hws (by simp[hdC]);have lC:w.heap.size<=C:=by omega
 have hBo:=bs2 bR hws;rw[<-hws];try rw[<-hdC]
 try rw[<-hdA]
 clear hws hsz hdA hdC;refine cAn (HFF.out _) fun s29 hb=>?_
 replace yC:=eqB hb yC zC;replace fC:=fun j=>a0g hb (fC j) zC
 replace hBo:=bT hBo hb;clear hb
 all_goals go_wp2_with fail
 all_goals refine bodyPost_ret (v:=.tuple #[.agg #[.string t.sh,I6 t.c,I6 t.r,.bool t.fc,.bool t.fr],.bool b]) (by simp[results,Tryz.results38,go_sem,yC]) rfl ⟨rfl,?_⟩
 all_goals exact(sc5 hBo lC)
theorem e3f (q:Rf) (way a n:Int) (t:Rf) (b:Bool) (w:World)
  (HF:∀ w,Calls Tryz.prog 78 #[.agg #[.string q.sh,I6 q.c,I6 q.r,.bool q.fc,.bool q.fr],I6 way,I6 a,I6 n,.func (.func 86) #[] #[]] w fun e w'=>e=.returned (.tuple #[.agg #[.string t.sh,I6 t.c,I6 t.r,.bool t.fc,.bool t.fr],.bool b])/\Bl w w') :
  Calls Tryz.prog 45 #[.agg #[.string q.sh,I6 q.c,I6 q.r,.bool q.fc,.bool q.fr],I6 way,I6 a,I6 n] w fun e w'=>e=.returned (.tuple #[.agg #[.string t.sh,I6 t.c,I6 t.r,.bool t.fc,.bool t.fr],.bool b])/\Bl w w':=by
 have HFF:=zh HF;clear HF;go_enter Tryz.func45,Tryz.ntmps45;go_wp2_with fail;obtain⟨s30,A,C,hws,hdA,hdC,hsz,zA,zC⟩:=nm2 w (.cells #[.string q.sh,I6 q.c,I6 q.r,.bool q.fc,.bool q.fr] 67) (.cells #[S0,I6 0,I6 0,.bool false,.bool false] 67);have dCA:C≠A:=by omega
 have yC:=by0 (b:=C) hws (by simp[hdC]);have fC:=bf0 (b:=C) hws (by simp[hdC]);have lC:w.heap.size<=C:=by omega
 have hBo:=bs2 bR hws;rw[<-hws];try rw[<-hdC]
 try rw[<-hdA]
 clear hws hsz hdA hdC;refine cAn (HFF.out _) fun s31 hb=>?_
 replace yC:=eqB hb yC zC;replace fC:=fun j=>a0g hb (fC j) zC
 replace hBo:=bT hBo hb;clear hb
 all_goals go_wp2_with fail
 all_goals refine bodyPost_ret (v:=.tuple #[.agg #[.string t.sh,I6 t.c,I6 t.r,.bool t.fc,.bool t.fr],.bool b]) (by simp[results,Tryz.results45,go_sem,yC]) rfl ⟨rfl,?_⟩
 all_goals exact(sc5 hBo lC)
end Go.Proofs.YtddgjgcogkdplaaGreatDoor
