import Derived.Test.YtibiacmbljgmhaaGreatDoorAst27
set_option maxHeartbeats 64000000
set_option maxRecDepth 100000
namespace Go.Proofs.YtibiacmbljgmhaaGreatDoor
open Go.RowKit Go.Shelf
set_option linter.all false
def d6p (P base X:Nat) (w w1:World) (u v dv tv:Value) (deps tops:List Int) (ar:Int) (n:Nd) (A:List Int) (wc:World):Prop:=∃ ar1,ar1=ar+a0n (qX n)/\a1f A ⟨deps,tops,ar⟩ (qX n)=true/\d7y A (qX n)/\WAt wc P base u v ⟨deps,tops,ar1⟩ dv tv/\Below P w wc/\∀ p v,w1.cell? ⟨X,p,none⟩=some v->wc.cell? ⟨X,p,none⟩=some v
theorem b9g (P base:Nat) (u v dv tv:Value) (deps tops:List Int) (ar:Int) (N:List Nd) (A:List Int) (n:Nd) (w:World) (hwa:WAt w P base u v ⟨deps,tops,ar⟩ dv tv) (hNB:∀ W,Below P w W->NodesAt W u N/\IntsAt W v A) (hvb:A≠[]->∀ g,v.ownBlock=some g->g<P) (hf:J8 n) (XK:NamesAt w)
  (hl:A.length<=1000) (hl2:N.length<=1000) (hdl:deps.length<=N.length) (hdr:∀ d ∈ deps,0<=d/\d<=1000) (htr:∀ t ∈ tops,0<=t/\t<deps.length) (htl:tops.length<=1000) (har:0<=ar/\ar<=A.length) :
  Cz 107 #[.pointer (some ⟨P,0,none⟩),Y2 n] w (a2e (a9w (X9 n) (N.map qX) A ⟨deps,tops,ar⟩ (qX n)) P base u v w):=by
 have JY:=Qw;obtain⟨K19,hz19,HK19⟩:=Y9;obtain⟨R,hR⟩:∃ R,R=a9w (X9 n) (N.map qX) A ⟨deps,tops,ar⟩ (qX n):=⟨_,rfl⟩;rw[<-hR];obtain⟨Po,hPo⟩:=nM (a2e R P base u v w);rw[<-hPo];have J5:=zh hPo;have hcan:=fun w hN=>a4c n w hf hN
 have Xv:=zh XK;have HNB:=zh hNB;have HVB:=zh hvb;have zP:=hwa.pz;have HDR:=zh hdr;have HTR:=zh htr;obtain⟨bv,cv,rfl,_⟩:=(hNB w (Below.refl _ _)).2.slice;obtain⟨bt,ct,rfl⟩:=a0l hwa.ot;obtain⟨bd,cd,rfl⟩:=a0l hwa.od;have HWA:=zh hwa;have HTB:=zh (fun g h=>hwa.ot.lt g h);have HDB:=zh (fun g h=>hwa.od.lt g h);clear hPo hf XK hNB hvb hdr htr hwa
 cases hc:X9 n with
 | false =>
  rw[hc] at hcan hR;have HC:=zh hcan;have HR:Hid (R=none):=hR;clear hcan hR hc;go_enter Tryz.func107,Tryz.ntmps107
  go_upto_region 1 with fail
  obtain⟨s1,X,j6,qw,j8,zX⟩:=qy w (.cells (Qk n).toArray 69);have yX:=qZ (b:=X) j6 qw;have LX:=Qv HK19 yX;have j7:=qQ bR j6;rw[<-j6];try rw[<-qw]
  clear j6 j8 qw;go_wp2_with fail;refine jy (HC.out _ (Xv.out.below j7)) fun w1 hb=>?_
  replace yX:=jv hb yX zX;replace zX:=jw hb zX;replace j7:=X4 j7 hb;clear hb;replace LX:=Qv HK19 yX;go_wp2_with fail;show Po _ _;rw[J5.out];exact a2n HR.out (j7.mono (Nat.le_of_lt zP))
 | true =>
  have hnine:=fun h9=>a3k hc h9
  rw[hc] at hcan hR;have HC:=zh hcan;have hR2:R=a7i (N.map qX) A ⟨deps,tops,ar⟩ (qX n):=hR;have HR:=zh hR2;clear hcan hR hc hR2;obtain⟨LA,hLA⟩:=nM A.length;rw[<-hLA] at J5 HNB HVB HWA har hl;have QZ:=zh hLA;clear hLA;go_enter Tryz.func107,Tryz.ntmps107
  go_upto_region 1 with fail
  obtain⟨s2,X,j6,qw,j8,zX⟩:=qy w (.cells (Qk n).toArray 69);have hN:=Qz (b:=X) j6 qw;have Qx:=hN 0 _ rfl;have Qj:=hN 1 _ rfl;have X0:=hN 2 _ rfl;have QQ:=hN 3 _ rfl;have QY:=hN 4 _ rfl;have QV:=hN 5 _ rfl;have kX6:=hN 6 _ rfl;have kX7:=hN 7 _ rfl;have kX8:=hN 8 _ rfl;have kX9:=hN 9 _ rfl;have kX10:=hN 10 _ rfl;have kX11:=hN 11 _ rfl;have kX12:=hN 12 _ rfl;have kX13:=hN 13 _ rfl;have kX14:=hN 14 _ rfl;have kX15:=hN 15 _ rfl;have kX16:=hN 16 _ rfl;have kX17:=hN 17 _ rfl;have kX18:=hN 18 _ rfl;clear hN;have lX:w.heap.size<=X:=by omega
  have LX:=a0o s2 X HK19 Qx Qj X0 QQ QY QV kX6 kX7 kX8 kX9 kX10 kX11 kX12 kX13 kX14 kX15 kX16 kX17 kX18;have j7:=qQ bR j6;rw[<-j6];try rw[<-qw]
  clear j6 j8 qw;go_wp2_with fail;refine jy (HC.out _ (Xv.out.below j7)) fun w1 hb=>?_
  have q:=fun {j u} h=>q9 (p:=⟨X,j,none⟩) (v:=u) hb h zX;replace Qx:=q Qx;replace Qj:=q Qj;replace X0:=q X0;replace QQ:=q QQ;replace QY:=q QY;replace QV:=q QV;replace kX6:=q kX6;replace kX7:=q kX7;replace kX8:=q kX8;replace kX9:=q kX9;replace kX10:=q kX10;replace kX11:=q kX11;replace kX12:=q kX12;replace kX13:=q kX13;replace kX14:=q kX14;replace kX15:=q kX15;replace kX16:=q kX16;replace kX17:=q kX17;replace kX18:=q kX18;clear q;replace zX:=jw hb zX
  replace j7:=X4 j7 hb;clear hb;replace LX:=a0o w1 X HK19 Qx Qj X0 QQ QY QV kX6 kX7 kX8 kX9 kX10 kX11 kX12 kX13 kX14 kX15 kX16 kX17 kX18;have HWA1:=zh (HWA.out.below j7);have q0:=HWA1.out.c0;have q1:=HWA1.out.c1;have q4:w1.cell? ⟨P,4,none⟩=some (I6 ar):=HWA1.out.c4;have zP1:=HWA1.out.pz;have HBO:=zh j7;have hPX:P<X:=jF zP lX
  go_upto_if 9 with fail
  refine wp_cond_false rfl ?_;refine wp_skip ?_;dsimp only[Exit.then]
  rename_i hk
  refine hk _ _ ?_;refine wp_seq_k (fun K2 hK2=>?_);clear hk
  go_cut [] (d6p P base X w w1 u (.slice bv LA cv) (.slice bd deps.length cd) (.slice bt tops.length ct) deps tops ar n A)
  case first =>
   clear hK2;by_cases h9:n.k=9
   ·
    have g9:(n.k==9)=true:=by simpa using h9
    obtain⟨n1,n2,n3⟩:=hnine h9;by_cases hb0:0<n.b
    ·
     by_cases hax:n.a=ar
     ·
      by_cases hbl:n.b<=(LA:Int)-ar
      ·
       have HAOK:Hid (a1f A ⟨deps,tops,ar⟩ (qX n)=true):=b6t (n:=qX n) (s:=⟨deps,tops,ar⟩) hax (by rw[<-QZ.out];exact hbl);have HKOK:Hid (d7y A (qX n)):=fun _ _=>⟨by show 0<=n.a;omega,by show n.a+n.b<=A.length;rw[<-QZ.out];omega⟩
       have HAR:Hid (ar+n.b=ar+a0n (qX n)):=by unfold a0n;rw[if_pos ⟨h9,hb0⟩];rfl
       obtain⟨ar1,har1⟩:=nM (ar+n.b);rw[<-har1] at HAR;have q5:IntKind.i64.wrap (ar+n.b)=ar1:=(IntWalk.i64_in _ (by omega)).trans har1.symm;have q6:IntKind.i64.wrap ((LA:Int)-ar)=(LA:Int)-ar:=IntWalk.i64_in _ (by omega);have gax:(n.a != ar)=false:=by simpa using hax
       have gbl:decide ((LA:Int)-ar<n.b)=false:=by simpa using hbl
       clear h9 hax hnine n3 har1
       go_upto_region 4 with fail
       have HF:=QX j7;clear j7;refine wp_region_held_drew (S:=fun w'=>w'.cell? ⟨X,0,none⟩=some (I6 n.k)/\w'.cell? ⟨X,1,none⟩=some (I6 n.o)/\w'.cell? ⟨X,2,none⟩=some (I6 n.a)/\w'.cell? ⟨X,3,none⟩=some (I6 n.b)/\w'.cell? ⟨X,4,none⟩=some (Bv n.qn)/\w'.cell? ⟨X,5,none⟩=some (Sg n.qa)/\w'.cell? ⟨X,6,none⟩=some (Sg n.qd)/\w'.cell? ⟨X,7,none⟩=some (Sg n.s)/\w'.cell? ⟨X,8,none⟩=some (Bv n.tr)/\w'.cell? ⟨X,9,none⟩=some (Sg n.r.sh)/\w'.cell? ⟨X,10,none⟩=some (I6 n.r.c)/\w'.cell? ⟨X,11,none⟩=some (I6 n.r.r)/\w'.cell? ⟨X,12,none⟩=some (Bv n.r.fc)/\w'.cell? ⟨X,13,none⟩=some (Bv n.r.fr)/\w'.cell? ⟨X,14,none⟩=some (Sg n.t.sh)/\w'.cell? ⟨X,15,none⟩=some (I6 n.t.c)/\w'.cell? ⟨X,16,none⟩=some (I6 n.t.r)/\w'.cell? ⟨X,17,none⟩=some (Bv n.t.fc)/\w'.cell? ⟨X,18,none⟩=some (Bv n.t.fr)/\Sem.run Tryz.prog (loadCellsFrom ⟨X,0,none⟩ 0 K19 #[]) w'=.ok #[I6 n.k,I6 n.o,I6 n.a,I6 n.b,Bv n.qn,Sg n.qa,Sg n.qd,Sg n.s,Bv n.tr,Sg n.r.sh,I6 n.r.c,I6 n.r.r,Bv n.r.fc,Bv n.r.fr,Sg n.t.sh,I6 n.t.c,I6 n.t.r,Bv n.t.fc,Bv n.t.fr] w'/\w'.cell? ⟨P,4,none⟩=some (I6 ar)/\w'.cell? ⟨P,1,none⟩=some (.slice bv LA cv)) (by kernel_rfl) JH (fun jx=>?_)
       refine tk 0 ?_;refine tk 1 ?_;refine tk 2 ?_;refine tk 3 ?_;refine tk 4 ?_;refine tk 5 ?_;refine tk 6 ?_;refine tk 7 ?_;refine tk 8 ?_;refine tk 9 ?_;refine tk 10 ?_;refine tk 11 ?_;refine tk 12 ?_;refine tk 13 ?_;refine tk 14 ?_;refine tk 15 ?_;refine tk 16 ?_;refine tk 17 ?_;refine tk 18 ?_;refine tk 19 ?_;refine tk 20 ?_;refine tk 21 ?_;refine tk 22 ?_;refine wpAnyH_done (by kernel_rfl) ?_ _;clear HF;have j7:=HBO.out;have qf4:=HWA1.out.f4
       go_upto_region 6 with fail
       have HF:=QX j7;clear j7;refine wp_region_held_drew (S:=fun w'=>w'.cell? ⟨X,3,none⟩=some (I6 n.b)) (by kernel_rfl) JN (fun jx=>?_)
       refine tk 0 ?_;refine tk 1 ?_;refine tk 2 ?_;refine tk 4 ?_;refine tk 5 ?_;refine Jq 3 (by kernel_rfl) rfl fun K hK=>?_
       go_simp;try (go_wp2_with fail)
       refine hK.out _ _ JN (fun jx=>?_)
       clear hK K;try simp only[pz]
       refine tk 6 ?_;refine tk 7 ?_;refine tk 8 ?_;refine Jq 9 (by kernel_rfl) rfl fun K hK=>?_
       go_simp;try (go_wp2_with fail)
       refine hK.out _ _ JN (fun jx=>?_)
       clear hK K;try simp only[pz]
       refine wpAnyH_done (by kernel_rfl) ?_ _;clear HF;go_wp2
       go_meet
       exact⟨ar1,HAR.out,HAOK.out,HKOK.out,(HWA1.out.setArgs ar1).drew.drew,((HBO.out.mono (Nat.le_of_lt zP)).setCell (jC P) _).drew.drew,fun p v h=>a0e (W:=w1) h (by dsimp only;omega)⟩
      ·
       have HR0:Hid (R=none):=HR.out.trans (a6s (b1w (n:=qX n) (s:=⟨deps,tops,ar⟩) h9 hb0 (fun h=>hbl (by rw[QZ.out];exact h.2))));have q6:IntKind.i64.wrap ((LA:Int)-ar)=(LA:Int)-ar:=IntWalk.i64_in _ (by omega);have gax:(n.a != ar)=false:=by simpa using hax
       have gbl:decide ((LA:Int)-ar<n.b)=true:=by simpa using hbl
       clear h9 hax hnine n3 hbl
       go_upto_region 4 with fail
       have HF:=QX j7;clear j7;refine wp_region_held_drew (S:=fun w'=>w'.cell? ⟨X,0,none⟩=some (I6 n.k)/\w'.cell? ⟨X,1,none⟩=some (I6 n.o)/\w'.cell? ⟨X,2,none⟩=some (I6 n.a)/\w'.cell? ⟨X,3,none⟩=some (I6 n.b)/\w'.cell? ⟨X,4,none⟩=some (Bv n.qn)/\w'.cell? ⟨X,5,none⟩=some (Sg n.qa)/\w'.cell? ⟨X,6,none⟩=some (Sg n.qd)/\w'.cell? ⟨X,7,none⟩=some (Sg n.s)/\w'.cell? ⟨X,8,none⟩=some (Bv n.tr)/\w'.cell? ⟨X,9,none⟩=some (Sg n.r.sh)/\w'.cell? ⟨X,10,none⟩=some (I6 n.r.c)/\w'.cell? ⟨X,11,none⟩=some (I6 n.r.r)/\w'.cell? ⟨X,12,none⟩=some (Bv n.r.fc)/\w'.cell? ⟨X,13,none⟩=some (Bv n.r.fr)/\w'.cell? ⟨X,14,none⟩=some (Sg n.t.sh)/\w'.cell? ⟨X,15,none⟩=some (I6 n.t.c)/\w'.cell? ⟨X,16,none⟩=some (I6 n.t.r)/\w'.cell? ⟨X,17,none⟩=some (Bv n.t.fc)/\w'.cell? ⟨X,18,none⟩=some (Bv n.t.fr)/\Sem.run Tryz.prog (loadCellsFrom ⟨X,0,none⟩ 0 K19 #[]) w'=.ok #[I6 n.k,I6 n.o,I6 n.a,I6 n.b,Bv n.qn,Sg n.qa,Sg n.qd,Sg n.s,Bv n.tr,Sg n.r.sh,I6 n.r.c,I6 n.r.r,Bv n.r.fc,Bv n.r.fr,Sg n.t.sh,I6 n.t.c,I6 n.t.r,Bv n.t.fc,Bv n.t.fr] w'/\w'.cell? ⟨P,4,none⟩=some (I6 ar)/\w'.cell? ⟨P,1,none⟩=some (.slice bv LA cv)) (by kernel_rfl) JH (fun jx=>?_)
       refine tk 0 ?_;refine tk 1 ?_;refine tk 2 ?_;refine tk 3 ?_;refine tk 4 ?_;refine tk 5 ?_;refine tk 6 ?_;refine tk 7 ?_;refine tk 8 ?_;refine tk 9 ?_;refine tk 10 ?_;refine tk 11 ?_;refine tk 12 ?_;refine tk 13 ?_;refine tk 14 ?_;refine tk 15 ?_;refine tk 16 ?_;refine tk 17 ?_;refine tk 18 ?_;refine tk 19 ?_;refine tk 20 ?_;refine tk 21 ?_;refine tk 22 ?_;refine wpAnyH_done (by kernel_rfl) ?_ _;go_wp2_with fail;show Po _ _;rw[J5.out];exact a2n HR0.out ((HBO.out.mono (Nat.le_of_lt zP)).drew)
     ·
      have HR0:Hid (R=none):=HR.out.trans (a6s (b1w (n:=qX n) (s:=⟨deps,tops,ar⟩) h9 hb0 (fun h=>hax h.1)));have gax:(n.a != ar)=true:=by simpa using hax
      clear h9 hax hnine n3
      go_upto_region 4 with fail
      have HF:=QX j7;clear j7;refine wp_region_held_drew (S:=fun w'=>w'.cell? ⟨X,0,none⟩=some (I6 n.k)/\w'.cell? ⟨X,1,none⟩=some (I6 n.o)/\w'.cell? ⟨X,2,none⟩=some (I6 n.a)/\w'.cell? ⟨X,3,none⟩=some (I6 n.b)/\w'.cell? ⟨X,4,none⟩=some (Bv n.qn)/\w'.cell? ⟨X,5,none⟩=some (Sg n.qa)/\w'.cell? ⟨X,6,none⟩=some (Sg n.qd)/\w'.cell? ⟨X,7,none⟩=some (Sg n.s)/\w'.cell? ⟨X,8,none⟩=some (Bv n.tr)/\w'.cell? ⟨X,9,none⟩=some (Sg n.r.sh)/\w'.cell? ⟨X,10,none⟩=some (I6 n.r.c)/\w'.cell? ⟨X,11,none⟩=some (I6 n.r.r)/\w'.cell? ⟨X,12,none⟩=some (Bv n.r.fc)/\w'.cell? ⟨X,13,none⟩=some (Bv n.r.fr)/\w'.cell? ⟨X,14,none⟩=some (Sg n.t.sh)/\w'.cell? ⟨X,15,none⟩=some (I6 n.t.c)/\w'.cell? ⟨X,16,none⟩=some (I6 n.t.r)/\w'.cell? ⟨X,17,none⟩=some (Bv n.t.fc)/\w'.cell? ⟨X,18,none⟩=some (Bv n.t.fr)/\Sem.run Tryz.prog (loadCellsFrom ⟨X,0,none⟩ 0 K19 #[]) w'=.ok #[I6 n.k,I6 n.o,I6 n.a,I6 n.b,Bv n.qn,Sg n.qa,Sg n.qd,Sg n.s,Bv n.tr,Sg n.r.sh,I6 n.r.c,I6 n.r.r,Bv n.r.fc,Bv n.r.fr,Sg n.t.sh,I6 n.t.c,I6 n.t.r,Bv n.t.fc,Bv n.t.fr] w'/\w'.cell? ⟨P,4,none⟩=some (I6 ar)/\w'.cell? ⟨P,1,none⟩=some (.slice bv LA cv)) (by kernel_rfl) JH (fun jx=>?_)
      refine tk 0 ?_;refine tk 1 ?_;refine tk 2 ?_;refine tk 3 ?_;refine tk 4 ?_;refine tk 5 ?_;refine tk 6 ?_;refine tk 7 ?_;refine Q5 8 ?_;refine Q5 9 ?_;refine Q5 10 ?_;refine Q5 11 ?_;refine Q5 12 ?_;refine Q5 13 ?_;refine Q5 14 ?_;refine Q5 15 ?_;refine Q5 16 ?_;refine Q5 17 ?_;refine Q5 18 ?_;refine Q5 19 ?_;refine Q5 20 ?_;refine Q5 21 ?_;refine tk 22 ?_;refine wpAnyH_done (by kernel_rfl) ?_ _;go_wp2_with fail;show Po _ _;rw[J5.out];exact a2n HR0.out ((HBO.out.mono (Nat.le_of_lt zP)).drew)
    ·
     have HAOK:Hid (a1f A ⟨deps,tops,ar⟩ (qX n)=true):=b4a (n:=qX n) hb0;have HAR:Hid (ar=ar+a0n (qX n)):=zh (by unfold a0n;rw[if_neg (fun h=>hb0 h.2)];omega);have HKOK:Hid (d7y A (qX n)):=fun _ h=>absurd h hb0
     have hb1:n.b<=0:=by omega
     clear hb0 h9 hnine n1 n2 n3;go_wp2
     go_meet
     exact⟨ar,HAR.out,HAOK.out,HKOK.out,HWA1.out,HBO.out.mono (Nat.le_of_lt zP),fun p v h=>h⟩
   ·
    have g9:(n.k==9)=false:=by simpa using h9
    have HAOK:Hid (a1f A ⟨deps,tops,ar⟩ (qX n)=true):=b1v (n:=qX n) h9;have HKOK:Hid (d7y A (qX n)):=fun h=>absurd h h9
    have HAR:Hid (ar=ar+a0n (qX n)):=zh (by unfold a0n;rw[if_neg (fun h=>h9 h.1)];omega);clear h9 hnine;go_wp2
    go_meet
    exact⟨ar,HAR.out,HAOK.out,HKOK.out,HWA1.out,HBO.out.mono (Nat.le_of_lt zP),fun p v h=>h⟩
  case rest =>
   obtain⟨ar1,har,haok,hkok,hwat,hbp,hQ⟩:=hcut;have HAR:=zh har;have HAOK:=zh haok;have HKOK:=zh hkok;have HNINE:=zh hnine;obtain⟨wA,hwA⟩:=nM wc;subst hwA;have HWA2:=zh hwat;have HBP:=zh hbp;replace Qx:=hQ _ _ Qx;replace Qj:=hQ _ _ Qj;replace X0:=hQ _ _ X0;replace QQ:=hQ _ _ QQ;replace QY:=hQ _ _ QY;replace QV:=hQ _ _ QV;replace kX6:=hQ _ _ kX6;replace kX7:=hQ _ _ kX7;replace kX8:=hQ _ _ kX8;replace kX9:=hQ _ _ kX9;replace kX10:=hQ _ _ kX10;replace kX11:=hQ _ _ kX11;replace kX12:=hQ _ _ kX12;replace kX13:=hQ _ _ kX13;replace kX14:=hQ _ _ kX14;replace kX15:=hQ _ _ kX15;replace kX16:=hQ _ _ kX16;replace kX17:=hQ _ _ kX17;replace kX18:=hQ _ _ kX18;replace zX:=Xk Qx;replace LX:=a0o wA X HK19 Qx Qj X0 QQ QY QV kX6 kX7 kX8 kX9 kX10 kX11 kX12 kX13 kX14 kX15 kX16 kX17 kX18;clear har haok hkok hnine hwat hbp hQ q0 q1 q4 HWA1 HBO zP1 HWA HC j7;obtain⟨w0,hw0⟩:=nM w;subst hw0;obtain⟨w,hw⟩:=nM wA;subst hw;have j7:=Below.refl w.heap.size w;have q0:=HWA2.out.c0;have q1:=HWA2.out.c1;have zPw:=HWA2.out.pz;have HKD:=zh (fun W hA=>a5p u (.slice bv LA cv) A n W hA HKOK.out (fun h=>⟨(HNINE.out h).1,(HNINE.out h).2.2⟩) (by rw[<-QZ.out];exact hl));have HIA:=zh (fun W (hW:Below P w0 W)=>(HNB.out W hW).2)
   go_upto_region 7 with fail
   have HF:=QX j7;clear j7;refine wp_region_held_drew (S:=fun w'=>w'.cell? ⟨X,0,none⟩=some (I6 n.k)/\w'.cell? ⟨X,1,none⟩=some (I6 n.o)/\w'.cell? ⟨X,2,none⟩=some (I6 n.a)/\w'.cell? ⟨X,3,none⟩=some (I6 n.b)/\w'.cell? ⟨X,4,none⟩=some (Bv n.qn)/\w'.cell? ⟨X,5,none⟩=some (Sg n.qa)/\w'.cell? ⟨X,6,none⟩=some (Sg n.qd)/\w'.cell? ⟨X,7,none⟩=some (Sg n.s)/\w'.cell? ⟨X,8,none⟩=some (Bv n.tr)/\w'.cell? ⟨X,9,none⟩=some (Sg n.r.sh)/\w'.cell? ⟨X,10,none⟩=some (I6 n.r.c)/\w'.cell? ⟨X,11,none⟩=some (I6 n.r.r)/\w'.cell? ⟨X,12,none⟩=some (Bv n.r.fc)/\w'.cell? ⟨X,13,none⟩=some (Bv n.r.fr)/\w'.cell? ⟨X,14,none⟩=some (Sg n.t.sh)/\w'.cell? ⟨X,15,none⟩=some (I6 n.t.c)/\w'.cell? ⟨X,16,none⟩=some (I6 n.t.r)/\w'.cell? ⟨X,17,none⟩=some (Bv n.t.fc)/\w'.cell? ⟨X,18,none⟩=some (Bv n.t.fr)/\Sem.run Tryz.prog (loadCellsFrom ⟨X,0,none⟩ 0 K19 #[]) w'=.ok #[I6 n.k,I6 n.o,I6 n.a,I6 n.b,Bv n.qn,Sg n.qa,Sg n.qd,Sg n.s,Bv n.tr,Sg n.r.sh,I6 n.r.c,I6 n.r.r,Bv n.r.fc,Bv n.r.fr,Sg n.t.sh,I6 n.t.c,I6 n.t.r,Bv n.t.fc,Bv n.t.fr] w'/\w'.cell? ⟨P,0,none⟩=some u/\w'.cell? ⟨P,1,none⟩=some (.slice bv LA cv)) (by kernel_rfl) JL (fun jx=>?_)
   refine tk 0 ?_;refine tk 1 ?_;refine tk 2 ?_;refine tk 3 ?_;refine tk 4 ?_;refine Jq 5 (by kernel_rfl) rfl fun K hK=>?_
   go_simp
   (go_at_call 137;refine(HKD.out _ (HIA.out _ HBP.out.drew)).mono ?_;rintro e x7 ⟨⟨r,rfl,hr,hnew⟩,qk⟩;have qx:Bl w x7:=bHb qk;obtain⟨jk,qK⟩:=a0k qx)
   try (go_wp2_with fail)
   refine hK.out _ _ JL (fun jx=>?_)
   clear hK K;try simp only[pz]
   refine tk 6 ?_;refine wpAnyH_done (by kernel_rfl) ?_ _;have hTT:=qx;replace Qx:=(jk X 0 zX).trans Qx;replace Qj:=(jk X 1 zX).trans Qj;replace X0:=(jk X 2 zX).trans X0;replace QQ:=(jk X 3 zX).trans QQ;replace QY:=(jk X 4 zX).trans QY;replace QV:=(jk X 5 zX).trans QV;replace kX6:=(jk X 6 zX).trans kX6;replace kX7:=(jk X 7 zX).trans kX7;replace kX8:=(jk X 8 zX).trans kX8;replace kX9:=(jk X 9 zX).trans kX9;replace kX10:=(jk X 10 zX).trans kX10;replace kX11:=(jk X 11 zX).trans kX11;replace kX12:=(jk X 12 zX).trans kX12;replace kX13:=(jk X 13 zX).trans kX13;replace kX14:=(jk X 14 zX).trans kX14;replace kX15:=(jk X 15 zX).trans kX15;replace kX16:=(jk X 16 zX).trans kX16;replace kX17:=(jk X 17 zX).trans kX17;replace kX18:=(jk X 18 zX).trans kX18;replace zX:=jw qx zX;have j7:=HF.out _ qx;clear HF jk qK qx;obtain⟨wb,hwb⟩:=nM x7;subst hwb;have HWB:=zh (HWA2.out.below hTT);have HTT:=zh hTT;have HNEW:=zh hnew
   have HRB:Hid (Xj A (qX n)=[]\/∀ y,r.ownBlock=some y->y<P\/w0.heap.size<=y):=by
    rcases hnew with h | h
    ·
     exact Or.inl h
    ·
     refine Or.inr fun y hy=>?_
     rcases h y hy with ⟨h1,h2⟩ | h2
     ·
      exact Or.inl (HVB.out h1 y h2)
     ·
      exact Or.inr (jG HBP.out.size h2)
   clear q0 q1 hTT hnew HIA;obtain⟨bo,co,rfl,hoc⟩:=hr.slice;have HRI:=zh hr;have hol:=a3i (qX n) (show A.length<=1000 by rw[<-QZ.out];exact hl);obtain⟨own,hown0⟩:=nM (Xj A (qX n));rw[<-hown0] at HRI hol hoc HRB |-
   have HOWN:=zh hown0;have p2:=HWB.out.c2;have p3:=HWB.out.c3;have zPb:=HWB.out.pz;clear hown0 hr hoc;by_cases hlt:tops.length<own.length
   ·
    have HR0:Hid (R=none):=HR.out.trans (a6d (s:=⟨deps,tops,ar⟩) (by rw[<-HOWN.out];exact hlt));have hlt2:(tops.length:Int)-own.length<0:=by omega
    clear hlt;go_wp2_with fail;show Po _ _;rw[J5.out];exact a2n HR0.out (HBP.out.trans (j7.mono (Nat.le_of_lt zPw)))
   obtain⟨o,ho⟩:∃ o,tops.length=o+own.length:=⟨tops.length-own.length,by omega⟩;rw[ho] at p3 htl;have HO:=zh ho;have htd:=a8b HWB.out.ot (show o<=tops.length by omega);rw[show tops.length-o=own.length by omega] at htd;obtain⟨sv,hsv⟩:=nM (Value.slice (if ct=o then bt else bt.map (fun a=>a.add o)) own.length (ct-o))
   have hSL:∀ W,Sem.run Tryz.prog (Instr.slice 23 (.slice bt (o+own.length) ct) (some (I6 (o:Int))) none none) W=.ok sv W:=fun W=>by
    rw[hsv];simp[go_sem];intro h;omega
   rw[<-hsv] at htd;have HSL2:Hid (∀ W,Sem.run Tryz.prog (Instr.slice 23 (.slice bt (o+own.length) ct) none (some (I6 (o:Int))) none) W=.ok (.slice bt o ct) W):=fun W=>a6f HWB.out.ot HO.out W
   have HTD:=zh htd;clear hsv;have heqs:=fun W x hx hr=>a4s x (.slice bo own.length co) (tops.drop o) own W hx hr (by rw[List.length_drop];omega) hol
   have hot:o<=1000:=by omega
   clear ho hlt htd;by_cases heq:tops.drop o=own
   ·
    rw[jD heq] at heqs;have HEQ:=zh heqs;have HEQL:=zh heq;have HST:=zh (HR.out.trans (a9x (s:=⟨deps,tops,ar⟩) (o:=o) HAOK.out (by rw[<-HOWN.out];exact HO.out) (by rw[<-HOWN.out];exact heq)));clear heqs heq;go_wp2_with (go_at_call 138;refine jy (HEQ.out _ _ HTD.out HRI.out) fun wc hb=>?_);have HWC:=zh (HWB.out.below hb);have HRC:=zh (HRI.out.below hb);have q:=fun {j u} h=>q9 (p:=⟨X,j,none⟩) (v:=u) hb h zX;replace Qx:=q Qx;replace Qj:=q Qj;replace X0:=q X0;replace QQ:=q QQ;replace QY:=q QY;replace QV:=q QV;replace kX6:=q kX6;replace kX7:=q kX7;replace kX8:=q kX8;replace kX9:=q kX9;replace kX10:=q kX10;replace kX11:=q kX11;replace kX12:=q kX12;replace kX13:=q kX13;replace kX14:=q kX14;replace kX15:=q kX15;replace kX16:=q kX16;replace kX17:=q kX17;replace kX18:=q kX18;clear q;replace zX:=jw hb zX
    replace j7:=X4 j7 hb;clear hb;replace LX:=a0o wc X HK19 Qx Qj X0 QQ QY QV kX6 kX7 kX8 kX9 kX10 kX11 kX12 kX13 kX14 kX15 kX16 kX17 kX18;have hBE:=j7;clear p2 p3 hSL HTD HEQ zPb;have p2:=HWC.out.c2;have p3:=HWC.out.c3;rw[HO.out] at p3;have pf3:=HWC.out.f3;have zPc:=HWC.out.pz;have hSL2:∀ W,Sem.run Tryz.prog (Instr.slice 23 (.slice bt (o+own.length) ct) none (some (I6 (o:Int))) none) W=.ok (.slice bt o ct) W:=fun W=>HSL2.out W
    obtain⟨i0,hi0,hz0,hz1,hz2⟩:=info_parts Tryz.infoInt;have HOT:=zh (a8a HWC.out.ot (show o<=tops.length by have:=HO.out;omega));have HPR:Hid (∀ g,(Value.slice bt o ct).ownBlock=some g->P≠g):=fun g hg e=>by have h1:=(HOT.out.lt g hg).1;have h2:=HWC.out.pb;omega
    have hbase:base<=wc.heap.size:=HWC.out.bw;have hk1:o+1<=maxLen:=by unfold maxLen;omega
    have hk3:(o+1)*8<=140737488355328:=by omega
    have hdlb:deps.length<=1000:=by omega
    go_upto_region 11 with fail
    have HF:=QX j7;clear j7;refine wp_region_held_drew (S:=fun w'=>w'.cell? ⟨P,2,none⟩=some (.slice bd deps.length cd)) (by kernel_rfl) JF (fun jx=>?_)
    refine tk 0 ?_;refine tk 1 ?_;refine tk 2 ?_;refine tk 3 ?_;refine tk 5 ?_;refine tk 7 ?_;refine tk 8 ?_;refine tk 9 ?_;refine tk 10 ?_;refine tk 11 ?_;refine wpAnyH_ready (rs:=[4,12]) (by kernel_rfl) (by simp) ?_;refine AllReadyH.cons rfl (fun K hK=>?_) (AllReadyH.cons rfl (fun K hK=>?_) AllReadyH.nil)
    focus
     go_simp;try (go_wp2_with fail)
     refine hK.out _ _ JF (fun jx=>?_)
     clear hK K;try simp only[pz]
     refine tk 6 ?_;refine Jq 12 (by kernel_rfl) rfl fun K hK=>?_
     go_simp;try (go_wp2_with fail)
     refine hK.out _ _ JF (fun jx=>?_)
     clear hK K;try simp only[pz]
    rotate_left 1
    focus
     go_simp;try (go_wp2_with fail)
     refine hK.out _ _ JF (fun jx=>?_)
     clear hK K;try simp only[pz]
     refine Jq 4 (by kernel_rfl) rfl fun K hK=>?_
     go_simp;try (go_wp2_with fail)
     refine hK.out _ _ JF (fun jx=>?_)
     clear hK K;try simp only[pz]
     refine tk 6 ?_
    rotate_left 1
    all_goals
     refine Jq 13 (by kernel_rfl) rfl fun K hK=>?_
     (refine step_append_lies _ (by rfl) _ _ 23 (by rfl) base 3 i0 (I6 0) 1 8 Tryz.underlying23 hi0 hz0 hz1 hz2 (by rfl) (by decide) (.slice bt o ct) o (JV (tops.take o)) (by rfl) (HOT.out.alloc _) ⟨wc.heap.size,0,none⟩ 1 1 [I6 (deps.length:Int)] (by rfl) (by rfl) (cell_one_new wc _ _) (by simp[Value.oneCell']) (by omega) hk1 hk3 (by simp;omega) _ rfl ?_;intro g cap wd hown1 hgrow1 hat hlt;have pfd:=a0m hgrow1 (alZ zPc) (alF zPc pf3) HPR.out;have pcd:=Jw hgrow1 (a0b (W:=wc) p3) HPR.out)
     refine hK.out _ _ JF (fun jx=>?_)
     clear hK K;try simp only[pz]
     refine tk 14 ?_;refine tk 15 ?_;refine Jq 16 (by kernel_rfl) rfl fun K hK=>?_
     go_simp;try (go_wp2_with fail)
     refine hK.out _ _ JF (fun jx=>?_)
     clear hK K;try simp only[pz]
     refine wpAnyH_done (by kernel_rfl) ?_ _;have hgrow0:(wc.alloc (.cells #[I6 (deps.length:Int)] 3)).grownBy wd (Value.slice bt o ct).ownBlock:=⟨hgrow1.os,hgrow1.tape,hgrow1.output,hgrow1.size,hgrow1.block⟩;obtain⟨we,hwe⟩:∃ x,x=wd.setCell ⟨P,3,none⟩ (.slice (some ⟨g,0,none⟩) (o+1) cap):=⟨_,rfl⟩;rw[<-hwe];have hTl:(tops.take o ++ [(deps.length:Int)]).length=o+1:=by rw[jM,List.length_take,HO.out,Nat.min_eq_left (by omega)];rfl
     have hrow:∀ x,(Value.slice bt o ct).ownBlock=some x->(Value.slice bt tops.length ct).ownBlock=some x:=fun x h=>by cases bt<;>exact h
     have HWE:Hid (WAt we P base u (.slice bv LA cv) ⟨deps,tops.take o ++ [(deps.length:Int)],ar1⟩ (.slice bd deps.length cd) (.slice (some ⟨g,0,none⟩) (o+1) cap)):=zh (by
      rw[hwe];refine WAt.setTops (T:=tops.take o ++ [(deps.length:Int)]) (HWC.out.below (X7 (Below.refl _ _)):WAt (wc.alloc _) P base u _ _ _ _) hgrow0 hrow (by rw[hTl,JV,List.map_append];exact hown1) (fun x hx=>?_);have hgx:g=x:=by simpa [Value.ownBlock] using hx
      subst hgx
      rcases hat with h | h
      ·
       exact Or.inl (hrow _ h)
      ·
       exact Or.inr (by rw[h];simp))
     have HXR:Hid (∀ x,(Value.slice bt o ct).ownBlock=some x->X≠x):=fun x hx e=>by have:=(HTB.out x (hrow x hx)).2;omega
     have hQ:∀ j v,wc.cell? ⟨X,j,none⟩=some v->we.cell? ⟨X,j,none⟩=some v:=fun j v h=>by rw[hwe];exact a0e (Jw hgrow0 (a0b (W:=wc) h) HXR.out) (by dsimp only;omega)
     replace Qx:=hQ _ _ Qx;replace Qj:=hQ _ _ Qj;replace X0:=hQ _ _ X0;replace QQ:=hQ _ _ QQ;replace QY:=hQ _ _ QY;replace QV:=hQ _ _ QV;replace kX6:=hQ _ _ kX6;replace kX7:=hQ _ _ kX7;replace kX8:=hQ _ _ kX8;replace kX9:=hQ _ _ kX9;replace kX10:=hQ _ _ kX10;replace kX11:=hQ _ _ kX11;replace kX12:=hQ _ _ kX12;replace kX13:=hQ _ _ kX13;replace kX14:=hQ _ _ kX14;replace kX15:=hQ _ _ kX15;replace kX16:=hQ _ _ kX16;replace kX17:=hQ _ _ kX17;replace kX18:=hQ _ _ kX18;replace zX:=Xk Qx;replace LX:=a0o we X HK19 Qx Qj X0 QQ QY QV kX6 kX7 kX8 kX9 kX10 kX11 kX12 kX13 kX14 kX15 kX16 kX17 kX18
     have HRE:Hid (IntsAt we (.slice bo own.length co) own):=by
      rcases HRB.out with h0 | h0
      ·
       exact HRC.out.empty h0
      ·
       refine HRC.out.kept (fun y z x hy hx=>?_);rw[hwe];refine a0e (Jw hgrow0 (a0b (W:=wc) hx) (fun q hq=>?_)) ?_
       ·
        have h1:=HTB.out q (hrow q hq);have h2:=h0 y hy;have h3:=HWC.out.pb;omega
       ·
        have h2:=h0 y hy;dsimp only;omega
     have HBPE:Hid (Below P w0 we):=zh (by
      rw[hwe];refine Below.setCell ?_ (jC P) _;refine Below.grown (w:=wc.alloc _) ?_ hgrow0 (by simp;omega) (fun q hq=>Nat.le_of_lt (by have h1:=HTB.out q (hrow q hq);have h3:=HWC.out.pb;omega))
      exact(HBP.out.trans (hBE.mono (Nat.le_of_lt zPw))).alloc (by omega) _)
     clear hQ hwe pfd pcd hgrow0 hgrow1 hown1 hat p2 p3 pf3 hSL2 hk1 hk3;have hzE:=HWE.out.pz;have e2:=HWE.out.c2;have ef2:=HWE.out.f2;have hEE:=Below.refl we.heap.size we;obtain⟨dval,hdval⟩:=nM (a2z (N.map qX) deps (qX n) 0 own 0+a1v (qX n));have hdep:=fun W (hW:Bl we W)=>a7w P u (.slice bv LA cv) (.slice bd deps.length cd) (.slice (some ⟨g,0,none⟩) (o+1) cap) (.slice bo own.length co) ar1 N deps own n W (q9 hW HWE.out.c0 hzE) (q9 hW HWE.out.c2 hzE) (HNB.out W (HBPE.out.trans (hW.mono (Nat.le_of_lt hzE)))).1 ((IntsAt.of_owns HWE.out.od).2.below hW) (HRE.out.below hW) (fun c hc=>HTR.out c (List.mem_of_mem_drop (by rw[HEQL.out];exact hc))) hdl hl2 HDR.out hol
     rw[<-hdval] at hdep;have HDEP:=zh hdep;have HDV:=zh hdval
     have HLX:Hid (∀ W,(∀ j x,we.cell? ⟨X,j,none⟩=some x->W.cell? ⟨X,j,none⟩=some x)->Sem.run Tryz.prog (loadCellsFrom ⟨X,0,none⟩ 0 K19 #[]) W=.ok #[I6 n.k,I6 n.o,I6 n.a,I6 n.b,Bv n.qn,Sg n.qa,Sg n.qd,Sg n.s,Bv n.tr,Sg n.r.sh,I6 n.r.c,I6 n.r.r,Bv n.r.fc,Bv n.r.fr,Sg n.t.sh,I6 n.t.c,I6 n.t.r,Bv n.t.fc,Bv n.t.fr] W):=fun W h =>
      a0o W X HK19 (h _ _ Qx) (h _ _ Qj) (h _ _ X0) (h _ _ QQ) (h _ _ QY) (h _ _ QV) (h _ _ kX6) (h _ _ kX7) (h _ _ kX8) (h _ _ kX9) (h _ _ kX10) (h _ _ kX11) (h _ _ kX12) (h _ _ kX13) (h _ _ kX14) (h _ _ kX15) (h _ _ kX16) (h _ _ kX17) (h _ _ kX18)
     have HPD:Hid (∀ y,(Value.slice bd deps.length cd).ownBlock=some y->P≠y):=fun y hy e=>by have h1:=(HWE.out.od.lt y hy).1;have h2:=HWE.out.pb;omega
     have HXD:Hid (∀ y,(Value.slice bd deps.length cd).ownBlock=some y->X≠y):=fun y hy e=>by have:=(HDB.out y hy).2;omega
     have hbase2:base<=we.heap.size:=HWE.out.bw;have hk1:deps.length+1<=maxLen:=by unfold maxLen;omega
     have hk3:(deps.length+1)*8<=140737488355328:=by omega
     clear hdep hdval hbase;clear Qx Qj X0 QQ QY QV kX6 kX7 kX8 kX9 kX10 kX11 kX12 kX13 kX14 kX15 kX16 kX17 kX18 LX;have j7:=Below.refl we.heap.size we;obtain⟨w,hw⟩:=nM we;subst hw
     go_upto_region 12 with fail
     have HF:=QX j7;clear j7;refine wp_region_held_drew (S:=fun w'=>Sem.run Tryz.prog (loadCellsFrom ⟨X,0,none⟩ 0 K19 #[]) w'=.ok #[I6 n.k,I6 n.o,I6 n.a,I6 n.b,Bv n.qn,Sg n.qa,Sg n.qd,Sg n.s,Bv n.tr,Sg n.r.sh,I6 n.r.c,I6 n.r.r,Bv n.r.fc,Bv n.r.fr,Sg n.t.sh,I6 n.t.c,I6 n.t.r,Bv n.t.fc,Bv n.t.fr] w') (by kernel_rfl) jX (fun jx=>?_)
     refine tk 0 ?_;refine tk 1 ?_;refine tk 2 ?_;refine tk 3 ?_;refine tk 5 ?_;refine tk 6 ?_;refine tk 7 ?_;refine wpAnyH_ready (rs:=[4,8]) (by kernel_rfl) (by simp) ?_;refine AllReadyH.cons rfl (fun K hK=>?_) (AllReadyH.cons rfl (fun K hK=>?_) AllReadyH.nil)
     focus
      go_simp;try (go_wp2_with fail)
      refine hK.out _ _ jX (fun jx=>?_)
      clear hK K;try simp only[pz]
      refine Jq 8 (by kernel_rfl) rfl fun K hK=>?_
      go_simp
      (go_at_call 139;refine jy (HDEP.out _ (by repeat (with_reducible apply Below.drew);exact Below.refl _ _)) fun x9 qk=>?_;have xf2:=QW qk ef2 hzE;have xc2:=q9 qk e2 hzE;have xzz:=jF hzE qk.size;have qx:Bl w x9:=bHb qk;obtain⟨jk,qK⟩:=a0k qx)
      try (go_wp2_with fail)
      refine hK.out _ _ jX (fun jx=>?_)
      clear hK K;try simp only[pz]
      refine Jq 9 (by kernel_rfl) rfl fun K hK=>?_
      go_simp;try (go_wp2_with fail)
      refine hK.out _ _ jX (fun jx=>?_)
      clear hK K;try simp only[pz]
     rotate_left 1
     focus
      go_simp
      (go_at_call 139;refine jy (HDEP.out _ (by repeat (with_reducible apply Below.drew);exact Below.refl _ _)) fun x9 qk=>?_;have xf2:=QW qk ef2 hzE;have xc2:=q9 qk e2 hzE;have xzz:=jF hzE qk.size;have qx:Bl w x9:=bHb qk;obtain⟨jk,qK⟩:=a0k qx)
      try (go_wp2_with fail)
      refine hK.out _ _ jX (fun jx=>?_)
      clear hK K;try simp only[pz]
      refine wpAnyH_ready (rs:=[4,9]) (by kernel_rfl) (by simp) ?_;refine AllReadyH.cons rfl (fun K hK=>?_) (AllReadyH.cons rfl (fun K hK=>?_) AllReadyH.nil)
      focus
       go_simp;try (go_wp2_with fail)
       refine hK.out _ _ jX (fun jx=>?_)
       clear hK K;try simp only[pz]
       refine Jq 9 (by kernel_rfl) rfl fun K hK=>?_
       go_simp;try (go_wp2_with fail)
       refine hK.out _ _ jX (fun jx=>?_)
       clear hK K;try simp only[pz]
      rotate_left 1
      focus
       go_simp;try (go_wp2_with fail)
       refine hK.out _ _ jX (fun jx=>?_)
       clear hK K;try simp only[pz]
       refine Jq 4 (by kernel_rfl) rfl fun K hK=>?_
       go_simp;try (go_wp2_with fail)
       refine hK.out _ _ jX (fun jx=>?_)
       clear hK K;try simp only[pz]
      rotate_left 1
     rotate_left 2
     all_goals
      refine Jq 10 (by kernel_rfl) rfl fun K hK=>?_
      (refine step_append_lies _ (by rfl) _ _ 23 (by rfl) base 3 i0 (I6 0) 1 8 Tryz.underlying23 hi0 hz0 hz1 hz2 (by rfl) (by decide) (.slice bd deps.length cd) deps.length (JV deps) (by rfl) ((a1g HWE.out.od qx).alloc _) ⟨x9.heap.size,0,none⟩ 1 1 [I6 dval] (by rfl) (by rfl) (cell_one_new x9 _ _) (by simp[Value.oneCell']) (by omega) hk1 hk3 (by have:=qx.size;simp;omega) _ rfl ?_;intro g2 cap2 wf J0 jj hat2 hlt2;have pfd:=a0m jj (alZ xzz) (alF xzz xf2) HPD.out;have pcd:=Jw jj (a0b (W:=x9) xc2) HPD.out)
      refine hK.out _ _ jX (fun jx=>?_)
      clear hK K;try simp only[pz]
      refine tk 11 ?_;refine tk 12 ?_;refine Jq 13 (by kernel_rfl) rfl fun K hK=>?_
      go_simp;try (go_wp2_with fail)
      refine hK.out _ _ jX (fun jx=>?_)
      clear hK K;try simp only[pz]
      refine wpAnyH_done (by kernel_rfl) ?_ _;go_wp2_with fail;show Po _ _;rw[J5.out];have hTl2:(deps ++ [dval]).length=deps.length+1:=by rw[jM];rfl
      have hgrow3:(World.alloc x9 (.cells #[I6 dval] 3)).grownBy wf (Value.slice bd deps.length cd).ownBlock:=⟨jj.os,jj.tape,jj.output,jj.size,jj.block⟩;refine a8c (s:=⟨deps ++ [dval],tops.take o ++ [(deps.length:Int)],ar1⟩) (HST.out.trans (by rw[HAR.out,HDV.out];unfold b3j;rw[<-HOWN.out])) (WAt.setDeps (D:=deps ++ [dval]) (HWE.out.below (X7 qx):WAt (World.alloc x9 _) P base u _ _ _ _) hgrow3 (fun x h=>h) (by rw[hTl2,JV,List.map_append];exact J0) (fun x hx=>?_)) ?_
      ·
       have hgx:g2=x:=by simpa [Value.ownBlock] using hx
       subst hgx
       rcases hat2 with h | h
       ·
        exact Or.inl h
       ·
        exact Or.inr (by rw[h];simp)
      ·
       refine Below.setCell ?_ (jC P) _;refine Below.grown (w:=World.alloc x9 _) ?_ hgrow3 (by have:=qx.size;simp;omega) (fun q hq=>Nat.le_of_lt (by have h1:=(HDB.out q hq).1;have h3:=HWC.out.pb;omega));exact((HBPE.out.trans (qx.mono (Nat.le_of_lt hzE)))).alloc (by have:=qx.size;omega) _
   ·
    rw[jE heq] at heqs;have HEQ:=zh heqs;have HR0:Hid (R=none):=HR.out.trans (a6e (s:=⟨deps,tops,ar⟩) (o:=o) (by rw[<-HOWN.out];exact HO.out) (by rw[<-HOWN.out];exact heq));clear heqs heq;go_wp2_with (go_at_call 138;refine jy (HEQ.out _ _ HTD.out HRI.out) fun wc hb=>?_);show Po _ _;rw[J5.out];exact a2n HR0.out (HBP.out.trans ((bT j7 hb).mono (Nat.le_of_lt zPw)))
