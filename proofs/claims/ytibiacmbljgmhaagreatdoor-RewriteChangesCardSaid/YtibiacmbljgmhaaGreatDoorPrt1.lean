import Derived.Test.YtibiacmbljgmhaaGreatDoorCel8
import Derived.Test.YtibiacmbljgmhaaGreatDoorRewa
set_option maxHeartbeats 8000000
set_option maxRecDepth 100000
namespace Go.Proofs.YtibiacmbljgmhaaGreatDoor
open Go.RowKit Go.Shelf
set_option linter.all false
-- (a region told a7i by a7i: %%hwalk)
def e8o (b:Bool):jW:=if b=true then ⟨#[36]⟩ else ⟨#[]⟩
theorem e2r (b:Bool):(e8o b).size<=1:=by cases b<;>decide
theorem d9i (b:Bool) (w:World):Ca 187 #[Bv b] w (Sg (e8o b)):=by
 cases b
 all_goals
  go_enter Tryz.func187,Tryz.ntmps187;go_wp2
  go_ret
  exact⟨rfl,Below.refl _ _⟩
def rfX (q:Rf):jW:=((((if q.sh.size=0 then ⟨#[]⟩ else q.sh++⟨#[33]⟩)++e8o q.fc)++e3k q.c.toNat)++e8o q.fr)++Nt.D q.r.toNat
theorem f2k {q:Rf} (h:q.sh.size=0):((((⟨#[]⟩:jW)++e8o q.fc)++e3k q.c.toNat)++e8o q.fr)++Nt.D q.r.toNat=rfX q:=by unfold rfX;rw[if_pos h]
theorem f0x {q:Rf} (h:q.sh.size≠0):((((q.sh++⟨#[33]⟩)++e8o q.fc)++e3k q.c.toNat)++e8o q.fr)++Nt.D q.r.toNat=rfX q:=by unfold rfX;rw[if_neg h]
theorem e6c (q:Rf) (w:World) (hs:q.sh.size<=100) (hr:X8 q=true):Ca 146 #[.agg #[Sg q.sh,I6 q.c,I6 q.r,Bv q.fc,Bv q.fr]] w (Sg (rfX q)):=by
 have JY:=Qw;have HR:=zh (fun w=>a6m q true w (jG hs (by decide)) hr);obtain⟨g1,g2,g3,g4⟩:=f0a (s:=q.sh) (c:=q.c) (r:=q.r) hr;have HF1:=zh (fun w=>d9i q.fc w);have HF2:=zh (fun w=>d9i q.fr w);have HC:=zh (fun w=>e0t q.c w);have Xv:=zh (fun w=>e5p q.r (by omega) (by omega) w);have z1:=e2r q.fc;have z2:=e6y q.c.toNat;have z3:=e2r q.fr;have z4:=f1t (n:=q.r.toNat) (by omega);have hno:=@f2k q;have hye:=@f0x q;generalize rfX q=z at *;generalize e8o q.fc=f1 at *;generalize e8o q.fr=f2 at *;generalize e3k q.c.toNat=cl at *;generalize Nt.D q.r.toNat=nm at *;by_cases h0:q.sh.size=0
 ·
  have hn:=c1n h0;have HZ:=zh (hno h0);have y0 : ¬ 9223372036854775807<f1.size:=by omega
  have y1 : ¬ 9223372036854775807<f1.size+cl.size:=by omega
  have y2 : ¬ 9223372036854775807<f1.size+cl.size+f2.size:=by omega
  have y3 : ¬ 9223372036854775807<f1.size+cl.size+f2.size+nm.size:=by omega
  clear hno hye hr g1 g2 g3 g4 h0;go_enter Tryz.func146,Tryz.ntmps146;go_wp2_with fail;obtain⟨s1,A,j6,jz,j8,zA⟩:=qy w (.cells #[Sg q.sh,I6 q.c,I6 q.r,Bv q.fc,Bv q.fr] 67);have yA:=qZ (b:=A) j6 jz;have j7:=qQ bR j6;rw[<-j6];try rw[<-jz]
  clear j6 j8 jz;refine jy (HR.out _) fun s2 hb=>?_
  replace yA:=jv hb yA zA;replace zA:=jw hb zA;replace j7:=bT j7 hb;clear hb
  go_upto_region 6 with fail
  have HF:=QX j7;clear j7;refine wrp (S:=fun w'=>(∀ j,w'.cell? ⟨A,j,none⟩=([Sg q.sh,I6 q.c,I6 q.r,Bv q.fc,Bv q.fr]:List Value)[j]?)) (by kernel_rfl) (fun w' hx=>JC) (fun Q6 jx=>?_)
  refine tk 0 ?_;refine tk 1 ?_;refine tk 2 ?_;refine tk 5 ?_;refine tk 6 ?_;refine tk 9 ?_;refine tk 10 ?_;refine tk 13 ?_;refine tk 14 ?_;refine Jq 3 (by kernel_rfl) rfl fun K hK=>?_
  go_simp
  (go_at_call 187;refine jy (HF1.out _) fun x3 qk=>?_;obtain⟨qx,jk,qK⟩:=Q4 s2 qk)
  try (go_wp2_with fail)
  refine hK.out _ _ (X2 Q6) (fun jx=>?_);clear hK K;try simp only[pz]
  refine tk 4 ?_;refine Jq 7 (by kernel_rfl) rfl fun K hK=>?_
  go_simp
  (go_at_call 188;refine jy (HC.out _) fun x3 qk=>?_;obtain⟨qx,jk,qK⟩:=Q4 s2 qk)
  try (go_wp2_with fail)
  refine hK.out _ _ (X2 Q6) (fun jx=>?_);clear hK K;try simp only[pz]
  refine tk 8 ?_;refine Jq 11 (by kernel_rfl) rfl fun K hK=>?_
  go_simp
  (go_at_call 187;refine jy (HF2.out _) fun x3 qk=>?_;obtain⟨qx,jk,qK⟩:=Q4 s2 qk)
  try (go_wp2_with fail)
  refine hK.out _ _ (X2 Q6) (fun jx=>?_);clear hK K;try simp only[pz]
  refine tk 12 ?_;refine Jq 15 (by kernel_rfl) rfl fun K hK=>?_
  go_simp
  (go_at_call 189;refine jy (Xv.out _) fun x3 qk=>?_;obtain⟨qx,jk,qK⟩:=Q4 s2 qk)
  try (go_wp2_with fail)
  refine hK.out _ _ (X2 Q6) (fun jx=>?_);clear hK K;try simp only[pz]
  refine tk 16 ?_;refine tk 17 ?_;refine wpAnyH_done (by kernel_rfl) ?_ _;go_wp2
  go_ret
  exact⟨a1l HZ.out,HF.out _ (by assumption)⟩
 ·
  have hn:=b6f h0;have hn2:q.sh.toList.isEmpty=false:=by simpa using hn
  have HZ:=zh (hye h0);have y0 : ¬ 9223372036854775807<q.sh.size+1+f1.size:=by omega
  have y1 : ¬ 9223372036854775807<q.sh.size+1+f1.size+cl.size:=by omega
  have y2 : ¬ 9223372036854775807<q.sh.size+1+f1.size+cl.size+f2.size:=by omega
  have y3 : ¬ 9223372036854775807<q.sh.size+1+f1.size+cl.size+f2.size+nm.size:=by omega
  clear hno hye hr g1 g2 g3 g4 h0;go_enter Tryz.func146,Tryz.ntmps146;go_wp2_with fail;obtain⟨s4,A,j6,jz,j8,zA⟩:=qy w (.cells #[Sg q.sh,I6 q.c,I6 q.r,Bv q.fc,Bv q.fr] 67);have yA:=qZ (b:=A) j6 jz;have j7:=qQ bR j6;rw[<-j6];try rw[<-jz]
  clear j6 j8 jz;refine jy (HR.out _) fun s5 hb=>?_
  replace yA:=jv hb yA zA;replace zA:=jw hb zA;replace j7:=bT j7 hb;clear hb
  go_upto_region 6 with fail
  have HF:=QX j7;clear j7;refine wrp (S:=fun w'=>(∀ j,w'.cell? ⟨A,j,none⟩=([Sg q.sh,I6 q.c,I6 q.r,Bv q.fc,Bv q.fr]:List Value)[j]?)) (by kernel_rfl) (fun w' hx=>JC) (fun Q6 jx=>?_)
  refine tk 0 ?_;refine tk 1 ?_;refine tk 2 ?_;refine tk 5 ?_;refine tk 6 ?_;refine tk 9 ?_;refine tk 10 ?_;refine tk 13 ?_;refine tk 14 ?_;refine Jq 3 (by kernel_rfl) rfl fun K hK=>?_
  go_simp
  (go_at_call 187;refine jy (HF1.out _) fun x6 qk=>?_;obtain⟨qx,jk,qK⟩:=Q4 s5 qk)
  try (go_wp2_with fail)
  refine hK.out _ _ (X2 Q6) (fun jx=>?_);clear hK K;try simp only[pz]
  refine tk 4 ?_;refine Jq 7 (by kernel_rfl) rfl fun K hK=>?_
  go_simp
  (go_at_call 188;refine jy (HC.out _) fun x6 qk=>?_;obtain⟨qx,jk,qK⟩:=Q4 s5 qk)
  try (go_wp2_with fail)
  refine hK.out _ _ (X2 Q6) (fun jx=>?_);clear hK K;try simp only[pz]
  refine tk 8 ?_;refine Jq 11 (by kernel_rfl) rfl fun K hK=>?_
  go_simp
  (go_at_call 187;refine jy (HF2.out _) fun x6 qk=>?_;obtain⟨qx,jk,qK⟩:=Q4 s5 qk)
  try (go_wp2_with fail)
  refine hK.out _ _ (X2 Q6) (fun jx=>?_);clear hK K;try simp only[pz]
  refine tk 12 ?_;refine Jq 15 (by kernel_rfl) rfl fun K hK=>?_
  go_simp
  (go_at_call 189;refine jy (Xv.out _) fun x6 qk=>?_;obtain⟨qx,jk,qK⟩:=Q4 s5 qk)
  try (go_wp2_with fail)
  refine hK.out _ _ (X2 Q6) (fun jx=>?_);clear hK K;try simp only[pz]
  refine tk 16 ?_;refine tk 17 ?_;refine wpAnyH_done (by kernel_rfl) ?_ _;go_wp2
  go_ret
  exact⟨a1l HZ.out,HF.out _ (by assumption)⟩
-- (a region told a7i by a7i: %%hwalk)
def lfX (n:Nd):jW:=if n.k=4 then XQ n.o.toNat else rfX n.r
def f3v (n:Nd):Prop:=(n.k=4/\1<=n.o/\n.o<=7)\/(n.k=5/\X8 n.r=true/\n.r.sh.size<=100)
theorem e2s (n:Nd) (w:World) (h:f3v n):Ca 112 #[Y2 n] w (Sg (lfX n)):=by
 have JY:=Qw;obtain⟨K19,hz19,HK19⟩:=Y9
 rcases h with ⟨hk,h1,h7⟩ | ⟨hk,hr,hs⟩
 ·
  have hz:XQ n.o.toNat=lfX n:=by unfold lfX;rw[if_pos hk]
  have hn:=fun w=>d8l n.o.toNat w (by omega) (by omega)
  have ho:((n.o.toNat:Nat):Int)=n.o:=by omega
  rw[ho,hz] at hn;generalize lfX n=z at *;obtain⟨k,o,a,b,qn,qa,qd,x,tr,r,t⟩:=n;obtain rfl:k=4:=hk;dsimp only at hn |-
  have HN:=zh hn;clear hn h1 h7 ho hz;go_enter Tryz.func112,Tryz.ntmps112
  go_upto_region 1 with fail
  obtain⟨s1,X,j6,qw,j8,zX⟩:=qy w (.cells #[I6 4,I6 o,I6 a,I6 b,Bv qn,Sg qa,Sg qd,Sg x,Bv tr,Sg r.sh,I6 r.c,I6 r.r,Bv r.fc,Bv r.fr,Sg t.sh,I6 t.c,I6 t.r,Bv t.fc,Bv t.fr] 69);have yX:=qZ (b:=X) j6 qw;have j7:=qQ bR j6;rw[<-j6];try rw[<-qw]
  clear j6 j8 qw;go_wp2_with fail;refine jy (HN.out _) fun w5 hb=>?_
  replace j7:=X4 j7 hb;clear hb;go_wp2
  go_ret
  exact⟨rfl,j7⟩
 ·
  have hz:rfX n.r=lfX n:=by unfold lfX;rw[if_neg (by omega)]
  have hn:=fun w=>e6c n.r w hs hr
  rw[hz] at hn;generalize lfX n=z at *;obtain⟨k,o,a,b,qn,qa,qd,x,tr,r,t⟩:=n;obtain rfl:k=5:=hk;dsimp only at hn |-
  have HN:=zh hn;clear hn hr hs hz;go_enter Tryz.func112,Tryz.ntmps112
  go_upto_region 1 with fail
  obtain⟨s2,X,j6,qw,j8,zX⟩:=qy w (.cells #[I6 5,I6 o,I6 a,I6 b,Bv qn,Sg qa,Sg qd,Sg x,Bv tr,Sg r.sh,I6 r.c,I6 r.r,Bv r.fc,Bv r.fr,Sg t.sh,I6 t.c,I6 t.r,Bv t.fc,Bv t.fr] 69);have yX:=qZ (b:=X) j6 qw;have j7:=qQ bR j6;rw[<-j6];try rw[<-qw]
  clear j6 j8 qw;go_wp2_with fail;refine jy (HN.out _) fun w5 hb=>?_
  replace j7:=X4 j7 hb;clear hb;go_wp2
  go_ret
  exact⟨rfl,j7⟩
def f2l (l:List Int) (w:World) (e:Ending) (w':World):Prop:=(∃ r,e=.returned r/\IntsAt w' r l)/\Bl w w'
theorem e3u (u v:Value) (N:List Nd) (A:List Int) (i:Nat) (n:Nd) (w:World) (hN:NodesAt w u N) (hA:IntsAt w v A) (hi:N[i]?=some n) (hl:A.length<=1000) (hl2:N.length<=1000) (hok:a1h A (qX n)=true) :
  Cz 111 #[.agg #[u,v],I6 (i:Int)] w (f2l (Xj A (qX n)) w):=by
 have JY:=Qw;have HK:=zh (fun w hN hA=>a5q u v N A i n w hN hA hi hl hl2);have HOK:=zh hok;have HN:=zh hN;have HA:=zh hA;obtain⟨Po,hPo⟩:=nM (f2l (Xj A (qX n)) w);rw[<-hPo];have J5:=zh hPo;clear hPo hN hA hi hok;go_enter Tryz.func111,Tryz.ntmps111
 go_upto_region 1 with fail
 obtain⟨s3,F,j6,qY,j8,zF⟩:=qy w (.cells #[u,v] 25);have hN:=Qz (b:=F) j6 qY;have qV:=hN 0 _ rfl;have J1:=hN 1 _ rfl;clear hN;have j7:=qQ bR j6;rw[<-j6];try rw[<-qY]
 clear j6 j8 qY;go_wp2_with fail;refine(HK.out _ (HN.out.below j7) (HA.out.below j7)).mono ?_;rintro e w1 ⟨⟨r,rfl,hr⟩,hb⟩;rw[HOK.out,if_pos rfl] at hr;rw[HOK.out];replace j7:=X4 j7 hb;clear hb;have HR:=zh hr;clear hr;go_wp2_with fail;show Po _ _;rw[J5.out];exact⟨⟨_,rfl,HR.out⟩,j7⟩
set_option maxHeartbeats 32000000
-- (a region told a7i by a7i: %%hwalk)
theorem Tryz.infoStr:(Tryz.prog.info? 9).map (fun i=>(i.zero,i.size,i.bytes))=some (some (S0),1,16):=by kernel_rfl
abbrev f2m (l:List jW):List Value:=l.map Value.string
def TxP (N:List Nd) (A:List Int) (u v:Value) (i:Nat) (s:jW):Prop:=∀ w,NodesAt w u N->IntsAt w v A->Ca 62 #[.agg #[u,v],I6 (i:Int)] w (Sg s)
def f3w (t0:World) (S:List jW) (kv r:Value) (wr:World):Prop:=∃ k:Nat,k<=S.length/\r=I6 k/\wr.ownsRow t0.heap.size 9 1 kv k (f2m (S.take k))/\Bl t0 wr
theorem e9k {W:World} {base n:Nat} {t:TypeId} {v:Value} {S:List jW} (h:W.ownsRow base t 1 v n (f2m S)) (h0:0<S.length):∃ g cap,v=.slice (some ⟨g,0,none⟩) S.length cap/\∀ k,k<S.length->W.cell? ⟨g,0+k,none⟩=some (Sg (S.getD k ⟨#[]⟩)):=by
 have hl:=h.1;rw[List.length_map,Nat.mul_one] at hl
 rcases h.2 with ⟨hv,h1⟩ | ⟨g,cap,cur,hv,_,hgg,hn,hm,_⟩
 ·
  omega
 ·
  refine⟨g,cap,by rw[hv,hl],fun k hk=>?_⟩
  have hc:=h.cells (g:=g) (by rw[hv];rfl) k (Sg (S.getD k ⟨#[]⟩)) (by rw[List.getElem?_map,jH hk,jJ,jH hk];rfl);rw[Addr.add_lit] at hc;exact hc
theorem e4l (u v:Value) (N:List Nd) (A:List Int) (i:Nat) (n:Nd) (S:List jW) (z:jW) (w:World) (hN:NodesAt w u N) (hA:IntsAt w v A) (hi:N[i]?=some n) (hl:A.length<=1000) (hl2:N.length<=1000)
  (hok:a1h A (qX n)=true) (hSl:S.length=(Xj A (qX n)).length) (hSz:∀ j,j<S.length->(S.getD j ⟨#[]⟩).size<=1000)
  (hkid:∀ j,j<S.length->∃ (m:Nat) (nm:Nd),(Xj A (qX n)).getD j 0=(m:Int)/\N[m]?=some nm/\brk (qX n) (qX nm) j=false/\TxP N A u v m (S.getD j ⟨#[]⟩))
  (hz:(f3v n/\z=lfX n)\/(n.k=8/\S.length=2/\∃ o:Nat,o<12/\n.o=((o+1:Nat):Int)/\z=((S.getD 0 ⟨#[]⟩)++QK (opsT.getD o []))++(S.getD 1 ⟨#[]⟩))) :
  Ca 62 #[.agg #[u,v],I6 (i:Int)] w (Sg z):=by
 have JY:=Qw;obtain⟨K19,hz19,HK19⟩:=Y9;obtain⟨i0,hi0,hz0,hz1,hz2⟩:=info_parts Tryz.infoStr;have hin:=(List.getElem?_eq_some_iff.1 hi).1;have hns:=a3i (qX n) hl;have HMD:=zh (fun w hN hA=>e3u u v N A i n w hN hA hi hl hl2 hok);have HBR:=zh (fun (k j:Nat) (m:Nd) w hN hA hk hc hj=>b6s u v N A i n k j m w hN hA hi hl hl2 hok hk hc hj);have HLF:=zh (fun h w=>e2s n w h);have HKD:=zh hkid;have HSZ:=zh hSz;have hNC:=zh hN;have HA:=zh hA;have HZZ:=zh hz;obtain⟨bn,cn,rfl,hN2⟩:=hN.slice;obtain⟨gn,on,rfl,hcn⟩:=hN2 i n hi;have HN1:=zh hcn;obtain⟨L,hL⟩:=nM N.length;obtain⟨l,hl0⟩:=nM (Xj A (qX n));rw[<-hl0] at hSl hns HMD HKD HBR;obtain⟨LL,hLL⟩:=nM S.length;have XW:=zh hLL;have HLL2:=zh (hLL.trans hSl);have hLs:LL<=1000:=by omega
 rw[<-hL] at hin HMD HBR HKD hNC |-
 clear hN hA hi hN2 hcn hok hl0 hL hkid hSz hz hl hl2 hSl hLL hns;go_enter Tryz.func62,Tryz.ntmps62
 go_upto_region 1 with fail
 obtain⟨s1,F,j6,qY,j8,zF⟩:=qy w (.cells #[.slice (some ⟨gn,on,none⟩) L cn,v] 25);have hN:=Qz (b:=F) j6 qY;have qV:=hN 0 _ rfl;have J1:=hN 1 _ rfl;clear hN;have lF:w.heap.size<=F:=by omega
 have j7:=qQ bR j6;rw[<-j6];try rw[<-qY]
 clear j6 j8 qY;have LN:=a0p s1 gn (on+i*K19) HK19 n (fun j u hu=>by rw[HK19.out];exact q9 j7 (HN1.out j u hu) (Xk (HN1.out j u hu)))
 go_upto_region 2 with (refine a0c rfl _ _ rfl rfl _ _ _ rfl rfl rfl (by rfl) (by rfl) (by rfl) ?_)
 obtain⟨s2,X,j6,qw,j8,zX⟩:=qy s1 (.cells (Qk n).toArray 69);have j9:=JW j6;replace qV:=q9 j9 qV zF;replace J1:=q9 j9 J1 zF;replace zF:=jw j9 zF;clear j9;have hN:=Qz (b:=X) j6 qw;have Qx:=hN 0 _ rfl;have Qj:=hN 1 _ rfl;have X0:=hN 2 _ rfl;have QQ:=hN 3 _ rfl;have QY:=hN 4 _ rfl;have QV:=hN 5 _ rfl;have kX6:=hN 6 _ rfl;have kX7:=hN 7 _ rfl;have kX8:=hN 8 _ rfl;have kX9:=hN 9 _ rfl;have kX10:=hN 10 _ rfl;have kX11:=hN 11 _ rfl;have kX12:=hN 12 _ rfl;have kX13:=hN 13 _ rfl;have kX14:=hN 14 _ rfl;have kX15:=hN 15 _ rfl;have kX16:=hN 16 _ rfl;have kX17:=hN 17 _ rfl;have kX18:=hN 18 _ rfl;clear hN;have lX:w.heap.size<=X:=by have:=j7.size;omega
 have LX:=a0o s2 X HK19 Qx Qj X0 QQ QY QV kX6 kX7 kX8 kX9 kX10 kX11 kX12 kX13 kX14 kX15 kX16 kX17 kX18;replace j7:=qQ j7 j6;rw[<-j6];try rw[<-qw]
 clear j6 j8 qw;clear LN;go_wp2_with fail;refine(HMD.out _ (hNC.out.below j7) (HA.out.below j7)).mono ?_;rintro e w1 ⟨⟨r,rfl,hr⟩,hb⟩;replace qV:=q9 hb qV zF;replace J1:=q9 hb J1 zF;replace zF:=jw hb zF;have q:=fun {j u} h=>q9 (p:=⟨X,j,none⟩) (v:=u) hb h zX;replace Qx:=q Qx;replace Qj:=q Qj;replace X0:=q X0;replace QQ:=q QQ;replace QY:=q QY;replace QV:=q QV;replace kX6:=q kX6;replace kX7:=q kX7;replace kX8:=q kX8;replace kX9:=q kX9;replace kX10:=q kX10;replace kX11:=q kX11;replace kX12:=q kX12;replace kX13:=q kX13;replace kX14:=q kX14;replace kX15:=q kX15;replace kX16:=q kX16;replace kX17:=q kX17;replace kX18:=q kX18;clear q;replace zX:=jw hb zX
 replace j7:=X4 j7 hb;clear hb;replace LX:=a0o w1 X HK19 Qx Qj X0 QQ QY QV kX6 kX7 kX8 kX9 kX10 kX11 kX12 kX13 kX14 kX15 kX16 kX17 kX18;obtain⟨bl,cl,rfl,hlc⟩:=hr.slice;rw[<-HLL2.out] at hlc |-
 have HLC:=zh hlc;obtain⟨t1,ht1⟩:=nM w1
 have HFF:Hid (∀ W,Bl t1 W->W.cell? ⟨F,0,none⟩=some (.slice (some ⟨gn,on,none⟩) L cn)/\W.cell? ⟨F,1,none⟩=some v):=by
  rw[ht1];exact fun W h=>⟨q9 h qV zF,q9 h J1 zF⟩
 have HXX:Hid (∀ W,Bl t1 W->∀ j x,(Qk n)[j]?=some x->W.cell? ⟨X,j,none⟩=some x):=by
  rw[ht1]
  exact fun W h j x hx=>by
   refine q9 h ?_ zX
   match j,hx with
   | 0,hx=>rw[<-jA hx];exact Qx
   | 1,hx=>rw[<-jA hx];exact Qj
   | 2,hx=>rw[<-jA hx];exact X0
   | 3,hx=>rw[<-jA hx];exact QQ
   | 4,hx=>rw[<-jA hx];exact QY
   | 5,hx=>rw[<-jA hx];exact QV
   | 6,hx=>rw[<-jA hx];exact kX6
   | 7,hx=>rw[<-jA hx];exact kX7
   | 8,hx=>rw[<-jA hx];exact kX8
   | 9,hx=>rw[<-jA hx];exact kX9
   | 10,hx=>rw[<-jA hx];exact kX10
   | 11,hx=>rw[<-jA hx];exact kX11
   | 12,hx=>rw[<-jA hx];exact kX12
   | 13,hx=>rw[<-jA hx];exact kX13
   | 14,hx=>rw[<-jA hx];exact kX14
   | 15,hx=>rw[<-jA hx];exact kX15
   | 16,hx=>rw[<-jA hx];exact kX16
   | 17,hx=>rw[<-jA hx];exact kX17
   | 18,hx=>rw[<-jA hx];exact kX18
 have HZ:Hid (∀ W,Bl t1 W->Bl w W):=by
  rw[ht1];exact fun W h=>bT j7 h
 rw[<-ht1] at HLC |-
 clear qV J1 Qx Qj X0 QQ QY QV kX6 kX7 kX8 kX9 kX10 kX11 kX12 kX13 kX14 kX15 kX16 kX17 kX18 zF zX;clear hr hlc LX lX lF j7 ht1 hin;go_wp2_with fail
 go_loopw [7,8] (f3w t1 S) (fun _ r _=>LL-(intOf r).toNat)
 case atStart=>exact⟨0,Nat.zero_le _,rfl,World.ownsRow_nil _ _ _ _,Below.refl _ _⟩
 case round =>
  obtain⟨k,hk,rfl,hO,hW⟩:=hrel;rw[<-XW.out] at hk;have HO:=zh hO;have HW:=zh hW;have j7:=HZ.out _ hW;obtain⟨qV,J1⟩:=HFF.out _ hW;have zF:=Xk qV;clear hO hW;by_cases hlt:k<LL
  ·
   obtain⟨m,nm,hm1,hm2,hm3,hm4⟩:=HKD.out k (by rw[<-XW.out];exact hlt);obtain⟨gl,ol,rfl,hcl⟩:=HLC.out k hlt;have q1:=q9 HW.out hcl (Xk hcl);rw[hm1] at q1;have zq:=Xk q1;have hs1:=HSZ.out k (by rw[<-XW.out];exact hlt);have hbr:=fun w h1 h2=>HBR.out k m nm w h1 h2 (by rw[<-HLL2.out];exact hlt) hm1 hm2
   rw[hm3] at hbr;have HB1:=zh hbr;have HT1:=zh hm4
   have hst:f2m (S.take (k+1))=f2m (S.take k) ++ [Sg (S.getD k ⟨#[]⟩)]:=by
    have hks:k<S.length:=by rw[<-XW.out];exact hlt
    unfold f2m;rw[List.take_add_one,jH hks,Option.toList_some,List.map_append,jJ,jH hks];rfl
   have HST:=zh hst;generalize S.getD k ⟨#[]⟩=sk at *;clear hm1 hm2 hm3 hm4 hcl hbr hst
   go_upto_region 7 with fail
   have HF:=QX j7;clear j7;refine wp_region_held_drew (S:=fun w'=>w'.cell? ⟨F,0,none⟩=some (.slice (some ⟨gn,on,none⟩) L cn)/\w'.cell? ⟨F,1,none⟩=some (v)/\w'.cell? ⟨gl,ol+k,none⟩=some (I6 (m:Int))) (by kernel_rfl) JR (fun jx=>?_)
   refine tk 0 ?_;refine tk 1 ?_;refine tk 2 ?_;refine tk 3 ?_;refine tk 4 ?_;refine Jq 5 (by kernel_rfl) rfl fun K hK=>?_
   go_simp
   (go_at_call 62;refine jy (HT1.out _ (hNC.out.below (HF.out _ (bSt _ _))) (HA.out.below (HF.out _ (bSt _ _)))) fun x3 qk=>?_;obtain⟨qx,jk,qK⟩:=Q4 wr qk)
   try (go_wp2_with fail)
   refine hK.out _ _ JR (fun jx=>?_)
   clear hK K;try simp only[pz]
   refine tk 6 ?_;refine wpAnyH_done (by kernel_rfl) ?_ _;have hT5:=qx;replace qV:=(jk F 0 zF).trans qV;replace J1:=(jk F 1 zF).trans J1;replace zF:=jw qx zF;have j7:=HF.out _ qx;clear HF jk qK qx;obtain⟨w5,hw5⟩:=nM x3;rw[<-hw5] at j7 hT5 qV J1 zF |-
   have HW5:Hid (Bl t1 w5):=zh (HW.out.trans (hT5.mono HW.out.size));have HT5:=zh hT5;clear hw5 hT5;go_wp2_with fail;refine jy (HB1.out _ (hNC.out.below j7) (HA.out.below j7)) fun w6 hb=>?_
   have HW6:Hid (Bl t1 w6):=zh (HW5.out.trans (hb.mono HW5.out.size));have HO6:=zh (a1g HO.out (HT5.out.trans (hb.mono HT5.out.size)));have hk2:(k+1)<=maxLen:=by unfold maxLen;omega
   have hk3:(k+1)*16<=140737488355328:=by omega
   have hbase:t1.heap.size<=w6.heap.size:=HW6.out.size;clear j7 qV J1 zF hb q1 zq;go_wp2_with (at_builtin;refine wpList_append_own _ rfl _ _ 141 rfl t1.heap.size 9 i0 (S0) 1 16 Tryz.underlying141 hi0 hz0 hz1 hz2 rfl (by decide) _ _ _ rfl (HO6.out.alloc _) ⟨w6.heap.size,0,none⟩ 1 1 [.string sk] rfl rfl (cell_one_new _ _ _) (by simp[Value.oneCell']) hk2 hk3 (by simp;omega) ?_;intro v1 w7 hown1 hgrow1 _)
   go_roundw
   case rel=>exact⟨k+1,by rw[<-XW.out];omega,by go_num,by rw[HST.out];exact hown1,(HW6.out.alloc hbase _).grown hgrow1 (by simp;omega) (fun q hq=>(HO6.out.lt q hq).1)⟩
   case measure=>simp[intOf];omega
  ·
   obtain rfl:k=LL:=by omega
   have hxx:=HXX.out _ HW.out
   rcases HZZ.out with ⟨hlf,hzz⟩ | ⟨h8,hS2,o,ho,ho2,hzz⟩
   ·
    have hcall:=HLF.out hlf;rw[<-hzz] at hcall;have HC:=zh hcall;have hk:(n.k==7)=false/\(n.k==8)=false/\(n.k==9)=false:=by rcases hlf with h | h<;>rw[h.1]<;>decide
    obtain⟨g7,g8,g9⟩:=hk;have LX:=a0p wr X 0 HK19 n (fun j u hu=>by rw[Nat.zero_add];exact hxx j u hu);have Qx:=hxx 0 _ rfl;have zX:=Xk Qx;clear hcall hzz hlf hxx;go_wp2_with fail;refine jy (HC.out _) fun w5 hb=>?_
    go_wp2
    go_ret
    exact⟨rfl,bT j7 hb⟩
   ·
    have g8:(n.k==8)=true:=by simpa using h8
    have g7:(n.k==7)=false:=by rw[h8];decide
    have hO:=HO.out;rw[XW.out,List.take_length,<-XW.out] at hO;obtain⟨gk,ck,rfl,hck⟩:=e9k hO (by rw[hS2];decide);have hs0:=HSZ.out 0 (by rw[hS2];decide);have hs1:=HSZ.out 1 (by rw[hS2];decide);have q0:wr.cell? ⟨gk,0,none⟩=_:=hck 0 (by rw[hS2];decide);have q1:wr.cell? ⟨gk,1,none⟩=_:=hck 1 (by rw[hS2];decide);have hl2:k=2:=XW.out.trans hS2;rw[hS2];generalize S.getD 0 ⟨#[]⟩=sa at *;generalize S.getD 1 ⟨#[]⟩=sb at *;have hsg:=fun w=>e2u o w ho
    rw[<-ho2] at hsg
    have j8:(QK (opsT.getD o [])).size<=2:=by
     have h:∀ o:Fin 12,(QK (opsT.getD o.val [])).size<=2:=by decide +kernel
     exact h ⟨o,ho⟩
    generalize QK (opsT.getD o [])=sg at *;have HSG:=zh hsg;have HZE:=zh hzz;have Qx:=hxx 0 _ rfl;have Qj:=hxx 1 _ rfl;have zX:=Xk Qx;have zk:=Xk q0;have y1 : ¬ 9223372036854775807<sa.size+sg.size:=by omega
    have y2 : ¬ 9223372036854775807<sa.size+sg.size+sb.size:=by omega
    clear hO hck hsg hzz hxx hS2 ho2 ho;subst hl2
    go_upto_region 18 with fail
    have HF:=QX j7;clear j7;refine wp_region_held_drew (S:=fun w'=>w'.cell? ⟨X,0,none⟩=some (I6 n.k)/\w'.cell? ⟨X,1,none⟩=some (I6 n.o)/\w'.cell? ⟨gk,0,none⟩=some (Sg sa)/\w'.cell? ⟨gk,1,none⟩=some (Sg sb)) (by kernel_rfl) JQ (fun jx=>?_)
    refine tk 0 ?_;refine tk 1 ?_;refine tk 2 ?_;refine tk 3 ?_;refine tk 4 ?_;refine tk 7 ?_;refine tk 8 ?_;refine tk 9 ?_;refine Jq 5 (by kernel_rfl) rfl fun K hK=>?_
    go_simp
    (go_at_call 105;refine jy (HSG.out _) fun x4 qk=>?_;obtain⟨qx,jk,qK⟩:=Q4 wr qk)
    try (go_wp2_with fail)
    refine hK.out _ _ JQ (fun jx=>?_)
    clear hK K;try simp only[pz]
    refine tk 6 ?_;refine tk 10 ?_;refine tk 11 ?_;refine wpAnyH_done (by kernel_rfl) ?_ _;go_wp2
    go_ret
    exact⟨a1l HZE.out.symm,HF.out _ (by assumption)⟩
set_option maxHeartbeats 8000000
theorem d9j (u v:Value) (N:List Nd) (A:List Int) (M:Nat) (s:jW) (w:World) (hN:NodesAt w u N) (hA:IntsAt w v A) (hf:∀ n ∈ N,J8 n) (hl:A.length<=1000) (hl2:N.length<=1000) (hR:Yw N A=true) (hM:N.length=M+1) (ht:TxP N A u v M s) (hs:s.size<=300) :
  Ca 29 #[.agg #[u,v]] w (.tuple #[Sg s,I6 0]):=by
 have JY:=Qw;have hr:=fun w hN hA=>a3t u v N A w hN hA hf hl hl2
 rw[hR] at hr;have HR:=zh hr;have HT:=zh ht;have HN:=zh hN;have HA:=zh hA;obtain⟨bn,cn,rfl,_⟩:=hN.slice;obtain⟨L,hL⟩:=nM N.length;rw[<-hL] at HR HT HN hM hl2 |-
 subst hM;clear hr hN hA hf hR ht hL;go_enter Tryz.func29,Tryz.ntmps29
 go_upto_region 1 with fail
 obtain⟨s1,F,j6,qY,j8,zF⟩:=qy w (.cells #[.slice bn (M+1) cn,v] 25);have hN:=Qz (b:=F) j6 qY;have qV:=hN 0 _ rfl;have J1:=hN 1 _ rfl;clear hN;have j7:=qQ bR j6;rw[<-j6];try rw[<-qY]
 clear j6 j8 qY;go_wp2_with fail;refine jy (HR.out _ (HN.out.below j7) (HA.out.below j7)) fun w5 hb=>?_
 replace qV:=q9 hb qV zF;replace J1:=q9 hb J1 zF;replace j7:=X4 j7 hb;clear hb;go_wp2_with fail;refine jy (HT.out _ (HN.out.below j7) (HA.out.below j7)) fun w6 hb=>?_
 replace j7:=X4 j7 hb;clear hb;go_wp2
 go_ret2
 exact⟨rfl,j7⟩
