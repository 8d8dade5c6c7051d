import Derived.Test.YtibiacmbljgmhaaGreatDoorAst18
set_option maxHeartbeats 8000000
set_option maxRecDepth 100000
namespace Go.Proofs.YtibiacmbljgmhaaGreatDoor
open Go.RowKit Go.Shelf
set_option linter.all false
theorem b1s {N:List Sh} {A:List Int} {f:Nat} {i bud:Int} {l:List Int} (h:a2d N A f i bud=some l):(l.length:Int)<=bud/\0<l.length:=by
 cases f with
 | zero=>cases h
 | succ f =>
  rw[a2d] at h
  split at h
  ·
   cases h
  ·
   split at h
   ·
    cases h
   ·
    cases hg:a1m (a2d N A f) i bud (Xj A (N.getD i.toNat default)) [] with
    | none=>rw[hg] at h;cases h
    | some out =>
     rw[hg] at h;simp only[Option.bind_some] at h
     split at h
     ·
      obtain rfl:=jA h;rw[jM,List.length_singleton];omega
     ·
      cases h
theorem b5l {N:List Sh} {A:List Int} {f:Nat} {i bud:Int} (h:i<0\/(N.length:Int)<=i\/bud<=0):a2d N A f i bud=none:=by
 cases f with
 | zero=>rfl
 | succ f=>rw[a2d,if_pos h]
theorem b8v {N:List Sh} {A:List Int} {f:Nat} {i bud:Int} (h:a1h A (N.getD i.toNat default)=false):a2d N A f i bud=none:=by
 cases f with
 | zero=>rfl
 | succ f =>
  rw[a2d];by_cases h0:i<0\/(N.length:Int)<=i\/bud<=0
  ·
   rw[if_pos h0]
  ·
   rw[if_neg h0,if_pos h]
theorem b8w {N:List Sh} {A:List Int} {f:Nat} {i bud:Int} (h : ¬ (i<0\/(N.length:Int)<=i\/bud<=0)) (hk:a1h A (N.getD i.toNat default)=true):a2d N A (f+1) i bud=(a1m (a2d N A f) i bud (Xj A (N.getD i.toNat default)) []).bind fun out=>if (out.length:Int)<bud then some (out ++ [i]) else none:=by
 rw[a2d,if_neg h,if_neg (by rw[hk];exact Bool.noConfusion)]
def a5r (o:Option (List Int)) (w:World) (e:Ending) (w':World):Prop:=(∃ r,e=.returned (.tuple #[r,Bv o.isSome])/\∀ l,o=some l->IntsAt w' r l)/\Bl w w'
theorem cell_one_new (w:World) (x:Value) (t:TypeId):∀ (j:Nat) u,[x][j]?=some u->(w.alloc (.cells #[x] t)).cell? ((⟨w.heap.size,0,none⟩:Addr).add j)=some u:=by
 intro j u hj
 match j,hj with
 | 0,hj=>simp at hj;subst hj;simp[Addr.add,go_sem]
theorem a1g {W W':World} {base:Nat} {e:TypeId} {size:Nat} {v:Value} {n:Nat} {xs:List Value} (h:W.ownsRow base e size v n xs) (hb:Bl W W'):W'.ownsRow base e size v n xs:=by
 refine⟨h.1,?_⟩
 rcases h.2 with h2 | ⟨g,cap,cur,hv,hbase,hg,hrest⟩
 ·
  exact Or.inl h2
 ·
  exact Or.inr ⟨g,cap,cur,hv,hbase,(hb.block g (Array.getElem?_eq_some_iff.1 hg).1).trans hg,hrest⟩
theorem a0l {W:World} {base:Nat} {e:TypeId} {size:Nat} {v:Value} {n:Nat} {xs:List Value} (h:W.ownsRow base e size v n xs):∃ (ba:Option Addr) (cap:Nat),v=.slice ba n cap:=by
 rcases h.2 with ⟨rfl,rfl⟩ | ⟨g,cap,cur,hv,_⟩
 ·
  exact⟨none,0,rfl⟩
 ·
  exact⟨_,cap,hv⟩
theorem b1t {l:List Int} {k:Nat} (h:k<l.length):l.drop k=l.getD k 0 :: l.drop (k+1):=by
 rw[List.drop_eq_getElem_cons h,jJ,jH h];rfl
def c5i (t0:World) (W:Int->Int->Option (List Int)) (i bud:Int) (l:List Int) (G:Option (List Int)) (v r:Value) (wr:World):Prop:=∃ (k:Nat) (out:List Int),k<=l.length/\r=I6 k/\wr.ownsRow t0.heap.size 3 1 v out.length (JV out)/\a1m W i bud (l.drop k) out=G/\(out.length:Int)<bud/\Bl t0 wr
theorem b8x (N:List Nd) (A:List Int) (hl:A.length<=1000) (hl2:N.length<=1000):∀ (f:Nat) (u v:Value) (i bud:Int) (w:World),NodesAt w u N->IntsAt w v A->i<f->bud<=300->-9223372036854775808<=bud ->
  Cz 72 #[.agg #[u,v],I6 i,I6 bud] w (a5r (a2d (N.map qX) A f i bud) w):=by
 intro f
 induction f with
 | zero =>
  intro u v i bud w hN hA hi hb hb2;obtain⟨bn,cn,rfl,_⟩:=hN.slice;rw[b5l (Or.inl (by omega))];have hB:=Below.refl w.heap.size w;obtain⟨Po,hPo⟩:=nM (a5r none w);rw[<-hPo];have J5:=zh hPo;have hi0:i<0:=by omega
  clear hPo hi hA hN;go_enter Tryz.func72,Tryz.ntmps72;go_wp2_with fail;show Po _ _;rw[J5.out];exact⟨⟨_,rfl,fun l h=>by cases h⟩,X7 hB⟩
 | succ f ih =>
  intro u v i bud w hN hA hi hb hb2;have hNC:=zh hN;have HA:=zh hA;obtain⟨bn,cn,rfl,_⟩:=hN.slice;have hB:=Below.refl w.heap.size w;by_cases hno:i<0\/(N.length:Int)<=i\/bud<=0
  ·
   rw[b5l (by rw[List.length_map];exact hno)];obtain⟨Po,hPo⟩:=nM (a5r none w);rw[<-hPo];have J5:=zh hPo;obtain⟨L,hL⟩:=nM N.length;rw[<-hL] at hl2 hno |-
   clear hPo hi hA hN hNC ih hL;by_cases h1:i<0
   ·
    clear hno;go_enter Tryz.func72,Tryz.ntmps72;go_wp2_with fail;show Po _ _;rw[J5.out];exact⟨⟨_,rfl,fun l h=>by cases h⟩,X7 hB⟩
   by_cases h2:(L:Int)<=i
   ·
    clear hno;have h1:(0:Int)<=i:=by omega
    go_enter Tryz.func72,Tryz.ntmps72;go_wp2_with fail;show Po _ _;rw[J5.out];exact⟨⟨_,rfl,fun l h=>by cases h⟩,X7 hB⟩
   ·
    have h3:bud<=0:=by omega
    have h1:(0:Int)<=i:=by omega
    have h2:i<(L:Int):=by omega
    clear hno;go_enter Tryz.func72,Tryz.ntmps72;go_wp2_with fail;show Po _ _;rw[J5.out];exact⟨⟨_,rfl,fun l h=>by cases h⟩,X7 hB⟩
  ·
   obtain⟨j,rfl⟩:∃ j:Nat,i=j:=⟨i.toNat,by omega⟩;have hjN:j<N.length:=by omega
   have hb0:0<bud:=by omega
   obtain⟨n,hn⟩:∃ n,N[j]?=some n:=⟨_,jH hjN⟩;have hsh:(N.map qX).getD ((j:Int).toNat) default=qX n:=by rw[Int.toNat_natCast];exact a2m N j n hn
   have HK:=zh (fun w hN hA=>a5q (.slice bn N.length cn) v N A j n w hN hA hn hl hl2)
   cases hok:a1h A (qX n) with
   | false =>
    rw[b8v (N:=N.map qX) (A:=A) (by rw[hsh];exact hok)];obtain⟨Po,hPo⟩:=nM (a5r none w);rw[<-hPo];have J5:=zh hPo;have HOK:=zh hok;obtain⟨L,hL⟩:=nM N.length;rw[<-hL] at HK hl2 hjN |-
    rw[<-hL] at hNC;clear hPo hi hA hN ih hL hsh hn hok hno;go_enter Tryz.func72,Tryz.ntmps72
    go_upto_region 1 with fail
    obtain⟨s1,F,j6,qY,j8,zF⟩:=qy w (.cells #[.slice bn L cn,v] 25);have hN:=Qz (b:=F) j6 qY;have qV:=hN 0 _ rfl;have J1:=hN 1 _ rfl;clear hN;have j7:=qQ bR j6;rw[<-j6];try rw[<-qY]
    clear j6 j8 qY;go_wp2_with fail;refine(HK.out _ (hNC.out.below j7) (HA.out.below j7)).mono ?_;rintro e w1 ⟨⟨r,rfl,_⟩,hb⟩;rw[HOK.out];replace qV:=q9 hb qV zF;replace J1:=q9 hb J1 zF;replace zF:=jw hb zF;replace j7:=X4 j7 hb;clear hb;go_wp2_with fail;show Po _ _;rw[J5.out];exact⟨⟨_,rfl,fun l h=>by cases h⟩,j7⟩
   | true =>
    have hY:=b8w (N:=N.map qX) (A:=A) (f:=f) (bud:=bud) (i:=(j:Int)) (by rw[List.length_map];exact hno) (by rw[hsh];exact hok);rw[hsh] at hY;obtain⟨l,hl0⟩:=nM (Xj A (qX n));obtain⟨G,hG⟩:=nM (a1m (a2d (N.map qX) A f) (j:Int) bud l []);rw[<-hl0,<-hG] at hY;obtain⟨R,hR⟩:=nM (a2d (N.map qX) A (f+1) (j:Int) bud);rw[<-hR] at hY |-
    have hnone:G=none->R=none:=fun h=>by rw[hY,h];rfl
    have hsome:∀ o,G=some o->(o.length:Int)<bud->R=some (o ++ [(j:Int)]):=fun o h1 h2=>by rw[hY,h1];exact if_pos h2
    have HNONE:=zh hnone;have HSOME:=zh hsome;obtain⟨Po,hPo⟩:=nM (a5r R w);rw[<-hPo];have J5:=zh hPo;have HOK:=zh hok;have HL0:=zh hl0;have HG:=zh hG;have IH:=zh ih;obtain⟨L,hL⟩:=nM N.length;rw[<-hL] at HK hl2 hjN |-
    rw[<-hL] at hNC
    have hll:l.length<=1000:=by
     rw[hl0];unfold Xj;split
     ·
      simp
     ·
      split
      ·
       simp
      ·
       split
       ·
        simp;omega
       ·
        simp
    clear hPo hA hN hL hsh hn hok hno hY hnone hsome hl0 hG hR ih;go_enter Tryz.func72,Tryz.ntmps72
    go_upto_region 1 with fail
    obtain⟨s2,F,j6,qY,j8,zF⟩:=qy w (.cells #[.slice bn L cn,v] 25);have hN:=Qz (b:=F) j6 qY;have qV:=hN 0 _ rfl;have J1:=hN 1 _ rfl;clear hN;have lF:w.heap.size<=F:=by omega
    have j7:=qQ bR j6;rw[<-j6];try rw[<-qY]
    clear j6 j8 qY;go_wp2_with fail;refine(HK.out _ (hNC.out.below j7) (HA.out.below j7)).mono ?_;rintro e w1 ⟨⟨r,rfl,hr⟩,hb⟩;rw[HOK.out,if_pos rfl,<-HL0.out] at hr;rw[HOK.out];replace qV:=q9 hb qV zF;replace J1:=q9 hb J1 zF;replace zF:=jw hb zF;replace j7:=X4 j7 hb;clear hb;obtain⟨bl,cl,rfl,hlc⟩:=hr.slice;have HLC:=zh hlc;have HZ:Hid (∀ W,Bl w1 W->Bl w W):=fun W h=>bT j7 h
    have HF:Hid (∀ W,Bl w1 W->W.cell? ⟨F,0,none⟩=some (.slice bn L cn)/\W.cell? ⟨F,1,none⟩=some v):=fun W h=>⟨q9 h qV zF,q9 h J1 zF⟩
    have HNB:Hid (∀ W,Bl w1 W->NodesAt W (.slice bn L cn) N/\IntsAt W v A):=fun W h=>⟨hNC.out.below (HZ.out W h),HA.out.below (HZ.out W h)⟩
    obtain⟨i0,hi0,hz0,hz1,hz2⟩:=info_parts Tryz.infoInt;clear hlc hr qV J1 zF lF j7;go_wp2_with fail
    go_loopw [10,11] (c5i w1 (a2d (N.map qX) A f) (j:Int) bud l G) (fun _ r _=>l.length-(intOf r).toNat)
    case atStart=>exact⟨0,[],Nat.zero_le _,rfl,World.ownsRow_nil _ _ _ _,HG.out.symm,hb0,Below.refl _ _⟩
    case round =>
     obtain⟨k,out,hk,rfl,hO,hT,ho,hW⟩:=hrel;obtain⟨bo,co,rfl⟩:=a0l hO;by_cases hlt:k<l.length
     ·
      have hdr:=b1t hlt;obtain⟨c,hc0⟩:=nM (l.getD k 0);rw[<-hc0] at hdr;obtain⟨gl,ol,rfl,hcl⟩:=HLC.out k hlt;rw[<-hc0] at hcl;have q1:=q9 hW hcl (Xk hcl);have zl:gl<wr.heap.size:=Xk q1;rw[hdr,a1m] at hT;obtain⟨qV,J1⟩:=HF.out _ hW;have zF:F<wr.heap.size:=Xk qV;have j7:=HZ.out _ hW;have HW:=zh hW;have HO:=zh hO;clear hcl hc0 hdr hO;by_cases hcj:(j:Int)<=c
      ·
       rw[if_pos hcj] at hT;have HR0:=zh (HNONE.out hT.symm);clear hT hW;go_wp2_with fail;show Po _ _;rw[J5.out,HR0.out];exact⟨⟨_,rfl,fun l h=>by cases h⟩,j7⟩
      ·
       rw[if_neg hcj] at hT;have hcj2:c<(j:Int):=by omega
       have hol:(out.length:Int)<=300:=by omega
       obtain⟨b2,hb2e⟩:=nM (bud-(out.length:Int)-1);have HCALL:=zh (fun W (hW2:Bl w1 W)=>IH.out (.slice bn L cn) v c (bud-(out.length:Int)-1) W (HNB.out _ hW2).1 (HNB.out _ hW2).2 (by omega) (by omega) (by omega));rw[<-hb2e] at HCALL hT;clear hW hcj
       cases hw:a2d (N.map qX) A f c b2 with
       | none =>
        rw[hw] at hT HCALL;have HR0:=zh (HNONE.out hT.symm);clear hT hw;subst hb2e;have q7:IntKind.i64.wrap (bud-(out.length:Int))=bud-(out.length:Int):=IntWalk.i64_in _ (by omega);have q8:IntKind.i64.wrap (bud-(out.length:Int)-1)=bud-(out.length:Int)-1:=IntWalk.i64_in _ (by omega)
        go_upto_region 12 with fail
        have HF:=QX j7;clear j7;refine wp_region_held_drew (S:=fun w'=>w'.cell? ⟨F,0,none⟩=some (.slice bn L cn)/\w'.cell? ⟨F,1,none⟩=some (v)/\w'.cell? ⟨gl,ol+k,none⟩=some (I6 c)) (by kernel_rfl) JS (fun jx=>?_);refine tk 0 ?_;refine tk 1 ?_;refine tk 2 ?_;refine tk 3 ?_;refine tk 4 ?_;refine tk 5 ?_;refine tk 6 ?_;refine tk 7 ?_;refine tk 8 ?_;refine tk 9 ?_;refine Jq 10 (by kernel_rfl) rfl fun K hK=>?_
        go_simp
        (go_at_call 72;refine(HCALL.out _ (by repeat (with_reducible apply Below.drew);exact HW.out)).mono ?_;rintro e x3 ⟨⟨r2,rfl,hr2⟩,qk⟩;have qx:Bl wr x3:=bHb qk;obtain⟨jk,qK⟩:=a0k qx)
        try (go_wp2_with fail)
        refine hK.out _ _ JS (fun jx=>?_);clear hK K;try simp only[pz]
        refine tk 11 ?_;refine tk 12 ?_;refine tk 13 ?_;refine tk 14 ?_;refine tk 15 ?_;refine wpAnyH_done (by kernel_rfl) ?_ _;go_wp2_with fail;show Po _ _;rw[J5.out,HR0.out];exact⟨⟨_,rfl,fun l h=>by cases h⟩,HF.out _ (by assumption)⟩
       | some X =>
        rw[hw] at hT HCALL;have HTT:Hid (a1m (a2d (N.map qX) A f) (j:Int) bud (l.drop (k+1)) (out++X)=G):=hT;obtain⟨hX1,hX0⟩:=b1s hw;have hXb:(out.length:Int)+X.length<bud:=by omega
        clear hT hw;subst hb2e;have q7:IntKind.i64.wrap (bud-(out.length:Int))=bud-(out.length:Int):=IntWalk.i64_in _ (by omega);have q8:IntKind.i64.wrap (bud-(out.length:Int)-1)=bud-(out.length:Int)-1:=IntWalk.i64_in _ (by omega);have hk1:out.length+X.length<=maxLen:=by unfold maxLen;omega
        have hk3:(out.length+X.length)*8<=140737488355328:=by omega
        go_upto_region 12 with fail
        have HF:=QX j7;clear j7;refine wp_region_held_drew (S:=fun w'=>w'.cell? ⟨F,0,none⟩=some (.slice bn L cn)/\w'.cell? ⟨F,1,none⟩=some (v)/\w'.cell? ⟨gl,ol+k,none⟩=some (I6 c)) (by kernel_rfl) JS (fun jx=>?_);refine tk 0 ?_;refine tk 1 ?_;refine tk 2 ?_;refine tk 3 ?_;refine tk 4 ?_;refine tk 5 ?_;refine tk 6 ?_;refine tk 7 ?_;refine tk 8 ?_;refine tk 9 ?_;refine Jq 10 (by kernel_rfl) rfl fun K hK=>?_
        go_simp
        (go_at_call 72;refine(HCALL.out _ (by repeat (with_reducible apply Below.drew);exact HW.out)).mono ?_;rintro e x4 ⟨⟨r2,rfl,hr2⟩,qk⟩;obtain⟨gx,ox,cx,rfl,hx1,hx2,zx,hxc⟩:=(hr2 X rfl).news hX0;have qx:Bl wr x4:=bHb qk;obtain⟨jk,qK⟩:=a0k qx)
        try (go_wp2_with fail)
        refine hK.out _ _ JS (fun jx=>?_);clear hK K;try simp only[pz]
        refine tk 11 ?_;refine tk 12 ?_;refine tk 13 ?_;refine tk 14 ?_;refine tk 15 ?_;refine wpAnyH_done (by kernel_rfl) ?_ _;have hTT:=qx;replace qV:=(jk F 0 zF).trans qV;replace J1:=(jk F 1 zF).trans J1;replace zF:=jw qx zF;have j7:=HF.out _ qx;clear HF jk qK qx;have hO3:=a1g HO.out hTT;have HNEW:=zh (a7x hxc);have hbase:w1.heap.size<=x4.heap.size:=jG HW.out.size hTT.size;have HTT2:=zh hTT;clear hxc hr2 q7 q8 hTT hX1;go_wp2_with (at_builtin;refine wpList_append_own _ rfl _ _ 23 rfl w1.heap.size 3 i0 (I6 0) 1 8 Tryz.underlying23 hi0 hz0 hz1 hz2 rfl (by decide) _ _ _ rfl hO3 ⟨gx,ox,none⟩ X.length cx (JV X) rfl (by simp) HNEW.out (ints_oneCell _ _) hk1 hk3 hbase ?_;intro v1 w2 hown1 hgrow1 _)
        go_roundw
        case rel=>exact⟨k+1,out++X,by omega,by go_num,by rw[jM,JV,List.map_append];exact hown1,HTT.out,by rw[jM];omega,(HW.out.trans (HTT2.out.mono HW.out.size)).grown hgrow1 hbase (fun q hq=>(hO3.lt q hq).1)⟩
        case measure=>simp[intOf];omega
     ·
      obtain rfl:k=l.length:=by omega
      rw[List.drop_length,a1m] at hT;have HR0:=zh (HSOME.out out hT.symm ho);have hol:out.length<=300:=by omega
      clear hT;go_wp2_with (at_builtin;refine wpList_append_own _ rfl _ _ 23 rfl w1.heap.size 3 i0 (I6 0) 1 8 Tryz.underlying23 hi0 hz0 hz1 hz2 rfl (by decide) _ _ _ rfl (hO.alloc _) ⟨wr.heap.size,0,none⟩ 1 1 [I6 (j:Int)] rfl rfl (cell_one_new _ _ _) (by simp[Value.oneCell']) (by unfold maxLen;omega) (by omega) (by have:=hW.size;simp;omega) ?_;intro v1 w2 hown1 hgrow1 _);show Po _ _;rw[J5.out,HR0.out];refine⟨⟨_,rfl,fun l h=>?_⟩,HZ.out _ ?_⟩
      ·
       obtain rfl:=jA h;have:=IntsAt.of_owns (A:=out ++ [(j:Int)]) (n:=out.length+1) (by rw[JV,List.map_append];exact hown1);exact this.2
      ·
       exact(hW.alloc hW.size _).grown hgrow1 (by have:=hW.size;simp;omega) (fun q hq=>(hO.lt q hq).1)
theorem c7i {l:List Int} (h:∀ j,j<l.length->l.getD j 0=(j:Nat)):l=rng 0 l.length:=by
 refine List.ext_getElem? fun k=>?_
 by_cases hk:k<l.length
 ·
  have:=h k hk;rw[jJ,jH hk] at this;rw[b8q 0 l.length k hk,jH hk,Nat.zero_add];exact congrArg some this
 ·
  rw[List.getElem?_eq_none (by omega),List.getElem?_eq_none (by rw[a1o];omega)]
theorem c5j {l:List Int} {n k:Nat} (hk:k<l.length) (h:l.getD k 0≠(k:Nat)):l≠rng 0 n:=by
 intro e;have hl:l.length=n:=by rw[e,a1o]
 apply h;rw[jJ,e,b8q 0 n k (by omega),Nat.zero_add];rfl
theorem b6q {N:List Sh} {A:List Int} (h:a2d N A N.length ((N.length:Int)-1) 300=none):a3v N A=false:=by
 unfold a3v;rw[h];rfl
theorem b6r {N:List Sh} {A l:List Int} (h:a2d N A N.length ((N.length:Int)-1) 300=some l):a3v N A=(decide (l=rng 0 N.length)&&decide (a1r N N.length=some (A.length:Int))):=by
 unfold a3v;rw[h];simp
theorem b3s {N:List Sh} {m n:Nat} (hmn:m<=n) (h:a1r N m=none) (y:Int):a1r N n≠some y:=fun e=>by
 obtain⟨x,hx,_⟩:=b1k hmn e;rw[h] at hx;cases hx
theorem b3t {N:List Sh} {m:Nat} {x:Int} (h:a1r N m=some x):a1r N (m+1)=if (N.getD m default).k=9/\0<(N.getD m default).b/\(N.getD m default).a≠x then none else some (x+a0n (N.getD m default)):=by
 rw[a1r,h];rfl
def c7j (t0:World) (l:List Int) (r:Value) (wr:World):Prop:=∃ k:Nat,k<=l.length/\r=I6 k/\(∀ j,j<k->l.getD j 0=(j:Nat))/\Bl t0 wr
def c7k (t0:World) (N:List Sh) (a r:Value) (wr:World):Prop:=∃ (k:Nat) (x:Int),k<=N.length/\r=I6 k/\a=I6 x/\a1r N k=some x/\0<=x/\x<=20*k/\Bl t0 wr
theorem b8y (u v:Value) (N:List Nd) (A:List Int) (w:World) (hN:NodesAt w u N) (hA:IntsAt w v A) (hl:A.length<=1000) (h1:1<=N.length) (h300:N.length<=300) (hb:∀ n ∈ N,n.k=9->n.b<=20) :
  Ca 35 #[.agg #[u,v]] w (Bv (a3v (N.map qX) A)):=by
 have JY:=Qw;obtain⟨K19,hz19,HK19⟩:=Y9;obtain⟨R,hR⟩:=nM (a3v (N.map qX) A);rw[<-hR];have hNC:=zh hN;have HA:=zh hA;obtain⟨bn,cn,rfl,hN2⟩:=hN.slice;have HNN:=zh hN2;obtain⟨ba,ca,rfl,_⟩:=hA.slice;have hcall:=fun w hN hA=>b8x N A hl (by omega) N.length (.slice bn N.length cn) (.slice ba A.length ca) ((N.length:Int)-1) 300 w hN hA (by omega) (by omega) (by omega)
 have hll:(N.map qX).length=N.length:=List.length_map ..
 cases hw:a2d (N.map qX) A N.length ((N.length:Int)-1) 300 with
 | none =>
  rw[b6q (by rw[hll];exact hw)] at hR;rw[hw] at hcall;have HC:=zh hcall;have HR:=zh hR;obtain⟨L,hL⟩:=nM N.length;rw[<-hL] at HC hNC h1 h300 |-
  clear hcall hR hN hA hN2 HNN hw hll hL hb;go_enter Tryz.func35,Tryz.ntmps35
  go_upto_region 1 with fail
  obtain⟨s1,F,j6,qY,j8,zF⟩:=qy w (.cells #[.slice bn L cn,.slice ba A.length ca] 25);have hN:=Qz (b:=F) j6 qY;have qV:=hN 0 _ rfl;have J1:=hN 1 _ rfl;clear hN;have j7:=qQ bR j6;rw[<-j6];try rw[<-qY]
  clear j6 j8 qY;go_wp2_with fail;refine(HC.out _ (hNC.out.below j7) (HA.out.below j7)).mono ?_;rintro e w1 ⟨⟨r,rfl,_⟩,hb⟩;replace j7:=X4 j7 hb;clear hb;go_wp2
  go_ret
  exact⟨J4 HR.out.symm,j7⟩
 | some l =>
  rw[b6r (by rw[hll];exact hw),hll] at hR;rw[hw] at hcall;have HC:=zh hcall;have HR1:Hid (l≠rng 0 N.length->R=false):=fun h=>by rw[hR,jE h];rfl
  have HR2:Hid (a1r (N.map qX) N.length≠some (A.length:Int)->R=false):=fun h=>by rw[hR,jE h,Bool.and_false]
  have HR3:Hid (l=rng 0 N.length->a1r (N.map qX) N.length=some (A.length:Int)->R=true):=fun h1 h2=>by rw[hR,jD h1,jD h2];rfl
  have HLIM:=b1s hw;have HSH:=zh (fun (k:Nat) (n:Nd) (h:N[k]?=some n)=>a2m N k n h);have HBB:Hid (∀ (k:Nat) (n:Nd),N[k]?=some n->n.k=9->n.b<=20):=fun k n h=>hb n (List.mem_of_getElem? h)
  have HGE:Hid (∀ k,k<N.length->∃ n,N[k]?=some n):=fun k h=>⟨_,jH h⟩
  obtain⟨i0,hi0,hz0,hz1,hz2⟩:=info_parts Tryz.infoInt;clear hcall hR hN hA hN2 hw hb;obtain⟨L,hL⟩:=nM N.length;obtain⟨NN,hNN⟩:=nM (N.map qX);rw[<-hNN] at HR2 HR3 HSH hll;rw[<-hL] at HC hNC h1 h300 HR1 HR2 HR3 hll HGE |-
  clear hL hNN;go_enter Tryz.func35,Tryz.ntmps35
  go_upto_region 1 with fail
  obtain⟨s2,F,j6,qY,j8,zF⟩:=qy w (.cells #[.slice bn L cn,.slice ba A.length ca] 25);have hN:=Qz (b:=F) j6 qY;have qV:=hN 0 _ rfl;have J1:=hN 1 _ rfl;clear hN;have j7:=qQ bR j6;rw[<-j6];try rw[<-qY]
  clear j6 j8 qY;go_wp2_with fail;refine(HC.out _ (hNC.out.below j7) (HA.out.below j7)).mono ?_;rintro e w1 ⟨⟨r,rfl,hr⟩,hb⟩;have hr2:=hr l rfl;replace qV:=q9 hb qV zF;replace J1:=q9 hb J1 zF;replace zF:=jw hb zF;replace j7:=X4 j7 hb;clear hb;obtain⟨bl,cl,rfl,hlc⟩:=hr2.slice;have HLC:=zh hlc;have HZ:Hid (∀ W,Bl w1 W->Bl w W):=fun W h=>bT j7 h
  have HFF:Hid (∀ W,Bl w1 W->W.cell? ⟨F,0,none⟩=some (.slice bn L cn)/\W.cell? ⟨F,1,none⟩=some (.slice ba A.length ca)):=fun W h=>⟨q9 h qV zF,q9 h J1 zF⟩
  clear hlc hr hr2 HC;by_cases hln:l.length=L
  ·
   have hl2:l.length=L:=hln;clear hln;go_wp2_with fail;clear j7 qV J1 zF
   go_loopw [5] (c7j w1 l) (fun r _=>l.length-(intOf r).toNat)
   case atStart=>exact⟨0,Nat.zero_le _,rfl,fun j h=>absurd h (Nat.not_lt_zero _),Below.refl _ _⟩
   case round =>
    obtain⟨k,hk,rfl,hall,hW⟩:=hrel;by_cases hlt:k<l.length
    ·
     obtain⟨gl,ol,rfl,hcl⟩:=HLC.out k hlt;obtain⟨c,hc0⟩:=nM (l.getD k 0);rw[<-hc0] at hcl;have q1:=q9 hW hcl (Xk hcl);have HALL:=zh hall;have HC0:=zh hc0;clear hall hcl hc0;by_cases hck:c=(k:Int)
     ·
      have HN:Hid (l.getD k 0=(k:Nat)):=HC0.out.symm.trans hck;subst hck;go_wp2
      go_roundw
      case rel=>exact⟨k+1,by omega,by go_num,fun j hj=>if e:j=k then e ▸ HN.out else HALL.out j (by omega),hW⟩
      case measure=>simp[intOf];omega
     ·
      have hcb:(c != (k:Int))=true:=by simpa using hck
      have HR:=zh (HR1.out (c5j hlt (by rw[<-HC0.out];exact hck)));clear hck;go_wp2
      go_ret
      exact⟨J4 HR.out.symm,HZ.out _ hW⟩
    ·
     obtain rfl:k=l.length:=by omega
     have HRNG:=zh (c7i hall);clear hall;obtain⟨t1,ht1⟩:=nM wr;subst ht1;have HW1:=zh hW;clear hW;go_wp2_with fail
     go_loopw [6,7] (c7k t1 NN) (fun _ r _=>L-(intOf r).toNat)
     case atStart=>exact⟨0,0,Nat.zero_le _,rfl,rfl,rfl,by omega,by omega,Below.refl _ _⟩
     case round =>
      obtain⟨k,x,hk,rfl,rfl,hx,hx0,hx1,hW2⟩:=hrel;rw[hll] at hk;have hWW:=HW1.out.trans (hW2.mono HW1.out.size);obtain⟨qV,J1⟩:=HFF.out _ hWW;have j7:=HZ.out _ hWW;have HX:=zh hx;have HW2:=zh hW2;clear hWW hx hW2;by_cases hlt:k<L
      ·
       obtain⟨n,hn⟩:=HGE.out k hlt;have hsn:=HSH.out k n hn;have hb20:=HBB.out k n hn;obtain⟨gn,on,rfl,hcn⟩:=HNN.out k n hn;have LN:=a0p wr gn (on+k*K19) HK19 n (fun j u hu=>by rw[HK19.out];exact q9 j7 (hcn j u hu) (Xk (hcn j u hu)));have hnx:=b3t HX.out;rw[hsn] at hnx;have HNX:=zh hnx;clear hcn hsn hnx hn
       go_upto_region 14 with (refine a0c rfl _ _ rfl rfl _ _ _ rfl rfl rfl (by rfl) (by rfl) (by rfl) ?_)
       obtain⟨s3,X,j6,qw,j8,zX⟩:=qy wr (.cells (Qk n).toArray 69);have j9:=JW j6;have hAX:wr.heap.size<=X:=by omega
       have yX:=qZ (b:=X) j6 qw;replace j7:=qQ j7 j6;rw[<-j6];try rw[<-qw]
       clear j6 j8 qw;clear LN;have HW3:Hid (Bl t1 s3):=HW2.out.trans (j9.mono HW2.out.size);clear j9;by_cases h9:n.k=9
       ·
        have g9:(n.k==9)=true:=by simpa using h9
        have h20:=hb20 h9;by_cases hb0:0<n.b
        ·
         by_cases hax:n.a=x
         ·
          have HNX2:Hid (a1r NN (k+1)=some (x+n.b)):=HNX.out.trans (by rw[if_neg (fun h=>h.2.2 hax)];unfold a0n;rw[if_pos ⟨h9,hb0⟩];rfl);have gax:(n.a != x)=false:=by simpa using hax
          clear h9 hax hb20;go_wp2
          go_roundw
          case rel=>exact⟨k+1,x+n.b,by rw[hll];omega,by go_num,rfl,HNX2.out,by omega,by omega,HW3.out⟩
          case measure=>simp[intOf];omega
         ·
          have HR:=zh (HR2.out (b3s (show k+1<=L by omega) (HNX.out.trans (if_pos ⟨h9,hb0,hax⟩)) _));have gax:(n.a != x)=true:=by simpa using hax
          clear h9 hax hb20;go_wp2
          go_ret
          exact⟨J4 HR.out.symm,j7⟩
        ·
         have HNX2:Hid (a1r NN (k+1)=some (x+0)):=HNX.out.trans (by rw[if_neg (fun h=>hb0 h.2.1)];unfold a0n;rw[if_neg (fun h=>hb0 h.2)]);have hb1:n.b<=0:=by omega
         clear h9 hb20 hb0;go_wp2
         go_roundw
         case rel=>exact⟨k+1,x+0,by rw[hll];omega,by go_num,by simp,HNX2.out,by omega,by omega,HW3.out⟩
         case measure=>simp[intOf];omega
       ·
        have g9:(n.k==9)=false:=by simpa using h9
        have HNX2:Hid (a1r NN (k+1)=some (x+0)):=HNX.out.trans (by rw[if_neg (fun h=>h9 h.1)];unfold a0n;rw[if_neg (fun h=>h9 h.1)]);clear h9 hb20;go_wp2
        go_roundw
        case rel=>exact⟨k+1,x+0,by rw[hll];omega,by go_num,by simp,HNX2.out,by omega,by omega,HW3.out⟩
        case measure=>simp[intOf];omega
      ·
       obtain rfl:k=L:=by omega
       by_cases hxa:x=(A.length:Int)
       ·
        have HR:=zh (HR3.out (HRNG.out.trans (by rw[hl2])) (HX.out.trans (by rw[hxa])));have gxa:(x==(A.length:Int))=true:=by simpa using hxa
        clear hxa;go_wp2
        go_ret
        exact⟨J4 HR.out.symm,j7⟩
       ·
        have HR:=zh (HR2.out (fun e=>hxa (jA (HX.out.symm.trans e))));have gxa:(x==(A.length:Int))=false:=by simpa using hxa
        clear hxa;go_wp2
        go_ret
        exact⟨J4 HR.out.symm,j7⟩
  ·
   have HR:=zh (HR1.out fun e=>hln (by rw[e,a1o]));have hln2:((l.length:Int) != (L:Int))=true:=by simp;omega
   clear hln;go_wp2
   go_ret
   exact⟨J4 HR.out.symm,j7⟩
set_option maxHeartbeats 16000000
theorem a3i {A:List Int} (n:Sh) (hl:A.length<=1000):(Xj A n).length<=1000:=by
 unfold Xj;split
 ·
  simp
 ·
  split
  ·
   simp
  ·
   split
   ·
    simp;omega
   ·
    simp
theorem b6s (u v:Value) (N:List Nd) (A:List Int) (i:Nat) (n:Nd) (k j:Nat) (m:Nd) (w:World) (hN:NodesAt w u N) (hA:IntsAt w v A) (hi:N[i]?=some n) (hl:A.length<=1000) (hl2:N.length<=1000)
  (hok:a1h A (qX n)=true) (hk:k<(Xj A (qX n)).length) (hc:(Xj A (qX n)).getD k 0=(j:Nat)) (hj:N[j]?=some m) :
  Ca 74 #[.agg #[u,v],I6 (i:Int),I6 (k:Int)] w (Bv (brk (qX n) (qX m) k)):=by
 have JY:=Qw;obtain⟨K19,hz19,HK19⟩:=Y9;have hNC:=zh hN;have HA:=zh hA;have hin:=(List.getElem?_eq_some_iff.1 hi).1;have hjn:=(List.getElem?_eq_some_iff.1 hj).1;obtain⟨bn,cn,rfl,hN2⟩:=hN.slice;obtain⟨gn,on,rfl,hcn⟩:=hN2 i n hi;obtain⟨gm,om,hgm,hcm⟩:=hN2 j m hj;obtain⟨rfl,rfl⟩:gn=gm/\on=om:=by simpa using hgm
 have HK:=zh (fun w hN hA=>a5q (.slice (some ⟨gn,on,none⟩) N.length cn) v N A i n w hN hA hi hl hl2);obtain⟨l,hl0⟩:=nM (Xj A (qX n));have hll:=a3i (qX n) hl;rw[<-hl0] at hk hc hll;have HL0:=zh hl0;have HOK:=zh hok;have HC0:=zh hc;have HN1:=zh hcn;have HM1:=zh hcm;have HLn:=zh (fun w=>a1z n w);have HLn2:=zh (fun w=>a3w n w);have HLm2:=zh (fun w=>a3w m w);have hb9:=b5k (n:=n) (c:=m) (i:=k);have hb8:=a9c (n:=n) (c:=m) (i:=k);have hbo:=b1o (n:=n) (c:=m) (i:=k);generalize brk (qX n) (qX m) k=R at *;obtain⟨L,hL⟩:=nM N.length;rw[<-hL] at HK hNC hin hjn hl2 |-
 clear hN hA hi hj hN2 hcn hcm hgm hok hl0 hc hL;go_enter Tryz.func74,Tryz.ntmps74
 go_upto_region 1 with fail
 obtain⟨s1,F,j6,qY,j8,zF⟩:=qy w (.cells #[.slice (some ⟨gn,on,none⟩) L cn,v] 25);have hN:=Qz (b:=F) j6 qY;have qV:=hN 0 _ rfl;have J1:=hN 1 _ rfl;clear hN;have j7:=qQ bR j6;rw[<-j6];try rw[<-qY]
 clear j6 j8 qY;have LN:=a0p s1 gn (on+i*K19) HK19 n (fun j u hu=>by rw[HK19.out];exact q9 j7 (HN1.out j u hu) (Xk (HN1.out j u hu)))
 go_upto_region 2 with (refine a0c rfl _ _ rfl rfl _ _ _ rfl rfl rfl (by rfl) (by rfl) (by rfl) ?_)
 obtain⟨s2,X,j6,qw,j8,zX⟩:=qy s1 (.cells (Qk n).toArray 69);have j9:=JW j6;replace qV:=q9 j9 qV zF;replace J1:=q9 j9 J1 zF;replace zF:=jw j9 zF;clear j9;have yX:=qZ (b:=X) j6 qw;have LX:=Qv HK19 yX;replace j7:=qQ j7 j6;rw[<-j6];try rw[<-qw]
 clear j6 j8 qw;clear LN;go_wp2_with fail;refine(HK.out _ (hNC.out.below j7) (HA.out.below j7)).mono ?_;rintro e w1 ⟨⟨r,rfl,hr⟩,hb⟩;rw[HOK.out,if_pos rfl,<-HL0.out] at hr;rw[HOK.out];replace qV:=q9 hb qV zF;replace J1:=q9 hb J1 zF;replace zF:=jw hb zF;replace yX:=jv hb yX zX;replace zX:=jw hb zX;replace j7:=X4 j7 hb;clear hb;replace LX:=Qv HK19 yX;obtain⟨bl,cl,rfl,hlc⟩:=hr.slice;obtain⟨gl,ol,rfl,hcl⟩:=hlc k hk;rw[HC0.out] at hcl;have zl:gl<w1.heap.size:=Xk hcl;clear hlc hr;by_cases h9:n.k=9
 ·
  have g9:(n.k==9)=true:=by simpa using h9
  have HR:=zh (hb9 h9);clear h9 hb9 hb8 hbo;go_wp2
  go_ret
  exact⟨J4 HR.out.symm,j7⟩
 have g9:(n.k==9)=false:=by simpa using h9
 clear hb9;go_wp2_with fail;refine jy (HLn2.out _) fun w2 hb=>?_
 have q1:=q9 hb hcl zl;have zl2:gl<w2.heap.size:=Xk q1;replace qV:=q9 hb qV zF;replace J1:=q9 hb J1 zF;replace zF:=jw hb zF;replace yX:=jv hb yX zX;replace zX:=jw hb zX;replace j7:=X4 j7 hb;clear hb;replace LX:=Qv HK19 yX;have HQ5:Hid (∀ i u,(Qk m)[i]?=some u->w2.cell? ⟨gn,on+j*K19+i,none⟩=some u):=fun i u hu=>by rw[HK19.out];exact q9 j7 (HM1.out i u hu) (Xk (HM1.out i u hu))
 have LM:=a0p w2 gn (on+j*K19) HK19 m HQ5.out;have zN:gn<w2.heap.size:=Xk (HQ5.out 0 _ rfl);clear hcl zl;generalize Y5 n.k n.o=x at *;generalize Y5 m.k m.o=y at *
 go_upto_region 6 with fail
 have HF:=QX j7;clear j7;refine wp_region_held_drew (S:=fun w'=>w'.cell? ⟨F,0,none⟩=some (.slice (some ⟨gn,on,none⟩) L cn)/\w'.cell? ⟨F,1,none⟩=some (v)/\(∀ j,w'.cell? ⟨X,j,none⟩=(Qk n)[j]?)/\Sem.run Tryz.prog (loadCellsFrom ⟨X,0,none⟩ 0 K19 #[]) w'=.ok #[I6 n.k,I6 n.o,I6 n.a,I6 n.b,Bv n.qn,Sg n.qa,Sg n.qd,Sg n.s,Bv n.tr,Sg n.r.sh,I6 n.r.c,I6 n.r.r,Bv n.r.fc,Bv n.r.fr,Sg n.t.sh,I6 n.t.c,I6 n.t.r,Bv n.t.fc,Bv n.t.fr] w'/\w'.cell? ⟨gl,ol+k,none⟩=some (I6 (j:Int))/\Sem.run Tryz.prog (loadCellsFrom ⟨gn,on+j*K19,none⟩ 0 K19 #[]) w'=.ok #[I6 m.k,I6 m.o,I6 m.a,I6 m.b,Bv m.qn,Sg m.qa,Sg m.qd,Sg m.s,Bv m.tr,Sg m.r.sh,I6 m.r.c,I6 m.r.r,Bv m.r.fc,Bv m.r.fr,Sg m.t.sh,I6 m.t.c,I6 m.t.r,Bv m.t.fc,Bv m.t.fr] w') (by kernel_rfl) JG (fun jx=>?_)
 refine tk 0 ?_;refine tk 1 ?_;refine tk 2 ?_;refine tk 3 ?_;refine tk 4 ?_;refine tk 5 ?_;refine tk 6 ?_;refine tk 7 ?_;refine Jq 8 (by kernel_rfl) rfl fun K hK=>?_
 go_simp
 (go_at_call 106;refine jy (HLm2.out _) fun x3 qk=>?_;obtain⟨qx,jk,qK⟩:=Q4 w2 qk)
 try (go_wp2_with fail)
 refine hK.out _ _ JG (fun jx=>?_)
 clear hK K;try simp only[pz]
 refine tk 9 ?_;refine wpAnyH_done (by kernel_rfl) ?_ _;replace qV:=(jk F 0 zF).trans qV;replace J1:=(jk F 1 zF).trans J1;replace zF:=jw qx zF;replace yX:=XY jk yX zX
 replace zX:=jw qx zX;have j7:=HF.out _ qx;clear HF jk qK qx;by_cases hyx:y<x
 ·
  have HR:Hid (R=true):=by
   by_cases h81:n.k=8/\k=1
   ·
    exact(hb8 h81.1 h81.2).trans (jD (by omega))
   ·
    exact(hbo h9 h81).trans (jD hyx)
  clear h9 hb8 hbo;go_wp2
  go_ret
  exact⟨J4 HR.out.symm,j7⟩
 by_cases h8:n.k=8
 ·
  have g8:(n.k==8)=true:=by simpa using h8
  by_cases hk1:k=1
  ·
   by_cases hxy:y=x
   ·
    have HR:Hid (R=true):=(hb8 h8 hk1).trans (jD (by omega));subst hxy hk1;clear h9 hb8 hbo h8;go_wp2
    go_ret
    exact⟨J4 HR.out.symm,j7⟩
   ·
    have HR:Hid (R=false):=(hb8 h8 hk1).trans (jE (by omega));have gxy:(y==x)=false:=by simpa using hxy
    subst hk1;clear h9 hb8 hbo h8 hxy;go_wp2
    go_ret
    exact⟨J4 HR.out.symm,j7⟩
  ·
   have HR:Hid (R=false):=(hbo h9 (fun h=>hk1 h.2)).trans (jE hyx);have gk1:((k:Int)==1)=false:=by simp;omega
   clear h9 hb8 hbo h8 hk1;go_wp2
   go_ret
   exact⟨J4 HR.out.symm,j7⟩
 ·
  have HR:Hid (R=false):=(hbo h9 (fun h=>h8 h.1)).trans (jE hyx);have g8:(n.k==8)=false:=by simpa using h8
  clear h9 hb8 hbo h8;go_wp2
  go_ret
  exact⟨J4 HR.out.symm,j7⟩
def c7l (t0:World) (N:List Sh) (A:List Int) (v r:Value) (wr:World):Prop:=∃ k:Nat,k<=N.length/\r=I6 k/\wr.ownsRow t0.heap.size 3 1 v k (JV (a3g N A k))/\Bl t0 wr
theorem c2u (n:Nd):a1v (qX n)=if n.k=9\/(n.k=7/\n.o=13) then 1 else 0:=by
 unfold a1v qX Y5;dsimp only;by_cases h9:n.k=9
 ·
  simp[h9]
 ·
  by_cases h7:n.k=7
  ·
   by_cases h13:n.o=13
   ·
    simp[h7,h13]
   ·
    by_cases h14:n.o=14
    ·
     simp[h7,h14]
    ·
     simp[h7,h13,h14]
  ·
   by_cases h8:n.k=8
   ·
    simp only[h8];simp
    repeat' split
    all_goals omega
   ·
    simp[h9,h7,h8]
def b5m (D:List Int) (w:World) (e:Ending) (w':World):Prop:=(∃ r,e=.returned r/\IntsAt w' r D)/\Bl w w'
theorem a7y (u v:Value) (N:List Nd) (A:List Int) (w:World) (hN:NodesAt w u N) (hA:IntsAt w v A) (hl:A.length<=1000) (hl2:N.length<=300)
  (hok:∀ (m:Nat) (n:Nd),N[m]?=some n->d7y A (qX n)/\∀ c ∈ Xj A (qX n),0<=c/\c<m) :
  Cz 36 #[.agg #[u,v]] w (b5m (a3g (N.map qX) A N.length) w):=by
 have JY:=Qw;obtain⟨K19,hz19,HK19⟩:=Y9;obtain⟨Po,hPo⟩:=nM (b5m (a3g (N.map qX) A N.length) w);rw[<-hPo];have J5:=zh hPo;have hNC:=zh hN;have HA:=zh hA;have HOKK:=zh hok;obtain⟨bn,cn,rfl,hN2⟩:=hN.slice;have HNN:=zh hN2;have HK:=zh (fun (i:Nat) (n:Nd) (hi:N[i]?=some n) (w:World) hN hA=>a5q (.slice bn N.length cn) v N A i n w hN hA hi hl (by omega));have HBR:=zh (fun (i:Nat) (n:Nd) (hi:N[i]?=some n) (k j:Nat) (m:Nd) (w:World) hN hA hok hk hc hj=>b6s (.slice bn N.length cn) v N A i n k j m w hN hA hi hl (by omega) hok hk hc hj);have HSH:=zh (fun (k:Nat) (n:Nd) (h:N[k]?=some n)=>a2m N k n h);have HGE:Hid (∀ k,k<N.length->∃ n,N[k]?=some n):=fun k h=>⟨_,jH h⟩
 have hll:(N.map qX).length=N.length:=List.length_map ..;have XW:=zh (fun (n:Nd)=>a3i (qX n) hl);obtain⟨i0,hi0,hz0,hz1,hz2⟩:=info_parts Tryz.infoInt;obtain⟨NN,hNN⟩:=nM (N.map qX);rw[<-hNN] at J5 HSH hll;obtain⟨L,hL⟩:=nM N.length;rw[<-hL] at J5 hNC HK HBR HGE hll hl2 |-
 clear hPo hN hA hN2 hok hNN hL;go_enter Tryz.func36,Tryz.ntmps36
 go_upto_region 1 with fail
 obtain⟨s1,F,j6,qY,j8,zF⟩:=qy w (.cells #[.slice bn L cn,v] 25);have hN:=Qz (b:=F) j6 qY;have qV:=hN 0 _ rfl;have J1:=hN 1 _ rfl;clear hN;have lF:w.heap.size<=F:=by omega
 have j7:=qQ bR j6;rw[<-j6];try rw[<-qY]
 clear j6 j8 qY;obtain⟨t0,ht0⟩:=nM s1;rw[<-ht0] at j7 qV J1 zF |-
 have HZ:Hid (∀ W,Bl t0 W->Bl w W):=fun W h=>bT j7 h
 have HFF:Hid (∀ W,Bl t0 W->W.cell? ⟨F,0,none⟩=some (.slice bn L cn)/\W.cell? ⟨F,1,none⟩=some v):=fun W h=>⟨q9 h qV zF,q9 h J1 zF⟩
 clear ht0 j7 qV J1 zF lF;go_wp2_with fail
 go_loopw [3,4] (c7l t0 NN A) (fun _ r _=>L-(intOf r).toNat)
 case atStart=>exact⟨0,Nat.zero_le _,rfl,World.ownsRow_nil _ _ _ _,Below.refl _ _⟩
 case round =>
  obtain⟨k,hk,rfl,hO,hW⟩:=hrel;rw[hll] at hk;obtain⟨bo,co,rfl⟩:=a0l hO;obtain⟨qV,J1⟩:=HFF.out _ hW;have zF:=Xk qV;have j7:=HZ.out _ hW;have HW:=zh hW;have HO:=zh hO;clear hW hO;by_cases hlt:k<L
  ·
   obtain⟨n,hn⟩:=HGE.out k hlt;have hsn:=HSH.out k n hn;obtain⟨hkok,hkin⟩:=HOKK.out k n hn;obtain⟨gn,on,rfl,hcn⟩:=HNN.out k n hn;have LN:=a0p wr gn (on+k*K19) HK19 n (fun j u hu=>by rw[HK19.out];exact q9 j7 (hcn j u hu) (Xk (hcn j u hu)));have hKc:=zh (HK.out k n hn);have hBRc:=zh (HBR.out k n hn);have hown:=XW.out n;have hkb:=(a2g A (qX n)).2 hkok;have HKB:=zh hkb
   have HNEXT:Hid (a3g NN A (k+1)=a3g NN A k ++ [a2z NN (a3g NN A k) (qX n) 0 (Xj A (qX n)) 0+a1v (qX n)]):=by
    show a3g NN A k ++ [b3j NN A (a3g NN A k) (NN.getD k default)]=_;rw[hsn];rfl
   have HDR:=zh (a7v NN A k);obtain⟨own,hown0⟩:=nM (Xj A (qX n));rw[<-hown0] at hBRc hkin hown HNEXT;have HOW:=zh hown0;have HKIN:=zh hkin;have hdl:=a7u NN A k;generalize a3g NN A k=deps at *;obtain⟨T,hT⟩:=nM (a2z NN deps (qX n) 0 own 0);rw[<-hT] at HNEXT;have HT:=zh hT;clear hcn hsn hkok hkin hkb hown0 hT hn
   go_upto_region 6 with (refine a0c rfl _ _ rfl rfl _ _ _ rfl rfl rfl (by rfl) (by rfl) (by rfl) ?_)
   have lF:True:=trivial;obtain⟨s2,X,j6,qw,j8,zX⟩:=qy wr (.cells (Qk n).toArray 69);have j9:=JW j6;have hAX:wr.heap.size<=X:=by omega
   replace qV:=q9 j9 qV zF;replace J1:=q9 j9 J1 zF;replace zF:=jw j9 zF;have hN:=Qz (b:=X) j6 qw;have Qx:=hN 0 _ rfl;have Qj:=hN 1 _ rfl;have X0:=hN 2 _ rfl;have QQ:=hN 3 _ rfl;have QY:=hN 4 _ rfl;have QV:=hN 5 _ rfl;have kX6:=hN 6 _ rfl;have kX7:=hN 7 _ rfl;have kX8:=hN 8 _ rfl;have kX9:=hN 9 _ rfl;have kX10:=hN 10 _ rfl;have kX11:=hN 11 _ rfl;have kX12:=hN 12 _ rfl;have kX13:=hN 13 _ rfl;have kX14:=hN 14 _ rfl;have kX15:=hN 15 _ rfl;have kX16:=hN 16 _ rfl;have kX17:=hN 17 _ rfl;have kX18:=hN 18 _ rfl;clear hN;have lX:w.heap.size<=X:=by have:=j7.size;omega
   have LX:=a0o s2 X HK19 Qx Qj X0 QQ QY QV kX6 kX7 kX8 kX9 kX10 kX11 kX12 kX13 kX14 kX15 kX16 kX17 kX18;replace j7:=qQ j7 j6;rw[<-j6];try rw[<-qw]
   clear j6 j8 qw;clear LN;have HUP:=zh j9;clear j9;go_wp2_with fail;refine(hKc.out _ (hNC.out.below j7) (HA.out.below j7)).mono ?_;rintro e t1 ⟨⟨r,rfl,hr⟩,hb⟩;rw[HKB.out,if_pos rfl,<-HOW.out] at hr;rw[HKB.out];have HUP2:Hid (Bl wr t1):=HUP.out.trans (hb.mono HUP.out.size);replace qV:=q9 hb qV zF;replace J1:=q9 hb J1 zF;replace zF:=jw hb zF;have q:=fun {j u} h=>q9 (p:=⟨X,j,none⟩) (v:=u) hb h zX;replace Qx:=q Qx;replace Qj:=q Qj;replace X0:=q X0;replace QQ:=q QQ;replace QY:=q QY;replace QV:=q QV;replace kX6:=q kX6;replace kX7:=q kX7;replace kX8:=q kX8;replace kX9:=q kX9;replace kX10:=q kX10;replace kX11:=q kX11;replace kX12:=q kX12;replace kX13:=q kX13;replace kX14:=q kX14;replace kX15:=q kX15;replace kX16:=q kX16;replace kX17:=q kX17;replace kX18:=q kX18;clear q;replace zX:=jw hb zX
   replace j7:=X4 j7 hb;clear hb;replace LX:=a0o t1 X HK19 Qx Qj X0 QQ QY QV kX6 kX7 kX8 kX9 kX10 kX11 kX12 kX13 kX14 kX15 kX16 kX17 kX18;have hO1:=a1g HO.out HUP2.out;have hD1:=(IntsAt.of_owns hO1).2;obtain⟨bl,cl,rfl,hlc⟩:=hr.slice;have HLC:=zh hlc;obtain⟨bo',co',hbo,hdc⟩:=hD1.slice;rw[hdl] at hbo;obtain⟨rfl,rfl⟩:bo'=bo/\co'=co:=by simpa [eq_comm] using hbo
   have HDC:=zh hdc;have HO1:=zh hO1
   have HXX:Hid (∀ W,Bl t1 W->∀ j x,(Qk n)[j]?=some x->W.cell? ⟨X,j,none⟩=some x):=fun W h j x hx=>by
    refine q9 h ?_ zX
    match j,hx with
    | 0,hx=>rw[<-jA hx];exact Qx
    | 1,hx=>rw[<-jA hx];exact Qj
    | 2,hx=>rw[<-jA hx];exact X0
    | 3,hx=>rw[<-jA hx];exact QQ
    | 4,hx=>rw[<-jA hx];exact QY
    | 5,hx=>rw[<-jA hx];exact QV
    | 6,hx=>rw[<-jA hx];exact kX6
    | 7,hx=>rw[<-jA hx];exact kX7
    | 8,hx=>rw[<-jA hx];exact kX8
    | 9,hx=>rw[<-jA hx];exact kX9
    | 10,hx=>rw[<-jA hx];exact kX10
    | 11,hx=>rw[<-jA hx];exact kX11
    | 12,hx=>rw[<-jA hx];exact kX12
    | 13,hx=>rw[<-jA hx];exact kX13
    | 14,hx=>rw[<-jA hx];exact kX14
    | 15,hx=>rw[<-jA hx];exact kX15
    | 16,hx=>rw[<-jA hx];exact kX16
    | 17,hx=>rw[<-jA hx];exact kX17
    | 18,hx=>rw[<-jA hx];exact kX18
   have HZ1:Hid (∀ W,Bl t1 W->Bl t0 W):=fun W h=>(HW.out.trans (HUP2.out.mono HW.out.size)).trans (h.mono (jG HW.out.size HUP2.out.size))
   clear qV J1 Qx Qj X0 QQ QY QV kX6 kX7 kX8 kX9 kX10 kX11 kX12 kX13 kX14 kX15 kX16 kX17 kX18 zF zX;clear j7 hlc hdc hbo hO1 hD1 hr LX lX;go_wp2_with fail
   go_loopw [6,9] (b8u t1 NN deps own (qX n) T) (fun _ d _=>own.length-(intOf d).toNat)
   case atStart=>exact⟨0,0,Nat.zero_le _,rfl,rfl,by rw[List.drop_zero];exact HT.out.symm,by omega,by omega,Below.refl _ _⟩
   case round =>
    obtain⟨i,D,hi,rfl,rfl,hTk,d1,d2,hW⟩:=hrel;have hW0:=HZ1.out _ hW;obtain⟨qV,J1⟩:=HFF.out _ hW0;have zF:=Xk qV;have j7:=HZ.out _ hW0;have HW2:=zh hW;have HTK:=zh hTk;clear hTk hW0;by_cases hil:i<own.length
    ·
     have hdr:=b1t hil;obtain⟨c,hc0⟩:=nM (own.getD i 0);have hcm:c ∈ own:=by rw[hc0,jJ,jH hil];exact List.getElem_mem hil
     obtain⟨hc1,hc2⟩:=HKIN.out c hcm;obtain⟨j,rfl⟩:∃ j:Nat,c=j:=⟨c.toNat,by omega⟩;obtain⟨gl,ol,rfl,hcl⟩:=HLC.out i hil;obtain⟨go,oo,rfl,hco⟩:=HDC.out j (by omega);obtain⟨m,hm⟩:=HGE.out j (by omega);rw[<-hc0] at hcl hdr;have hcall:=hBRc.out i j m wr (hNC.out.below j7) (HA.out.below j7) HKB.out hil hc0.symm hm;obtain⟨dj,hdj⟩:=nM (deps.getD j 0);rw[<-hdj] at hco;have hdm:dj ∈ deps:=by rw[hdj,jJ,jH (by omega)];exact List.getElem_mem _
     obtain⟨x1,x2⟩:=HDR.out dj hdm;have q1:=q9 hW hcl (Xk hcl);have q2:=q9 hW hco (Xk hco)
     have HNX:Hid (a2z NN deps (qX n) (i+1) (own.drop (i+1)) (max D (dj+if brk (qX n) (qX m) i then 1 else 0))=T):=by
      have e:=HTK.out;rw[hdr,a2z,Int.toNat_natCast,HSH.out j m hm,<-hdj] at e;exact e
     have hjk:j<k:=by omega
     have HCALL:=zh hcall;clear hdr hc0 hcm hc1 hc2 hcl hco hdj hdm hcall hm hW;generalize brk (qX n) (qX m) i=bb at *
     cases bb with
     | true =>
      go_wp2_with fail;refine HCALL.out.mono ?_;rintro e w5 ⟨rfl,hb⟩;have HW5:Hid (Bl t1 w5):=HW2.out.trans (hb.mono HW2.out.size);clear hb;go_wp2
      go_roundw
      case rel=>exact⟨i+1,max D (dj+1),by omega,rfl,by go_num,by simpa using HNX.out,by omega,by omega,HW5.out⟩
      case measure=>simp[intOf];omega
     | false =>
      go_wp2_with fail;refine HCALL.out.mono ?_;rintro e w5 ⟨rfl,hb⟩;have HW5:Hid (Bl t1 w5):=HW2.out.trans (hb.mono HW2.out.size);clear hb;go_wp2
      go_roundw
      case rel=>exact⟨i+1,max D dj,by omega,rfl,by go_num,by simpa using HNX.out,by omega,by omega,HW5.out⟩
      case measure=>simp[intOf];omega
    ·
     obtain rfl:i=own.length:=by omega
     have hTD:Hid (T=D):=by
      have e:=HTK.out;rw[List.drop_length,a2z] at e;exact e.symm
     have hcn:=HXX.out _ hW;have Qx:=hcn 0 _ rfl;have Qj:=hcn 1 _ rfl;have QQ:=hcn 3 _ rfl;have zX:=Xk Qx;have hO2:=a1g HO1.out hW;have HFIN:Hid (∀ W,Bl wr W->Bl t0 W):=fun W h=>(HZ1.out _ HW2.out).trans (h.mono (HZ1.out _ HW2.out).size)
     have hom:=c2u n;have hk2:(k+1)<=maxLen:=by unfold maxLen;omega
     have hk3:(k+1)*8<=140737488355328:=by omega
     have hbase:t0.heap.size<=wr.heap.size:=(HZ1.out _ HW2.out).size;clear hcn j7 qV J1 zF hW;by_cases h9:n.k=9
     ·
      have g9:(n.k==9)=true:=by simpa using h9
      have HOM:=zh (hom.trans (if_pos (Or.inl h9)));clear h9 hom;go_wp2_with (at_builtin;refine wpList_append_own _ rfl _ _ 23 rfl t0.heap.size 3 i0 (I6 0) 1 8 Tryz.underlying23 hi0 hz0 hz1 hz2 rfl (by decide) _ _ _ rfl (hO2.alloc _) ⟨wr.heap.size,0,none⟩ 1 1 [I6 (D+1)] rfl rfl (cell_one_new _ _ _) (by simp[Value.oneCell']) hk2 hk3 (by simp;omega) ?_;intro v1 w6 hown1 hgrow1 _)
      go_roundw
      case rel =>
       refine⟨k+1,by rw[hll];omega,by go_num,?_,((HZ1.out _ HW2.out).alloc hbase _).grown hgrow1 (by simp;omega) (fun q hq=>(hO2.lt q hq).1)⟩;rw[HNEXT.out,HOM.out,hTD.out,JV,List.map_append];exact hown1
      case measure=>simp[intOf];omega
     have g9:(n.k==9)=false:=by simpa using h9
     by_cases h7:n.k=7
     ·
      have g7:(n.k==7)=true:=by simpa using h7
      by_cases h13:n.o=13
      ·
       have g13:(n.o==13)=true:=by simpa using h13
       have HOM:=zh (hom.trans (if_pos (Or.inr ⟨h7,h13⟩)));clear h9 h7 h13 hom;go_wp2_with (at_builtin;refine wpList_append_own _ rfl _ _ 23 rfl t0.heap.size 3 i0 (I6 0) 1 8 Tryz.underlying23 hi0 hz0 hz1 hz2 rfl (by decide) _ _ _ rfl (hO2.alloc _) ⟨wr.heap.size,0,none⟩ 1 1 [I6 (D+1)] rfl rfl (cell_one_new _ _ _) (by simp[Value.oneCell']) hk2 hk3 (by simp;omega) ?_;intro v1 w6 hown1 hgrow1 _)
       go_roundw
       case rel =>
        refine⟨k+1,by rw[hll];omega,by go_num,?_,((HZ1.out _ HW2.out).alloc hbase _).grown hgrow1 (by simp;omega) (fun q hq=>(hO2.lt q hq).1)⟩;rw[HNEXT.out,HOM.out,hTD.out,JV,List.map_append];exact hown1
       case measure=>simp[intOf];omega
      ·
       have g13:(n.o==13)=false:=by simpa using h13
       have HOM:=zh (hom.trans (if_neg (by rintro (h | h);exact h9 h;exact h13 h.2)));clear h9 h7 h13 hom;go_wp2_with (at_builtin;refine wpList_append_own _ rfl _ _ 23 rfl t0.heap.size 3 i0 (I6 0) 1 8 Tryz.underlying23 hi0 hz0 hz1 hz2 rfl (by decide) _ _ _ rfl (hO2.alloc _) ⟨wr.heap.size,0,none⟩ 1 1 [I6 (D)] rfl rfl (cell_one_new _ _ _) (by simp[Value.oneCell']) hk2 hk3 (by simp;omega) ?_;intro v1 w6 hown1 hgrow1 _)
       go_roundw
       case rel =>
        refine⟨k+1,by rw[hll];omega,by go_num,?_,((HZ1.out _ HW2.out).alloc hbase _).grown hgrow1 (by simp;omega) (fun q hq=>(hO2.lt q hq).1)⟩;rw[HNEXT.out,HOM.out,hTD.out,Int.add_zero,JV,List.map_append];exact hown1
       case measure=>simp[intOf];omega
     ·
      have g7:(n.k==7)=false:=by simpa using h7
      have HOM:=zh (hom.trans (if_neg (by rintro (h | h);exact h9 h;exact h7 h.1)));clear h9 h7 hom;go_wp2_with (at_builtin;refine wpList_append_own _ rfl _ _ 23 rfl t0.heap.size 3 i0 (I6 0) 1 8 Tryz.underlying23 hi0 hz0 hz1 hz2 rfl (by decide) _ _ _ rfl (hO2.alloc _) ⟨wr.heap.size,0,none⟩ 1 1 [I6 (D)] rfl rfl (cell_one_new _ _ _) (by simp[Value.oneCell']) hk2 hk3 (by simp;omega) ?_;intro v1 w6 hown1 hgrow1 _)
      go_roundw
      case rel =>
       refine⟨k+1,by rw[hll];omega,by go_num,?_,((HZ1.out _ HW2.out).alloc hbase _).grown hgrow1 (by simp;omega) (fun q hq=>(hO2.lt q hq).1)⟩;rw[HNEXT.out,HOM.out,hTD.out,Int.add_zero,JV,List.map_append];exact hown1
      case measure=>simp[intOf];omega
  ·
   obtain rfl:k=L:=by omega
   go_wp2_with fail;show Po _ _;rw[J5.out];exact⟨⟨_,rfl,(IntsAt.of_owns HO.out).2⟩,j7⟩
