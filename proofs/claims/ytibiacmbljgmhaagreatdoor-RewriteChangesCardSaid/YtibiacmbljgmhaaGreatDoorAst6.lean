import Derived.Test.YtibiacmbljgmhaaGreatDoorAddr6
import Derived.Test.YtibiacmbljgmhaaGreatDoorAst3
import Derived.Test.YtibiacmbljgmhaaGreatDoorAst5
import Derived.Great.BuildSlice
set_option maxHeartbeats 4000000
set_option maxRecDepth 100000
namespace Go.Proofs.YtibiacmbljgmhaaGreatDoor
open Go.RowKit Go.Shelf
set_option linter.all false
def a8s (b:UInt8):Bool:=decide (32<=b.toNat)&&decide (b.toNat<=126)
def b7h (s:jW):Bool:=decide (s.size<=200)&&s.data.toList.all a8s
theorem b5t {s:jW} (h:200<s.size):b7h s=false:=by
 unfold b7h;rw[jE (by omega)];rfl
theorem b2k {s:jW} (h : ¬ 200<s.size):b7h s=s.data.toList.all a8s:=by
 unfold b7h;rw[jD (by omega),Bool.true_and]
def c9h (s:jW) (i:Value):Prop:=∃ n:Nat,i=I6 n/\n<=s.size/\(s.data.toList.take n).all a8s=true
def c7y (s:jW) (i v:Value):Prop:=∃ n:Nat,i=I6 n/\n<=s.size/\(s.data.toList.take n).all a8s=true
theorem a9h {p:UInt8->Bool} {l:List UInt8} {n:Nat} (hn:n<l.length) (h:(l.take n).all p=true) (hx:p l[n]=true):(l.take (n+1)).all p=true:=by
 rw[List.take_succ_eq_append_getElem hn,List.all_append,h];simp[hx]
theorem b0g {p:UInt8->Bool} {l:List UInt8} {n:Nat} (hn:n<l.length) (hx:p l[n]=false):l.all p=false:=by
 rw[List.all_eq_false];exact⟨_,List.getElem_mem hn,by rw[hx];exact Bool.noConfusion⟩
theorem c0r (s:jW) (w:World) (hs:s.size<=maxLen) :
  Cz 68 #[Sg s] w fun e w'=>e=.returned (Bv (b7h s))/\w'=w:=by
 have JY:=Qw;have hl:s.data.toList.length=s.size:=by simp
 unfold maxLen at hs;by_cases h2:200<s.size
 ·
  have HR:=zh (b5t h2);clear hl;go_enter Tryz.func68,Tryz.ntmps68
  go_wp2
  go_ret
  exact⟨J4 HR.out.symm,rfl⟩
 have HR:=zh (b2k h2);have J6:=zh hl;clear hl;go_enter Tryz.func68,Tryz.ntmps68
 go_wp2
 go_loop [3] (c9h s) (fun i=>s.size-(intOf i).toNat)
 case atStart=>exact⟨0,rfl,by omega,rfl⟩
 case round =>
  obtain⟨n,rfl,hn,ha⟩:=hrel;have HA2:=zh ha;clear ha;by_cases hlt:n<s.size
  ·
   have hg:=zh (a4p s n hlt);by_cases c1:32<=s[n].toNat
   ·
    by_cases c2:s[n].toNat<=126
    ·
     have HF:Hid (a8s s[n]=true):=by show a8s s[n]=true;unfold a8s;simp;omega
     go_wp2
     refine⟨⟨n+1,by go_num,by omega,?_⟩,by simp[intOf];omega⟩;exact a9h (by rw[J6.out];exact hlt) HA2.out (by rw[hg.out,HF.out])
    ·
     have HF:Hid (a8s s[n]=false):=by show a8s s[n]=false;unfold a8s;simp;omega
     go_wp2
     go_ret
     exact⟨J4 (by rw[HR.out,b0g (by rw[J6.out];exact hlt) (by rw[hg.out,HF.out])]),rfl⟩
   ·
    have HF:Hid (a8s s[n]=false):=by show a8s s[n]=false;unfold a8s;simp;omega
    go_wp2
    go_ret
    exact⟨J4 (by rw[HR.out,b0g (by rw[J6.out];exact hlt) (by rw[hg.out,HF.out])]),rfl⟩
  ·
   have hn':n=s.size:=by omega
   go_wp2
   go_ret
   have hx:=HA2.out;rw[jS (by rw[J6.out];omega)] at hx;exact⟨J4 (by rw[HR.out,hx]),rfl⟩
theorem c0s (s:jW) (w:World) (hs:s.size<=maxLen) :
  Ca 225 #[Sg s] w (Bv (b7h s)):=by
 have hB:=Below.refl w.heap.size w;have JY:=Qw;have hl:s.data.toList.length=s.size:=by simp
 unfold maxLen at hs;by_cases h2:200<s.size
 ·
  have HR:=zh (b5t h2);clear hl;go_enter Tryz.func225,Tryz.ntmps225
  go_wp2
  go_ret
  exact⟨J4 HR.out.symm,hB⟩
 have HR:=zh (b2k h2);have J6:=zh hl;have hcv:=Lib.run_convert_string_bytes (P:=Tryz.prog) w 9 130 5 s (u:=.string) Tryz.underlying9 Tryz.underlying130 Tryz.underlying5;have hB0:=a3c w 5 s;have hU0:∀ j,j<s.size->(Lib.bytesWorld w 5 s).cell? ⟨w.heap.size,j,none⟩=some (.int .u8 (s.data.toList.getD j 0).toNat):=fun j hj=>Lib.bytesWorld_cell w _ s j hj
 generalize grownCap w s.size 0 5=cap at hcv;generalize Lib.bytesWorld w 5 s=W1 at hcv hB0 hU0;have HU0:=zh hU0;have HB0:=zh hB0;clear hl hB hU0 hB0;go_enter Tryz.func225,Tryz.ntmps225
 go_wp2
 go_loop [11,4] (c7y s) (fun i _=>s.size-(intOf i).toNat)
 case atStart=>exact⟨0,rfl,by omega,rfl⟩
 case round =>
  obtain⟨n,rfl,hn,ha⟩:=hrel;have HA2:=zh ha;clear ha;by_cases hlt:n<s.size
  ·
   have hc:=HU0.out n hlt;rw[jJ,jH (by rw[J6.out];exact hlt)] at hc;rw[Option.getD_some] at hc;obtain⟨x,hx0⟩:∃ x:UInt8,x=s.data.toList[n]'(by rw[J6.out];exact hlt):=⟨_,rfl⟩;rw[<-hx0] at hc;have HX:=zh hx0;clear hx0;by_cases c1:32<=x.toNat
   ·
    by_cases c2:x.toNat<=126
    ·
     have HF:Hid (a8s x=true):=by show a8s x=true;unfold a8s;simp;omega
     go_wp2
     refine⟨⟨_,_,_,⟨n+1,by go_num,by omega,?_⟩,rfl,rfl,rfl⟩,by simp[intOf];omega⟩;exact a9h (by rw[J6.out];exact hlt) HA2.out (by rw[<-HX.out,HF.out])
    ·
     have HF:Hid (a8s x=false):=by show a8s x=false;unfold a8s;simp;omega
     go_wp2
     go_ret
     exact⟨J4 (by rw[HR.out,b0g (by rw[J6.out];exact hlt) (by rw[<-HX.out,HF.out])]),HB0.out⟩
   ·
    have HF:Hid (a8s x=false):=by show a8s x=false;unfold a8s;simp;omega
    go_wp2
    go_ret
    exact⟨J4 (by rw[HR.out,b0g (by rw[J6.out];exact hlt) (by rw[<-HX.out,HF.out])]),HB0.out⟩
  ·
   have hn':n=s.size:=by omega
   go_wp2
   go_ret
   have hx:=HA2.out;rw[jS (by rw[J6.out];omega)] at hx;exact⟨J4 (by rw[HR.out,hx]),HB0.out⟩
theorem b4m (u:jW) (w:World) (hs:u.size<=maxLen) :
  Ca 209 #[.agg #[I6 2,Bv false,S0,S0,Sg u,Bv false,I6 0]] w (Bv (b7h u)):=by
 have JY:=Qw;have HC:=zh (fun w=>c0s u w hs);generalize b7h u=b at *
 cases b with
 | true =>
  go_enter Tryz.func209,Tryz.ntmps209;go_wp2_with fail;obtain⟨s1,A,j6,jz,j8,zA⟩:=qy w (.cells #[I6 2,Bv false,S0,S0,Sg u,Bv false,I6 0] 181);have yA:=qZ (b:=A) j6 jz;have j7:=qQ bR j6;rw[<-j6];try rw[<-jz]
  clear j6 j8 jz;refine jy (HC.out _) fun s2 hb=>?_
  replace yA:=jv hb yA zA;replace j7:=bT j7 hb;clear hb
  all_goals go_wp2
  all_goals first | go_ret | go_ret2
  all_goals exact⟨rfl,j7⟩
 | false =>
  go_enter Tryz.func209,Tryz.ntmps209;go_wp2_with fail;obtain⟨s3,A,j6,jz,j8,zA⟩:=qy w (.cells #[I6 2,Bv false,S0,S0,Sg u,Bv false,I6 0] 181);have j7:=qQ bR j6;rw[<-j6];try rw[<-jz]
  clear j6 j8 jz;refine jy (HC.out _) fun s4 hb=>?_
  replace j7:=bT j7 hb;clear hb
  all_goals go_wp2
  all_goals first | go_ret | go_ret2
  all_goals exact⟨rfl,j7⟩
def XQ:Nat->jW
 | 1=>⟨#[35,68,73,86,47,48,33]⟩
 | 2=>⟨#[35,86,65,76,85,69,33]⟩
 | 3=>⟨#[35,82,69,70,33]⟩
 | 4=>⟨#[35,78,65,77,69,63]⟩
 | 5=>⟨#[35,78,85,77,33]⟩
 | 6=>⟨#[35,78,47,65]⟩
 | 7=>⟨#[35,67,73,82,67,33]⟩
 | _=>⟨#[]⟩
def NamesAt (W:World):Prop:=4 < W.heap.size/\∀ j,j<8->W.cell? ⟨4,j,none⟩=some (Sg (XQ j))
theorem NamesAt.below {W W':World} (h:NamesAt W) (hb:Bl W W'):NamesAt W':=⟨jF h.1 hb.size,fun j hj=>q9 hb (h.2 j hj) h.1⟩
def b0h (o:Int):jW:=if 0<=o/\o<8 then XQ o.toNat else ⟨#[]⟩
theorem c0t (o:Int):(b0h o).toList.isEmpty=!(decide (1<=o)&&decide (o<=7)):=by
 by_cases h:0<=o/\o<8
 ·
  obtain⟨n,rfl⟩:∃ n:Nat,o=n:=⟨o.toNat,by omega⟩;have hn:n<8:=by omega
  have key:∀ k:Fin 8,(b0h ((k.val:Nat):Int)).toList.isEmpty=!(decide (1<=((k.val:Nat):Int))&&decide (((k.val:Nat):Int)<=7)):=by
   intro k;rw[jI]
   revert k
   decide +kernel
  exact key ⟨n,hn⟩
 ·
  have:b0h o=⟨#[]⟩:=if_neg h;rw[this,jI];by_cases h1:1<=o
  ·
   rw[jD h1,jE (by omega)];rfl
  ·
   rw[jE h1];rfl
theorem c0u (o:Int) (w:World) (hN:NamesAt w) :
  Cz 210 #[I6 o] w fun e w'=>e=.returned (Sg (b0h o))/\w'=w:=by
 have JY:=Qw;by_cases h0:0<=o
 ·
  by_cases h8:o<8
  ·
   obtain⟨n,rfl⟩:∃ n:Nat,o=n:=⟨o.toNat,by omega⟩;have hn:n<8:=by omega
   have hv:b0h (n:Int)=XQ n:=by unfold b0h;rw[if_pos ⟨h0,h8⟩];simp
   rw[hv];have hc:=hN.2 n hn;clear hN hv;generalize XQ n=s at *;go_enter Tryz.func210,Tryz.ntmps210
   go_wp2
   go_ret
   exact⟨rfl,rfl⟩
  ·
   rw[show b0h o=⟨#[]⟩ from if_neg (by omega)];clear hN;go_enter Tryz.func210,Tryz.ntmps210
   go_wp2
   go_ret
   exact⟨rfl,rfl⟩
 ·
  rw[show b0h o=⟨#[]⟩ from if_neg (by omega)];clear hN;go_enter Tryz.func210,Tryz.ntmps210
  go_wp2
  go_ret
  exact⟨rfl,rfl⟩
def c6e (x y:Rf):Bool:=(x.sh.toList==y.sh.toList)&&((x.c==y.c)&&((x.r==y.r)&&((x.fc==y.fc)&&(x.fr==y.fr))))
def XX (x y:Nd):Bool:=(x.k==y.k)&&((x.o==y.o)&&((x.a==y.a)&&((x.b==y.b)&&(((x.qn==y.qn)&&((x.qa.toList==y.qa.toList)&&(x.qd.toList==y.qd.toList)))&&((x.s.toList==y.s.toList)&&((x.tr==y.tr)&&(c6e x.r y.r&&c6e x.t y.t)))))))
theorem c3n {a b:jW} (h:a.toList=b.toList):a=b:=by
 by_cases e:a=b
 ·
  exact e
 ·
  have:=a2j e;rw[h] at this;simp at this
theorem b5u (x y:Rf):c6e x y=true ↔ x=y:=by
 constructor
 ·
  intro h;unfold c6e at h;simp only[Bool.and_eq_true,beq_iff_eq] at h;obtain⟨h1,h2,h3,h4,h5⟩:=h;have:=c3n h1
  cases x;cases y;simp_all
 ·
  rintro rfl;unfold c6e;simp
theorem a2o (x y:Nd):XX x y=true ↔ x=y:=by
 constructor
 ·
  intro h;unfold XX at h;simp only[Bool.and_eq_true,beq_iff_eq,b5u] at h;obtain⟨h1,h2,h3,h4,⟨h5,h6,h7⟩,h8,h9,h10,h11⟩:=h;have e6:=c3n h6;have e7:=c3n h7;have e8:=c3n h8
  cases x;cases y;simp_all
 ·
  rintro rfl;unfold XX;simp[(b5u _ _).2 rfl]
theorem a1b (x y:Nd) (w:World):(binOp .eql 69 (Y2 x) (Y2 y)).run Tryz.prog w=.ok (Bv (XX x y)) w:=by
 unfold XX c6e;simp (maxSteps:=2000000) [go_sem];by_cases h0:x.k=y.k
 rotate_left
 ·
  rw[if_neg h0];simp[h0]
 rw[if_pos h0];by_cases h1:x.o=y.o
 rotate_left
 ·
  rw[if_neg h1];simp[h1]
 rw[if_pos h1];by_cases h2:x.a=y.a
 rotate_left
 ·
  rw[if_neg h2];simp[h2]
 rw[if_pos h2];by_cases h3:x.b=y.b
 rotate_left
 ·
  rw[if_neg h3];simp[h3]
 rw[if_pos h3];by_cases h4:x.qn=y.qn
 rotate_left
 ·
  rw[if_neg h4];simp[h4]
 rw[if_pos h4];by_cases h5:x.qa.toList=y.qa.toList
 rotate_left
 ·
  rw[if_neg h5];simp[h5]
 rw[if_pos h5];by_cases h6:x.qd.toList=y.qd.toList
 rotate_left
 ·
  rw[if_neg h6];simp[h6]
 rw[if_pos h6];by_cases h7:x.s.toList=y.s.toList
 rotate_left
 ·
  rw[if_neg h7];simp[h7]
 rw[if_pos h7];by_cases h8:x.tr=y.tr
 rotate_left
 ·
  rw[if_neg h8];simp[h8]
 rw[if_pos h8];by_cases h9:x.r.sh.toList=y.r.sh.toList
 rotate_left
 ·
  rw[if_neg h9];simp[h9]
 rw[if_pos h9];by_cases h10:x.r.c=y.r.c
 rotate_left
 ·
  rw[if_neg h10];simp[h10]
 rw[if_pos h10];by_cases h11:x.r.r=y.r.r
 rotate_left
 ·
  rw[if_neg h11];simp[h11]
 rw[if_pos h11];by_cases h12:x.r.fc=y.r.fc
 rotate_left
 ·
  rw[if_neg h12];simp[h12]
 rw[if_pos h12];by_cases h13:x.r.fr=y.r.fr
 rotate_left
 ·
  rw[if_neg h13];simp[h13]
 rw[if_pos h13];by_cases h14:x.t.sh.toList=y.t.sh.toList
 rotate_left
 ·
  rw[if_neg h14];simp[h14]
 rw[if_pos h14];by_cases h15:x.t.c=y.t.c
 rotate_left
 ·
  rw[if_neg h15];simp[h15]
 rw[if_pos h15];by_cases h16:x.t.r=y.t.r
 rotate_left
 ·
  rw[if_neg h16];simp[h16]
 rw[if_pos h16];by_cases h17:x.t.fc=y.t.fc
 rotate_left
 ·
  rw[if_neg h17];simp[h17]
 rw[if_pos h17];by_cases h18:x.t.fr=y.t.fr
 rotate_left
 ·
  rw[if_neg h18];simp[h18]
 rw[if_pos h18];simp[h0,h1,h2,h3,h4,h5,h6,h7,h8,h9,h10,h11,h12,h13,h14,h15,h16,h17,h18]
theorem b5v (x y:Nd) (w:World):(binOp .neq 69 (Y2 x) (Y2 y)).run Tryz.prog w=.ok (Bv (!XX x y)) w:=by
 unfold XX c6e;simp (maxSteps:=2000000) [go_sem];by_cases h0:x.k=y.k
 rotate_left
 ·
  rw[if_neg h0];simp[h0]
 rw[if_pos h0];by_cases h1:x.o=y.o
 rotate_left
 ·
  rw[if_neg h1];simp[h1]
 rw[if_pos h1];by_cases h2:x.a=y.a
 rotate_left
 ·
  rw[if_neg h2];simp[h2]
 rw[if_pos h2];by_cases h3:x.b=y.b
 rotate_left
 ·
  rw[if_neg h3];simp[h3]
 rw[if_pos h3];by_cases h4:x.qn=y.qn
 rotate_left
 ·
  rw[if_neg h4];simp[h4]
 rw[if_pos h4];by_cases h5:x.qa.toList=y.qa.toList
 rotate_left
 ·
  rw[if_neg h5];simp[h5]
 rw[if_pos h5];by_cases h6:x.qd.toList=y.qd.toList
 rotate_left
 ·
  rw[if_neg h6];simp[h6]
 rw[if_pos h6];by_cases h7:x.s.toList=y.s.toList
 rotate_left
 ·
  rw[if_neg h7];simp[h7]
 rw[if_pos h7];by_cases h8:x.tr=y.tr
 rotate_left
 ·
  rw[if_neg h8];simp[h8]
 rw[if_pos h8];by_cases h9:x.r.sh.toList=y.r.sh.toList
 rotate_left
 ·
  rw[if_neg h9];simp[h9]
 rw[if_pos h9];by_cases h10:x.r.c=y.r.c
 rotate_left
 ·
  rw[if_neg h10];simp[h10]
 rw[if_pos h10];by_cases h11:x.r.r=y.r.r
 rotate_left
 ·
  rw[if_neg h11];simp[h11]
 rw[if_pos h11];by_cases h12:x.r.fc=y.r.fc
 rotate_left
 ·
  rw[if_neg h12];simp[h12]
 rw[if_pos h12];by_cases h13:x.r.fr=y.r.fr
 rotate_left
 ·
  rw[if_neg h13];simp[h13]
 rw[if_pos h13];by_cases h14:x.t.sh.toList=y.t.sh.toList
 rotate_left
 ·
  rw[if_neg h14];simp[h14]
 rw[if_pos h14];by_cases h15:x.t.c=y.t.c
 rotate_left
 ·
  rw[if_neg h15];simp[h15]
 rw[if_pos h15];by_cases h16:x.t.r=y.t.r
 rotate_left
 ·
  rw[if_neg h16];simp[h16]
 rw[if_pos h16];by_cases h17:x.t.fc=y.t.fc
 rotate_left
 ·
  rw[if_neg h17];simp[h17]
 rw[if_pos h17];by_cases h18:x.t.fr=y.t.fr
 rotate_left
 ·
  rw[if_neg h18];simp[h18]
 rw[if_pos h18];simp[h0,h1,h2,h3,h4,h5,h6,h7,h8,h9,h10,h11,h12,h13,h14,h15,h16,h17,h18]
theorem Y9:∃ K:Nat,(∀ w,Sem.run Tryz.prog (Go.sizeOf 69) w=.ok K w)/\Hid (K=19):=⟨19,fun w=>by simp[go_sem],zh rfl⟩
theorem a0o (W:World) (A:Nat) {K:Nat} (hK:Hid (K=19)) {c0 c1 c2 c3 c4 c5 c6 c7 c8 c9 c10 c11 c12 c13 c14 c15 c16 c17 c18:Value} (k0:W.cell? ⟨A,0,none⟩=some c0) (k1:W.cell? ⟨A,1,none⟩=some c1) (k2:W.cell? ⟨A,2,none⟩=some c2) (k3:W.cell? ⟨A,3,none⟩=some c3) (k4:W.cell? ⟨A,4,none⟩=some c4) (k5:W.cell? ⟨A,5,none⟩=some c5) (k6:W.cell? ⟨A,6,none⟩=some c6) (k7:W.cell? ⟨A,7,none⟩=some c7) (k8:W.cell? ⟨A,8,none⟩=some c8) (k9:W.cell? ⟨A,9,none⟩=some c9) (k10:W.cell? ⟨A,10,none⟩=some c10) (k11:W.cell? ⟨A,11,none⟩=some c11) (k12:W.cell? ⟨A,12,none⟩=some c12) (k13:W.cell? ⟨A,13,none⟩=some c13) (k14:W.cell? ⟨A,14,none⟩=some c14) (k15:W.cell? ⟨A,15,none⟩=some c15) (k16:W.cell? ⟨A,16,none⟩=some c16) (k17:W.cell? ⟨A,17,none⟩=some c17) (k18:W.cell? ⟨A,18,none⟩=some c18) :
  Sem.run Tryz.prog (loadCellsFrom ⟨A,0,none⟩ 0 K #[]) W=.ok #[c0,c1,c2,c3,c4,c5,c6,c7,c8,c9,c10,c11,c12,c13,c14,c15,c16,c17,c18] W :=
 run_loadCellsFrom_list Tryz.prog W ⟨A,0,none⟩ [c0,c1,c2,c3,c4,c5,c6,c7,c8,c9,c10,c11,c12,c13,c14,c15,c16,c17,c18] K hK.out.symm (fun j v h=>by
  rw[Addr.add_lit]
  match j,h with
  | 0,h=>rw[<-jA h];exact k0
  | 1,h=>rw[<-jA h];exact k1
  | 2,h=>rw[<-jA h];exact k2
  | 3,h=>rw[<-jA h];exact k3
  | 4,h=>rw[<-jA h];exact k4
  | 5,h=>rw[<-jA h];exact k5
  | 6,h=>rw[<-jA h];exact k6
  | 7,h=>rw[<-jA h];exact k7
  | 8,h=>rw[<-jA h];exact k8
  | 9,h=>rw[<-jA h];exact k9
  | 10,h=>rw[<-jA h];exact k10
  | 11,h=>rw[<-jA h];exact k11
  | 12,h=>rw[<-jA h];exact k12
  | 13,h=>rw[<-jA h];exact k13
  | 14,h=>rw[<-jA h];exact k14
  | 15,h=>rw[<-jA h];exact k15
  | 16,h=>rw[<-jA h];exact k16
  | 17,h=>rw[<-jA h];exact k17
  | 18,h=>rw[<-jA h];exact k18)
theorem b2l (w0:World) (zs Z:Array Value) (t:TypeId):(w0.alloc (.cells zs t)).setRow w0.heap.size Z=w0.alloc (.cells Z t):=by
 rw[<-World.alloc_eq,<-World.alloc_eq];unfold World.setRow
 cases w0 with
 | mk heap tape drawn os output =>
  simp only
  congr 1
  apply Array.ext
  ·
   simp
  ·
   intro k h1 h2;simp only[Array.getElem_modify,Array.getElem_push];by_cases hk:k<heap.size
   ·
    have hne : ¬ heap.size=k:=by omega
    simp[hk,hne]
   ·
    have he:heap.size=k:=by simp at h2;omega
    simp[hk,he]
theorem a0c {ops:Array Oper} {rest:List Oper} {o:Oper} {a:Act} {w:World} {Q:Exit->Act->World->Prop} (hgd:o.guard=none) (x y:Operand) (ho:o.op=.store 69 x y) (hd:o.dst=none)
  (cells zs:Array Value) (s:World) (hw:w=s.alloc (.cells zs 69)) (hx:a.eval x=.pointer (some ⟨s.heap.size,0,none⟩)) (hy:a.eval y=.agg cells) (hs:cells.size=19) (hzs:zs.size=19) (h1:cells.toList.all (·.oneCell')=true)
  (h:wpList Tryz.prog ops Q rest a (s.alloc (.cells cells 69))):wpList Tryz.prog ops Q (o :: rest) a w:=by
 subst hw;refine wpList_store_rowTo hgd 69 x y ho hd s.heap.size cells hx hy 69 zs (by rw[<-World.alloc_eq];show (s.heap.push _)[s.heap.size]?=_;simp) (by rw[hs];kernel_rfl) (by rw[hs,hzs]) (by rw[<-Array.all_toList];exact h1) ?_;rw[b2l];exact h
def arB (r t:Rf):Bool:=c6w r.c r.r t.c t.r&&a8g r.sh r.c r.r&&a8g t.sh t.c t.r&&decide (t.sh.size=0)
def a4i (n:Nd):Bool:=if n.k=1 then amB n.qn n.qa n.qd else if n.k=2 then b7h n.s else if n.k=3 then true else if n.k=4 then (decide (1<=n.o)&&decide (n.o<=7)) else if n.k=5 then a8g n.r.sh n.r.c n.r.r else if n.k=6 then arB n.r n.t else if n.k=7 then decide (Y5 7 n.o<8) else if n.k=8 then decide (Y5 8 n.o<8) else if n.k=9 then (decide (0<=n.b)&&decide (n.b<=20) && !(decide (n.b=0) && !decide (n.a=0))&&b9e n.s.data.toList) else false
def X6 (n:Nd):Nd:=if n.k=1 then ⟨n.k,0,0,0,n.qn,n.qa,n.qd,⟨#[]⟩,false,Jj,Jj⟩ else if n.k=2 then ⟨n.k,0,0,0,false,⟨#[]⟩,⟨#[]⟩,n.s,false,Jj,Jj⟩ else if n.k=3 then ⟨n.k,0,0,0,false,⟨#[]⟩,⟨#[]⟩,⟨#[]⟩,n.tr,Jj,Jj⟩ else if n.k=4 then ⟨n.k,n.o,0,0,false,⟨#[]⟩,⟨#[]⟩,⟨#[]⟩,false,Jj,Jj⟩ else if n.k=5 then ⟨n.k,0,0,0,false,⟨#[]⟩,⟨#[]⟩,⟨#[]⟩,false,n.r,Jj⟩ else if n.k=6 then ⟨n.k,0,0,0,false,⟨#[]⟩,⟨#[]⟩,⟨#[]⟩,false,n.r,n.t⟩ else if n.k=7 then ⟨n.k,n.o,n.a,0,false,⟨#[]⟩,⟨#[]⟩,⟨#[]⟩,false,Jj,Jj⟩ else if n.k=8 then ⟨n.k,n.o,n.a,n.b,false,⟨#[]⟩,⟨#[]⟩,⟨#[]⟩,false,Jj,Jj⟩ else if n.k=9 then ⟨n.k,0,n.a,n.b,false,⟨#[]⟩,⟨#[]⟩,n.s,false,Jj,Jj⟩ else n
def a3b (n:Nd):Bool:=decide (n.k<=6)&&a4i n&&XX n (X6 n)
def X9 (n:Nd):Bool:=a4i n&&XX n (X6 n)
