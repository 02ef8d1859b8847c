import Derived.Test.YtbilamnnneddmaaGreatDoorZQnx
import Derived.Test.YtbilamnnneddmaaGreatDoorZHUx
import Derived.Test.YtbilamnnneddmaaGreatDoorZQb
import Derived.Lib.Hide
import Derived.Deep.Onto
import Derived.Laws.Cover3
import Derived.Test.YtbilamnnneddmaaGreatDoorZEAx
import Derived.Test.YtbilamnnneddmaaGreatDoorZPEx
import Derived.Test.YtbilamnnneddmaaGreatDoorZGBx
import Derived.Deep.RegionHeld3
import Derived.Deep.QuietTactic
import Derived.BigQuiet
import Derived.Great.BuildSlice
namespace Go.Proofs.YtbilamnnneddmaaGreatDoor
set_option linter.unusedVariables false
set_option maxRecDepth 2000
set_option linter.unusedSimpArgs false
open Go.RowKit
theorem arr8 (a:Option Addr) (c:Nat) (w:World):(Instr.arrayAt 23 (.slice a 8 c)).run Tryz.prog w = .ok (.pointer a) w:=run_arrayAt (P:=Tryz.prog) w _ _ 8 a 8 c Tryz.underlying23 (Nat.le_refl _)
theorem arr12 (a:Option Addr) (c:Nat) (w:World):(Instr.arrayAt 54 (.slice a 12 c)).run Tryz.prog w = .ok (.pointer a) w:=run_arrayAt (P:=Tryz.prog) w _ _ 12 a 12 c Tryz.underlying54 (Nat.le_refl _)
attribute [local go_sem] arr8 arr12
theorem fro_E {i n:Nat} (hi:i<65536) (hn:n<65536):putE fitU 2 2 (fun k=>if k=0 then (i:Int) else n)=0:=by
 have h0:fitU 2 (i:Int)=true:=decide_eq_true (by unfold pw;omega)
 have h1:fitU 2 (n:Int)=true:=decide_eq_true (by unfold pw;omega)
 unfold putE
 rw[if_neg (by decide),if_pos]
 simp[allB,h0,h1]
set_option maxHeartbeats 4000000 in
theorem front_any (i n c:Nat) (p:Option Addr) (hi:i<65536) (hn:n<65536) (w:World) :
  Calls Tryz.prog 30 #[.int .i64 i,.slice p n c] w fun e w'=>∃ v,e = .returned v∧w'.ownsRow w.heap.size 5 1 v 4 (nums .u8 (froF i n) 4)∧Below w.heap.size w w':=by
 have P1:=Lib.hid (fun p w hp=>Put_any none p 0 0 2 2 2 (fun _=>0) (fun k=>if k=0 then (i:Int) else n) (fun k hk=>by split<;>omega) (Nat.le_refl _) (by decide) (Nat.le_refl _) (by decide) (by decide) w (.inl rfl) hp)
 rw[fro_E hi hn,show putL 0 2 2 0=4 by rfl] at P1
 have w1:IntKind.u64.wrap (i:Int)=i:=by rw[IntKind.wrap_u64];omega
 have w2:IntKind.u64.wrap (n:Int)=n:=by rw[IntKind.wrap_u64];omega
 go_enter Tryz.func30,Tryz.ntmps30
 go_wp2_with (fail)
 go_at_call 36
 refine (P1.out _ _ (nm_new (by first | rfl | simp[w1,w2,nums]))).mono ?_
 rintro e w1 ⟨v1,rfl,hrow,hb⟩
 have hB1:=Below.go (Below.al (Below.refl _ _)) hb
 have HR:=Lib.hid hrow
 clear hrow hb P1
 go_wp2_with (fail)
 go_ret
 exact⟨_,rfl,HR.out.mono (by simp),hB1⟩
theorem non_E (z:Int):putE fitU 4 1 (fun _=>z%4294967296)=0:=by
 have h0:fitU 4 (z%4294967296)=true:=decide_eq_true (by unfold pw;omega)
 unfold putE
 rw[if_neg (by decide),if_pos]
 simp[allB,h0]
set_option maxHeartbeats 4000000 in
theorem Nonce_any (b:Nat→Int) (z:Int) (hb:∀ j,j<8→inB (b j)) (w:World) :
  Calls Tryz.prog 13 #[.agg (nums .u8 b 8).toArray,.int .i64 z] w fun e w'=>e = .returned (.agg (nums .u8 (nonF b z) 12).toArray)∧Below w.heap.size w w':=by
 have P1:=Lib.hid (fun q p w hq hp=>Put_any q p 8 8 1 1 4 b (fun _=>z%4294967296) (fun k hk=>by omega) (Nat.le_refl _) (by decide) (Nat.le_refl _) (by decide) (by decide) w hq hp)
 rw[non_E z,show putL 8 1 4 0=12 by rfl] at P1
 have w1:IntKind.u32.wrap z=z%4294967296:=by rw[IntKind.wrap_u32]
 have w2:IntKind.u64.wrap (z%4294967296)=z%4294967296:=by rw[IntKind.wrap_u64];omega
 go_enter Tryz.func13,Tryz.ntmps13
 go_upto_region 1 with fail
 obtain⟨W0,X,eW,eX,HX,B0,XW,S0⟩:=al1 w _ (nums .u8 b 8).toArray 23 (nums .u8 b 8) rfl rfl
 rw[eW,eX]
 obtain⟨W1,Y,eW,eY,HY,B1,YW,S1⟩:=al1 W0 _ #[.int .u8 0,.int .u8 0,.int .u8 0,.int .u8 0,.int .u8 0,.int .u8 0,.int .u8 0,.int .u8 0,.int .u8 0,.int .u8 0,.int .u8 0,.int .u8 0] 54 (nums .u8 (fun _=>0) 12) S0 rfl
 rw[eW,eY]
 have HX1:=Lib.hid (HX.out.later B1.out);have B01:=Lib.hid (Below.go B0.out B1.out)
 have YW1:=Lib.hid (Nat.le_trans B0.out.size YW.out)
 clear eW eX eY HX B0 B1 YW S0 S1
 go_wp2_with (fail)
 go_at_call 36
 refine (P1.out _ _ _ (.inr ⟨X,0,rfl,(HX1.out.has.later (Below.al (Below.refl _ _)))⟩) (nm_new rfl)).mono ?_
 rintro e w2 ⟨v,rfl,hrow,hb⟩
 have hb2:=Below.go (Below.al (Below.refl _ _)) hb
 have HY2:=Lib.hid (HY.out.later hb2);have B02:=Lib.hid (Below.go B01.out hb2)
 obtain⟨q,c,rfl,_⟩:=row_form hrow
 have BY:=Lib.hid (byt_row hrow).2
 obtain⟨D,rfl,hD⟩:∃ D,q=some ⟨D,0,none⟩∧Has D 0 (nums .u8 (nonF b z) 12) w2:=by
  rcases hrow.2 with ⟨h,_⟩ | ⟨D,_,_,h,_⟩
  ·injection h
   omega
  ·injection h with h
   subst h
   exact⟨D,rfl,(row_has' hrow).1⟩
 clear hrow hb hb2 HY B01 HX1 BY
 go_wp2_with (first | (refine wpList_load_mid rfl 54 _ rfl D 0 rfl (nums .u8 (nonF b z) 12) _ hD.cell Tryz.underlying54 rfl (by kernel_rfl) ?_) | (refine wpList_store_mid rfl 54 _ _ rfl Y 0 (nums .u8 (nonF b z) 12).toArray rfl rfl HY2.out.free (by kernel_rfl) (nums_all _ _ _) ?_))
 have hL:=run_loadVar_mid (P:=Tryz.prog) _ Y 0 54 (nums .u8 (nonF b z) 12) _ (Own.store HY2.out (by simp[nums_length])).cell Tryz.underlying54 rfl (by kernel_rfl)
 exact bodyPost_ret (v := .agg (nums .u8 (nonF b z) 12).toArray) (res_cell Tryz.results13 rfl hL) rfl ⟨rfl,Below.setCells B02.out YW1.out _ _⟩
set_option maxHeartbeats 4000000 in
theorem baseOf_any (F:Nat→Int) (D o N c:Nat) (hN:12≤N) (hNc:N≤c) (hc:c≤9223372036854775807) (w:World) (hq:Has D o (nums .u8 F N) w) :
  Calls Tryz.prog 38 #[.slice (some ⟨D,o,none⟩) N c] w fun e w'=>e = .returned (.agg (nums .u8 (fun j=>F (4+j)) 8).toArray)∧Below w.heap.size w w':=by
 have HQ:=Lib.hid (has_drop hq (show 4+8≤N by omega))
 have h1:(12:Int)≤(c:Int):=by omega
 have h2:(12:Int)≤(N:Int):=by omega
 clear hq
 go_enter Tryz.func38,Tryz.ntmps38
 go_upto_region 1 with fail
 obtain⟨W0,X,eW,eX,HX,B0,XW,S0⟩:=al1 w _ #[.int .u8 0,.int .u8 0,.int .u8 0,.int .u8 0,.int .u8 0,.int .u8 0,.int .u8 0,.int .u8 0] 23 (nums .u8 (fun _=>0) 8) rfl rfl
 rw[eW,eX]
 have HQ0:=Lib.hid (HQ.out.later B0.out)
 clear eW eX HQ S0
 go_wp2_with (first | (refine wpList_load_mid rfl 23 _ rfl D (o+4) rfl (nums .u8 (fun j=>F (4+j)) 8) _ HQ0.out.cell Tryz.underlying23 rfl (by kernel_rfl) ?_) | (refine wpList_store_mid rfl 23 _ _ rfl X 0 (nums .u8 (fun j=>F (4+j)) 8).toArray rfl rfl HX.out.free (by kernel_rfl) (nums_all _ _ _) ?_))
 have hL:=run_loadVar_mid (P:=Tryz.prog) _ X 0 23 (nums .u8 (fun j=>F (4+j)) 8) _ (Own.store HX.out (by simp[nums_length])).cell Tryz.underlying23 rfl (by kernel_rfl)
 exact bodyPost_ret (v := .agg (nums .u8 (fun j=>F (4+j)) 8).toArray) (res_cell Tryz.results38 rfl hL) rfl ⟨rfl,Below.setCells B0.out XW.out _ _⟩
set_option maxHeartbeats 4000000 in
theorem chunkNonce_any (b:Nat→Int) (i:Nat) (hi:i<65536) (hb:∀ j,j<8→inB (b j)) (w:World) :
  Calls Tryz.prog 31 #[.agg (nums .u8 b 8).toArray,.int .i64 i] w fun e w'=>e = .returned (.agg (nums .u8 (nonF b (i+1)) 12).toArray)∧Below w.heap.size w w':=by
 have NC:=Lib.hid (fun w=>Nonce_any b (i+1) hb w)
 have w1:IntKind.i64.wrap (1+(i:Int))=i+1:=by rw[IntKind.wrap_i64];omega
 clear hb
 go_enter Tryz.func31,Tryz.ntmps31
 go_upto_region 1 with fail
 obtain⟨W0,X,eW,eX,HX,B0,XW,S0⟩:=al1 w _ (nums .u8 b 8).toArray 23 (nums .u8 b 8) rfl rfl
 rw[eW,eX]
 obtain⟨W1,Y,eW,eY,HY,B1,YW,S1⟩:=al1 W0 _ #[.int .u8 0,.int .u8 0,.int .u8 0,.int .u8 0,.int .u8 0,.int .u8 0,.int .u8 0,.int .u8 0,.int .u8 0,.int .u8 0,.int .u8 0,.int .u8 0] 54 (nums .u8 (fun _=>0) 12) S0 rfl
 rw[eW,eY]
 have HX1:=Lib.hid (HX.out.later B1.out);have B01:=Lib.hid (Below.go B0.out B1.out)
 have YW1:=Lib.hid (Nat.le_trans B0.out.size YW.out)
 clear eW eX eY HX B0 B1 YW S0 S1
 go_wp2_with (refine wpList_load_mid rfl 23 _ rfl X 0 rfl (nums .u8 b 8) _ HX1.out.cell Tryz.underlying23 rfl (by kernel_rfl) ?_)
 go_at_call 13
 refine (NC.out _).mono ?_
 rintro e w2 ⟨rfl,hb⟩
 have HY2:=Lib.hid (HY.out.later hb);have B02:=Lib.hid (Below.go B01.out hb)
 clear hb HY B01 HX1
 go_wp2_with (refine wpList_store_mid rfl 54 _ _ rfl Y 0 (nums .u8 (nonF b (i+1)) 12).toArray rfl rfl HY2.out.free (by kernel_rfl) (nums_all _ _ _) ?_)
 have hL:=run_loadVar_mid (P:=Tryz.prog) _ Y 0 54 (nums .u8 (nonF b (i+1)) 12) _ (Own.store HY2.out (by simp[nums_length])).cell Tryz.underlying54 rfl (by kernel_rfl)
 exact bodyPost_ret (v := .agg (nums .u8 (nonF b (i+1)) 12).toArray) (res_cell Tryz.results31 rfl hL) rfl ⟨rfl,Below.setCells B02.out YW1.out _ _⟩
end Go.Proofs.YtbilamnnneddmaaGreatDoor
namespace Go.Proofs.YtbilamnnneddmaaGreatDoor
set_option linter.unusedVariables false
set_option maxRecDepth 2000
set_option linter.unusedSimpArgs false
open Go.RowKit
set_option maxHeartbeats 4000000 in
theorem HasPrefix_any (F G:Nat→Int) (D o N c c2:Nat) (p:Option Addr) (hN:4≤N) (hNc:N≤c) (hF:∀ j,j<N→inB (F j)) (hG:∀ j,j<4→inB (G j)) (w:World) (hq:Has D o (nums .u8 F N) w) (hp:Byt w p 4 G) :
  Calls Tryz.prog 37 #[.slice (some ⟨D,o,none⟩) N c,.slice p 4 c2] w fun e w'=>e = .returned (.bool (gqB F G 4))∧Below w.heap.size w w':=by
 have EQ:=Lib.hid (fun w h1 h2=>EqualG_any (some ⟨D,o,none⟩) p 4 c c2 F G (fun i hi=>hF i (by omega)) hG w h1 h2)
 have HQ:Hid (Byt w (some ⟨D,o,none⟩) 4 F):=Lib.hid (.inr ⟨D,o,rfl,has_take hq hN⟩)
 have HP:=Lib.hid hp
 have h1:(4:Int)≤(N:Int):=by omega
 have h2:(4:Int)≤(c:Int):=by omega
 clear hq hp hF hG
 go_enter Tryz.func37,Tryz.ntmps37
 go_wp2_with (fail)
 go_at_call 12
 refine (EQ.out _ HQ.out HP.out).mono ?_
 rintro e w1 ⟨rfl,hb⟩
 have B:=Lib.hid hb
 clear hb
 go_wp2_with (fail)
 go_ret
 exact⟨by first | rfl | simp,B.out⟩
def peekE (kf F:Nat→Int):Int:=if gqB F markF 4=false then 5 else if eqB (fun j=>F (47+(0+j))) (macF kf (nonF (fun j=>F (4+j)) 0) F 47 (fun j=>F (47+j)) 0) 16=false then 6 else gdecE (fun j=>F (12+j)) 35
def peekM (kf F:Nat→Int):Mn:=if peekE kf F=0 then decM (fun j=>F (12+j)) else nilMn
theorem mark_byt (w:World):Byt (w.alloc (.cells #[.int .u8 85,.int .u8 77,.int .u8 66,.int .u8 49] 5 (4,5))) (some ⟨w.heap.size,0,none⟩) 4 markF :=
 .inr ⟨w.heap.size,0,rfl,has_marked w (nums .u8 markF 4) 5 (4,5)⟩
theorem st12 (w:World) (f:Nat→Int) (c:Array Value) (hc:c.size=12):(storeCells ⟨w.heap.size,0,none⟩ (nums .u8 f 12)).run Tryz.prog (w.alloc (.cells c 54)) = .ok () (w.alloc (.cells (nums .u8 f 12).toArray 54)) :=
 run_storeCells_new (P:=Tryz.prog) w 54 c (nums .u8 f 12).toArray (by rw[nums_size];kernel_rfl) (by rw[nums_size,hc]) (nums_all _ _ _)
attribute [local go_sem] nums_length st12
set_option maxHeartbeats 16000000 in
theorem Peek_any (kf F:Nat→Int) (D o N c:Nat) (hk:∀ i,i<32→inB (kf i)) (hF:∀ j,j<N→inB (F j)) (hN:63≤N) (hNc:N≤c) (hc:c≤9223372036854775807) (w:World) (hG:Has 1 0 GL w) (hg:Has 0 0 CapL w) (hq:Has D o (nums .u8 F N) w) :
  Calls Tryz.prog 16 #[(.agg (nums .u8 kf 32).toArray),.slice (some ⟨D,o,none⟩) N c] w fun e w'=>e = .returned (.tuple #[.agg (cM (peekM kf F)).toArray,.int .i64 (peekE kf F)])∧Below w.heap.size w w':=by
 have FK:=Lib.hid hk;have FF:=Lib.hid hF;have HG:=Lib.hid hG;have Hg:=Lib.hid hg;have HQ:=Lib.hid hq
 have HN:=Lib.hid hN;have HNC:=Lib.hid hNc;have HCC:=Lib.hid hc
 have g1:decide ((N:Int)<63)=false:=decide_eq_false (by omega)
 have n1:(63:Int)≤(c:Int):=by omega
 have n2:(47:Int)≤(c:Int):=by omega
 clear hk hF hG hg hq hN hNc hc
 go_enter Tryz.func16,Tryz.ntmps16
 go_upto_region 1 with fail
 obtain⟨W0,K,eW,eX,HK,BW0,KW,SW0⟩:=al1 w _ (nums .u8 kf 32).toArray 22 (nums .u8 kf 32) rfl rfl
 rw[eW,eX]
 obtain⟨W1,R,eW,eX,HR,BW1,RW,SW1⟩:=al1 W0 _ #[.int .u64 0,.int .i64 0,.int .u32 0,.int .u8 0,.int .u8 0,.int .u8 0,.int .u8 0,.int .u8 0,.int .u8 0,.int .u8 0,.int .u8 0,.int .u32 0,.int .u32 0,.int .i64 0,.int .i64 0] 27 (cM nilMn) SW0 rfl
 rw[eW,eX]
 have B:=Lib.hid (Below.go BW0.out BW1.out)
 have RW:=Lib.hid (Nat.le_trans BW0.out.size RW.out)
 replace HK:=Lib.hid (HK.out.later BW1.out)
 clear eW eX BW0 BW1 SW1 SW0 KW
 replace HG:=Lib.hid (HG.out.later B.out)
 replace Hg:=Lib.hid (Hg.out.later B.out)
 replace HQ:=Lib.hid (HQ.out.later B.out)
 go_wp2_with (refine wpList_conv rfl _ rfl rfl ?_)
 go_at_call 37
 refine (HasPrefix_any F markF D o N c 4 _ (by have:=HN.out;omega) HNC.out FF.out (fun j _=>in_markF j) _ (HQ.out.later (Below.al (Below.refl _ _))) (mark_byt _)).mono ?_
 rintro e w2 ⟨rfl,h1⟩
 have hb:=Below.go (Below.al (Below.refl _ _)) h1
 replace HG:=Lib.hid (HG.out.later hb)
 replace Hg:=Lib.hid (Hg.out.later hb)
 replace HQ:=Lib.hid (HQ.out.later hb)
 replace HK:=Lib.hid (HK.out.later hb)
 replace HR:=Lib.hid (HR.out.later hb)
 replace B:=Lib.hid (Below.go B.out hb)
 clear hb h1
 obtain⟨z,ez⟩:∃ z,gqB F markF 4=z:=⟨_,rfl⟩
 rw[ez]
 cases z
 ·have PE:peekE kf F=5:=by unfold peekE;rw[if_pos ez]
  go_wp2_with ((refine wpList_store_mid rfl 27 _ _ rfl R 0 (cM nilMn).toArray rfl rfl HR.out.free (by kernel_rfl) (cM_one _) ?_))
  have hL:=run_loadVar_mid (P:=Tryz.prog) _ R 0 27 (cM nilMn) _ (Own.store HR.out rfl).cell Tryz.underlying27 rfl (by kernel_rfl)
  exact bodyPost_ret (v := .tuple #[.agg (cM nilMn).toArray,.int .i64 5]) (gres_two Tryz.results16 rfl hL rfl) rfl ⟨by rw[show peekM kf F=nilMn by unfold peekM;rw[if_neg (by rw[PE];decide)],PE],Below.setCells B.out RW.out _ _⟩
 ·go_upto_region 6 with fail
  go_at_call 38
  refine (baseOf_any F D o N c (by have:=HN.out;omega) HNC.out HCC.out _ HQ.out).mono ?_
  rintro e w3 ⟨rfl,hb⟩
  replace HG:=Lib.hid (HG.out.later hb)
  replace Hg:=Lib.hid (Hg.out.later hb)
  replace HQ:=Lib.hid (HQ.out.later hb)
  replace HK:=Lib.hid (HK.out.later hb)
  replace HR:=Lib.hid (HR.out.later hb)
  replace B:=Lib.hid (Below.go B.out hb)
  clear hb
  go_upto_region 6 with fail
  go_at_call 13
  refine (Nonce_any (fun j=>F (4+j)) 0 (fun j hj=>FF.out _ (by have:=HN.out;omega)) _).mono ?_
  rintro e w4 ⟨rfl,hb⟩
  replace HG:=Lib.hid (HG.out.later hb)
  replace Hg:=Lib.hid (Hg.out.later hb)
  replace HQ:=Lib.hid (HQ.out.later hb)
  replace HK:=Lib.hid (HK.out.later hb)
  replace HR:=Lib.hid (HR.out.later hb)
  replace B:=Lib.hid (Below.go B.out hb)
  clear hb
  go_upto_region 6 with fail
  obtain⟨W5,Y,eW,eX,HY,BW5,YW,SW5⟩:=al1 w4 _ (nums .u8 (nonF (fun j=>F (4+j)) 0) 12).toArray 54 (nums .u8 (nonF (fun j=>F (4+j)) 0) 12) rfl rfl
  rw[eW,eX]
  replace HG:=Lib.hid (HG.out.later BW5.out)
  replace Hg:=Lib.hid (Hg.out.later BW5.out)
  replace HQ:=Lib.hid (HQ.out.later BW5.out)
  replace HK:=Lib.hid (HK.out.later BW5.out)
  replace HR:=Lib.hid (HR.out.later BW5.out)
  replace B:=Lib.hid (Below.go B.out BW5.out)
  clear eW eX BW5 YW SW5
  obtain⟨z2,ez2⟩:∃ z,eqB (fun j=>F (47+(0+j))) (macF kf (nonF (fun j=>F (4+j)) 0) F 47 (fun j=>F (47+j)) 0) 16=z:=⟨_,rfl⟩
  have CO:=Lib.hid (fun w hG hp hq=>Open_core kf (nonF (fun j=>F (4+j)) 0) F (fun j=>F (47+j)) (some ⟨D,o,none⟩) D (o+47) 47 0 16 47 16 rfl z2 ez2 FK.out (fun j _=>in_nonF (fun j hj=>FF.out _ (by have:=HN.out;omega)) 0 j) (fun j hj=>FF.out _ (by have:=HN.out;omega)) (fun j hj=>FF.out _ (by have:=HN.out;omega)) (by decide) (by decide) (Nat.le_refl _) (Nat.le_refl _) (by decide) (by decide) w hG hp hq)
  have HP:=Lib.hid (show Byt W5 (some ⟨D,o,none⟩) 47 F from .inr ⟨D,o,rfl,has_take HQ.out (by have:=HN.out;omega)⟩)
  have HT:=Lib.hid (has_drop HQ.out (show 47+16≤N by have:=HN.out;omega))
  cases z2
  ·simp only[Bool.false_eq_true,if_false] at CO
   refine wp_region_held_drew (S:=fun w'=>Below W5.heap.size W5 w') (by kernel_rfl) (Below.refl _ _).drew (fun hb0_=>?_)
   refine wpAnyH_take (i:=0) (v := .agg (nums .u8 kf 32).toArray) rfl (by kernel_rfl) (by kernel_rfl) (by kernel_rfl) (fun _ _ _ h=>h) (yieldsIf_load_mid (by rfl) 22 _ rfl K 0 rfl (nums .u8 kf 32) _ (fun w h=>(HK.out.later h).cell) Tryz.underlying22 rfl (by kernel_rfl)) (by assumption) ?_
   try simp only[Act.put,List.getElem_toArray,List.getElem_cons_zero,List.getElem_cons_succ,List.setIfInBounds_toArray,List.set_cons_zero,List.set_cons_succ]
   refine wpAnyH_take (i:=1) (v := .agg (nums .u8 (nonF (fun j=>F (4+j)) 0) 12).toArray) rfl (by kernel_rfl) (by kernel_rfl) (by kernel_rfl) (fun _ _ _ h=>h) (yieldsIf_load_mid (by rfl) 54 _ rfl Y 0 rfl (nums .u8 (nonF (fun j=>F (4+j)) 0) 12) _ (fun w h=>(HY.out.later h).cell) Tryz.underlying54 rfl (by kernel_rfl)) (by assumption) ?_
   try simp only[Act.put,List.getElem_toArray,List.getElem_cons_zero,List.getElem_cons_succ,List.setIfInBounds_toArray,List.set_cons_zero,List.set_cons_succ]
   refine wpAnyH_take (i:=2) (v:=?_) rfl (by kernel_rfl) (by kernel_rfl) (by kernel_rfl) (fun _ _ _ h=>h) (Or.inl ⟨by rfl,?_⟩) (by assumption) ?_
   rotate_left
   ·intro w' hS;go_simp;try (with_reducible rfl)
   try simp only[Act.put,List.getElem_toArray,List.getElem_cons_zero,List.getElem_cons_succ,List.setIfInBounds_toArray,List.set_cons_zero,List.set_cons_succ]
   refine wpAnyH_take (i:=3) (v:=?_) rfl (by kernel_rfl) (by kernel_rfl) (by kernel_rfl) (fun _ _ _ h=>h) (Or.inl ⟨by rfl,?_⟩) (by assumption) ?_
   rotate_left
   ·intro w' hS;go_simp;try (with_reducible rfl)
   try simp only[Act.put,List.getElem_toArray,List.getElem_cons_zero,List.getElem_cons_succ,List.setIfInBounds_toArray,List.set_cons_zero,List.set_cons_succ]
   refine wpAnyH_take (i:=4) (v:=?_) rfl (by kernel_rfl) (by kernel_rfl) (by kernel_rfl) (fun _ _ _ h=>h) (Or.inl ⟨by rfl,?_⟩) (by assumption) ?_
   rotate_left
   ·intro w' hS;go_simp;try (with_reducible rfl)
   try simp only[Act.put,List.getElem_toArray,List.getElem_cons_zero,List.getElem_cons_succ,List.setIfInBounds_toArray,List.set_cons_zero,List.set_cons_succ]
   refine wpAnyH_take (i:=5) (v:=?_) rfl (by kernel_rfl) (by kernel_rfl) (by kernel_rfl) (fun _ _ _ h=>h) (Or.inl ⟨by rfl,?_⟩) (by assumption) ?_
   rotate_left
   ·intro w' hS;go_simp;try (with_reducible rfl)
   try simp only[Act.put,List.getElem_toArray,List.getElem_cons_zero,List.getElem_cons_succ,List.setIfInBounds_toArray,List.set_cons_zero,List.set_cons_succ]
   refine wpAnyH_ready (rs:=[6]) (by kernel_rfl) (by simp) ?_
   refine AllReadyH.cons rfl (fun K hK=>?_) AllReadyH.nil
   go_simp
   go_at_call 24
   refine (CO.out _ (HG.out.later hb0_) (HP.out.later hb0_) (HT.out.later hb0_)).mono ?_
   rintro e u1 ⟨rfl,h1⟩
   have bu1:=Below.go hb0_ h1
   clear h1
   refine hK.out _ _ bu1 (fun _=>?_)
   clear hK K
   try simp only[Act.put,List.getElem_toArray,List.getElem_cons_zero,List.getElem_cons_succ,List.setIfInBounds_toArray,List.set_cons_zero,List.set_cons_succ]
   refine wpAnyH_take (i:=7) (v:=?_) rfl (by kernel_rfl) (by kernel_rfl) (by kernel_rfl) (fun _ _ _ h=>h) (Or.inl ⟨by rfl,?_⟩) (by assumption) ?_
   rotate_left
   ·intro w' hS;go_simp;try (with_reducible rfl)
   try simp only[Act.put,List.getElem_toArray,List.getElem_cons_zero,List.getElem_cons_succ,List.setIfInBounds_toArray,List.set_cons_zero,List.set_cons_succ]
   refine wpAnyH_take (i:=8) (v:=?_) rfl (by kernel_rfl) (by kernel_rfl) (by kernel_rfl) (fun _ _ _ h=>h) (Or.inl ⟨by rfl,?_⟩) (by assumption) ?_
   rotate_left
   ·intro w' hS;go_simp;try (with_reducible rfl)
   try simp only[Act.put,List.getElem_toArray,List.getElem_cons_zero,List.getElem_cons_succ,List.setIfInBounds_toArray,List.set_cons_zero,List.set_cons_succ]
   refine wpAnyH_take (i:=9) (v:=?_) rfl (by kernel_rfl) (by kernel_rfl) (by kernel_rfl) (fun _ _ _ h=>h) (Or.inl ⟨by rfl,?_⟩) (by assumption) ?_
   rotate_left
   ·intro w' hS;go_simp;try (with_reducible rfl)
   try simp only[Act.put,List.getElem_toArray,List.getElem_cons_zero,List.getElem_cons_succ,List.setIfInBounds_toArray,List.set_cons_zero,List.set_cons_succ]
   refine wpAnyH_take (i:=10) (v:=?_) rfl (by kernel_rfl) (by kernel_rfl) (by kernel_rfl) (fun _ _ _ h=>h) (Or.inl ⟨by rfl,?_⟩) (by assumption) ?_
   rotate_left
   ·intro w' hS;go_simp;try (with_reducible rfl)
   try simp only[Act.put,List.getElem_toArray,List.getElem_cons_zero,List.getElem_cons_succ,List.setIfInBounds_toArray,List.set_cons_zero,List.set_cons_succ]
   refine wpAnyH_take (i:=11) (v:=?_) rfl (by kernel_rfl) (by kernel_rfl) (by kernel_rfl) (fun _ _ _ h=>h) (Or.inl ⟨by rfl,?_⟩) (by assumption) ?_
   rotate_left
   ·intro w' hS;go_simp;try (with_reducible rfl)
   try simp only[Act.put,List.getElem_toArray,List.getElem_cons_zero,List.getElem_cons_succ,List.setIfInBounds_toArray,List.set_cons_zero,List.set_cons_succ]
   refine wpAnyH_done (by kernel_rfl) ?_ _
   have PE:peekE kf F=6:=by unfold peekE;rw[if_neg (by rw[ez];decide),if_pos ez2]
   have PM:peekM kf F=nilMn:=by unfold peekM;rw[if_neg (by rw[PE];decide)]
   replace HR:=Lib.hid (HR.out.later bu1)
   replace B:=Lib.hid (Below.go B.out bu1)
   go_wp2_with (refine wpList_store_mid rfl 27 _ _ rfl R 0 (cM nilMn).toArray rfl rfl HR.out.free (by kernel_rfl) (cM_one _) ?_)
   have hL:=run_loadVar_mid (P:=Tryz.prog) _ R 0 27 (cM nilMn) _ (Own.store (vs:=cM nilMn) HR.out rfl).cell Tryz.underlying27 rfl (by kernel_rfl)
   exact bodyPost_ret (v := .tuple #[.agg (cM nilMn).toArray,.int .i64 6]) (gres_two Tryz.results16 rfl hL rfl) rfl ⟨by rw[PM,PE],Below.setCells B.out RW.out _ _⟩
  ·simp only[if_true] at CO
   refine wp_region_held_drew (S:=fun w'=>Below W5.heap.size W5 w') (by kernel_rfl) (Below.refl _ _).drew (fun hb0_=>?_)
   refine wpAnyH_take (i:=0) (v := .agg (nums .u8 kf 32).toArray) rfl (by kernel_rfl) (by kernel_rfl) (by kernel_rfl) (fun _ _ _ h=>h) (yieldsIf_load_mid (by rfl) 22 _ rfl K 0 rfl (nums .u8 kf 32) _ (fun w h=>(HK.out.later h).cell) Tryz.underlying22 rfl (by kernel_rfl)) (by assumption) ?_
   try simp only[Act.put,List.getElem_toArray,List.getElem_cons_zero,List.getElem_cons_succ,List.setIfInBounds_toArray,List.set_cons_zero,List.set_cons_succ]
   refine wpAnyH_take (i:=1) (v := .agg (nums .u8 (nonF (fun j=>F (4+j)) 0) 12).toArray) rfl (by kernel_rfl) (by kernel_rfl) (by kernel_rfl) (fun _ _ _ h=>h) (yieldsIf_load_mid (by rfl) 54 _ rfl Y 0 rfl (nums .u8 (nonF (fun j=>F (4+j)) 0) 12) _ (fun w h=>(HY.out.later h).cell) Tryz.underlying54 rfl (by kernel_rfl)) (by assumption) ?_
   try simp only[Act.put,List.getElem_toArray,List.getElem_cons_zero,List.getElem_cons_succ,List.setIfInBounds_toArray,List.set_cons_zero,List.set_cons_succ]
   refine wpAnyH_take (i:=2) (v:=?_) rfl (by kernel_rfl) (by kernel_rfl) (by kernel_rfl) (fun _ _ _ h=>h) (Or.inl ⟨by rfl,?_⟩) (by assumption) ?_
   rotate_left
   ·intro w' hS;go_simp;try (with_reducible rfl)
   try simp only[Act.put,List.getElem_toArray,List.getElem_cons_zero,List.getElem_cons_succ,List.setIfInBounds_toArray,List.set_cons_zero,List.set_cons_succ]
   refine wpAnyH_take (i:=3) (v:=?_) rfl (by kernel_rfl) (by kernel_rfl) (by kernel_rfl) (fun _ _ _ h=>h) (Or.inl ⟨by rfl,?_⟩) (by assumption) ?_
   rotate_left
   ·intro w' hS;go_simp;try (with_reducible rfl)
   try simp only[Act.put,List.getElem_toArray,List.getElem_cons_zero,List.getElem_cons_succ,List.setIfInBounds_toArray,List.set_cons_zero,List.set_cons_succ]
   refine wpAnyH_take (i:=4) (v:=?_) rfl (by kernel_rfl) (by kernel_rfl) (by kernel_rfl) (fun _ _ _ h=>h) (Or.inl ⟨by rfl,?_⟩) (by assumption) ?_
   rotate_left
   ·intro w' hS;go_simp;try (with_reducible rfl)
   try simp only[Act.put,List.getElem_toArray,List.getElem_cons_zero,List.getElem_cons_succ,List.setIfInBounds_toArray,List.set_cons_zero,List.set_cons_succ]
   refine wpAnyH_take (i:=5) (v:=?_) rfl (by kernel_rfl) (by kernel_rfl) (by kernel_rfl) (fun _ _ _ h=>h) (Or.inl ⟨by rfl,?_⟩) (by assumption) ?_
   rotate_left
   ·intro w' hS;go_simp;try (with_reducible rfl)
   try simp only[Act.put,List.getElem_toArray,List.getElem_cons_zero,List.getElem_cons_succ,List.setIfInBounds_toArray,List.set_cons_zero,List.set_cons_succ]
   refine wpAnyH_ready (rs:=[6]) (by kernel_rfl) (by simp) ?_
   refine AllReadyH.cons rfl (fun K hK=>?_) AllReadyH.nil
   go_simp
   go_at_call 24
   refine (CO.out _ (HG.out.later hb0_) (HP.out.later hb0_) (HT.out.later hb0_)).mono ?_
   rintro e u1 ⟨⟨v,rfl,_⟩,h1⟩
   have bu1:=Below.go hb0_ h1
   clear h1
   refine hK.out _ _ bu1 (fun _=>?_)
   clear hK K
   try simp only[Act.put,List.getElem_toArray,List.getElem_cons_zero,List.getElem_cons_succ,List.setIfInBounds_toArray,List.set_cons_zero,List.set_cons_succ]
   refine wpAnyH_take (i:=7) (v:=?_) rfl (by kernel_rfl) (by kernel_rfl) (by kernel_rfl) (fun _ _ _ h=>h) (Or.inl ⟨by rfl,?_⟩) (by assumption) ?_
   rotate_left
   ·intro w' hS;go_simp;try (with_reducible rfl)
   try simp only[Act.put,List.getElem_toArray,List.getElem_cons_zero,List.getElem_cons_succ,List.setIfInBounds_toArray,List.set_cons_zero,List.set_cons_succ]
   refine wpAnyH_take (i:=8) (v:=?_) rfl (by kernel_rfl) (by kernel_rfl) (by kernel_rfl) (fun _ _ _ h=>h) (Or.inl ⟨by rfl,?_⟩) (by assumption) ?_
   rotate_left
   ·intro w' hS;go_simp;try (with_reducible rfl)
   try simp only[Act.put,List.getElem_toArray,List.getElem_cons_zero,List.getElem_cons_succ,List.setIfInBounds_toArray,List.set_cons_zero,List.set_cons_succ]
   refine wpAnyH_take (i:=9) (v:=?_) rfl (by kernel_rfl) (by kernel_rfl) (by kernel_rfl) (fun _ _ _ h=>h) (Or.inl ⟨by rfl,?_⟩) (by assumption) ?_
   rotate_left
   ·intro w' hS;go_simp;try (with_reducible rfl)
   try simp only[Act.put,List.getElem_toArray,List.getElem_cons_zero,List.getElem_cons_succ,List.setIfInBounds_toArray,List.set_cons_zero,List.set_cons_succ]
   refine wpAnyH_take (i:=10) (v:=?_) rfl (by kernel_rfl) (by kernel_rfl) (by kernel_rfl) (fun _ _ _ h=>h) (Or.inl ⟨by rfl,?_⟩) (by assumption) ?_
   rotate_left
   ·intro w' hS;go_simp;try (with_reducible rfl)
   try simp only[Act.put,List.getElem_toArray,List.getElem_cons_zero,List.getElem_cons_succ,List.setIfInBounds_toArray,List.set_cons_zero,List.set_cons_succ]
   refine wpAnyH_take (i:=11) (v:=?_) rfl (by kernel_rfl) (by kernel_rfl) (by kernel_rfl) (fun _ _ _ h=>h) (Or.inl ⟨by rfl,?_⟩) (by assumption) ?_
   rotate_left
   ·intro w' hS;go_simp;try (with_reducible rfl)
   try simp only[Act.put,List.getElem_toArray,List.getElem_cons_zero,List.getElem_cons_succ,List.setIfInBounds_toArray,List.set_cons_zero,List.set_cons_succ]
   refine wpAnyH_done (by kernel_rfl) ?_ _
   replace HR:=Lib.hid (HR.out.later bu1)
   replace Hg:=Lib.hid (Hg.out.later bu1)
   replace HQ:=Lib.hid (HQ.out.later bu1)
   replace B:=Lib.hid (Below.go B.out bu1)
   clear HY HG HK HP HT CO bu1
   have HM:=Lib.hid (has_drop HQ.out (show 12+35≤N by have:=HN.out;omega))
   by_cases hE:gdecE (fun j=>F (12+j)) 35=0
   ·have PE:peekE kf F=0:=by unfold peekE;rw[if_neg (by rw[ez];decide),if_neg (by rw[ez2];decide),hE]
    have PM:peekM kf F=decM (fun j=>F (12+j)):=by unfold peekM;rw[if_pos PE]
    go_wp2_with (fail)
    go_at_call 39
    refine (Decode_yes (fun j=>F (12+j)) (some ⟨D,o+12,none⟩) 35 35 rfl (fun j hj=>FF.out _ (by have:=HN.out;omega)) _ Hg.out (.inr ⟨D,o+12,rfl,HM.out⟩) hE).mono ?_
    rintro e w6 ⟨rfl,hb⟩
    replace HR:=Lib.hid (HR.out.later hb)
    replace B:=Lib.hid (Below.go B.out hb)
    clear hb
    go_wp2_with (refine wpList_store_mid rfl 27 _ _ rfl R 0 (cM (decM fun j=>F (12+j))).toArray rfl rfl HR.out.free (by kernel_rfl) (cM_one _) ?_)
    have hL:=run_loadVar_mid (P:=Tryz.prog) _ R 0 27 (cM (decM fun j=>F (12+j))) _ (Own.store (vs:=cM (decM fun j=>F (12+j))) HR.out rfl).cell Tryz.underlying27 rfl (by kernel_rfl)
    exact bodyPost_ret (v := .tuple #[.agg (cM (decM fun j=>F (12+j))).toArray,.int .i64 0]) (gres_two Tryz.results16 rfl hL rfl) rfl ⟨by rw[PM,PE],Below.setCells B.out RW.out _ _⟩
   ·have PE:peekE kf F=gdecE (fun j=>F (12+j)) 35:=by unfold peekE;rw[if_neg (by rw[ez];decide),if_neg (by rw[ez2];decide)]
    have PM:peekM kf F=nilMn:=by unfold peekM;rw[if_neg (by rw[PE];exact hE)]
    go_wp2_with (fail)
    go_at_call 39
    refine (Decode_no (fun j=>F (12+j)) (some ⟨D,o+12,none⟩) 35 35 (fun j hj=>FF.out _ (by have:=HN.out;omega)) (by decide) _ Hg.out (.inr ⟨D,o+12,rfl,HM.out⟩) hE).mono ?_
    rintro e w6 ⟨rfl,hb⟩
    replace HR:=Lib.hid (HR.out.later hb)
    replace B:=Lib.hid (Below.go B.out hb)
    clear hb
    go_wp2_with (refine wpList_store_mid rfl 27 _ _ rfl R 0 (cM nilMn).toArray rfl rfl HR.out.free (by kernel_rfl) (cM_one _) ?_)
    have hL:=run_loadVar_mid (P:=Tryz.prog) _ R 0 27 (cM nilMn) _ (Own.store (vs:=cM nilMn) HR.out rfl).cell Tryz.underlying27 rfl (by kernel_rfl)
    exact bodyPost_ret (v := .tuple #[.agg (cM nilMn).toArray,.int .i64 (gdecE (fun j=>F (12+j)) 35)]) (gres_two Tryz.results16 rfl hL rfl) rfl ⟨by rw[PM,PE],Below.setCells B.out RW.out _ _⟩
end Go.Proofs.YtbilamnnneddmaaGreatDoor
namespace Go.Proofs.YtbilamnnneddmaaGreatDoor
set_option linter.unusedVariables false
set_option maxRecDepth 2000
set_option linter.unusedSimpArgs false
open Go.RowKit
theorem fillF_congr {f f':Nat→Int} {n:Nat} (h:∀ j,j<n→f j=f' j):fillF f n=fillF f' n:=funext fun j=>by
 unfold fillF
 split
 ·exact h j (by assumption)
 ·rfl
theorem macF_congr {kf nf f f' g g':Nat→Int} {n m:Nat} (hf:∀ j,j<n→f j=f' j) (hg:∀ j,j<m→g j=g' j):macF kf nf f n g m=macF kf nf f' n g' m:=by
 have:layF f n g m=layF f' n g' m:=funext fun j=>by unfold layF;rw[fillF_congr hf,fillF_congr hg]
 unfold macF macN
 rw[this]
theorem nonF_congr {b b':Nat→Int} (h:∀ j,j<8→b j=b' j) (z:Int):nonF b z=nonF b' z:=funext fun j=>by
 unfold nonF outF
 split
 ·exact h j (by assumption)
 ·rfl
theorem nenc_congr {kf nf g g':Nat→Int} {j:Nat} (h:g j=g' j):nencF kf nf g j=nencF kf nf g' j:=by unfold nencF;rw[h]
section
variable {kf b mF P:Nat→Int} {L:Nat}
theorem bun_base:∀ j,j<8→basF (bunF kf b mF P L) j=b j:=fun j hj=>by
 unfold basF
 rw[bun_top _ _ _ _ _ (by omega)]
 unfold topF headF
 rw[if_pos (by omega),if_neg (by omega),if_pos (by omega),show 4+j - 4=j by omega]
theorem bun_non (z:Int):nonF (basF (bunF kf b mF P L)) z=nonF b z:=nonF_congr bun_base z
theorem bun_head:∀ j,j<47→bunF kf b mF P L j=headF b mF j:=fun j hj=>by
 rw[bun_top _ _ _ _ _ (by omega)]
 unfold topF
 rw[if_pos hj]
theorem bun_tag:∀ j,j<16→ttF (bunF kf b mF P L) j=tagB kf b mF j:=fun j hj=>by
 unfold ttF
 rw[bun_top _ _ _ _ _ (by omega)]
 unfold topF
 rw[if_neg (by omega),show 47+j - 47=j by omega]
theorem bun_man:∀ j,j<35→bunF kf b mF P L (12+j)=mF j:=fun j hj=>by
 rw[bun_head _ (by omega)]
 unfold headF
 rw[if_neg (by omega),if_neg (by omega),show 12+j - 12=j by omega]
theorem bun_mark:gqB (bunF kf b mF P L) markF 4=true:=decide_eq_true fun j hj=>by
 rw[bun_head _ (by omega)]
 unfold headF
 rw[if_pos hj]
theorem bun_peek:peekE kf (bunF kf b mF P L)=gdecE (fun j=>bunF kf b mF P L (12+j)) 35:=by
 unfold peekE
 rw[if_neg (by rw[bun_mark];decide),if_neg]
 rw[show eqB (fun j=>bunF kf b mF P L (47+(0+j))) (macF kf (nonF (fun j=>bunF kf b mF P L (4+j)) 0) (bunF kf b mF P L) 47 (fun j=>bunF kf b mF P L (47+j)) 0) 16=true from ?_]
 ·decide
 ·refine eqB_congr fun j hj=>?_
  rw[show 0+j=j by omega,show bunF kf b mF P L (47+j)=tagB kf b mF j from bun_tag j hj,show nonF (fun j=>bunF kf b mF P L (4+j)) 0=nonF b 0 from bun_non 0]
  unfold tagB
  rw[macF_congr (f:=bunF kf b mF P L) (f':=headF b mF) (g':=nencF kf (nonF b 0) fun _=>0) bun_head fun j hj=>absurd hj (Nat.not_lt_zero j)]
theorem bun_chkC {i r:Nat} (hr:r<272):chkC (bunF kf b mF P L) i r=sealF kf (nonF b (i+1)) (addF (tagB kf b mF) i (chL L i)) 20 (fun r=>P (256*i+r)) (chL L i) r:=by
 unfold chkC
 rw[bun_chu _ _ _ _ _ _ (by omega)]
 unfold chuF
 rw[if_neg (by omega),show 4+r - 4=r by omega]
theorem bun_enc {i r:Nat} (hr:r<chL L i):chkC (bunF kf b mF P L) i r=nencF kf (nonF b (i+1)) (fun r=>P (256*i+r)) r:=by
 rw[bun_chkC (by unfold chL at hr;omega)]
 unfold sealF
 rw[if_pos hr]
theorem bun_tagC (i:Nat):tagC kf (bunF kf b mF P L) L i=true:=eqB_congr fun j hj=>by
 have hc:chL L i≤256:=by unfold chL;omega
 rw[bun_chkC (by omega),bun_non]
 unfold sealF
 rw[if_neg (by omega),show chL L i+j - chL L i=j by omega]
 refine congrFun (macF_congr (fun r hr=>?_) (fun r hr=>?_)) j
 ·unfold addF
  split
  ·rfl
  ·exact (bun_tag _ (by omega)).symm
 ·exact (bun_enc hr).symm
theorem bun_fro (i:Nat):gqB (fun j=>bunF kf b mF P L (63+276*i+j)) (froF i (chL L i)) 4=true:=decide_eq_true fun j hj=>by
 show bunF kf b mF P L (63+276*i+j)=_
 rw[bun_chu _ _ _ _ _ _ (by omega)]
 unfold chuF
 rw[if_pos hj]
theorem bun_chE {N i:Nat} (hi:i<chN L) (hN:bunA L (i+1)≤N):chE kf (bunF kf b mF P L) N L i=0:=by
 have:=bunA_succ hi
 unfold chE
 rw[if_neg (by omega),if_neg (by rw[bun_fro];decide),if_neg (by omega),if_neg (by rw[bun_tagC];decide)]
theorem bunA_mono {L i j:Nat} (h:i≤j):bunA L i≤bunA L j:=by unfold bunA;omega
theorem bun_opc {N:Nat} (hN:bunL L≤N):opcE kf (bunF kf b mF P L) N L=if bunL L<N then 7 else 0:=by
 unfold opcE
 have:firE (chE kf (bunF kf b mF P L) N L) (chN L)=0:=firE_zero.2 fun i hi=>bun_chE hi (Nat.le_trans (bunA_mono hi) hN)
 rw[if_neg (by rw[this];decide)]
theorem bun_pla (hP:∀ j,j<L→inB (P j)):∀ j,j<L→plaF kf (bunF kf b mF P L) j=P j:=fun j hj=>by
 unfold plaF
 have hn:j%256<chL L (j/256):=by unfold chL;omega
 rw[nenc_congr (bun_enc hn),bun_non,nenc_back (m:=chL L (j/256)) (fun r hr=>hP _ (by unfold chL at hr;omega)) _ hn]
 congr 1
 omega
theorem bun_cut {N:Nat} (hN:N<bunL L) (hN2:63≤N):opcE kf (bunF kf b mF P L) N L≠0:=by
 unfold opcE
 by_cases h:firE (chE kf (bunF kf b mF P L) N L) (chN L)=0
 ·exfalso
  have h0:0<chN L:=by
   rcases Nat.eq_zero_or_pos (chN L) with e | e
   ·exfalso
    unfold bunL at hN
    rw[e] at hN
    unfold bunA at hN
    omega
   ·exact e
  have h1:=(firE_zero.1 h) (chN L - 1) (by omega)
  have h2:=bunA_succ (L:=L) (i:=chN L - 1) (by omega)
  rw[show chN L - 1+1=chN L by omega] at h2
  unfold bunL at hN
  unfold chE at h1
  by_cases g1:N<63+276*(chN L - 1)+4
  ·rw[if_pos g1] at h1;exact absurd h1 (by decide)
  ·rw[if_neg g1,if_neg (by rw[bun_fro];decide),if_pos (by omega)] at h1
   exact absurd h1 (by decide)
 ·rw[if_pos h];exact h
end
end Go.Proofs.YtbilamnnneddmaaGreatDoor
