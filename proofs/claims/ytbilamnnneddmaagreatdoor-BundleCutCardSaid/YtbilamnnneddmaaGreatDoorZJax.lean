import Derived.Test.YtbilamnnneddmaaGreatDoorZTXAx
import Derived.Test.YtbilamnnneddmaaGreatDoorZMS2
import Derived.Lib.Hide
import Derived.LoopN
import Derived.LoopTactic
import Derived.Deep.Onto
import Derived.Deep.RegionHeld3
import Derived.Deep.QuietTactic
import Derived.BigQuiet
import Derived.Great.BuildSlice
import Derived.StillTailTactics
import Derived.Lib.SliceRun
import Derived.Test.YtbilamnnneddmaaGreatDoorZDOx
namespace Go.Proofs.YtbilamnnneddmaaGreatDoor
set_option linter.unusedVariables false
set_option maxRecDepth 2000
set_option linter.unusedSimpArgs false
open Go.RowKit
theorem pw_le4 {W:Nat} (h:W≤4):pw W≤4294967296:=by
 have v:=pw_vals
 match W,h with
 | 0,_=>rw[pw_zero];decide
 | 1,_=>omega
 | 2,_=>omega
 | 3,_=>omega
 | 4,_=>omega
theorem Rd.but {w w':World} {K D:Nat} {F:Nat→Int} {N at_:Nat} {er:Int} {P:Nat} (h:Rd w K D F N at_ er) (hb:But P w w') (hK:K≠P) (hD:D≠P):Rd w' K D F N at_ er:=by
 obtain⟨p,c,h1,h2,h3,h4⟩:=h.ex
 refine⟨p,c,h1.but hb hK,?_,h3,h4⟩
 rcases h2 with h0 | ⟨o,e,h5,h6⟩
 ·exact .inl h0
 ·exact .inr ⟨o,e,h5,h6.but hb hD⟩
set_option maxHeartbeats 4000000 in
theorem color_any {K D N t:Nat} {F:Nat→Int} {w:World} (W:Nat) (h1:1≤W) (h4:W≤4) (hF:∀ j,j<N→inB (F j)) (h:Rd w K D F N (t) (erN N (t))) (hD:D=K∨D<w.heap.size) :
  Calls Tryz.prog 144 #[.pointer (some ⟨K,0,none⟩),.int .i64 (W:Int)] w fun e w'=>e = .returned (.agg #[.int .i64 (valN F N t W),.int .i64 (valN F N (t+W) W),.int .i64 (valN F N (t+W+W) W)])∧Rd w' K D F N (t+W+W+W) (erN N (t+W+W+W))∧But K w w':=by
 have Sl:=h.lt
 have HR0:=Lib.hid h
 have C0:=Lib.hid (fun w h=>Num_next (K:=K) (D:=D) (N:=N) (t:=t) (F:=F) (w:=w) W (t+W) (W:Int) rfl rfl h1 (by omega) hF h)
 have C1:=Lib.hid (fun w h=>Num_next (K:=K) (D:=D) (N:=N) (t:=t+W) (F:=F) (w:=w) W (t+W+W) (W:Int) rfl rfl h1 (by omega) hF h)
 have C2:=Lib.hid (fun w h=>Num_next (K:=K) (D:=D) (N:=N) (t:=t+W+W) (F:=F) (w:=w) W (t+W+W+W) (W:Int) rfl rfl h1 (by omega) hF h)
 have w0:IntKind.i64.wrap (valN F N t W)=valN F N t W:=IntWalk.i64_in _ (by
  have a:=in_valN hF (t) W
  have b:=pw_le4 h4
  omega)
 have w1:IntKind.i64.wrap (valN F N (t+W) W)=valN F N (t+W) W:=IntWalk.i64_in _ (by
  have a:=in_valN hF (t+W) W
  have b:=pw_le4 h4
  omega)
 have w2:IntKind.i64.wrap (valN F N (t+W+W) W)=valN F N (t+W+W) W:=IntWalk.i64_in _ (by
  have a:=in_valN hF (t+W+W) W
  have b:=pw_le4 h4
  omega)
 clear h hF
 generalize valN F N t W=x at *
 generalize valN F N (t+W) W=y at *
 generalize valN F N (t+W+W) W=z at *
 go_enter Tryz.func144,Tryz.ntmps144
 go_upto_region 1 with fail
 obtain⟨W0,hW⟩:∃ W0,W0=(w.alloc (.cells #[.int .i64 0,.int .i64 0,.int .i64 0] 37)):=⟨_,rfl⟩
 have hB0:Below w.heap.size w W0:=hW ▸ (Below.al (Below.refl _ _))
 have HP:Hid (Own w.heap.size ([.int .i64 0,.int .i64 0,.int .i64 0]) W0):=Lib.hid (hW ▸ (show Own w.heap.size ([.int .i64 0,.int .i64 0,.int .i64 0]) (w.alloc (.cells #[.int .i64 0,.int .i64 0,.int .i64 0] 37)) from Own.newAt (by simp)))
 rw[← hW]
 clear hW
 obtain⟨P,eP⟩:∃ X,X=w.heap.size:=⟨_,rfl⟩
 rw[← eP] at HP ⊢
 have Pw:w.heap.size≤P:=by omega
 clear eP
 have nPS:P≠K:=by omega
 have nDP:D≠P:=by omega
 have HR:=Lib.hid (HR0.out.later hB0)
 have HB:=Lib.hid (But.of hB0 Sl)
 clear HR0 hB0 hD
 go_wp2_with (fail)
 go_at_call 108
 refine (C0.out _ HR.out).mono ?_
 rintro e y1 ⟨rfl,k1,k2⟩
 have HP_:=Lib.hid (HP.out.but k2 nPS);have HB_:=Lib.hid (HB.out.trans k2);have HR_:=Lib.hid k1
 clear k1 k2 HP HB HR C0
 have HP:=HP_;have HB:=HB_;have HR:=HR_
 clear HP_ HB_ HR_
 go_wp2_with (fail)
 go_at_call 108
 refine (C1.out _ HR.out).mono ?_
 rintro e y2 ⟨rfl,k1,k2⟩
 have HP_:=Lib.hid (HP.out.but k2 nPS);have HB_:=Lib.hid (HB.out.trans k2);have HR_:=Lib.hid k1
 clear k1 k2 HP HB HR C1
 have HP:=HP_;have HB:=HB_;have HR:=HR_
 clear HP_ HB_ HR_
 go_wp2_with (fail)
 go_at_call 108
 refine (C2.out _ HR.out).mono ?_
 rintro e y3 ⟨rfl,k1,k2⟩
 have HP_:=Lib.hid (HP.out.but k2 nPS);have HB_:=Lib.hid (HB.out.trans k2);have HR_:=Lib.hid k1
 clear k1 k2 HP HB HR C2
 have HP:=HP_;have HB:=HB_;have HR:=HR_
 clear HP_ HB_ HR_
 have oP:=HP.out
 have P0:=oP.at 0 _ rfl
 have Pf0:=oP.ok 0 (by simp)
 have P1:=oP.at 1 _ rfl
 have Pf1:=oP.ok 1 (by simp)
 have P2:=oP.at 2 _ rfl
 have Pf2:=oP.ok 2 (by simp)
 have Pl:=oP.lt
 clear oP
 go_wp2_with (fail)
 change bodyPost _ _ _ _ _ (y3.setCells P 0 [.int .i64 x,.int .i64 y,.int .i64 z])
 have HP9:Own P [.int .i64 x,.int .i64 y,.int .i64 z] (y3.setCells P 0 [.int .i64 x,.int .i64 y,.int .i64 z]):=Own.store HP.out rfl
 have HB9:But K w (y3.setCells P 0 [.int .i64 x,.int .i64 y,.int .i64 z]):=HB.out.news Pw Sl
 have hbm:But P y3 (y3.setCells P 0 [.int .i64 x,.int .i64 y,.int .i64 z]):=But.store
 have HR9:=HR.out.but hbm (Ne.symm nPS) nDP
 have hL:=run_loadVar_mid (P:=Tryz.prog) _ P 0 37 [.int .i64 x,.int .i64 y,.int .i64 z] _ HP9.cell Tryz.underlying37 rfl (by kernel_rfl)
 exact bodyPost_ret (v := .agg ([.int .i64 x,.int .i64 y,.int .i64 z]:List Value).toArray) (res_cell Tryz.results144 rfl hL) rfl ⟨rfl,HR9,HB9⟩
set_option maxHeartbeats 4000000 in
theorem point_any {K D N t:Nat} {F:Nat→Int} {w:World} (hF:∀ j,j<N→inB (F j)) (h:Rd w K D F N (t) (erN N (t))) (hD:D=K∨D<w.heap.size) :
  Calls Tryz.prog 145 #[.pointer (some ⟨K,0,none⟩)] w fun e w'=>e = .returned (.agg #[.int .i64 (sgnN F N t),.int .i64 (sgnN F N (t+2)),.int .i64 (sgnN F N (t+4))])∧Rd w' K D F N (t+6) (erN N (t+6))∧But K w w':=by
 have Sl:=h.lt
 have HR0:=Lib.hid h
 have C0:=Lib.hid (fun w h=>Int_next (K:=K) (D:=D) (N:=N) (t:=t) (F:=F) (w:=w) (t+2) rfl hF h)
 have C1:=Lib.hid (fun w h=>Int_next (K:=K) (D:=D) (N:=N) (t:=t+2) (F:=F) (w:=w) (t+4) rfl hF h)
 have C2:=Lib.hid (fun w h=>Int_next (K:=K) (D:=D) (N:=N) (t:=t+4) (F:=F) (w:=w) (t+6) rfl hF h)
 clear h hF
 generalize sgnN F N t=x at *
 generalize sgnN F N (t+2)=y at *
 generalize sgnN F N (t+4)=z at *
 go_enter Tryz.func145,Tryz.ntmps145
 go_upto_region 1 with fail
 obtain⟨W0,hW⟩:∃ W0,W0=(w.alloc (.cells #[.int .i64 0,.int .i64 0,.int .i64 0] 41)):=⟨_,rfl⟩
 have hB0:Below w.heap.size w W0:=hW ▸ (Below.al (Below.refl _ _))
 have HP:Hid (Own w.heap.size ([.int .i64 0,.int .i64 0,.int .i64 0]) W0):=Lib.hid (hW ▸ (show Own w.heap.size ([.int .i64 0,.int .i64 0,.int .i64 0]) (w.alloc (.cells #[.int .i64 0,.int .i64 0,.int .i64 0] 41)) from Own.newAt (by simp)))
 rw[← hW]
 clear hW
 obtain⟨P,eP⟩:∃ X,X=w.heap.size:=⟨_,rfl⟩
 rw[← eP] at HP ⊢
 have Pw:w.heap.size≤P:=by omega
 clear eP
 have nPS:P≠K:=by omega
 have nDP:D≠P:=by omega
 have HR:=Lib.hid (HR0.out.later hB0)
 have HB:=Lib.hid (But.of hB0 Sl)
 clear HR0 hB0 hD
 go_wp2_with (fail)
 go_at_call 167
 refine (C0.out _ HR.out).mono ?_
 rintro e y1 ⟨rfl,k1,k2⟩
 have HP_:=Lib.hid (HP.out.but k2 nPS);have HB_:=Lib.hid (HB.out.trans k2);have HR_:=Lib.hid k1
 clear k1 k2 HP HB HR C0
 have HP:=HP_;have HB:=HB_;have HR:=HR_
 clear HP_ HB_ HR_
 go_wp2_with (fail)
 go_at_call 167
 refine (C1.out _ HR.out).mono ?_
 rintro e y2 ⟨rfl,k1,k2⟩
 have HP_:=Lib.hid (HP.out.but k2 nPS);have HB_:=Lib.hid (HB.out.trans k2);have HR_:=Lib.hid k1
 clear k1 k2 HP HB HR C1
 have HP:=HP_;have HB:=HB_;have HR:=HR_
 clear HP_ HB_ HR_
 go_wp2_with (fail)
 go_at_call 167
 refine (C2.out _ HR.out).mono ?_
 rintro e y3 ⟨rfl,k1,k2⟩
 have HP_:=Lib.hid (HP.out.but k2 nPS);have HB_:=Lib.hid (HB.out.trans k2);have HR_:=Lib.hid k1
 clear k1 k2 HP HB HR C2
 have HP:=HP_;have HB:=HB_;have HR:=HR_
 clear HP_ HB_ HR_
 have oP:=HP.out
 have P0:=oP.at 0 _ rfl
 have Pf0:=oP.ok 0 (by simp)
 have P1:=oP.at 1 _ rfl
 have Pf1:=oP.ok 1 (by simp)
 have P2:=oP.at 2 _ rfl
 have Pf2:=oP.ok 2 (by simp)
 have Pl:=oP.lt
 clear oP
 go_wp2_with (fail)
 change bodyPost _ _ _ _ _ (y3.setCells P 0 [.int .i64 x,.int .i64 y,.int .i64 z])
 have HP9:Own P [.int .i64 x,.int .i64 y,.int .i64 z] (y3.setCells P 0 [.int .i64 x,.int .i64 y,.int .i64 z]):=Own.store HP.out rfl
 have HB9:But K w (y3.setCells P 0 [.int .i64 x,.int .i64 y,.int .i64 z]):=HB.out.news Pw Sl
 have hbm:But P y3 (y3.setCells P 0 [.int .i64 x,.int .i64 y,.int .i64 z]):=But.store
 have HR9:=HR.out.but hbm (Ne.symm nPS) nDP
 have hL:=run_loadVar_mid (P:=Tryz.prog) _ P 0 41 [.int .i64 x,.int .i64 y,.int .i64 z] _ HP9.cell Tryz.underlying41 rfl (by kernel_rfl)
 exact bodyPost_ret (v := .agg ([.int .i64 x,.int .i64 y,.int .i64 z]:List Value).toArray) (res_cell Tryz.results145 rfl hL) rfl ⟨rfl,HR9,HB9⟩
end Go.Proofs.YtbilamnnneddmaaGreatDoor
namespace Go.Proofs.YtbilamnnneddmaaGreatDoor
set_option linter.unusedVariables false
set_option maxRecDepth 2000
set_option linter.unusedSimpArgs false
open Go.RowKit
attribute [local go_sem ↓] eqlMat eqlLgt
def nilX:Txr:=⟨0,none,0,0,fun _=>0⟩
theorem nilX_at (w:World):TxAt nilX w:=⟨.inl rfl,Nat.le_refl _,by decide⟩
def kinA (k:Int):Ast:=⟨k,nilM,nilX,fun _=>0,fun _=>0⟩
theorem kinA_at (k:Int) (w:World):AstAt (kinA k) w:=⟨nilM_at w,nilX_at w⟩
theorem cA_one (A:Ast):(cA A).toArray.all (·.oneCell')=true:=by simp[cA,Value.oneCell']
end Go.Proofs.YtbilamnnneddmaaGreatDoor
namespace Go.Proofs.YtbilamnnneddmaaGreatDoor
set_option linter.unusedVariables false
set_option maxRecDepth 2000
set_option linter.unusedSimpArgs false
open Go.RowKit
theorem Put_okW (q p:Option Addr) (m c n c2 W N:Nat) (f g:Nat→Int) (eN:m+W*n=N) (h1:1≤W) (h8:W≤8) (hg:∀ k,k<n→0≤g k∧g k≤4294967295) (hf:∀ k,k<n→fitU W (g k)=true) (hmc:m≤c) (hc:c≤9223372036854775807) (hnc:n≤c2) (hc2:c2≤9223372036854775807) (hm:m≤100000) (hn:n≤1000) (w:World) (hq:Byt w q m f) (hp:Nm w .u64 p n g) :
  Calls Tryz.prog 36 #[.slice q m c,.int .i64 (W:Int),.slice p n c2] w fun e w'=>(∃ v,e = .returned (.tuple #[v,.int .i64 0])∧RowR w' v N (outF f m W g))∧Below w.heap.size w w':=by
 refine (Put_any q p m c n c2 (W:Int) f g (fun k hk=>by have:=hg k hk;omega) hmc hc hnc hc2 (by omega) w hq hp).mono ?_
 rintro e w' ⟨v,he,hr,hb⟩
 rw[putE_ok h1 h8 hf] at he hr
 rw[putL_ok,Int.toNat_natCast,eN] at hr
 exact⟨⟨v,he,RowR.of hr⟩,hb⟩
theorem fit_4 {x:Int} (h:x<4294967296):fitU 4 x=true:=decide_eq_true (by have:=pw_vals.2.2.2.1;omega)
def encG1 (g:Nat→Int):Nat→Int:=outF (fun _=>0) 0 1 g
def encG2 (g:Nat→Int):Nat→Int:=outF (encG1 g) 1 2 (fun i=>g (1+i))
def encG (g:Nat→Int):Nat→Int:=outF (encG2 g) 7 2 (fun i=>g (4+i))
def encT2 (l:Nat→Int):Nat→Int:=outF (encG1 l) 1 4 (fun i=>l (1+i))
def encLg (l:Nat→Int):Nat→Int:=outF (encT2 l) 13 2 (fun i=>l (4+i))
set_option maxHeartbeats 2000000 in
theorem unsigned_any (a b c:Int) (ha:0≤a∧a≤4294967295) (hb:0≤b∧b≤4294967295) (hc:0≤c∧c≤4294967295) (w:World):Calls Tryz.prog 125 #[.agg #[.int .i64 a,.int .i64 b,.int .i64 c]] w fun e w'=>(∃ p,e = .returned (.slice p 3 3)∧Nm w' .u64 p 3 (vec3 a b c))∧Below w.heap.size w w':=by
 have r1:IntKind.u64.wrap a=a:=IntWalk.u64_in _ (by omega)
 have r2:IntKind.u64.wrap b=b:=IntWalk.u64_in _ (by omega)
 have r3:IntKind.u64.wrap c=c:=IntWalk.u64_in _ (by omega)
 clear ha hb hc
 go_enter Tryz.func125,Tryz.ntmps125
 go_upto_region 1 with fail
 obtain⟨W0,hW⟩:∃ W0,W0=(w.alloc (.cells #[.int .i64 a,.int .i64 b,.int .i64 c] 37)):=⟨_,rfl⟩
 have hB0:Below w.heap.size w W0:=hW ▸ (Below.al (Below.refl _ _))
 have HA:Hid (Own w.heap.size ([.int .i64 a,.int .i64 b,.int .i64 c]) W0):=Lib.hid (hW ▸ (show Own w.heap.size ([.int .i64 a,.int .i64 b,.int .i64 c]) (w.alloc (.cells #[.int .i64 a,.int .i64 b,.int .i64 c] 37)) from Own.newAt (by simp)))
 rw[← hW]
 clear hW
 obtain⟨A,eA⟩:∃ X,X=w.heap.size:=⟨_,rfl⟩
 rw[← eA] at HA ⊢
 have Aw:w.heap.size≤A:=by omega
 clear eA
 have HB:=Lib.hid hB0
 clear hB0
 have oA:=HA.out
 have A0:=oA.at 0 _ rfl
 have A1:=oA.at 1 _ rfl
 have A2:=oA.at 2 _ rfl
 have Al:=oA.lt
 clear oA
 go_wp2_with (fail)
 go_ret
 exact⟨⟨_,rfl,nm_new rfl⟩,Below.al HB.out⟩
set_option maxHeartbeats 8000000 in
theorem encMat_any (g:Nat→Int) (w:World):Calls Tryz.prog 87 #[(.agg #[.int .i64 (g 0),.int .i64 (g 1),.int .i64 (g 2),.int .i64 (g 3),.int .i64 (g 4)])] w fun e w'=>(∃ v,e = .returned (.tuple #[v,.int .i64 (chkG g)])∧RowR w' v (encL (chkG g) 9) (encG g))∧Below w.heap.size w w':=by
 have CK:=Lib.hid (Material_any g)
 by_cases hz:chkG g=0
 ·have OK:=okG_iff.1 (chkG_zero hz)
  rw[hz] at CK ⊢
  rw[show encL 0 9=9 from rfl]
  have r0:IntKind.u64.wrap (g 0)=g 0:=IntWalk.u64_in _ (by omega)
  have r4:IntKind.u64.wrap (g 4)=g 4:=IntWalk.u64_in _ (by omega)
  have C1:=Lib.hid (fun p w hp=>Put_okW none p 0 0 1 1 1 1 (fun _=>0) (fun _=>g 0) rfl (by decide) (by decide) (fun k hk=>by omega) (fun k hk=>fit_1 (by omega)) (by decide) (by decide) (by decide) (by decide) (by decide) (by decide) w (.inl rfl) hp)
  have CU:=Lib.hid (unsigned_any (g 1) (g 2) (g 3) (by omega) (by omega) (by omega))
  have C2:=Lib.hid (fun q c hc1 hc2 p w hq hp=>Put_okW q p 1 c 3 3 2 7 (encG1 g) (vec3 (g 1) (g 2) (g 3)) rfl (by decide) (by decide) (fun k hk=>by
   match k,hk with
   | 0,_=>show 0≤g 1∧g 1≤_;omega
   | 1,_=>show 0≤g 2∧g 2≤_;omega
   | 2,_=>show 0≤g 3∧g 3≤_;omega) (fun k hk=>by
   match k,hk with
   | 0,_=>exact fit_2 (show g 1<_ by omega)
   | 1,_=>exact fit_2 (show g 2<_ by omega)
   | 2,_=>exact fit_2 (show g 3<_ by omega)) hc1 hc2 (by decide) (by decide) (by decide) (by decide) w hq hp)
  have C3:=Lib.hid (fun q c hc1 hc2 p w hq hp=>Put_okW q p 7 c 1 1 2 9 (encG2 g) (fun _=>g 4) rfl (by decide) (by decide) (fun k hk=>by omega) (fun k hk=>fit_2 (by omega)) hc1 hc2 (by decide) (by decide) (by decide) (by decide) w hq hp)
  have F1:Hid (∀ j,j<1→outF (fun _=>0) 0 1 (fun _=>g 0) j=encG1 g j):=Lib.hid (fun j hj=>outF_congr _ _ 0 1 1 _ _ (fun _ _=>rfl) (fun k i hk hi=>by rw[show k=0 by omega]) (by omega))
  have F2:Hid (∀ j,j<7→outF (encG1 g) 1 2 (vec3 (g 1) (g 2) (g 3)) j=encG2 g j):=Lib.hid (fun j hj=>outF_congr _ _ 1 2 3 _ _ (fun _ _=>rfl) (fun k i hk hi=>by
   match k,hk with
   | 0,_=>rfl
   | 1,_=>rfl
   | 2,_=>rfl) (by omega))
  have F3:Hid (∀ j,j<9→outF (encG2 g) 7 2 (fun _=>g 4) j=encG g j):=Lib.hid (fun j hj=>outF_congr _ _ 7 2 1 _ _ (fun _ _=>rfl) (fun k i hk hi=>by rw[show k=0 by omega]) (by omega))
  clear OK hz
  generalize encG1 g=E1 at *
  generalize encG2 g=E2 at *
  generalize encG g=E3 at *
  go_enter Tryz.func87,Tryz.ntmps87
  go_upto_region 1 with fail
  obtain⟨W0,hW⟩:∃ W0,W0=(w.alloc (.cells #[.int .i64 (g 0),.int .i64 (g 1),.int .i64 (g 2),.int .i64 (g 3),.int .i64 (g 4)] 39)):=⟨_,rfl⟩
  have hB0:Below w.heap.size w W0:=hW ▸ (Below.al (Below.refl _ _))
  have HA:Hid (Own w.heap.size ([.int .i64 (g 0),.int .i64 (g 1),.int .i64 (g 2),.int .i64 (g 3),.int .i64 (g 4)]) W0):=Lib.hid (hW ▸ (show Own w.heap.size ([.int .i64 (g 0),.int .i64 (g 1),.int .i64 (g 2),.int .i64 (g 3),.int .i64 (g 4)]) (w.alloc (.cells #[.int .i64 (g 0),.int .i64 (g 1),.int .i64 (g 2),.int .i64 (g 3),.int .i64 (g 4)] 39)) from Own.newAt (by simp)))
  rw[← hW]
  clear hW
  obtain⟨A,eA⟩:∃ X,X=w.heap.size:=⟨_,rfl⟩
  rw[← eA] at HA ⊢
  have Aw:w.heap.size≤A:=by omega
  clear eA
  have HB:=Lib.hid hB0
  clear hB0
  have oA:=HA.out
  have A0:=oA.at 0 _ rfl
  have A1:=oA.at 1 _ rfl
  have A2:=oA.at 2 _ rfl
  have A3:=oA.at 3 _ rfl
  have A4:=oA.at 4 _ rfl
  have Al:=oA.lt
  clear oA
  go_wp2_with (fail)
  clear A0 A1 A2 A3 A4 Al
  go_at_call 124
  refine (CK.out _).mono ?_
  rintro e w1 ⟨rfl,hb⟩
  have HA_:=Lib.hid (HA.out.later hb)
  clear HA
  have HA:=HA_
  clear HA_
  have HB_:=Lib.hid (Below.go HB.out hb)
  clear HB
  have HB:=HB_
  clear HB_
  clear hb CK
  have oA:=HA.out
  have A0:=oA.at 0 _ rfl
  have A1:=oA.at 1 _ rfl
  have A2:=oA.at 2 _ rfl
  have A3:=oA.at 3 _ rfl
  have A4:=oA.at 4 _ rfl
  have Al:=oA.lt
  clear oA
  go_wp2_with (fail)
  clear A0 A1 A2 A3 A4 Al
  go_at_call 36
  refine (C1.out _ _ (nm_new rfl)).mono ?_
  rintro e w2 ⟨⟨v,rfl,q1,c1,rfl,hc1,hc2,hy⟩,hb⟩
  have hbx:=Below.go (Below.al (Below.refl _ _)) hb
  clear hb
  have HA_:=Lib.hid (HA.out.later hbx)
  clear HA
  have HA:=HA_
  clear HA_
  have HB_:=Lib.hid (Below.go HB.out hbx)
  clear HB
  have HB:=HB_
  clear HB_
  clear hbx C1
  have BY1:=Lib.hid (byt_eq hy F1.out);have CC1:=Lib.hid (And.intro hc1 hc2)
  clear hy hc1 hc2 F1
  have oA:=HA.out
  have A0:=oA.at 0 _ rfl
  have A1:=oA.at 1 _ rfl
  have A2:=oA.at 2 _ rfl
  have A3:=oA.at 3 _ rfl
  have A4:=oA.at 4 _ rfl
  have Al:=oA.lt
  clear oA
  go_wp2_with (fail)
  clear A0 A1 A2 A3 A4 Al
  go_at_call 125
  refine (CU.out _).mono ?_
  rintro e w3 ⟨⟨p,rfl,hn⟩,hb⟩
  have HA_:=Lib.hid (HA.out.later hb)
  clear HA
  have HA:=HA_
  clear HA_
  have BY1_:=Lib.hid (BY1.out.later hb)
  clear BY1
  have BY1:=BY1_
  clear BY1_
  have HB_:=Lib.hid (Below.go HB.out hb)
  clear HB
  have HB:=HB_
  clear HB_
  clear hb CU
  have HN:=Lib.hid hn
  clear hn
  go_wp2_with (fail)
  go_at_call 36
  refine (C2.out _ _ CC1.out.1 CC1.out.2 _ _ BY1.out HN.out).mono ?_
  rintro e w4 ⟨⟨v,rfl,q2,c2,rfl,hc1,hc2,hy⟩,hb⟩
  have HA_:=Lib.hid (HA.out.later hb)
  clear HA
  have HA:=HA_
  clear HA_
  have HB_:=Lib.hid (Below.go HB.out hb)
  clear HB
  have HB:=HB_
  clear HB_
  clear hb C2 BY1 CC1 HN
  have BY2:=Lib.hid (byt_eq hy F2.out);have CC2:=Lib.hid (And.intro hc1 hc2)
  clear hy hc1 hc2 F2
  have oA:=HA.out
  have A0:=oA.at 0 _ rfl
  have A1:=oA.at 1 _ rfl
  have A2:=oA.at 2 _ rfl
  have A3:=oA.at 3 _ rfl
  have A4:=oA.at 4 _ rfl
  have Al:=oA.lt
  clear oA
  go_wp2_with (fail)
  clear A0 A1 A2 A3 A4 Al
  go_at_call 36
  refine (C3.out _ _ CC2.out.1 CC2.out.2 _ _ (BY2.out.later (Below.al (Below.refl _ _))) (nm_new rfl)).mono ?_
  rintro e w5 ⟨⟨v,rfl,q3,c3,rfl,hc1,hc2,hy⟩,hb⟩
  have hbx:=Below.go (Below.al (Below.refl _ _)) hb
  clear hb
  have HA_:=Lib.hid (HA.out.later hbx)
  clear HA
  have HA:=HA_
  clear HA_
  have HB_:=Lib.hid (Below.go HB.out hbx)
  clear HB
  have HB:=HB_
  clear HB_
  clear hbx C3 BY2 CC2
  have hy3:=byt_eq hy F3.out
  go_wp2_with (fail)
  exact bodyPost_ret (v := .tuple #[.slice q3 9 c3,.int .i64 0]) (by simp[results,Tryz.results87,go_sem]) rfl ⟨⟨_,rfl,_,_,rfl,hc1,hc2,hy3⟩,HB.out⟩
 ·obtain⟨z,ez⟩:∃ z,chkG g=z:=⟨_,rfl⟩
  rw[ez] at CK hz ⊢
  have hd:(z != 0)=true:=by simpa using hz
  rw[show encL z 9=0 from if_neg hz]
  clear ez hz
  go_enter Tryz.func87,Tryz.ntmps87
  go_upto_region 1 with fail
  obtain⟨W0,hW⟩:∃ W0,W0=(w.alloc (.cells #[.int .i64 (g 0),.int .i64 (g 1),.int .i64 (g 2),.int .i64 (g 3),.int .i64 (g 4)] 39)):=⟨_,rfl⟩
  have hB0:Below w.heap.size w W0:=hW ▸ (Below.al (Below.refl _ _))
  have HA:Hid (Own w.heap.size ([.int .i64 (g 0),.int .i64 (g 1),.int .i64 (g 2),.int .i64 (g 3),.int .i64 (g 4)]) W0):=Lib.hid (hW ▸ (show Own w.heap.size ([.int .i64 (g 0),.int .i64 (g 1),.int .i64 (g 2),.int .i64 (g 3),.int .i64 (g 4)]) (w.alloc (.cells #[.int .i64 (g 0),.int .i64 (g 1),.int .i64 (g 2),.int .i64 (g 3),.int .i64 (g 4)] 39)) from Own.newAt (by simp)))
  rw[← hW]
  clear hW
  obtain⟨A,eA⟩:∃ X,X=w.heap.size:=⟨_,rfl⟩
  rw[← eA] at HA ⊢
  have Aw:w.heap.size≤A:=by omega
  clear eA
  have HB:=Lib.hid hB0
  clear hB0
  have oA:=HA.out
  have A0:=oA.at 0 _ rfl
  have A1:=oA.at 1 _ rfl
  have A2:=oA.at 2 _ rfl
  have A3:=oA.at 3 _ rfl
  have A4:=oA.at 4 _ rfl
  have Al:=oA.lt
  clear oA
  go_wp2_with (fail)
  clear A0 A1 A2 A3 A4 Al
  go_at_call 124
  refine (CK.out _).mono ?_
  rintro e w1 ⟨rfl,hb⟩
  have HA_:=Lib.hid (HA.out.later hb)
  clear HA
  have HA:=HA_
  clear HA_
  have HB_:=Lib.hid (Below.go HB.out hb)
  clear HB
  have HB:=HB_
  clear HB_
  clear hb CK
  go_wp2_with (fail)
  exact bodyPost_ret (v := .tuple #[.slice none 0 0,.int .i64 z]) (by simp[results,Tryz.results87,go_sem]) rfl ⟨⟨_,rfl,none,0,rfl,Nat.le_refl _,by decide,.inl rfl⟩,HB.out⟩
set_option maxHeartbeats 8000000 in
theorem encLgt_any (l:Nat→Int) (w:World):Calls Tryz.prog 88 #[(.agg #[.int .i64 (l 0),.int .i64 (l 1),.int .i64 (l 2),.int .i64 (l 3),.int .i64 (l 4),.int .i64 (l 5),.int .i64 (l 6),.int .i64 (l 7),.int .i64 (l 8),.int .i64 (l 9),.int .i64 (l 10),.int .i64 (l 11),.int .i64 (l 12)])] w fun e w'=>(∃ v,e = .returned (.tuple #[v,.int .i64 (chkLg l)])∧RowR w' v (encL (chkLg l) 31) (encLg l))∧Below w.heap.size w w':=by
 have CK:=Lib.hid (Light_any l)
 by_cases hz:chkLg l=0
 ·have OK:=chkLg_zero hz
  rw[hz] at CK ⊢
  rw[show encL 0 31=31 from rfl]
  obtain⟨⟨o0,o1,o2,o3⟩,ob,-⟩:=OK
  unfold lgB on3 at ob
  have r0:IntKind.u64.wrap (l 0)=l 0:=IntWalk.u64_in _ (by omega)
  have C1:=Lib.hid (fun p w hp=>Put_okW none p 0 0 1 1 1 1 (fun _=>0) (fun _=>l 0) rfl (by decide) (by decide) (fun k hk=>by omega) (fun k hk=>fit_1 (by omega)) (by decide) (by decide) (by decide) (by decide) (by decide) (by decide) w (.inl rfl) hp)
  have CU:=Lib.hid (unsigned_any (l 1) (l 2) (l 3) (by omega) (by omega) (by omega))
  have C2:=Lib.hid (fun q c hc1 hc2 p w hq hp=>Put_okW q p 1 c 3 3 4 13 (encG1 l) (vec3 (l 1) (l 2) (l 3)) rfl (by decide) (by decide) (fun k hk=>by
   match k,hk with
   | 0,_=>show 0≤l 1∧l 1≤_;omega
   | 1,_=>show 0≤l 2∧l 2≤_;omega
   | 2,_=>show 0≤l 3∧l 3≤_;omega) (fun k hk=>by
   match k,hk with
   | 0,_=>exact fit_4 (show l 1<_ by omega)
   | 1,_=>exact fit_4 (show l 2<_ by omega)
   | 2,_=>exact fit_4 (show l 3<_ by omega)) hc1 hc2 (by decide) (by decide) (by decide) (by decide) w hq hp)
  have CO:=Lib.hid (fun q w hq=>coords_any q 3 3 (fun i=>l (4+i)) (by decide) (by decide) (by decide) w hq)
  have C3:=Lib.hid (fun q c hc1 hc2 p d h1 h2 w hq hp=>Signed_ok q p 13 c (3*3) d 31 (encT2 l) (fun i=>l (4+i)) rfl (fun k hk=>by
   match k,hk with
   | 0,_=>show _≤l 4∧l 4≤_;omega
   | 1,_=>show _≤l 5∧l 5≤_;omega
   | 2,_=>show _≤l 6∧l 6≤_;omega
   | 3,_=>show _≤l 7∧l 7≤_;omega
   | 4,_=>show _≤l 8∧l 8≤_;omega
   | 5,_=>show _≤l 9∧l 9≤_;omega
   | 6,_=>show _≤l 10∧l 10≤_;omega
   | 7,_=>show _≤l 11∧l 11≤_;omega
   | 8,_=>show _≤l 12∧l 12≤_;omega) hc1 hc2 h1 h2 (by decide) (by decide) w hq hp)
  have F1:Hid (∀ j,j<1→outF (fun _=>0) 0 1 (fun _=>l 0) j=encG1 l j):=Lib.hid (fun j hj=>outF_congr _ _ 0 1 1 _ _ (fun _ _=>rfl) (fun k i hk hi=>by rw[show k=0 by omega]) (by omega))
  have F2:Hid (∀ j,j<13→outF (encG1 l) 1 4 (vec3 (l 1) (l 2) (l 3)) j=encT2 l j):=Lib.hid (fun j hj=>outF_congr _ _ 1 4 3 _ _ (fun _ _=>rfl) (fun k i hk hi=>by
   match k,hk with
   | 0,_=>rfl
   | 1,_=>rfl
   | 2,_=>rfl) (by omega))
  have F3:Hid (outF (encT2 l) 13 2 (fun i=>l (4+i))=encLg l):=Lib.hid rfl
  rw[F3.out] at C3
  clear o0 o1 o2 o3 ob hz F3
  generalize encG1 l=E1 at *
  generalize encT2 l=E2 at *
  generalize encLg l=E3 at *
  go_enter Tryz.func88,Tryz.ntmps88
  go_upto_region 1 with fail
  obtain⟨W0,hW⟩:∃ W0,W0=(w.alloc (.cells #[.int .i64 (l 0),.int .i64 (l 1),.int .i64 (l 2),.int .i64 (l 3),.int .i64 (l 4),.int .i64 (l 5),.int .i64 (l 6),.int .i64 (l 7),.int .i64 (l 8),.int .i64 (l 9),.int .i64 (l 10),.int .i64 (l 11),.int .i64 (l 12)] 43)):=⟨_,rfl⟩
  have hB0:Below w.heap.size w W0:=hW ▸ (Below.al (Below.refl _ _))
  have HA:Hid (Own w.heap.size ([.int .i64 (l 0),.int .i64 (l 1),.int .i64 (l 2),.int .i64 (l 3),.int .i64 (l 4),.int .i64 (l 5),.int .i64 (l 6),.int .i64 (l 7),.int .i64 (l 8),.int .i64 (l 9),.int .i64 (l 10),.int .i64 (l 11),.int .i64 (l 12)]) W0):=Lib.hid (hW ▸ (show Own w.heap.size ([.int .i64 (l 0),.int .i64 (l 1),.int .i64 (l 2),.int .i64 (l 3),.int .i64 (l 4),.int .i64 (l 5),.int .i64 (l 6),.int .i64 (l 7),.int .i64 (l 8),.int .i64 (l 9),.int .i64 (l 10),.int .i64 (l 11),.int .i64 (l 12)]) (w.alloc (.cells #[.int .i64 (l 0),.int .i64 (l 1),.int .i64 (l 2),.int .i64 (l 3),.int .i64 (l 4),.int .i64 (l 5),.int .i64 (l 6),.int .i64 (l 7),.int .i64 (l 8),.int .i64 (l 9),.int .i64 (l 10),.int .i64 (l 11),.int .i64 (l 12)] 43)) from Own.newAt (by simp)))
  rw[← hW]
  clear hW
  obtain⟨A,eA⟩:∃ X,X=w.heap.size:=⟨_,rfl⟩
  rw[← eA] at HA ⊢
  have Aw:w.heap.size≤A:=by omega
  clear eA
  have HB:=Lib.hid hB0
  clear hB0
  have oA:=HA.out
  have A0:=oA.at 0 _ rfl
  have A1:=oA.at 1 _ rfl
  have A2:=oA.at 2 _ rfl
  have A3:=oA.at 3 _ rfl
  have A4:=oA.at 4 _ rfl
  have A5:=oA.at 5 _ rfl
  have A6:=oA.at 6 _ rfl
  have A7:=oA.at 7 _ rfl
  have A8:=oA.at 8 _ rfl
  have A9:=oA.at 9 _ rfl
  have A10:=oA.at 10 _ rfl
  have A11:=oA.at 11 _ rfl
  have A12:=oA.at 12 _ rfl
  have Al:=oA.lt
  clear oA
  go_wp2_with (fail)
  clear A0 A1 A2 A3 A4 A5 A6 A7 A8 A9 A10 A11 A12 Al
  go_at_call 126
  refine (CK.out _).mono ?_
  rintro e w1 ⟨rfl,hb⟩
  have HA_:=Lib.hid (HA.out.later hb)
  clear HA
  have HA:=HA_
  clear HA_
  have HB_:=Lib.hid (Below.go HB.out hb)
  clear HB
  have HB:=HB_
  clear HB_
  clear hb CK
  have oA:=HA.out
  have A0:=oA.at 0 _ rfl
  have A1:=oA.at 1 _ rfl
  have A2:=oA.at 2 _ rfl
  have A3:=oA.at 3 _ rfl
  have A4:=oA.at 4 _ rfl
  have A5:=oA.at 5 _ rfl
  have A6:=oA.at 6 _ rfl
  have A7:=oA.at 7 _ rfl
  have A8:=oA.at 8 _ rfl
  have A9:=oA.at 9 _ rfl
  have A10:=oA.at 10 _ rfl
  have A11:=oA.at 11 _ rfl
  have A12:=oA.at 12 _ rfl
  have Al:=oA.lt
  clear oA
  go_wp2_with (fail)
  clear A0 A1 A2 A3 A4 A5 A6 A7 A8 A9 A10 A11 A12 Al
  go_at_call 36
  refine (C1.out _ _ (nm_new rfl)).mono ?_
  rintro e w2 ⟨⟨v,rfl,q1,c1,rfl,hc1,hc2,hy⟩,hb⟩
  have hbx:=Below.go (Below.al (Below.refl _ _)) hb
  clear hb
  have HA_:=Lib.hid (HA.out.later hbx)
  clear HA
  have HA:=HA_
  clear HA_
  have HB_:=Lib.hid (Below.go HB.out hbx)
  clear HB
  have HB:=HB_
  clear HB_
  clear hbx C1
  have BY1:=Lib.hid (byt_eq hy F1.out);have CC1:=Lib.hid (And.intro hc1 hc2)
  clear hy hc1 hc2 F1
  have oA:=HA.out
  have A0:=oA.at 0 _ rfl
  have A1:=oA.at 1 _ rfl
  have A2:=oA.at 2 _ rfl
  have A3:=oA.at 3 _ rfl
  have A4:=oA.at 4 _ rfl
  have A5:=oA.at 5 _ rfl
  have A6:=oA.at 6 _ rfl
  have A7:=oA.at 7 _ rfl
  have A8:=oA.at 8 _ rfl
  have A9:=oA.at 9 _ rfl
  have A10:=oA.at 10 _ rfl
  have A11:=oA.at 11 _ rfl
  have A12:=oA.at 12 _ rfl
  have Al:=oA.lt
  clear oA
  go_wp2_with (fail)
  clear A0 A1 A2 A3 A4 A5 A6 A7 A8 A9 A10 A11 A12 Al
  go_at_call 125
  refine (CU.out _).mono ?_
  rintro e w3 ⟨⟨p,rfl,hn⟩,hb⟩
  have HA_:=Lib.hid (HA.out.later hb)
  clear HA
  have HA:=HA_
  clear HA_
  have BY1_:=Lib.hid (BY1.out.later hb)
  clear BY1
  have BY1:=BY1_
  clear BY1_
  have HB_:=Lib.hid (Below.go HB.out hb)
  clear HB
  have HB:=HB_
  clear HB_
  clear hb CU
  have HN:=Lib.hid hn
  clear hn
  go_wp2_with (fail)
  go_at_call 36
  refine (C2.out _ _ CC1.out.1 CC1.out.2 _ _ BY1.out HN.out).mono ?_
  rintro e w4 ⟨⟨v,rfl,q2,c2,rfl,hc1,hc2,hy⟩,hb⟩
  have HA_:=Lib.hid (HA.out.later hb)
  clear HA
  have HA:=HA_
  clear HA_
  have HB_:=Lib.hid (Below.go HB.out hb)
  clear HB
  have HB:=HB_
  clear HB_
  clear hb C2 BY1 CC1 HN
  have BY2:=Lib.hid (byt_eq hy F2.out);have CC2:=Lib.hid (And.intro hc1 hc2)
  clear hy hc1 hc2 F2
  have oA:=HA.out
  have A0:=oA.at 0 _ rfl
  have A1:=oA.at 1 _ rfl
  have A2:=oA.at 2 _ rfl
  have A3:=oA.at 3 _ rfl
  have A4:=oA.at 4 _ rfl
  have A5:=oA.at 5 _ rfl
  have A6:=oA.at 6 _ rfl
  have A7:=oA.at 7 _ rfl
  have A8:=oA.at 8 _ rfl
  have A9:=oA.at 9 _ rfl
  have A10:=oA.at 10 _ rfl
  have A11:=oA.at 11 _ rfl
  have A12:=oA.at 12 _ rfl
  have Al:=oA.lt
  clear oA
  go_wp2_with (fail)
  clear A0 A1 A2 A3 A4 A5 A6 A7 A8 A9 A10 A11 A12 Al
  go_at_call 127
  refine (CO.out _ _ (.inr ⟨_,0,rfl,(Own.new _ [.int .i64 (l 4),.int .i64 (l 5),.int .i64 (l 6),.int .i64 (l 7),.int .i64 (l 8),.int .i64 (l 9),.int .i64 (l 10),.int .i64 (l 11),.int .i64 (l 12)] _).has⟩)).mono ?_
  rintro e w5 ⟨⟨p,d,rfl,hN,hd1,hd2⟩,hb⟩
  have hbx:=Below.go (Below.al (Below.refl _ _)) hb
  clear hb
  have HA_:=Lib.hid (HA.out.later hbx)
  clear HA
  have HA:=HA_
  clear HA_
  have BY2_:=Lib.hid (BY2.out.later hbx)
  clear BY2
  have BY2:=BY2_
  clear BY2_
  have HB_:=Lib.hid (Below.go HB.out hbx)
  clear HB
  have HB:=HB_
  clear HB_
  clear hbx CO
  have HN:=Lib.hid hN;have HD:=Lib.hid (And.intro hd1 hd2)
  clear hN hd1 hd2
  go_wp2_with (fail)
  go_at_call 122
  refine (C3.out _ _ CC2.out.1 CC2.out.2 _ _ HD.out.1 HD.out.2 _ BY2.out HN.out).mono ?_
  rintro e w6 ⟨⟨v,rfl,q3,c3,rfl,hc1,hc2,hy⟩,hb⟩
  have HA_:=Lib.hid (HA.out.later hb)
  clear HA
  have HA:=HA_
  clear HA_
  have HB_:=Lib.hid (Below.go HB.out hb)
  clear HB
  have HB:=HB_
  clear HB_
  clear hb C3 BY2 CC2 HN HD
  go_wp2_with (fail)
  exact bodyPost_ret (v := .tuple #[.slice q3 31 c3,.int .i64 0]) (by simp[results,Tryz.results88,go_sem]) rfl ⟨⟨_,rfl,_,_,rfl,hc1,hc2,hy⟩,HB.out⟩
 ·obtain⟨z,ez⟩:∃ z,chkLg l=z:=⟨_,rfl⟩
  rw[ez] at CK hz ⊢
  have hd:(z != 0)=true:=by simpa using hz
  rw[show encL z 31=0 from if_neg hz]
  clear ez hz
  go_enter Tryz.func88,Tryz.ntmps88
  go_upto_region 1 with fail
  obtain⟨W0,hW⟩:∃ W0,W0=(w.alloc (.cells #[.int .i64 (l 0),.int .i64 (l 1),.int .i64 (l 2),.int .i64 (l 3),.int .i64 (l 4),.int .i64 (l 5),.int .i64 (l 6),.int .i64 (l 7),.int .i64 (l 8),.int .i64 (l 9),.int .i64 (l 10),.int .i64 (l 11),.int .i64 (l 12)] 43)):=⟨_,rfl⟩
  have hB0:Below w.heap.size w W0:=hW ▸ (Below.al (Below.refl _ _))
  have HA:Hid (Own w.heap.size ([.int .i64 (l 0),.int .i64 (l 1),.int .i64 (l 2),.int .i64 (l 3),.int .i64 (l 4),.int .i64 (l 5),.int .i64 (l 6),.int .i64 (l 7),.int .i64 (l 8),.int .i64 (l 9),.int .i64 (l 10),.int .i64 (l 11),.int .i64 (l 12)]) W0):=Lib.hid (hW ▸ (show Own w.heap.size ([.int .i64 (l 0),.int .i64 (l 1),.int .i64 (l 2),.int .i64 (l 3),.int .i64 (l 4),.int .i64 (l 5),.int .i64 (l 6),.int .i64 (l 7),.int .i64 (l 8),.int .i64 (l 9),.int .i64 (l 10),.int .i64 (l 11),.int .i64 (l 12)]) (w.alloc (.cells #[.int .i64 (l 0),.int .i64 (l 1),.int .i64 (l 2),.int .i64 (l 3),.int .i64 (l 4),.int .i64 (l 5),.int .i64 (l 6),.int .i64 (l 7),.int .i64 (l 8),.int .i64 (l 9),.int .i64 (l 10),.int .i64 (l 11),.int .i64 (l 12)] 43)) from Own.newAt (by simp)))
  rw[← hW]
  clear hW
  obtain⟨A,eA⟩:∃ X,X=w.heap.size:=⟨_,rfl⟩
  rw[← eA] at HA ⊢
  have Aw:w.heap.size≤A:=by omega
  clear eA
  have HB:=Lib.hid hB0
  clear hB0
  have oA:=HA.out
  have A0:=oA.at 0 _ rfl
  have A1:=oA.at 1 _ rfl
  have A2:=oA.at 2 _ rfl
  have A3:=oA.at 3 _ rfl
  have A4:=oA.at 4 _ rfl
  have A5:=oA.at 5 _ rfl
  have A6:=oA.at 6 _ rfl
  have A7:=oA.at 7 _ rfl
  have A8:=oA.at 8 _ rfl
  have A9:=oA.at 9 _ rfl
  have A10:=oA.at 10 _ rfl
  have A11:=oA.at 11 _ rfl
  have A12:=oA.at 12 _ rfl
  have Al:=oA.lt
  clear oA
  go_wp2_with (fail)
  clear A0 A1 A2 A3 A4 A5 A6 A7 A8 A9 A10 A11 A12 Al
  go_at_call 126
  refine (CK.out _).mono ?_
  rintro e w1 ⟨rfl,hb⟩
  have HA_:=Lib.hid (HA.out.later hb)
  clear HA
  have HA:=HA_
  clear HA_
  have HB_:=Lib.hid (Below.go HB.out hb)
  clear HB
  have HB:=HB_
  clear HB_
  clear hb CK
  go_wp2_with (fail)
  exact bodyPost_ret (v := .tuple #[.slice none 0 0,.int .i64 z]) (by simp[results,Tryz.results88,go_sem]) rfl ⟨⟨_,rfl,none,0,rfl,Nat.le_refl _,by decide,.inl rfl⟩,HB.out⟩
end Go.Proofs.YtbilamnnneddmaaGreatDoor
namespace Go.Proofs.YtbilamnnneddmaaGreatDoor
set_option linter.unusedVariables false
set_option maxRecDepth 2000
set_option linter.unusedSimpArgs false
open Go.RowKit
attribute [local go_sem] setCell_self
theorem res_tct {P:Program} {fn:Func} {tmps:Array Value} {w:World} {p r s T:Nat} {a:Addr} {v u t:Value} (hf:fn.results=#[.tmp p,.cell r T,.tmp s]) (hp:tmps[p]?.getD undef=t) (ha:tmps[r]?.getD undef = .pointer (some a)) (hl:(loadVar T a).run P w = .ok v w) (hs:tmps[s]?.getD undef=u):(results fn tmps).run P w = .ok (.tuple #[t,v,u]) w:=by
 subst hs hp
 have hx:(asAddr (Value.pointer (some a))).run P w = .ok a w:=by simp[asAddr]
 simp[results,hf,ha,hx,hl]
def isU8:Value→Bool
 | .int .u8 _=>true
 | _=>false
theorem has_kinds {b o Q k:Nat} {cs ds vs:List Value} {W:World} (p:Value→Bool) (h:Has b o cs W) (hc:∀ v∈cs,p v=true) (hQ:Own Q ds W) (hd:∀ v∈ds,p v=false) (hl:k+vs.length≤ds.length):Has b o cs (W.setCells Q k vs) where
 lt:=by rw[size_setCells];exact h.lt
 cell:=by
  by_cases e:b=Q
  ·subst e
   intro j v hv
   have h1:=h.cell j v hv
   by_cases q:o+j<ds.length
   ·have h2:=hQ.at (o+j) _ (List.getElem?_eq_getElem q)
    rw[h1] at h2
    have h3:v=ds[o+j]:=by injection h2
    have h4:=hc v (List.mem_of_getElem? hv)
    have h5:=hd _ (List.getElem_mem q)
    rw[← h3,h4] at h5
    cases h5
   ·rw[World.cell?_setCells_out b vs k W ⟨b,o+j,none⟩ (fun _ _ => .inr (by show k+vs.length≤o+j;omega))]
    exact h1
  ·exact World.rangeAt_setCells_apart h.cell _ _ _ (.inl e)
theorem setCells_self {b:Nat}:∀ (vs:List Value) (o:Nat) (w:World),(∀ j v,vs[j]?=some v→w.cell? ⟨b,o+j,none⟩=some v)→w.setCells b o vs=w
 | [],_,_,_=>rfl
 | v :: vs,o,w,h=>by
  have h0:=h 0 v rfl
  rw[Nat.add_zero] at h0
  show (w.setCell ⟨b,o,none⟩ v).setCells b (o+1) vs=w
  rw[setCell_self h0]
  exact setCells_self vs (o+1) w (fun j u hu=>by
   have:=h (j+1) u hu
   rwa [show o+(j+1)=o+1+j by omega] at this)
theorem step_store_self {P:Program} {ops:Array Oper} {o:Oper} {a:Act} {w:World} {K:Act→World→Prop} {Q:Exit→Act→World→Prop} {E:Prop}
  (hg:Region.wanted o (yielded ops a.tmps)=true) (ty:TypeId) (x y:Operand) (ho:o.op = .store ty x y) (b:Nat) (cells:Array Value) (hx:a.eval x = .pointer (some ⟨b,0,none⟩)) (hy:a.eval y = .agg cells)
  (hO:Own b cells.toList w) (hi:(P.info? ty).map (·.size)=some cells.size) (h1:cells.all (·.oneCell')=true)
  (h:K (a.put o.dst undef) w):if Region.wanted o (yielded ops a.tmps)=true then Oper.wp P o a w K Q else E:=by
 refine step_store hg ty x y ho b 0 cells hx hy ?_ hi h1 ?_
 ·have:=hO.room (o:=0) (n:=cells.size) (by simp)
  exact this
 ·rw[setCells_self cells.toList 0 w (fun j v hv=>by rw[Nat.zero_add];exact hO.at j v hv)]
  exact h
theorem nums_u8 (f:Nat→Int) (n:Nat):∀ v∈nums .u8 f n,isU8 v=true:=by
 intro v hv
 unfold nums at hv
 obtain⟨i,_,rfl⟩:=List.mem_map.1 hv
 rfl
theorem RowR.kinds {Q k n:Nat} {f:Nat→Int} {v:Value} {ds vs:List Value} {W:World} (h:RowR W v n f) (hQ:Own Q ds W) (hd:ds.all (fun v => !isU8 v)=true) (hl:k+vs.length≤ds.length):RowR (W.setCells Q k vs) v n f:=by
 obtain⟨q,c,e,h1,h2,h3⟩:=h
 refine⟨q,c,e,h1,h2,?_⟩
 rcases h3 with h0 | ⟨b,o,e2,hh⟩
 ·exact .inl h0
 ·exact .inr ⟨b,o,e2,has_kinds isU8 hh (nums_u8 f n) hQ (fun v hv=>by simpa using List.all_eq_true.1 hd v hv) hl⟩
set_option maxHeartbeats 16000000 in
theorem encode_1 (A:Ast) (w:World) (hA:AstAt A w):Calls Tryz.prog 49 #[(.agg (cA ⟨1,A.M,A.X,A.g,A.l⟩).toArray)] w fun e w'=>(∃ v,e = .returned (.tuple #[v,(.agg (cA ⟨1,nilM,A.X,A.g,A.l⟩).toArray),.int .i64 (chkM A.M)])∧RowR w' v (encL (chkM A.M) (encN A.M.nv A.M.nu A.M.nt)) (encF A.M.nv A.M.nu A.M.nt A.M.V A.M.U A.M.R))∧Below w.heap.size w w':=by
 have AQ:Hid (∀ W,Below w.heap.size w W→AstAt A W):=Lib.hid (fun W hb=>hA.later hb)
 have AA:=Lib.hid hA
 obtain⟨z,ez⟩:∃ z,chkM A.M=z:=⟨_,rfl⟩
 have CON:=Lib.hid (Encode_any A.M)
 rw[ez] at CON ⊢
 clear hA ez
 go_enter Tryz.func49,Tryz.ntmps49
 go_upto_region 1 with fail
 obtain⟨W0,hW⟩:∃ W0,W0=((w.alloc (.cells (cA ⟨1,A.M,A.X,A.g,A.l⟩).toArray 45)).alloc (.cells #[.int .i64 0,.slice none 0 0,.slice none 0 0,.slice none 0 0,.int .i64 0,.slice none 0 0,.int .i64 0,.int .i64 0,.int .i64 0,.int .i64 0,.int .i64 0,.int .i64 0,.int .i64 0,.int .i64 0,.int .i64 0,.int .i64 0,.int .i64 0,.int .i64 0,.int .i64 0,.int .i64 0,.int .i64 0,.int .i64 0,.int .i64 0,.int .i64 0] 45)):=⟨_,rfl⟩
 have hB0:Below w.heap.size w W0:=hW ▸ (Below.al (Below.al (Below.refl _ _)))
 have HP:Hid (Own w.heap.size ((cA ⟨1,A.M,A.X,A.g,A.l⟩)) W0):=Lib.hid (hW ▸ (show Own w.heap.size ((cA ⟨1,A.M,A.X,A.g,A.l⟩)) (w.alloc (.cells (cA ⟨1,A.M,A.X,A.g,A.l⟩).toArray 45)) from Own.newAt (by simp)).alloc)
 have HQ:Hid (Own (w.heap.size+1) ([.int .i64 0,.slice none 0 0,.slice none 0 0,.slice none 0 0,.int .i64 0,.slice none 0 0,.int .i64 0,.int .i64 0,.int .i64 0,.int .i64 0,.int .i64 0,.int .i64 0,.int .i64 0,.int .i64 0,.int .i64 0,.int .i64 0,.int .i64 0,.int .i64 0,.int .i64 0,.int .i64 0,.int .i64 0,.int .i64 0,.int .i64 0,.int .i64 0]) W0):=Lib.hid (hW ▸ (show Own (w.heap.size+1) ([.int .i64 0,.slice none 0 0,.slice none 0 0,.slice none 0 0,.int .i64 0,.slice none 0 0,.int .i64 0,.int .i64 0,.int .i64 0,.int .i64 0,.int .i64 0,.int .i64 0,.int .i64 0,.int .i64 0,.int .i64 0,.int .i64 0,.int .i64 0,.int .i64 0,.int .i64 0,.int .i64 0,.int .i64 0,.int .i64 0,.int .i64 0,.int .i64 0]) ((w.alloc (.cells (cA ⟨1,A.M,A.X,A.g,A.l⟩).toArray 45)).alloc (.cells #[.int .i64 0,.slice none 0 0,.slice none 0 0,.slice none 0 0,.int .i64 0,.slice none 0 0,.int .i64 0,.int .i64 0,.int .i64 0,.int .i64 0,.int .i64 0,.int .i64 0,.int .i64 0,.int .i64 0,.int .i64 0,.int .i64 0,.int .i64 0,.int .i64 0,.int .i64 0,.int .i64 0,.int .i64 0,.int .i64 0,.int .i64 0,.int .i64 0] 45)) from Own.newAt (by simp)))
 rw[← hW]
 clear hW
 obtain⟨Q,eQ⟩:∃ X,X=(w.heap.size+1):=⟨_,rfl⟩
 rw[← eQ] at HQ ⊢
 have Qw:w.heap.size≤Q:=by omega
 obtain⟨P,eP⟩:∃ X,X=w.heap.size:=⟨_,rfl⟩
 rw[← eP] at HP ⊢
 have Pw:w.heap.size≤P:=by omega
 have nPQ:P≠Q:=by omega
 have nQP:Q≠P:=by omega
 clear eP eQ
 have AA_:=Lib.hid (AA.out.later hB0)
 clear AA
 have AA:=AA_
 clear AA_
 refine wp_region_lit ?_
 refine wpList_load_mid rfl 45 _ rfl P 0 rfl ((cA ⟨1,A.M,A.X,A.g,A.l⟩)) _ HP.out.cell Tryz.underlying45 rfl (by kernel_rfl) ?_
 refine wpList_store_mid rfl 45 _ _ rfl Q 0 ((cA ⟨1,A.M,A.X,A.g,A.l⟩)).toArray rfl rfl HQ.out.free (by kernel_rfl) (cA_one _) ?_
 change wpList _ _ _ [] _ (W0.setCells Q 0 ((cA ⟨1,A.M,A.X,A.g,A.l⟩)))
 have HQn:Hid (Own Q ((cA ⟨1,A.M,A.X,A.g,A.l⟩)) (W0.setCells Q 0 ((cA ⟨1,A.M,A.X,A.g,A.l⟩)))):=Lib.hid (Own.store HQ.out rfl)
 have HPn:Hid (Own P ((cA ⟨1,A.M,A.X,A.g,A.l⟩)) (W0.setCells Q 0 ((cA ⟨1,A.M,A.X,A.g,A.l⟩)))):=Lib.hid (Own.far (o:=0) (vs:=((cA ⟨1,A.M,A.X,A.g,A.l⟩))) HP.out nPQ)
 have hB0n:Below w.heap.size w (W0.setCells Q 0 ((cA ⟨1,A.M,A.X,A.g,A.l⟩))):=Below.setCells hB0 Qw ((cA ⟨1,A.M,A.X,A.g,A.l⟩)) 0
 clear HQ HP hB0
 generalize (W0.setCells Q 0 ((cA ⟨1,A.M,A.X,A.g,A.l⟩)))=w1 at *
 have HQ:=HQn
 clear HQn
 have HP:=HPn
 clear HPn
 have hB0:=hB0n
 clear hB0n
 clear AA
 have AA:=Lib.hid (AQ.out _ hB0)
 have oP:=HP.out
 have P0:=oP.at 0 _ rfl
 have P1:=oP.at 1 _ rfl
 have P2:=oP.at 2 _ rfl
 have P3:=oP.at 3 _ rfl
 have P4:=oP.at 4 _ rfl
 have P5:=oP.at 5 _ rfl
 have P6:=oP.at 6 _ rfl
 have P7:=oP.at 7 _ rfl
 have P8:=oP.at 8 _ rfl
 have P9:=oP.at 9 _ rfl
 have P10:=oP.at 10 _ rfl
 have P11:=oP.at 11 _ rfl
 have P12:=oP.at 12 _ rfl
 have P13:=oP.at 13 _ rfl
 have P14:=oP.at 14 _ rfl
 have P15:=oP.at 15 _ rfl
 have P16:=oP.at 16 _ rfl
 have P17:=oP.at 17 _ rfl
 have P18:=oP.at 18 _ rfl
 have P19:=oP.at 19 _ rfl
 have P20:=oP.at 20 _ rfl
 have P21:=oP.at 21 _ rfl
 have P22:=oP.at 22 _ rfl
 have P23:=oP.at 23 _ rfl
 have Pl:=oP.lt
 clear oP
 go_wp2_with (fail)
 clear P0 P1 P2 P3 P4 P5 P6 P7 P8 P9 P10 P11 P12 P13 P14 P15 P16 P17 P18 P19 P20 P21 P22 P23 Pl
 go_at_call 85
 refine (CON.out _ AA.out.m).mono ?_
 rintro e w2 ⟨⟨v,rfl,hr⟩,hb⟩
 have RR:=Lib.hid hr
 have hB1:=Below.go hB0 hb
 have HQ_:=Lib.hid (HQ.out.later hb)
 clear hr hb HP HQ AA AQ hB0 CON
 have HQ:=HQ_
 clear HQ_
 have oQ:=HQ.out
 have Q0:=oQ.at 0 _ rfl
 have Qf0:=oQ.ok 0 (Nat.le_of_ble_eq_true rfl)
 have Q1:=oQ.at 1 _ rfl
 have Qf1:=oQ.ok 1 (Nat.le_of_ble_eq_true rfl)
 have Q2:=oQ.at 2 _ rfl
 have Qf2:=oQ.ok 2 (Nat.le_of_ble_eq_true rfl)
 have Q3:=oQ.at 3 _ rfl
 have Qf3:=oQ.ok 3 (Nat.le_of_ble_eq_true rfl)
 have Q4:=oQ.at 4 _ rfl
 have Qf4:=oQ.ok 4 (Nat.le_of_ble_eq_true rfl)
 have Q5:=oQ.at 5 _ rfl
 have Qf5:=oQ.ok 5 (Nat.le_of_ble_eq_true rfl)
 have Q6:=oQ.at 6 _ rfl
 have Qf6:=oQ.ok 6 (Nat.le_of_ble_eq_true rfl)
 have Q7:=oQ.at 7 _ rfl
 have Qf7:=oQ.ok 7 (Nat.le_of_ble_eq_true rfl)
 have Q8:=oQ.at 8 _ rfl
 have Qf8:=oQ.ok 8 (Nat.le_of_ble_eq_true rfl)
 have Q9:=oQ.at 9 _ rfl
 have Qf9:=oQ.ok 9 (Nat.le_of_ble_eq_true rfl)
 have Q10:=oQ.at 10 _ rfl
 have Qf10:=oQ.ok 10 (Nat.le_of_ble_eq_true rfl)
 have Q11:=oQ.at 11 _ rfl
 have Qf11:=oQ.ok 11 (Nat.le_of_ble_eq_true rfl)
 have Q12:=oQ.at 12 _ rfl
 have Qf12:=oQ.ok 12 (Nat.le_of_ble_eq_true rfl)
 have Q13:=oQ.at 13 _ rfl
 have Qf13:=oQ.ok 13 (Nat.le_of_ble_eq_true rfl)
 have Q14:=oQ.at 14 _ rfl
 have Qf14:=oQ.ok 14 (Nat.le_of_ble_eq_true rfl)
 have Q15:=oQ.at 15 _ rfl
 have Qf15:=oQ.ok 15 (Nat.le_of_ble_eq_true rfl)
 have Q16:=oQ.at 16 _ rfl
 have Qf16:=oQ.ok 16 (Nat.le_of_ble_eq_true rfl)
 have Q17:=oQ.at 17 _ rfl
 have Qf17:=oQ.ok 17 (Nat.le_of_ble_eq_true rfl)
 have Q18:=oQ.at 18 _ rfl
 have Qf18:=oQ.ok 18 (Nat.le_of_ble_eq_true rfl)
 have Q19:=oQ.at 19 _ rfl
 have Qf19:=oQ.ok 19 (Nat.le_of_ble_eq_true rfl)
 have Q20:=oQ.at 20 _ rfl
 have Qf20:=oQ.ok 20 (Nat.le_of_ble_eq_true rfl)
 have Q21:=oQ.at 21 _ rfl
 have Qf21:=oQ.ok 21 (Nat.le_of_ble_eq_true rfl)
 have Q22:=oQ.at 22 _ rfl
 have Qf22:=oQ.ok 22 (Nat.le_of_ble_eq_true rfl)
 have Q23:=oQ.at 23 _ rfl
 have Qf23:=oQ.ok 23 (Nat.le_of_ble_eq_true rfl)
 have Ql:=oQ.lt
 clear oQ
 go_upto_region 16 with fail
 rw[show (((w2.setCell ⟨Q,1,none⟩ (.slice none 0 0)).setCell ⟨Q,2,none⟩ (.slice none 0 0)).setCell ⟨Q,3,none⟩ (.slice none 0 0))=w2.setCells Q 1 [.slice none 0 0,.slice none 0 0,.slice none 0 0] from rfl]
 have HQn:Hid (Own Q ((cA ⟨1,nilM,A.X,A.g,A.l⟩)) (w2.setCells Q 1 [.slice none 0 0,.slice none 0 0,.slice none 0 0])):=Lib.hid (show Own Q (over _ 1 [.slice none 0 0,.slice none 0 0,.slice none 0 0]) _ from Own.part HQ.out (Nat.le_of_ble_eq_true rfl))
 have hB2:Below w.heap.size w (w2.setCells Q 1 [.slice none 0 0,.slice none 0 0,.slice none 0 0]):=Below.setCells hB1 Qw [.slice none 0 0,.slice none 0 0,.slice none 0 0] 1
 have RRn:Hid (RowR (w2.setCells Q 1 [.slice none 0 0,.slice none 0 0,.slice none 0 0]) v (encL (z) (encN A.M.nv A.M.nu A.M.nt)) (encF A.M.nv A.M.nu A.M.nt A.M.V A.M.U A.M.R)):=Lib.hid (RowR.kinds RR.out HQ.out rfl (Nat.le_of_ble_eq_true rfl))
 clear HQ RR hB1 Q0 Qf0 Q1 Qf1 Q2 Qf2 Q3 Qf3 Q4 Qf4 Q5 Qf5 Q6 Qf6 Q7 Qf7 Q8 Qf8 Q9 Qf9 Q10 Qf10 Q11 Qf11 Q12 Qf12 Q13 Qf13 Q14 Qf14 Q15 Qf15 Q16 Qf16 Q17 Qf17 Q18 Qf18 Q19 Qf19 Q20 Qf20 Q21 Qf21 Q22 Qf22 Q23 Qf23 Ql
 generalize w2.setCells Q 1 [.slice none 0 0,.slice none 0 0,.slice none 0 0]=w3 at *
 have SQ:Hid (Own Q ((cA ⟨1,nilM,A.X,A.g,A.l⟩)) w3.drew):=Lib.hid HQn.out.drew
 refine wp_region_held_drew (S:=fun w'=>w'=w3.drew) (by kernel_rfl) rfl (fun _=>?_)
 refine wpAnyH_take (i:=0) (v:=v) rfl (by kernel_rfl) (by kernel_rfl) (by kernel_rfl) (fun _ _ _ h=>h) (Or.inl ⟨by rfl,fun w' hS=>?_⟩) rfl ?_
 ·subst hS
  go_simp
 try simp only[Act.put,List.getElem_toArray,List.getElem_cons_zero,List.getElem_cons_succ,List.setIfInBounds_toArray,List.set_cons_zero,List.set_cons_succ]
 refine wpAnyH_take (i:=1) (v := .agg ((cA ⟨1,nilM,A.X,A.g,A.l⟩)).toArray) rfl (by kernel_rfl) (by kernel_rfl) (by kernel_rfl) (fun _ _ _ h=>h) (yieldsIf_load_mid (by rfl) 45 _ rfl Q 0 rfl ((cA ⟨1,nilM,A.X,A.g,A.l⟩)) _ (fun w h=>by rw[h];exact SQ.out.cell) Tryz.underlying45 rfl (by kernel_rfl)) rfl ?_
 try simp only[Act.put,List.getElem_toArray,List.getElem_cons_zero,List.getElem_cons_succ,List.setIfInBounds_toArray,List.set_cons_zero,List.set_cons_succ]
 refine wpAnyH_take (i:=2) (v := .int .i64 z) rfl (by kernel_rfl) (by kernel_rfl) (by kernel_rfl) (fun _ _ _ h=>h) (Or.inl ⟨by rfl,fun w' hS=>?_⟩) rfl ?_
 ·subst hS
  go_simp
 try simp only[Act.put,List.getElem_toArray,List.getElem_cons_zero,List.getElem_cons_succ,List.setIfInBounds_toArray,List.set_cons_zero,List.set_cons_succ]
 refine wpAnyH_take (i:=3) (v:=v) rfl (by kernel_rfl) (by kernel_rfl) (by kernel_rfl) (fun _ _ _ h=>h) (Or.inl ⟨by rfl,fun w' hS=>?_⟩) rfl ?_
 ·subst hS
  go_simp
 try simp only[Act.put,List.getElem_toArray,List.getElem_cons_zero,List.getElem_cons_succ,List.setIfInBounds_toArray,List.set_cons_zero,List.set_cons_succ]
 refine wpAnyH_ready (rs:=[4]) (by kernel_rfl) (by simp) ?_
 refine AllReadyH.cons rfl (fun K hK=>?_) AllReadyH.nil
 refine step_store_self (by simp[Region.wanted]) 45 _ _ rfl Q (cA ⟨1,nilM,A.X,A.g,A.l⟩).toArray rfl rfl SQ.out (by kernel_rfl) (cA_one _) ?_
 refine hK.out _ _ rfl (fun _=>?_)
 clear hK K
 try simp only[Act.put,List.getElem_toArray,List.getElem_cons_zero,List.getElem_cons_succ,List.setIfInBounds_toArray,List.set_cons_zero,List.set_cons_succ]
 refine wpAnyH_take (i:=5) (v := .int .i64 z) rfl (by kernel_rfl) (by kernel_rfl) (by kernel_rfl) (fun _ _ _ h=>h) (Or.inl ⟨by rfl,fun w' hS=>?_⟩) rfl ?_
 ·subst hS
  go_simp
 try simp only[Act.put,List.getElem_toArray,List.getElem_cons_zero,List.getElem_cons_succ,List.setIfInBounds_toArray,List.set_cons_zero,List.set_cons_succ]
 refine wpAnyH_done (by kernel_rfl) ?_ _
 clear SQ
 have HQd:=Lib.hid (HQn.out.drew);have hB3:=hB2.drew;have RRd:=Lib.hid (RRn.out.later (Below.refl _ _).drew (Nat.le_refl _))
 clear HQn hB2 RRn
 generalize w3.drew=w4 at *
 go_wp2_with (fail)
 have hL:=run_loadVar_mid (P:=Tryz.prog) _ Q 0 45 ((cA ⟨1,nilM,A.X,A.g,A.l⟩)) _ HQd.out.cell Tryz.underlying45 rfl (by kernel_rfl)
 exact bodyPost_ret (v := .tuple #[v,.agg ((cA ⟨1,nilM,A.X,A.g,A.l⟩)).toArray,.int .i64 z]) (res_tct Tryz.results49 rfl rfl hL rfl) rfl ⟨⟨_,rfl,RRd.out⟩,hB3⟩
set_option maxHeartbeats 16000000 in
theorem encode_2 (A:Ast) (w:World) (hA:AstAt A w):Calls Tryz.prog 49 #[(.agg (cA ⟨2,A.M,A.X,A.g,A.l⟩).toArray)] w fun e w'=>(∃ v,e = .returned (.tuple #[v,(.agg (cA ⟨2,A.M,nilX,A.g,A.l⟩).toArray),.int .i64 (chkT A.X.S A.X.n A.X.f)])∧RowR w' v (encTL (chkT A.X.S A.X.n A.X.f) A.X.n) (encT A.X.S A.X.f))∧Below w.heap.size w w':=by
 have AQ:Hid (∀ W,Below w.heap.size w W→AstAt A W):=Lib.hid (fun W hb=>hA.later hb)
 have AA:=Lib.hid hA
 obtain⟨z,ez⟩:∃ z,chkT A.X.S A.X.n A.X.f=z:=⟨_,rfl⟩
 have CON:=Lib.hid (tEncode_any A.X)
 rw[ez] at CON ⊢
 clear hA ez
 go_enter Tryz.func49,Tryz.ntmps49
 go_upto_region 1 with fail
 obtain⟨W0,hW⟩:∃ W0,W0=((w.alloc (.cells (cA ⟨2,A.M,A.X,A.g,A.l⟩).toArray 45)).alloc (.cells #[.int .i64 0,.slice none 0 0,.slice none 0 0,.slice none 0 0,.int .i64 0,.slice none 0 0,.int .i64 0,.int .i64 0,.int .i64 0,.int .i64 0,.int .i64 0,.int .i64 0,.int .i64 0,.int .i64 0,.int .i64 0,.int .i64 0,.int .i64 0,.int .i64 0,.int .i64 0,.int .i64 0,.int .i64 0,.int .i64 0,.int .i64 0,.int .i64 0] 45)):=⟨_,rfl⟩
 have hB0:Below w.heap.size w W0:=hW ▸ (Below.al (Below.al (Below.refl _ _)))
 have HP:Hid (Own w.heap.size ((cA ⟨2,A.M,A.X,A.g,A.l⟩)) W0):=Lib.hid (hW ▸ (show Own w.heap.size ((cA ⟨2,A.M,A.X,A.g,A.l⟩)) (w.alloc (.cells (cA ⟨2,A.M,A.X,A.g,A.l⟩).toArray 45)) from Own.newAt (by simp)).alloc)
 have HQ:Hid (Own (w.heap.size+1) ([.int .i64 0,.slice none 0 0,.slice none 0 0,.slice none 0 0,.int .i64 0,.slice none 0 0,.int .i64 0,.int .i64 0,.int .i64 0,.int .i64 0,.int .i64 0,.int .i64 0,.int .i64 0,.int .i64 0,.int .i64 0,.int .i64 0,.int .i64 0,.int .i64 0,.int .i64 0,.int .i64 0,.int .i64 0,.int .i64 0,.int .i64 0,.int .i64 0]) W0):=Lib.hid (hW ▸ (show Own (w.heap.size+1) ([.int .i64 0,.slice none 0 0,.slice none 0 0,.slice none 0 0,.int .i64 0,.slice none 0 0,.int .i64 0,.int .i64 0,.int .i64 0,.int .i64 0,.int .i64 0,.int .i64 0,.int .i64 0,.int .i64 0,.int .i64 0,.int .i64 0,.int .i64 0,.int .i64 0,.int .i64 0,.int .i64 0,.int .i64 0,.int .i64 0,.int .i64 0,.int .i64 0]) ((w.alloc (.cells (cA ⟨2,A.M,A.X,A.g,A.l⟩).toArray 45)).alloc (.cells #[.int .i64 0,.slice none 0 0,.slice none 0 0,.slice none 0 0,.int .i64 0,.slice none 0 0,.int .i64 0,.int .i64 0,.int .i64 0,.int .i64 0,.int .i64 0,.int .i64 0,.int .i64 0,.int .i64 0,.int .i64 0,.int .i64 0,.int .i64 0,.int .i64 0,.int .i64 0,.int .i64 0,.int .i64 0,.int .i64 0,.int .i64 0,.int .i64 0] 45)) from Own.newAt (by simp)))
 rw[← hW]
 clear hW
 obtain⟨Q,eQ⟩:∃ X,X=(w.heap.size+1):=⟨_,rfl⟩
 rw[← eQ] at HQ ⊢
 have Qw:w.heap.size≤Q:=by omega
 obtain⟨P,eP⟩:∃ X,X=w.heap.size:=⟨_,rfl⟩
 rw[← eP] at HP ⊢
 have Pw:w.heap.size≤P:=by omega
 have nPQ:P≠Q:=by omega
 have nQP:Q≠P:=by omega
 clear eP eQ
 have AA_:=Lib.hid (AA.out.later hB0)
 clear AA
 have AA:=AA_
 clear AA_
 refine wp_region_lit ?_
 refine wpList_load_mid rfl 45 _ rfl P 0 rfl ((cA ⟨2,A.M,A.X,A.g,A.l⟩)) _ HP.out.cell Tryz.underlying45 rfl (by kernel_rfl) ?_
 refine wpList_store_mid rfl 45 _ _ rfl Q 0 ((cA ⟨2,A.M,A.X,A.g,A.l⟩)).toArray rfl rfl HQ.out.free (by kernel_rfl) (cA_one _) ?_
 change wpList _ _ _ [] _ (W0.setCells Q 0 ((cA ⟨2,A.M,A.X,A.g,A.l⟩)))
 have HQn:Hid (Own Q ((cA ⟨2,A.M,A.X,A.g,A.l⟩)) (W0.setCells Q 0 ((cA ⟨2,A.M,A.X,A.g,A.l⟩)))):=Lib.hid (Own.store HQ.out rfl)
 have HPn:Hid (Own P ((cA ⟨2,A.M,A.X,A.g,A.l⟩)) (W0.setCells Q 0 ((cA ⟨2,A.M,A.X,A.g,A.l⟩)))):=Lib.hid (Own.far (o:=0) (vs:=((cA ⟨2,A.M,A.X,A.g,A.l⟩))) HP.out nPQ)
 have hB0n:Below w.heap.size w (W0.setCells Q 0 ((cA ⟨2,A.M,A.X,A.g,A.l⟩))):=Below.setCells hB0 Qw ((cA ⟨2,A.M,A.X,A.g,A.l⟩)) 0
 clear HQ HP hB0
 generalize (W0.setCells Q 0 ((cA ⟨2,A.M,A.X,A.g,A.l⟩)))=w1 at *
 have HQ:=HQn
 clear HQn
 have HP:=HPn
 clear HPn
 have hB0:=hB0n
 clear hB0n
 clear AA
 have AA:=Lib.hid (AQ.out _ hB0)
 have oP:=HP.out
 have P0:=oP.at 0 _ rfl
 have P1:=oP.at 1 _ rfl
 have P2:=oP.at 2 _ rfl
 have P3:=oP.at 3 _ rfl
 have P4:=oP.at 4 _ rfl
 have P5:=oP.at 5 _ rfl
 have P6:=oP.at 6 _ rfl
 have P7:=oP.at 7 _ rfl
 have P8:=oP.at 8 _ rfl
 have P9:=oP.at 9 _ rfl
 have P10:=oP.at 10 _ rfl
 have P11:=oP.at 11 _ rfl
 have P12:=oP.at 12 _ rfl
 have P13:=oP.at 13 _ rfl
 have P14:=oP.at 14 _ rfl
 have P15:=oP.at 15 _ rfl
 have P16:=oP.at 16 _ rfl
 have P17:=oP.at 17 _ rfl
 have P18:=oP.at 18 _ rfl
 have P19:=oP.at 19 _ rfl
 have P20:=oP.at 20 _ rfl
 have P21:=oP.at 21 _ rfl
 have P22:=oP.at 22 _ rfl
 have P23:=oP.at 23 _ rfl
 have Pl:=oP.lt
 clear oP
 go_wp2_with (fail)
 clear P0 P1 P2 P3 P4 P5 P6 P7 P8 P9 P10 P11 P12 P13 P14 P15 P16 P17 P18 P19 P20 P21 P22 P23 Pl
 go_at_call 86
 refine (CON.out _ AA.out.x).mono ?_
 rintro e w2 ⟨⟨v,rfl,hr⟩,hb⟩
 have RR:=Lib.hid hr
 have hB1:=Below.go hB0 hb
 have HQ_:=Lib.hid (HQ.out.later hb)
 clear hr hb HP HQ AA AQ hB0 CON
 have HQ:=HQ_
 clear HQ_
 have oQ:=HQ.out
 have Q0:=oQ.at 0 _ rfl
 have Qf0:=oQ.ok 0 (Nat.le_of_ble_eq_true rfl)
 have Q1:=oQ.at 1 _ rfl
 have Qf1:=oQ.ok 1 (Nat.le_of_ble_eq_true rfl)
 have Q2:=oQ.at 2 _ rfl
 have Qf2:=oQ.ok 2 (Nat.le_of_ble_eq_true rfl)
 have Q3:=oQ.at 3 _ rfl
 have Qf3:=oQ.ok 3 (Nat.le_of_ble_eq_true rfl)
 have Q4:=oQ.at 4 _ rfl
 have Qf4:=oQ.ok 4 (Nat.le_of_ble_eq_true rfl)
 have Q5:=oQ.at 5 _ rfl
 have Qf5:=oQ.ok 5 (Nat.le_of_ble_eq_true rfl)
 have Q6:=oQ.at 6 _ rfl
 have Qf6:=oQ.ok 6 (Nat.le_of_ble_eq_true rfl)
 have Q7:=oQ.at 7 _ rfl
 have Qf7:=oQ.ok 7 (Nat.le_of_ble_eq_true rfl)
 have Q8:=oQ.at 8 _ rfl
 have Qf8:=oQ.ok 8 (Nat.le_of_ble_eq_true rfl)
 have Q9:=oQ.at 9 _ rfl
 have Qf9:=oQ.ok 9 (Nat.le_of_ble_eq_true rfl)
 have Q10:=oQ.at 10 _ rfl
 have Qf10:=oQ.ok 10 (Nat.le_of_ble_eq_true rfl)
 have Q11:=oQ.at 11 _ rfl
 have Qf11:=oQ.ok 11 (Nat.le_of_ble_eq_true rfl)
 have Q12:=oQ.at 12 _ rfl
 have Qf12:=oQ.ok 12 (Nat.le_of_ble_eq_true rfl)
 have Q13:=oQ.at 13 _ rfl
 have Qf13:=oQ.ok 13 (Nat.le_of_ble_eq_true rfl)
 have Q14:=oQ.at 14 _ rfl
 have Qf14:=oQ.ok 14 (Nat.le_of_ble_eq_true rfl)
 have Q15:=oQ.at 15 _ rfl
 have Qf15:=oQ.ok 15 (Nat.le_of_ble_eq_true rfl)
 have Q16:=oQ.at 16 _ rfl
 have Qf16:=oQ.ok 16 (Nat.le_of_ble_eq_true rfl)
 have Q17:=oQ.at 17 _ rfl
 have Qf17:=oQ.ok 17 (Nat.le_of_ble_eq_true rfl)
 have Q18:=oQ.at 18 _ rfl
 have Qf18:=oQ.ok 18 (Nat.le_of_ble_eq_true rfl)
 have Q19:=oQ.at 19 _ rfl
 have Qf19:=oQ.ok 19 (Nat.le_of_ble_eq_true rfl)
 have Q20:=oQ.at 20 _ rfl
 have Qf20:=oQ.ok 20 (Nat.le_of_ble_eq_true rfl)
 have Q21:=oQ.at 21 _ rfl
 have Qf21:=oQ.ok 21 (Nat.le_of_ble_eq_true rfl)
 have Q22:=oQ.at 22 _ rfl
 have Qf22:=oQ.ok 22 (Nat.le_of_ble_eq_true rfl)
 have Q23:=oQ.at 23 _ rfl
 have Qf23:=oQ.ok 23 (Nat.le_of_ble_eq_true rfl)
 have Ql:=oQ.lt
 clear oQ
 go_upto_region 16 with fail
 rw[show ((w2.setCell ⟨Q,4,none⟩ (.int .i64 0)).setCell ⟨Q,5,none⟩ (.slice none 0 0))=w2.setCells Q 4 [.int .i64 0,.slice none 0 0] from rfl]
 have HQn:Hid (Own Q ((cA ⟨2,A.M,nilX,A.g,A.l⟩)) (w2.setCells Q 4 [.int .i64 0,.slice none 0 0])):=Lib.hid (show Own Q (over _ 4 [.int .i64 0,.slice none 0 0]) _ from Own.part HQ.out (Nat.le_of_ble_eq_true rfl))
 have hB2:Below w.heap.size w (w2.setCells Q 4 [.int .i64 0,.slice none 0 0]):=Below.setCells hB1 Qw [.int .i64 0,.slice none 0 0] 4
 have RRn:Hid (RowR (w2.setCells Q 4 [.int .i64 0,.slice none 0 0]) v (encTL (z) A.X.n) (encT A.X.S A.X.f)):=Lib.hid (RowR.kinds RR.out HQ.out rfl (Nat.le_of_ble_eq_true rfl))
 clear HQ RR hB1 Q0 Qf0 Q1 Qf1 Q2 Qf2 Q3 Qf3 Q4 Qf4 Q5 Qf5 Q6 Qf6 Q7 Qf7 Q8 Qf8 Q9 Qf9 Q10 Qf10 Q11 Qf11 Q12 Qf12 Q13 Qf13 Q14 Qf14 Q15 Qf15 Q16 Qf16 Q17 Qf17 Q18 Qf18 Q19 Qf19 Q20 Qf20 Q21 Qf21 Q22 Qf22 Q23 Qf23 Ql
 generalize w2.setCells Q 4 [.int .i64 0,.slice none 0 0]=w3 at *
 have SQ:Hid (Own Q ((cA ⟨2,A.M,nilX,A.g,A.l⟩)) w3.drew):=Lib.hid HQn.out.drew
 refine wp_region_held_drew (S:=fun w'=>w'=w3.drew) (by kernel_rfl) rfl (fun _=>?_)
 refine wpAnyH_take (i:=0) (v:=v) rfl (by kernel_rfl) (by kernel_rfl) (by kernel_rfl) (fun _ _ _ h=>h) (Or.inl ⟨by rfl,fun w' hS=>?_⟩) rfl ?_
 ·subst hS
  go_simp
 try simp only[Act.put,List.getElem_toArray,List.getElem_cons_zero,List.getElem_cons_succ,List.setIfInBounds_toArray,List.set_cons_zero,List.set_cons_succ]
 refine wpAnyH_take (i:=1) (v := .agg ((cA ⟨2,A.M,nilX,A.g,A.l⟩)).toArray) rfl (by kernel_rfl) (by kernel_rfl) (by kernel_rfl) (fun _ _ _ h=>h) (yieldsIf_load_mid (by rfl) 45 _ rfl Q 0 rfl ((cA ⟨2,A.M,nilX,A.g,A.l⟩)) _ (fun w h=>by rw[h];exact SQ.out.cell) Tryz.underlying45 rfl (by kernel_rfl)) rfl ?_
 try simp only[Act.put,List.getElem_toArray,List.getElem_cons_zero,List.getElem_cons_succ,List.setIfInBounds_toArray,List.set_cons_zero,List.set_cons_succ]
 refine wpAnyH_take (i:=2) (v := .int .i64 z) rfl (by kernel_rfl) (by kernel_rfl) (by kernel_rfl) (fun _ _ _ h=>h) (Or.inl ⟨by rfl,fun w' hS=>?_⟩) rfl ?_
 ·subst hS
  go_simp
 try simp only[Act.put,List.getElem_toArray,List.getElem_cons_zero,List.getElem_cons_succ,List.setIfInBounds_toArray,List.set_cons_zero,List.set_cons_succ]
 refine wpAnyH_take (i:=3) (v:=v) rfl (by kernel_rfl) (by kernel_rfl) (by kernel_rfl) (fun _ _ _ h=>h) (Or.inl ⟨by rfl,fun w' hS=>?_⟩) rfl ?_
 ·subst hS
  go_simp
 try simp only[Act.put,List.getElem_toArray,List.getElem_cons_zero,List.getElem_cons_succ,List.setIfInBounds_toArray,List.set_cons_zero,List.set_cons_succ]
 refine wpAnyH_ready (rs:=[4]) (by kernel_rfl) (by simp) ?_
 refine AllReadyH.cons rfl (fun K hK=>?_) AllReadyH.nil
 refine step_store_self (by simp[Region.wanted]) 45 _ _ rfl Q (cA ⟨2,A.M,nilX,A.g,A.l⟩).toArray rfl rfl SQ.out (by kernel_rfl) (cA_one _) ?_
 refine hK.out _ _ rfl (fun _=>?_)
 clear hK K
 try simp only[Act.put,List.getElem_toArray,List.getElem_cons_zero,List.getElem_cons_succ,List.setIfInBounds_toArray,List.set_cons_zero,List.set_cons_succ]
 refine wpAnyH_take (i:=5) (v := .int .i64 z) rfl (by kernel_rfl) (by kernel_rfl) (by kernel_rfl) (fun _ _ _ h=>h) (Or.inl ⟨by rfl,fun w' hS=>?_⟩) rfl ?_
 ·subst hS
  go_simp
 try simp only[Act.put,List.getElem_toArray,List.getElem_cons_zero,List.getElem_cons_succ,List.setIfInBounds_toArray,List.set_cons_zero,List.set_cons_succ]
 refine wpAnyH_done (by kernel_rfl) ?_ _
 clear SQ
 have HQd:=Lib.hid (HQn.out.drew);have hB3:=hB2.drew;have RRd:=Lib.hid (RRn.out.later (Below.refl _ _).drew (Nat.le_refl _))
 clear HQn hB2 RRn
 generalize w3.drew=w4 at *
 go_wp2_with (fail)
 have hL:=run_loadVar_mid (P:=Tryz.prog) _ Q 0 45 ((cA ⟨2,A.M,nilX,A.g,A.l⟩)) _ HQd.out.cell Tryz.underlying45 rfl (by kernel_rfl)
 exact bodyPost_ret (v := .tuple #[v,.agg ((cA ⟨2,A.M,nilX,A.g,A.l⟩)).toArray,.int .i64 z]) (res_tct Tryz.results49 rfl rfl hL rfl) rfl ⟨⟨_,rfl,RRd.out⟩,hB3⟩
set_option maxHeartbeats 16000000 in
theorem encode_3 (A:Ast) (w:World) (hA:AstAt A w):Calls Tryz.prog 49 #[(.agg (cA ⟨3,A.M,A.X,A.g,A.l⟩).toArray)] w fun e w'=>(∃ v,e = .returned (.tuple #[v,(.agg (cA ⟨3,A.M,A.X,fun _=>0,A.l⟩).toArray),.int .i64 (chkG A.g)])∧RowR w' v (encL (chkG A.g) 9) (encG A.g))∧Below w.heap.size w w':=by
 have AQ:Hid (∀ W,Below w.heap.size w W→AstAt A W):=Lib.hid (fun W hb=>hA.later hb)
 have AA:=Lib.hid hA
 obtain⟨z,ez⟩:∃ z,chkG A.g=z:=⟨_,rfl⟩
 have CON:=Lib.hid (encMat_any A.g)
 rw[ez] at CON ⊢
 clear hA ez
 go_enter Tryz.func49,Tryz.ntmps49
 go_upto_region 1 with fail
 obtain⟨W0,hW⟩:∃ W0,W0=((w.alloc (.cells (cA ⟨3,A.M,A.X,A.g,A.l⟩).toArray 45)).alloc (.cells #[.int .i64 0,.slice none 0 0,.slice none 0 0,.slice none 0 0,.int .i64 0,.slice none 0 0,.int .i64 0,.int .i64 0,.int .i64 0,.int .i64 0,.int .i64 0,.int .i64 0,.int .i64 0,.int .i64 0,.int .i64 0,.int .i64 0,.int .i64 0,.int .i64 0,.int .i64 0,.int .i64 0,.int .i64 0,.int .i64 0,.int .i64 0,.int .i64 0] 45)):=⟨_,rfl⟩
 have hB0:Below w.heap.size w W0:=hW ▸ (Below.al (Below.al (Below.refl _ _)))
 have HP:Hid (Own w.heap.size ((cA ⟨3,A.M,A.X,A.g,A.l⟩)) W0):=Lib.hid (hW ▸ (show Own w.heap.size ((cA ⟨3,A.M,A.X,A.g,A.l⟩)) (w.alloc (.cells (cA ⟨3,A.M,A.X,A.g,A.l⟩).toArray 45)) from Own.newAt (by simp)).alloc)
 have HQ:Hid (Own (w.heap.size+1) ([.int .i64 0,.slice none 0 0,.slice none 0 0,.slice none 0 0,.int .i64 0,.slice none 0 0,.int .i64 0,.int .i64 0,.int .i64 0,.int .i64 0,.int .i64 0,.int .i64 0,.int .i64 0,.int .i64 0,.int .i64 0,.int .i64 0,.int .i64 0,.int .i64 0,.int .i64 0,.int .i64 0,.int .i64 0,.int .i64 0,.int .i64 0,.int .i64 0]) W0):=Lib.hid (hW ▸ (show Own (w.heap.size+1) ([.int .i64 0,.slice none 0 0,.slice none 0 0,.slice none 0 0,.int .i64 0,.slice none 0 0,.int .i64 0,.int .i64 0,.int .i64 0,.int .i64 0,.int .i64 0,.int .i64 0,.int .i64 0,.int .i64 0,.int .i64 0,.int .i64 0,.int .i64 0,.int .i64 0,.int .i64 0,.int .i64 0,.int .i64 0,.int .i64 0,.int .i64 0,.int .i64 0]) ((w.alloc (.cells (cA ⟨3,A.M,A.X,A.g,A.l⟩).toArray 45)).alloc (.cells #[.int .i64 0,.slice none 0 0,.slice none 0 0,.slice none 0 0,.int .i64 0,.slice none 0 0,.int .i64 0,.int .i64 0,.int .i64 0,.int .i64 0,.int .i64 0,.int .i64 0,.int .i64 0,.int .i64 0,.int .i64 0,.int .i64 0,.int .i64 0,.int .i64 0,.int .i64 0,.int .i64 0,.int .i64 0,.int .i64 0,.int .i64 0,.int .i64 0] 45)) from Own.newAt (by simp)))
 rw[← hW]
 clear hW
 obtain⟨Q,eQ⟩:∃ X,X=(w.heap.size+1):=⟨_,rfl⟩
 rw[← eQ] at HQ ⊢
 have Qw:w.heap.size≤Q:=by omega
 obtain⟨P,eP⟩:∃ X,X=w.heap.size:=⟨_,rfl⟩
 rw[← eP] at HP ⊢
 have Pw:w.heap.size≤P:=by omega
 have nPQ:P≠Q:=by omega
 have nQP:Q≠P:=by omega
 clear eP eQ
 have AA_:=Lib.hid (AA.out.later hB0)
 clear AA
 have AA:=AA_
 clear AA_
 refine wp_region_lit ?_
 refine wpList_load_mid rfl 45 _ rfl P 0 rfl ((cA ⟨3,A.M,A.X,A.g,A.l⟩)) _ HP.out.cell Tryz.underlying45 rfl (by kernel_rfl) ?_
 refine wpList_store_mid rfl 45 _ _ rfl Q 0 ((cA ⟨3,A.M,A.X,A.g,A.l⟩)).toArray rfl rfl HQ.out.free (by kernel_rfl) (cA_one _) ?_
 change wpList _ _ _ [] _ (W0.setCells Q 0 ((cA ⟨3,A.M,A.X,A.g,A.l⟩)))
 have HQn:Hid (Own Q ((cA ⟨3,A.M,A.X,A.g,A.l⟩)) (W0.setCells Q 0 ((cA ⟨3,A.M,A.X,A.g,A.l⟩)))):=Lib.hid (Own.store HQ.out rfl)
 have HPn:Hid (Own P ((cA ⟨3,A.M,A.X,A.g,A.l⟩)) (W0.setCells Q 0 ((cA ⟨3,A.M,A.X,A.g,A.l⟩)))):=Lib.hid (Own.far (o:=0) (vs:=((cA ⟨3,A.M,A.X,A.g,A.l⟩))) HP.out nPQ)
 have hB0n:Below w.heap.size w (W0.setCells Q 0 ((cA ⟨3,A.M,A.X,A.g,A.l⟩))):=Below.setCells hB0 Qw ((cA ⟨3,A.M,A.X,A.g,A.l⟩)) 0
 clear HQ HP hB0
 generalize (W0.setCells Q 0 ((cA ⟨3,A.M,A.X,A.g,A.l⟩)))=w1 at *
 have HQ:=HQn
 clear HQn
 have HP:=HPn
 clear HPn
 have hB0:=hB0n
 clear hB0n
 clear AA
 have AA:=Lib.hid (AQ.out _ hB0)
 have oP:=HP.out
 have P0:=oP.at 0 _ rfl
 have P1:=oP.at 1 _ rfl
 have P2:=oP.at 2 _ rfl
 have P3:=oP.at 3 _ rfl
 have P4:=oP.at 4 _ rfl
 have P5:=oP.at 5 _ rfl
 have P6:=oP.at 6 _ rfl
 have P7:=oP.at 7 _ rfl
 have P8:=oP.at 8 _ rfl
 have P9:=oP.at 9 _ rfl
 have P10:=oP.at 10 _ rfl
 have P11:=oP.at 11 _ rfl
 have P12:=oP.at 12 _ rfl
 have P13:=oP.at 13 _ rfl
 have P14:=oP.at 14 _ rfl
 have P15:=oP.at 15 _ rfl
 have P16:=oP.at 16 _ rfl
 have P17:=oP.at 17 _ rfl
 have P18:=oP.at 18 _ rfl
 have P19:=oP.at 19 _ rfl
 have P20:=oP.at 20 _ rfl
 have P21:=oP.at 21 _ rfl
 have P22:=oP.at 22 _ rfl
 have P23:=oP.at 23 _ rfl
 have Pl:=oP.lt
 clear oP
 go_wp2_with (fail)
 clear P0 P1 P2 P3 P4 P5 P6 P7 P8 P9 P10 P11 P12 P13 P14 P15 P16 P17 P18 P19 P20 P21 P22 P23 Pl
 go_at_call 87
 refine (CON.out _).mono ?_
 rintro e w2 ⟨⟨v,rfl,hr⟩,hb⟩
 have RR:=Lib.hid hr
 have hB1:=Below.go hB0 hb
 have HQ_:=Lib.hid (HQ.out.later hb)
 clear hr hb HP HQ AA AQ hB0 CON
 have HQ:=HQ_
 clear HQ_
 have oQ:=HQ.out
 have Q0:=oQ.at 0 _ rfl
 have Qf0:=oQ.ok 0 (Nat.le_of_ble_eq_true rfl)
 have Q1:=oQ.at 1 _ rfl
 have Qf1:=oQ.ok 1 (Nat.le_of_ble_eq_true rfl)
 have Q2:=oQ.at 2 _ rfl
 have Qf2:=oQ.ok 2 (Nat.le_of_ble_eq_true rfl)
 have Q3:=oQ.at 3 _ rfl
 have Qf3:=oQ.ok 3 (Nat.le_of_ble_eq_true rfl)
 have Q4:=oQ.at 4 _ rfl
 have Qf4:=oQ.ok 4 (Nat.le_of_ble_eq_true rfl)
 have Q5:=oQ.at 5 _ rfl
 have Qf5:=oQ.ok 5 (Nat.le_of_ble_eq_true rfl)
 have Q6:=oQ.at 6 _ rfl
 have Qf6:=oQ.ok 6 (Nat.le_of_ble_eq_true rfl)
 have Q7:=oQ.at 7 _ rfl
 have Qf7:=oQ.ok 7 (Nat.le_of_ble_eq_true rfl)
 have Q8:=oQ.at 8 _ rfl
 have Qf8:=oQ.ok 8 (Nat.le_of_ble_eq_true rfl)
 have Q9:=oQ.at 9 _ rfl
 have Qf9:=oQ.ok 9 (Nat.le_of_ble_eq_true rfl)
 have Q10:=oQ.at 10 _ rfl
 have Qf10:=oQ.ok 10 (Nat.le_of_ble_eq_true rfl)
 have Q11:=oQ.at 11 _ rfl
 have Qf11:=oQ.ok 11 (Nat.le_of_ble_eq_true rfl)
 have Q12:=oQ.at 12 _ rfl
 have Qf12:=oQ.ok 12 (Nat.le_of_ble_eq_true rfl)
 have Q13:=oQ.at 13 _ rfl
 have Qf13:=oQ.ok 13 (Nat.le_of_ble_eq_true rfl)
 have Q14:=oQ.at 14 _ rfl
 have Qf14:=oQ.ok 14 (Nat.le_of_ble_eq_true rfl)
 have Q15:=oQ.at 15 _ rfl
 have Qf15:=oQ.ok 15 (Nat.le_of_ble_eq_true rfl)
 have Q16:=oQ.at 16 _ rfl
 have Qf16:=oQ.ok 16 (Nat.le_of_ble_eq_true rfl)
 have Q17:=oQ.at 17 _ rfl
 have Qf17:=oQ.ok 17 (Nat.le_of_ble_eq_true rfl)
 have Q18:=oQ.at 18 _ rfl
 have Qf18:=oQ.ok 18 (Nat.le_of_ble_eq_true rfl)
 have Q19:=oQ.at 19 _ rfl
 have Qf19:=oQ.ok 19 (Nat.le_of_ble_eq_true rfl)
 have Q20:=oQ.at 20 _ rfl
 have Qf20:=oQ.ok 20 (Nat.le_of_ble_eq_true rfl)
 have Q21:=oQ.at 21 _ rfl
 have Qf21:=oQ.ok 21 (Nat.le_of_ble_eq_true rfl)
 have Q22:=oQ.at 22 _ rfl
 have Qf22:=oQ.ok 22 (Nat.le_of_ble_eq_true rfl)
 have Q23:=oQ.at 23 _ rfl
 have Qf23:=oQ.ok 23 (Nat.le_of_ble_eq_true rfl)
 have Ql:=oQ.lt
 clear oQ
 go_upto_region 16 with fail
 rw[show (((((w2.setCell ⟨Q,6,none⟩ (.int .i64 0)).setCell ⟨Q,7,none⟩ (.int .i64 0)).setCell ⟨Q,8,none⟩ (.int .i64 0)).setCell ⟨Q,9,none⟩ (.int .i64 0)).setCell ⟨Q,10,none⟩ (.int .i64 0))=w2.setCells Q 6 [.int .i64 0,.int .i64 0,.int .i64 0,.int .i64 0,.int .i64 0] from rfl]
 have HQn:Hid (Own Q ((cA ⟨3,A.M,A.X,fun _=>0,A.l⟩)) (w2.setCells Q 6 [.int .i64 0,.int .i64 0,.int .i64 0,.int .i64 0,.int .i64 0])):=Lib.hid (show Own Q (over _ 6 [.int .i64 0,.int .i64 0,.int .i64 0,.int .i64 0,.int .i64 0]) _ from Own.part HQ.out (Nat.le_of_ble_eq_true rfl))
 have hB2:Below w.heap.size w (w2.setCells Q 6 [.int .i64 0,.int .i64 0,.int .i64 0,.int .i64 0,.int .i64 0]):=Below.setCells hB1 Qw [.int .i64 0,.int .i64 0,.int .i64 0,.int .i64 0,.int .i64 0] 6
 have RRn:Hid (RowR (w2.setCells Q 6 [.int .i64 0,.int .i64 0,.int .i64 0,.int .i64 0,.int .i64 0]) v (encL (z) 9) (encG A.g)):=Lib.hid (RowR.kinds RR.out HQ.out rfl (Nat.le_of_ble_eq_true rfl))
 clear HQ RR hB1 Q0 Qf0 Q1 Qf1 Q2 Qf2 Q3 Qf3 Q4 Qf4 Q5 Qf5 Q6 Qf6 Q7 Qf7 Q8 Qf8 Q9 Qf9 Q10 Qf10 Q11 Qf11 Q12 Qf12 Q13 Qf13 Q14 Qf14 Q15 Qf15 Q16 Qf16 Q17 Qf17 Q18 Qf18 Q19 Qf19 Q20 Qf20 Q21 Qf21 Q22 Qf22 Q23 Qf23 Ql
 generalize w2.setCells Q 6 [.int .i64 0,.int .i64 0,.int .i64 0,.int .i64 0,.int .i64 0]=w3 at *
 have SQ:Hid (Own Q ((cA ⟨3,A.M,A.X,fun _=>0,A.l⟩)) w3.drew):=Lib.hid HQn.out.drew
 refine wp_region_held_drew (S:=fun w'=>w'=w3.drew) (by kernel_rfl) rfl (fun _=>?_)
 refine wpAnyH_take (i:=0) (v:=v) rfl (by kernel_rfl) (by kernel_rfl) (by kernel_rfl) (fun _ _ _ h=>h) (Or.inl ⟨by rfl,fun w' hS=>?_⟩) rfl ?_
 ·subst hS
  go_simp
 try simp only[Act.put,List.getElem_toArray,List.getElem_cons_zero,List.getElem_cons_succ,List.setIfInBounds_toArray,List.set_cons_zero,List.set_cons_succ]
 refine wpAnyH_take (i:=1) (v := .agg ((cA ⟨3,A.M,A.X,fun _=>0,A.l⟩)).toArray) rfl (by kernel_rfl) (by kernel_rfl) (by kernel_rfl) (fun _ _ _ h=>h) (yieldsIf_load_mid (by rfl) 45 _ rfl Q 0 rfl ((cA ⟨3,A.M,A.X,fun _=>0,A.l⟩)) _ (fun w h=>by rw[h];exact SQ.out.cell) Tryz.underlying45 rfl (by kernel_rfl)) rfl ?_
 try simp only[Act.put,List.getElem_toArray,List.getElem_cons_zero,List.getElem_cons_succ,List.setIfInBounds_toArray,List.set_cons_zero,List.set_cons_succ]
 refine wpAnyH_take (i:=2) (v := .int .i64 z) rfl (by kernel_rfl) (by kernel_rfl) (by kernel_rfl) (fun _ _ _ h=>h) (Or.inl ⟨by rfl,fun w' hS=>?_⟩) rfl ?_
 ·subst hS
  go_simp
 try simp only[Act.put,List.getElem_toArray,List.getElem_cons_zero,List.getElem_cons_succ,List.setIfInBounds_toArray,List.set_cons_zero,List.set_cons_succ]
 refine wpAnyH_take (i:=3) (v:=v) rfl (by kernel_rfl) (by kernel_rfl) (by kernel_rfl) (fun _ _ _ h=>h) (Or.inl ⟨by rfl,fun w' hS=>?_⟩) rfl ?_
 ·subst hS
  go_simp
 try simp only[Act.put,List.getElem_toArray,List.getElem_cons_zero,List.getElem_cons_succ,List.setIfInBounds_toArray,List.set_cons_zero,List.set_cons_succ]
 refine wpAnyH_ready (rs:=[4]) (by kernel_rfl) (by simp) ?_
 refine AllReadyH.cons rfl (fun K hK=>?_) AllReadyH.nil
 refine step_store_self (by simp[Region.wanted]) 45 _ _ rfl Q (cA ⟨3,A.M,A.X,fun _=>0,A.l⟩).toArray rfl rfl SQ.out (by kernel_rfl) (cA_one _) ?_
 refine hK.out _ _ rfl (fun _=>?_)
 clear hK K
 try simp only[Act.put,List.getElem_toArray,List.getElem_cons_zero,List.getElem_cons_succ,List.setIfInBounds_toArray,List.set_cons_zero,List.set_cons_succ]
 refine wpAnyH_take (i:=5) (v := .int .i64 z) rfl (by kernel_rfl) (by kernel_rfl) (by kernel_rfl) (fun _ _ _ h=>h) (Or.inl ⟨by rfl,fun w' hS=>?_⟩) rfl ?_
 ·subst hS
  go_simp
 try simp only[Act.put,List.getElem_toArray,List.getElem_cons_zero,List.getElem_cons_succ,List.setIfInBounds_toArray,List.set_cons_zero,List.set_cons_succ]
 refine wpAnyH_done (by kernel_rfl) ?_ _
 clear SQ
 have HQd:=Lib.hid (HQn.out.drew);have hB3:=hB2.drew;have RRd:=Lib.hid (RRn.out.later (Below.refl _ _).drew (Nat.le_refl _))
 clear HQn hB2 RRn
 generalize w3.drew=w4 at *
 go_wp2_with (fail)
 have hL:=run_loadVar_mid (P:=Tryz.prog) _ Q 0 45 ((cA ⟨3,A.M,A.X,fun _=>0,A.l⟩)) _ HQd.out.cell Tryz.underlying45 rfl (by kernel_rfl)
 exact bodyPost_ret (v := .tuple #[v,.agg ((cA ⟨3,A.M,A.X,fun _=>0,A.l⟩)).toArray,.int .i64 z]) (res_tct Tryz.results49 rfl rfl hL rfl) rfl ⟨⟨_,rfl,RRd.out⟩,hB3⟩
set_option maxHeartbeats 16000000 in
theorem encode_4 (A:Ast) (w:World) (hA:AstAt A w):Calls Tryz.prog 49 #[(.agg (cA ⟨4,A.M,A.X,A.g,A.l⟩).toArray)] w fun e w'=>(∃ v,e = .returned (.tuple #[v,(.agg (cA ⟨4,A.M,A.X,A.g,fun _=>0⟩).toArray),.int .i64 (chkLg A.l)])∧RowR w' v (encL (chkLg A.l) 31) (encLg A.l))∧Below w.heap.size w w':=by
 have AQ:Hid (∀ W,Below w.heap.size w W→AstAt A W):=Lib.hid (fun W hb=>hA.later hb)
 have AA:=Lib.hid hA
 obtain⟨z,ez⟩:∃ z,chkLg A.l=z:=⟨_,rfl⟩
 have CON:=Lib.hid (encLgt_any A.l)
 rw[ez] at CON ⊢
 clear hA ez
 go_enter Tryz.func49,Tryz.ntmps49
 go_upto_region 1 with fail
 obtain⟨W0,hW⟩:∃ W0,W0=((w.alloc (.cells (cA ⟨4,A.M,A.X,A.g,A.l⟩).toArray 45)).alloc (.cells #[.int .i64 0,.slice none 0 0,.slice none 0 0,.slice none 0 0,.int .i64 0,.slice none 0 0,.int .i64 0,.int .i64 0,.int .i64 0,.int .i64 0,.int .i64 0,.int .i64 0,.int .i64 0,.int .i64 0,.int .i64 0,.int .i64 0,.int .i64 0,.int .i64 0,.int .i64 0,.int .i64 0,.int .i64 0,.int .i64 0,.int .i64 0,.int .i64 0] 45)):=⟨_,rfl⟩
 have hB0:Below w.heap.size w W0:=hW ▸ (Below.al (Below.al (Below.refl _ _)))
 have HP:Hid (Own w.heap.size ((cA ⟨4,A.M,A.X,A.g,A.l⟩)) W0):=Lib.hid (hW ▸ (show Own w.heap.size ((cA ⟨4,A.M,A.X,A.g,A.l⟩)) (w.alloc (.cells (cA ⟨4,A.M,A.X,A.g,A.l⟩).toArray 45)) from Own.newAt (by simp)).alloc)
 have HQ:Hid (Own (w.heap.size+1) ([.int .i64 0,.slice none 0 0,.slice none 0 0,.slice none 0 0,.int .i64 0,.slice none 0 0,.int .i64 0,.int .i64 0,.int .i64 0,.int .i64 0,.int .i64 0,.int .i64 0,.int .i64 0,.int .i64 0,.int .i64 0,.int .i64 0,.int .i64 0,.int .i64 0,.int .i64 0,.int .i64 0,.int .i64 0,.int .i64 0,.int .i64 0,.int .i64 0]) W0):=Lib.hid (hW ▸ (show Own (w.heap.size+1) ([.int .i64 0,.slice none 0 0,.slice none 0 0,.slice none 0 0,.int .i64 0,.slice none 0 0,.int .i64 0,.int .i64 0,.int .i64 0,.int .i64 0,.int .i64 0,.int .i64 0,.int .i64 0,.int .i64 0,.int .i64 0,.int .i64 0,.int .i64 0,.int .i64 0,.int .i64 0,.int .i64 0,.int .i64 0,.int .i64 0,.int .i64 0,.int .i64 0]) ((w.alloc (.cells (cA ⟨4,A.M,A.X,A.g,A.l⟩).toArray 45)).alloc (.cells #[.int .i64 0,.slice none 0 0,.slice none 0 0,.slice none 0 0,.int .i64 0,.slice none 0 0,.int .i64 0,.int .i64 0,.int .i64 0,.int .i64 0,.int .i64 0,.int .i64 0,.int .i64 0,.int .i64 0,.int .i64 0,.int .i64 0,.int .i64 0,.int .i64 0,.int .i64 0,.int .i64 0,.int .i64 0,.int .i64 0,.int .i64 0,.int .i64 0] 45)) from Own.newAt (by simp)))
 rw[← hW]
 clear hW
 obtain⟨Q,eQ⟩:∃ X,X=(w.heap.size+1):=⟨_,rfl⟩
 rw[← eQ] at HQ ⊢
 have Qw:w.heap.size≤Q:=by omega
 obtain⟨P,eP⟩:∃ X,X=w.heap.size:=⟨_,rfl⟩
 rw[← eP] at HP ⊢
 have Pw:w.heap.size≤P:=by omega
 have nPQ:P≠Q:=by omega
 have nQP:Q≠P:=by omega
 clear eP eQ
 have AA_:=Lib.hid (AA.out.later hB0)
 clear AA
 have AA:=AA_
 clear AA_
 refine wp_region_lit ?_
 refine wpList_load_mid rfl 45 _ rfl P 0 rfl ((cA ⟨4,A.M,A.X,A.g,A.l⟩)) _ HP.out.cell Tryz.underlying45 rfl (by kernel_rfl) ?_
 refine wpList_store_mid rfl 45 _ _ rfl Q 0 ((cA ⟨4,A.M,A.X,A.g,A.l⟩)).toArray rfl rfl HQ.out.free (by kernel_rfl) (cA_one _) ?_
 change wpList _ _ _ [] _ (W0.setCells Q 0 ((cA ⟨4,A.M,A.X,A.g,A.l⟩)))
 have HQn:Hid (Own Q ((cA ⟨4,A.M,A.X,A.g,A.l⟩)) (W0.setCells Q 0 ((cA ⟨4,A.M,A.X,A.g,A.l⟩)))):=Lib.hid (Own.store HQ.out rfl)
 have HPn:Hid (Own P ((cA ⟨4,A.M,A.X,A.g,A.l⟩)) (W0.setCells Q 0 ((cA ⟨4,A.M,A.X,A.g,A.l⟩)))):=Lib.hid (Own.far (o:=0) (vs:=((cA ⟨4,A.M,A.X,A.g,A.l⟩))) HP.out nPQ)
 have hB0n:Below w.heap.size w (W0.setCells Q 0 ((cA ⟨4,A.M,A.X,A.g,A.l⟩))):=Below.setCells hB0 Qw ((cA ⟨4,A.M,A.X,A.g,A.l⟩)) 0
 clear HQ HP hB0
 generalize (W0.setCells Q 0 ((cA ⟨4,A.M,A.X,A.g,A.l⟩)))=w1 at *
 have HQ:=HQn
 clear HQn
 have HP:=HPn
 clear HPn
 have hB0:=hB0n
 clear hB0n
 clear AA
 have AA:=Lib.hid (AQ.out _ hB0)
 have oP:=HP.out
 have P0:=oP.at 0 _ rfl
 have P1:=oP.at 1 _ rfl
 have P2:=oP.at 2 _ rfl
 have P3:=oP.at 3 _ rfl
 have P4:=oP.at 4 _ rfl
 have P5:=oP.at 5 _ rfl
 have P6:=oP.at 6 _ rfl
 have P7:=oP.at 7 _ rfl
 have P8:=oP.at 8 _ rfl
 have P9:=oP.at 9 _ rfl
 have P10:=oP.at 10 _ rfl
 have P11:=oP.at 11 _ rfl
 have P12:=oP.at 12 _ rfl
 have P13:=oP.at 13 _ rfl
 have P14:=oP.at 14 _ rfl
 have P15:=oP.at 15 _ rfl
 have P16:=oP.at 16 _ rfl
 have P17:=oP.at 17 _ rfl
 have P18:=oP.at 18 _ rfl
 have P19:=oP.at 19 _ rfl
 have P20:=oP.at 20 _ rfl
 have P21:=oP.at 21 _ rfl
 have P22:=oP.at 22 _ rfl
 have P23:=oP.at 23 _ rfl
 have Pl:=oP.lt
 clear oP
 go_wp2_with (fail)
 clear P0 P1 P2 P3 P4 P5 P6 P7 P8 P9 P10 P11 P12 P13 P14 P15 P16 P17 P18 P19 P20 P21 P22 P23 Pl
 go_at_call 88
 refine (CON.out _).mono ?_
 rintro e w2 ⟨⟨v,rfl,hr⟩,hb⟩
 have RR:=Lib.hid hr
 have hB1:=Below.go hB0 hb
 have HQ_:=Lib.hid (HQ.out.later hb)
 clear hr hb HP HQ AA AQ hB0 CON
 have HQ:=HQ_
 clear HQ_
 have oQ:=HQ.out
 have Q0:=oQ.at 0 _ rfl
 have Qf0:=oQ.ok 0 (Nat.le_of_ble_eq_true rfl)
 have Q1:=oQ.at 1 _ rfl
 have Qf1:=oQ.ok 1 (Nat.le_of_ble_eq_true rfl)
 have Q2:=oQ.at 2 _ rfl
 have Qf2:=oQ.ok 2 (Nat.le_of_ble_eq_true rfl)
 have Q3:=oQ.at 3 _ rfl
 have Qf3:=oQ.ok 3 (Nat.le_of_ble_eq_true rfl)
 have Q4:=oQ.at 4 _ rfl
 have Qf4:=oQ.ok 4 (Nat.le_of_ble_eq_true rfl)
 have Q5:=oQ.at 5 _ rfl
 have Qf5:=oQ.ok 5 (Nat.le_of_ble_eq_true rfl)
 have Q6:=oQ.at 6 _ rfl
 have Qf6:=oQ.ok 6 (Nat.le_of_ble_eq_true rfl)
 have Q7:=oQ.at 7 _ rfl
 have Qf7:=oQ.ok 7 (Nat.le_of_ble_eq_true rfl)
 have Q8:=oQ.at 8 _ rfl
 have Qf8:=oQ.ok 8 (Nat.le_of_ble_eq_true rfl)
 have Q9:=oQ.at 9 _ rfl
 have Qf9:=oQ.ok 9 (Nat.le_of_ble_eq_true rfl)
 have Q10:=oQ.at 10 _ rfl
 have Qf10:=oQ.ok 10 (Nat.le_of_ble_eq_true rfl)
 have Q11:=oQ.at 11 _ rfl
 have Qf11:=oQ.ok 11 (Nat.le_of_ble_eq_true rfl)
 have Q12:=oQ.at 12 _ rfl
 have Qf12:=oQ.ok 12 (Nat.le_of_ble_eq_true rfl)
 have Q13:=oQ.at 13 _ rfl
 have Qf13:=oQ.ok 13 (Nat.le_of_ble_eq_true rfl)
 have Q14:=oQ.at 14 _ rfl
 have Qf14:=oQ.ok 14 (Nat.le_of_ble_eq_true rfl)
 have Q15:=oQ.at 15 _ rfl
 have Qf15:=oQ.ok 15 (Nat.le_of_ble_eq_true rfl)
 have Q16:=oQ.at 16 _ rfl
 have Qf16:=oQ.ok 16 (Nat.le_of_ble_eq_true rfl)
 have Q17:=oQ.at 17 _ rfl
 have Qf17:=oQ.ok 17 (Nat.le_of_ble_eq_true rfl)
 have Q18:=oQ.at 18 _ rfl
 have Qf18:=oQ.ok 18 (Nat.le_of_ble_eq_true rfl)
 have Q19:=oQ.at 19 _ rfl
 have Qf19:=oQ.ok 19 (Nat.le_of_ble_eq_true rfl)
 have Q20:=oQ.at 20 _ rfl
 have Qf20:=oQ.ok 20 (Nat.le_of_ble_eq_true rfl)
 have Q21:=oQ.at 21 _ rfl
 have Qf21:=oQ.ok 21 (Nat.le_of_ble_eq_true rfl)
 have Q22:=oQ.at 22 _ rfl
 have Qf22:=oQ.ok 22 (Nat.le_of_ble_eq_true rfl)
 have Q23:=oQ.at 23 _ rfl
 have Qf23:=oQ.ok 23 (Nat.le_of_ble_eq_true rfl)
 have Ql:=oQ.lt
 clear oQ
 go_upto_region 16 with fail
 rw[show (((((((((((((w2.setCell ⟨Q,11,none⟩ (.int .i64 0)).setCell ⟨Q,12,none⟩ (.int .i64 0)).setCell ⟨Q,13,none⟩ (.int .i64 0)).setCell ⟨Q,14,none⟩ (.int .i64 0)).setCell ⟨Q,15,none⟩ (.int .i64 0)).setCell ⟨Q,16,none⟩ (.int .i64 0)).setCell ⟨Q,17,none⟩ (.int .i64 0)).setCell ⟨Q,18,none⟩ (.int .i64 0)).setCell ⟨Q,19,none⟩ (.int .i64 0)).setCell ⟨Q,20,none⟩ (.int .i64 0)).setCell ⟨Q,21,none⟩ (.int .i64 0)).setCell ⟨Q,22,none⟩ (.int .i64 0)).setCell ⟨Q,23,none⟩ (.int .i64 0))=w2.setCells Q 11 [.int .i64 0,.int .i64 0,.int .i64 0,.int .i64 0,.int .i64 0,.int .i64 0,.int .i64 0,.int .i64 0,.int .i64 0,.int .i64 0,.int .i64 0,.int .i64 0,.int .i64 0] from rfl]
 have HQn:Hid (Own Q ((cA ⟨4,A.M,A.X,A.g,fun _=>0⟩)) (w2.setCells Q 11 [.int .i64 0,.int .i64 0,.int .i64 0,.int .i64 0,.int .i64 0,.int .i64 0,.int .i64 0,.int .i64 0,.int .i64 0,.int .i64 0,.int .i64 0,.int .i64 0,.int .i64 0])):=Lib.hid (show Own Q (over _ 11 [.int .i64 0,.int .i64 0,.int .i64 0,.int .i64 0,.int .i64 0,.int .i64 0,.int .i64 0,.int .i64 0,.int .i64 0,.int .i64 0,.int .i64 0,.int .i64 0,.int .i64 0]) _ from Own.part HQ.out (Nat.le_of_ble_eq_true rfl))
 have hB2:Below w.heap.size w (w2.setCells Q 11 [.int .i64 0,.int .i64 0,.int .i64 0,.int .i64 0,.int .i64 0,.int .i64 0,.int .i64 0,.int .i64 0,.int .i64 0,.int .i64 0,.int .i64 0,.int .i64 0,.int .i64 0]):=Below.setCells hB1 Qw [.int .i64 0,.int .i64 0,.int .i64 0,.int .i64 0,.int .i64 0,.int .i64 0,.int .i64 0,.int .i64 0,.int .i64 0,.int .i64 0,.int .i64 0,.int .i64 0,.int .i64 0] 11
 have RRn:Hid (RowR (w2.setCells Q 11 [.int .i64 0,.int .i64 0,.int .i64 0,.int .i64 0,.int .i64 0,.int .i64 0,.int .i64 0,.int .i64 0,.int .i64 0,.int .i64 0,.int .i64 0,.int .i64 0,.int .i64 0]) v (encL (z) 31) (encLg A.l)):=Lib.hid (RowR.kinds RR.out HQ.out rfl (Nat.le_of_ble_eq_true rfl))
 clear HQ RR hB1 Q0 Qf0 Q1 Qf1 Q2 Qf2 Q3 Qf3 Q4 Qf4 Q5 Qf5 Q6 Qf6 Q7 Qf7 Q8 Qf8 Q9 Qf9 Q10 Qf10 Q11 Qf11 Q12 Qf12 Q13 Qf13 Q14 Qf14 Q15 Qf15 Q16 Qf16 Q17 Qf17 Q18 Qf18 Q19 Qf19 Q20 Qf20 Q21 Qf21 Q22 Qf22 Q23 Qf23 Ql
 generalize w2.setCells Q 11 [.int .i64 0,.int .i64 0,.int .i64 0,.int .i64 0,.int .i64 0,.int .i64 0,.int .i64 0,.int .i64 0,.int .i64 0,.int .i64 0,.int .i64 0,.int .i64 0,.int .i64 0]=w3 at *
 have SQ:Hid (Own Q ((cA ⟨4,A.M,A.X,A.g,fun _=>0⟩)) w3.drew):=Lib.hid HQn.out.drew
 refine wp_region_held_drew (S:=fun w'=>w'=w3.drew) (by kernel_rfl) rfl (fun _=>?_)
 refine wpAnyH_take (i:=0) (v:=v) rfl (by kernel_rfl) (by kernel_rfl) (by kernel_rfl) (fun _ _ _ h=>h) (Or.inl ⟨by rfl,fun w' hS=>?_⟩) rfl ?_
 ·subst hS
  go_simp
 try simp only[Act.put,List.getElem_toArray,List.getElem_cons_zero,List.getElem_cons_succ,List.setIfInBounds_toArray,List.set_cons_zero,List.set_cons_succ]
 refine wpAnyH_take (i:=1) (v := .agg ((cA ⟨4,A.M,A.X,A.g,fun _=>0⟩)).toArray) rfl (by kernel_rfl) (by kernel_rfl) (by kernel_rfl) (fun _ _ _ h=>h) (yieldsIf_load_mid (by rfl) 45 _ rfl Q 0 rfl ((cA ⟨4,A.M,A.X,A.g,fun _=>0⟩)) _ (fun w h=>by rw[h];exact SQ.out.cell) Tryz.underlying45 rfl (by kernel_rfl)) rfl ?_
 try simp only[Act.put,List.getElem_toArray,List.getElem_cons_zero,List.getElem_cons_succ,List.setIfInBounds_toArray,List.set_cons_zero,List.set_cons_succ]
 refine wpAnyH_take (i:=2) (v := .int .i64 z) rfl (by kernel_rfl) (by kernel_rfl) (by kernel_rfl) (fun _ _ _ h=>h) (Or.inl ⟨by rfl,fun w' hS=>?_⟩) rfl ?_
 ·subst hS
  go_simp
 try simp only[Act.put,List.getElem_toArray,List.getElem_cons_zero,List.getElem_cons_succ,List.setIfInBounds_toArray,List.set_cons_zero,List.set_cons_succ]
 refine wpAnyH_take (i:=3) (v:=v) rfl (by kernel_rfl) (by kernel_rfl) (by kernel_rfl) (fun _ _ _ h=>h) (Or.inl ⟨by rfl,fun w' hS=>?_⟩) rfl ?_
 ·subst hS
  go_simp
 try simp only[Act.put,List.getElem_toArray,List.getElem_cons_zero,List.getElem_cons_succ,List.setIfInBounds_toArray,List.set_cons_zero,List.set_cons_succ]
 refine wpAnyH_ready (rs:=[4]) (by kernel_rfl) (by simp) ?_
 refine AllReadyH.cons rfl (fun K hK=>?_) AllReadyH.nil
 refine step_store_self (by simp[Region.wanted]) 45 _ _ rfl Q (cA ⟨4,A.M,A.X,A.g,fun _=>0⟩).toArray rfl rfl SQ.out (by kernel_rfl) (cA_one _) ?_
 refine hK.out _ _ rfl (fun _=>?_)
 clear hK K
 try simp only[Act.put,List.getElem_toArray,List.getElem_cons_zero,List.getElem_cons_succ,List.setIfInBounds_toArray,List.set_cons_zero,List.set_cons_succ]
 refine wpAnyH_take (i:=5) (v := .int .i64 z) rfl (by kernel_rfl) (by kernel_rfl) (by kernel_rfl) (fun _ _ _ h=>h) (Or.inl ⟨by rfl,fun w' hS=>?_⟩) rfl ?_
 ·subst hS
  go_simp
 try simp only[Act.put,List.getElem_toArray,List.getElem_cons_zero,List.getElem_cons_succ,List.setIfInBounds_toArray,List.set_cons_zero,List.set_cons_succ]
 refine wpAnyH_done (by kernel_rfl) ?_ _
 clear SQ
 have HQd:=Lib.hid (HQn.out.drew);have hB3:=hB2.drew;have RRd:=Lib.hid (RRn.out.later (Below.refl _ _).drew (Nat.le_refl _))
 clear HQn hB2 RRn
 generalize w3.drew=w4 at *
 go_wp2_with (fail)
 have hL:=run_loadVar_mid (P:=Tryz.prog) _ Q 0 45 ((cA ⟨4,A.M,A.X,A.g,fun _=>0⟩)) _ HQd.out.cell Tryz.underlying45 rfl (by kernel_rfl)
 exact bodyPost_ret (v := .tuple #[v,.agg ((cA ⟨4,A.M,A.X,A.g,fun _=>0⟩)).toArray,.int .i64 z]) (res_tct Tryz.results49 rfl rfl hL rfl) rfl ⟨⟨_,rfl,RRd.out⟩,hB3⟩
end Go.Proofs.YtbilamnnneddmaaGreatDoor
