import Derived.Test.YtbilamnnneddmaaGreatDoorYGBx
import Derived.Lib.Hide
import Derived.LoopN
import Derived.LoopTactic
import Derived.Deep.Onto
import Derived.Deep.QuietTactic
import Derived.BigQuiet
import Derived.Deep.WholeRow
import Derived.Laws.MakeOwn
import Derived.Laws.BitsAllLaws
import Derived.Lib.SliceRun
import Derived.Test.YtbilamnnneddmaaGreatDoorYHUx
import Derived.Deep.RegionHeld3
import Derived.Great.BuildSlice
import Derived.Test.YtbilamnnneddmaaGreatDoorYGA
import Derived.Test.YtbilamnnneddmaaGreatDoorYCTx
namespace Go.Proofs.YtbilamnnneddmaaGreatDoor
set_option linter.unusedVariables false
set_option maxRecDepth 2000
set_option linter.unusedSimpArgs false
open Go.RowKit
def okG (g:Nat→Int):Bool:=decide ((0≤g 0∧g 0≤4)∧(0≤g 1∧g 1≤65535)∧(0≤g 2∧g 2≤65535)∧(0≤g 3∧g 3≤65535)∧(0≤g 4∧g 4≤65535))
def chkG (g:Nat→Int):Int:=if okG g=true then 0 else 5
def lgA (l:Nat→Int):Prop:=(0≤l 0∧l 0≤2)∧(0≤l 1∧l 1≤1048576)∧(0≤l 2∧l 2≤1048576)∧(0≤l 3∧l 3≤1048576)
def on3 (x y z:Int):Prop:=(-4096≤x∧x≤4096)∧(-4096≤y∧y≤4096)∧(-4096≤z∧z≤4096)
def lgB (l:Nat→Int):Prop:=on3 (l 4) (l 5) (l 6)∧on3 (l 7) (l 8) (l 9)∧on3 (l 10) (l 11) (l 12)
def nil3 (x y z:Int):Prop:=x=0∧y=0∧z=0
def lgC (l:Nat→Int):Prop:=(l 0=2→nil3 (l 4) (l 5) (l 6))∧(l 0≠1→nil3 (l 7) (l 8) (l 9)∧nil3 (l 10) (l 11) (l 12))
instance (l:Nat→Int):Decidable (lgA l):=by unfold lgA;infer_instance
instance (x y z:Int):Decidable (on3 x y z):=by unfold on3;infer_instance
instance (x y z:Int):Decidable (nil3 x y z):=by unfold nil3;infer_instance
instance (l:Nat→Int):Decidable (lgB l):=by unfold lgB;infer_instance
instance (l:Nat→Int):Decidable (lgC l):=by unfold lgC;infer_instance
def chkLg (l:Nat→Int):Int:=if ¬lgA l then 5 else if ¬lgB l then 8 else if ¬lgC l then 5 else 0
theorem okG_iff {g:Nat→Int}:okG g=true↔(0≤g 0∧g 0≤4)∧(0≤g 1∧g 1≤65535)∧(0≤g 2∧g 2≤65535)∧(0≤g 3∧g 3≤65535)∧(0≤g 4∧g 4≤65535):=decide_eq_true_iff
theorem chkG_yes {g:Nat→Int} (h:okG g=true):chkG g=0:=if_pos h
theorem chkG_no {g:Nat→Int} (h:¬(okG g=true)):chkG g=5:=if_neg h
theorem chkG_zero {g:Nat→Int} (h:chkG g=0):okG g=true:=by
 by_cases k:okG g=true
 ·exact k
 ·rw[chkG_no k] at h;cases h
theorem chkLg_1 {l:Nat→Int} (h:¬lgA l):chkLg l=5:=if_pos h
theorem chkLg_2 {l:Nat→Int} (h:lgA l) (h2:¬lgB l):chkLg l=8:=by unfold chkLg;rw[if_neg (fun k=>k h),if_pos h2]
theorem chkLg_3 {l:Nat→Int} (h:lgA l) (h2:lgB l) (h3:¬lgC l):chkLg l=5:=by unfold chkLg;rw[if_neg (fun k=>k h),if_neg (fun k=>k h2),if_pos h3]
theorem chkLg_4 {l:Nat→Int} (h:lgA l) (h2:lgB l) (h3:lgC l):chkLg l=0:=by unfold chkLg;rw[if_neg (fun k=>k h),if_neg (fun k=>k h2),if_neg (fun k=>k h3)]
theorem chkLg_zero {l:Nat→Int} (h:chkLg l=0):lgA l∧lgB l∧lgC l:=by
 unfold chkLg at h
 by_cases a:lgA l
 ·by_cases b:lgB l
  ·by_cases c:lgC l
   ·exact⟨a,b,c⟩
   ·rw[if_neg (fun k=>k a),if_neg (fun k=>k b),if_pos c] at h;cases h
  ·rw[if_neg (fun k=>k a),if_pos b] at h;cases h
 ·rw[if_pos a] at h;cases h
theorem chkG_congr {f g:Nat→Int} (h:∀ j,j<5→f j=g j):chkG f=chkG g:=by
 unfold chkG okG
 rw[h 0 (by decide),h 1 (by decide),h 2 (by decide),h 3 (by decide),h 4 (by decide)]
theorem chkLg_congr {f g:Nat→Int} (h:∀ j,j<13→f j=g j):chkLg f=chkLg g:=by
 have e:∀ j,j<13→f j=g j:=h
 unfold chkLg lgA lgB lgC
 simp only[e 0 (by decide),e 1 (by decide),e 2 (by decide),e 3 (by decide),e 4 (by decide),e 5 (by decide),e 6 (by decide),e 7 (by decide),e 8 (by decide),e 9 (by decide),e 10 (by decide),e 11 (by decide),e 12 (by decide)]
def btw (lo hi:Int) (g:Nat→Int) (n:Nat):Bool:=allB (fun k=>decide (lo≤g k∧g k≤hi)) n
theorem btw_1 {lo hi:Int} {g:Nat→Int}:btw lo hi g 1=decide (lo≤g 0∧g 0≤hi):=by unfold btw allB allB;simp
theorem btw_3 {lo hi:Int} {g:Nat→Int}:btw lo hi g 3=true↔(lo≤g 0∧g 0≤hi)∧(lo≤g 1∧g 1≤hi)∧(lo≤g 2∧g 2≤hi):=by
 unfold btw
 rw[allB_iff]
 constructor
 ·intro h;exact⟨decide_eq_true_iff.1 (h 0 (by decide)),decide_eq_true_iff.1 (h 1 (by decide)),decide_eq_true_iff.1 (h 2 (by decide))⟩
 ·rintro ⟨a,b,c⟩ k hk
  match k,hk with
  | 0,_=>exact decide_eq_true a
  | 1,_=>exact decide_eq_true b
  | 2,_=>exact decide_eq_true c
set_option maxHeartbeats 4000000 in
theorem within_any (lo hi:Int) (q:Option Addr) (n c:Nat) (g:Nat→Int) (hnc:n≤c) (hc:c≤9223372036854775807) (w:World) (hq:Nm w .i64 q n g) :
  Calls Tryz.prog 152 #[.int .i64 lo,.int .i64 hi,.slice q n c] w fun e w'=>e = .returned (.bool (btw lo hi g n))∧w'=w:=by
 have HNC:=Lib.hid hnc;have HC:=Lib.hid hc;have HQ:=Lib.hid hq
 clear hnc hc hq
 go_enter Tryz.func152,Tryz.ntmps152
 go_wp2_with (fail)
 go_loopw [8,11] (fun _ iv wr=>∃ (k:Nat),k≤n∧iv = .int .i64 k∧Hid (∀ j,j<k→lo≤g j∧g j≤hi)∧Hid (wr=w)) (fun _ iv _=>(n - (intOf iv).toNat))
 case atStart=>exact⟨0,Nat.zero_le _,rfl,Lib.hid (fun j hj=>absurd hj (Nat.not_lt_zero j)),Lib.hid rfl⟩
 case round =>
  obtain⟨k,hk,rfl,ALL,HB⟩:=hrel
  by_cases hlt:k<n
  ·obtain⟨D,o,rfl,hD,c0⟩:=HQ.out.at hlt
   rw[← HB.out] at c0 hD
   have hki:(k:Int)<(n:Int):=by omega
   have k0:(0:Int)≤(k:Int):=by omega
   have wk:IntKind.i64.wrap ((k:Int)+1)=(k:Int)+1:=IntWalk.i64_in _ (by have:=HNC.out;have:=HC.out;omega)
   have HLT:=Lib.hid hlt
   clear hk hlt
   by_cases e1:g k<lo
   ·have NO:Hid (btw lo hi g n=false):=Lib.hid (allB_not HLT.out (show decide (lo≤g k∧g k≤hi)=false from decide_eq_false (fun h=>by have:=h.1;have:=h.2;omega)))
    clear ALL
    go_wp2_with (fail)
    go_ret
    exact⟨by rw[NO.out];rfl,HB.out⟩
   ·have d1:decide (g k<lo)=false:=decide_eq_false e1
    by_cases e2:hi<g k
    ·have NO:Hid (btw lo hi g n=false):=Lib.hid (allB_not HLT.out (show decide (lo≤g k∧g k≤hi)=false from decide_eq_false (fun h=>by have:=h.1;have:=h.2;omega)))
     clear ALL e1
     go_wp2_with (fail)
     go_ret
     exact⟨by rw[NO.out];rfl,HB.out⟩
    ·have d2:decide (hi<g k)=false:=decide_eq_false e2
     have ALL2:Hid (∀ j,j<k+1→lo≤g j∧g j≤hi):=Lib.hid fun j hj=>(Nat.lt_succ_iff_lt_or_eq.1 hj).elim (ALL.out j) (fun e=>by rw[e];omega)
     clear e1 e2 ALL
     go_wp2_with (fail)
     go_roundw
     case rel=>(first | exact⟨k+1,HLT.out,by go_num,ALL2,HB⟩ | ((repeat apply Exists.intro);exact⟨⟨k+1,HLT.out,by go_num,ALL2,HB⟩,rfl⟩))
     case measure=>(have:=HLT.out;simp[intOf];omega)
  ·obtain rfl:k=n:=by omega
   have YES:Hid (btw lo hi g k=true):=Lib.hid (allB_iff.2 fun j hj=>decide_eq_true (ALL.out j hj))
   clear hlt hk ALL
   go_wp2_with (fail)
   go_ret
   exact⟨by rw[YES.out];rfl,HB.out⟩
end Go.Proofs.YtbilamnnneddmaaGreatDoor
namespace Go.Proofs.YtbilamnnneddmaaGreatDoor
set_option linter.unusedVariables false
set_option maxRecDepth 2000
set_option linter.unusedSimpArgs false
open Go.RowKit
def gencL (z:Int):Nat:=if z=0 then 35 else 0
set_option maxHeartbeats 16000000 in
theorem gEncode_any (mi mk ml:Int) (mg:Nat→Int) (mf mt ms mc:Int) (hi:0≤mi∧mi<18446744073709551616) (hl:0≤ml∧ml<4294967296) (hgb:∀ j,j<8→inB (mg j)) (hf:0≤mf∧mf<4294967296) (ht:0≤mt∧mt<4294967296) (hs : -9223372036854775808≤ms∧ms≤9223372036854775807) (w:World) (hg:Has 0 0 CapL w) :
  Calls Tryz.prog 26 #[(.agg #[.int .u64 mi,.int .i64 mk,.int .u32 ml,.int .u8 (mg 0),.int .u8 (mg 1),.int .u8 (mg 2),.int .u8 (mg 3),.int .u8 (mg 4),.int .u8 (mg 5),.int .u8 (mg 6),.int .u8 (mg 7),.int .u32 mf,.int .u32 mt,.int .i64 ms,.int .i64 mc])] w fun e w'=>∃ v,e = .returned (.tuple #[v,.int .i64 (checkF mk mg mf mt ms mc)])∧RowR w' v (gencL (checkF mk mg mf mt ms mc)) (gencF mi mk ml mg mf mt ms mc)∧Below w.heap.size w w':=by
 have HG:=Lib.hid hg
 have FC:=Lib.hid (gCheck_any mi mk ml mg mf mt ms mc hs)
 have OKF:=Lib.hid (@check_ok mk mg mf mt ms mc)
 clear hs hg
 obtain⟨z,ez⟩:∃ z,checkF mk mg mf mt ms mc=z:=⟨_,rfl⟩
 rw[ez] at FC OKF ⊢
 clear ez
 by_cases hz:z=0
 ·subst hz
  obtain⟨⟨k1,k4⟩,m15,fl,s1,s2,ec,c1,c8⟩:=OKF.out rfl
  clear OKF ec
  have e1:gencL 0=35:=rfl
  rw[e1]
  have p8:=pw_vals.2.2.2.2.2.2.2;have p1:=pw_vals.1;have p4:=pw_vals.2.2.2.1;have p2:=pw_vals.2.1
  have S1:=Lib.hid (fun B p w hB hp=>Step_any B 8 1 0 8 8 rfl rfl p 1 (fun _=>mi) (gencF mi mk ml mg mf mt ms mc) (by decide) (by decide) (fun k hk=>⟨by omega,by omega,fitU_of p8 (by omega)⟩) (fits_one (fun i hi=>enc_i mi mk ml mg mf mt ms mc i hi)) (by decide) (by decide) (by omega) (by decide) w hB hp)
  have S2:=Lib.hid (fun B p w hB hp=>Step_any B 1 1 8 9 1 rfl rfl p 1 (fun _=>mk) (gencF mi mk ml mg mf mt ms mc) (by decide) (by decide) (fun k hk=>⟨by omega,by omega,fitU_of p1 (by omega)⟩) (fits_one (fun i hi=>enc_k mi mk ml mg mf mt ms mc i hi)) (by decide) (by decide) (by omega) (by decide) w hB hp)
  have S3:=Lib.hid (fun B p w hB hp=>Step_any B 4 1 9 13 4 rfl rfl p 1 (fun _=>ml) (gencF mi mk ml mg mf mt ms mc) (by decide) (by decide) (fun k hk=>⟨by omega,by omega,fitU_of p4 (by omega)⟩) (fits_one (fun i hi=>enc_l mi mk ml mg mf mt ms mc i hi)) (by decide) (by decide) (by omega) (by decide) w hB hp)
  have S4:=Lib.hid (fun k (hk:k<8) B p w hB hp=>Step_any B 1 1 (13+k) (13+(k+1)) 1 rfl (by omega) p 1 (fun _=>mg k) (gencF mi mk ml mg mf mt ms mc) (by decide) (by decide) (fun j hj=>⟨(hgb k hk).1,by have:=(hgb k hk).2;omega,fitU_of p1 (hgb k hk).2⟩) (fits_one (fun i hi=>enc_g mi mk ml mg mf mt ms mc k i hk hi)) (by decide) (by decide) (by omega) (by decide) w hB hp)
  have S5:=Lib.hid (fun B p w hB hp=>Step_any B 4 2 21 29 4 rfl rfl p 2 (fun k=>if k=0 then mf else mt) (gencF mi mk ml mg mf mt ms mc) (by decide) (by decide) (fun k hk=>by
    rcases (show k=0∨k=1 by omega) with rfl | rfl
    ·exact⟨hf.1,by have:=hf.2;show mf≤_;omega,fitU_of p4 hf.2⟩
    ·exact⟨ht.1,by have:=ht.2;show mt≤_;omega,fitU_of p4 ht.2⟩) (fun k i hk hi=>by
    rcases (show k=0∨k=1 by omega) with rfl | rfl
    ·exact enc_f mi mk ml mg mf mt ms mc i hi
    ·exact enc_t mi mk ml mg mf mt ms mc i hi) (by decide) (by decide) (by decide) (by decide) w hB hp)
  have S6:=Lib.hid (fun B p w hB hp=>Step_any B 4 1 29 33 4 rfl rfl p 1 (fun _=>ms) (gencF mi mk ml mg mf mt ms mc) (by decide) (by decide) (fun k hk=>⟨by omega,by omega,fitU_of p4 (by omega)⟩) (fits_one (fun i hi=>enc_s mi mk ml mg mf mt ms mc i hi)) (by decide) (by decide) (by omega) (by decide) w hB hp)
  have S7:=Lib.hid (fun B p w hB hp=>Step_any B 2 1 33 35 2 rfl rfl p 1 (fun _=>mc) (gencF mi mk ml mg mf mt ms mc) (by decide) (by decide) (fun k hk=>⟨by omega,by omega,fitU_of p2 (by omega)⟩) (fits_one (fun i hi=>enc_c mi mk ml mg mf mt ms mc i hi)) (by decide) (by decide) (by omega) (by decide) w hB hp)
  have RG:=Lib.hid (fun k (hk:k<8)=>show IntKind.u64.wrap (mg k)=mg k from IntWalk.u64_in _ ⟨(hgb k hk).1,by have:=(hgb k hk).2;omega⟩)
  have ix:=Lib.hid (index8 mg)
  have r1:IntKind.u64.wrap mk=mk:=IntWalk.u64_in _ (by omega)
  have r2:IntKind.u64.wrap ml=ml:=IntWalk.u64_in _ (by omega)
  have r3:IntKind.u64.wrap mf=mf:=IntWalk.u64_in _ (by omega)
  have r4:IntKind.u64.wrap mt=mt:=IntWalk.u64_in _ (by omega)
  have r5:IntKind.u64.wrap ms=ms:=IntWalk.u64_in _ (by omega)
  have r6:IntKind.u64.wrap mc=mc:=IntWalk.u64_in _ (by omega)
  have hmf:∀ (fn:Fn) (first cap:Array Value) (w:World),(Instr.makeFunc fn first cap).run Tryz.prog w = .ok (.func fn first cap) w:=fun _ _ _ _=>rfl
  clear hi hl hgb hf ht k1 k4 m15 fl s1 s2 c1 c8 p8 p1 p4 p2 e1
  generalize (gencF mi mk ml mg mf mt ms mc)=E at *
  go_enter Tryz.func26,Tryz.ntmps26
  go_upto_region 1 with fail
  obtain⟨W0,hW⟩:∃ W0,W0=(w.alloc (.cells #[.int .u64 mi,.int .i64 mk,.int .u32 ml,.int .u8 (mg 0),.int .u8 (mg 1),.int .u8 (mg 2),.int .u8 (mg 3),.int .u8 (mg 4),.int .u8 (mg 5),.int .u8 (mg 6),.int .u8 (mg 7),.int .u32 mf,.int .u32 mt,.int .i64 ms,.int .i64 mc] 27)):=⟨_,rfl⟩
  have hB0:Below w.heap.size w W0:=hW ▸ (Below.al (Below.refl _ _))
  have HA:Hid (Own w.heap.size [.int .u64 mi,.int .i64 mk,.int .u32 ml,.int .u8 (mg 0),.int .u8 (mg 1),.int .u8 (mg 2),.int .u8 (mg 3),.int .u8 (mg 4),.int .u8 (mg 5),.int .u8 (mg 6),.int .u8 (mg 7),.int .u32 mf,.int .u32 mt,.int .i64 ms,.int .i64 mc] W0):=Lib.hid (hW ▸ (Own.newAt (by simp)))
  rw[← hW]
  clear hW
  obtain⟨A,eA⟩:∃ X,X=w.heap.size:=⟨_,rfl⟩
  rw[← eA] at HA ⊢
  have Aw:w.heap.size≤A:=by omega
  clear eA
  have HB0:=Lib.hid hB0
  clear hB0
  have HG0:=Lib.hid (HG.out.later HB0.out)
  clear HG
  have oA:=HA.out
  have A0:=oA.at 0 _ rfl
  have A1:=oA.at 1 _ rfl
  have A2:=oA.at 2 _ rfl
  have A3:=oA.at 3 _ rfl
  have A4:=oA.at 4 _ rfl
  have A5:=oA.at 5 _ rfl
  have A6:=oA.at 6 _ rfl
  have A7:=oA.at 7 _ rfl
  have A8:=oA.at 8 _ rfl
  have A9:=oA.at 9 _ rfl
  have A10:=oA.at 10 _ rfl
  have A11:=oA.at 11 _ rfl
  have A12:=oA.at 12 _ rfl
  have A13:=oA.at 13 _ rfl
  have A14:=oA.at 14 _ rfl
  have Al:=oA.lt
  clear oA
  go_wp2_with (fail)
  go_at_call 58
  refine (FC.out _ HG0.out).mono ?_
  rintro e w1 ⟨rfl,hb⟩
  have HA1:=Lib.hid (HA.out.later hb)
  have hB0:=Below.go HB0.out hb
  clear hb HG0 FC HA HB0 A0 A1 A2 A3 A4 A5 A6 A7 A8 A9 A10 A11 A12 A13 A14 Al
  go_upto_region 4 with fail
  go_upto_region 5 with fail
  obtain⟨w2,hW⟩:∃ w2,w2=(w1.alloc (.cells #[.slice none 0 0] 47)):=⟨_,rfl⟩
  have hBx:Below w1.heap.size w1 w2:=hW ▸ (Below.al (Below.refl _ _))
  have HO:Hid (Own w1.heap.size ([.slice none 0 0]) w2):=Lib.hid (hW ▸ (show Own w1.heap.size ([.slice none 0 0]) (w1.alloc (.cells #[.slice none 0 0] 47)) from Own.newAt (by simp)))
  rw[← hW]
  clear hW
  obtain⟨B,eB⟩:∃ X,X=w1.heap.size:=⟨_,rfl⟩
  rw[← eB] at HO ⊢
  have Bw:w1.heap.size≤B:=by omega
  clear eB
  have nBA:B≠A:=by have:=HA1.out.lt;omega
  have nAB:A≠B:=Ne.symm nBA
  have Bw2:w.heap.size≤B:=by have:=hB0.size;omega
  clear Bw
  have Bw:=Bw2
  clear Bw2
  have HA1k:=Lib.hid (HA1.out.later hBx)
  clear HA1
  have HA1:=HA1k
  clear HA1k
  have hB0n:=Below.go hB0 hBx
  clear hB0 hBx
  have hB0:=hB0n
  clear hB0n
  have HE0:Hid (EncB w2 B 0 E):=Lib.hid ⟨none,0,HO.out,.inl rfl,Nat.le_refl _,by decide⟩
  have HB2:=Lib.hid hB0
  clear HO hB0
  have oA:=HA1.out
  have A0:=oA.at 0 _ rfl
  have Al:=oA.lt
  clear oA
  go_wp2_with (fail)
  go_at_call 59
  have hAL:=Below.al (o := .cells #[.int .u64 mi] 24) (Below.refl w2.heap.size w2)
  refine (S1.out B _ _ ((HE0).out.later hAL) (nm_new rfl)).mono ?_
  rintro e w3 ⟨rfl,he,hb⟩
  have hbt:But B w2 w3:=(But.of hAL HE0.out.lt).trans hb
  have HE3:=Lib.hid he
  have HA3:=Lib.hid (HA1.out.but hbt nAB)
  have HB3:=Lib.hid (HB2.out.trans (hbt.below.mono Bw))
  clear he hb hbt hAL HE0 HA1 HB2 A0 Al
  have oA:=HA3.out
  have A1:=oA.at 1 _ rfl
  have Al:=oA.lt
  clear oA
  go_wp2_with (fail)
  go_at_call 59
  have hAL:=Below.al (o := .cells #[.int .u64 mk] 24) (Below.refl w3.heap.size w3)
  refine (S2.out B _ _ ((HE3).out.later hAL) (nm_new rfl)).mono ?_
  rintro e w4 ⟨rfl,he,hb⟩
  have hbt:But B w3 w4:=(But.of hAL HE3.out.lt).trans hb
  have HE4:=Lib.hid he
  have HA4:=Lib.hid (HA3.out.but hbt nAB)
  have HB4:=Lib.hid (HB3.out.trans (hbt.below.mono Bw))
  clear he hb hbt hAL HE3 HA3 HB3 A1 Al
  have oA:=HA4.out
  have A2:=oA.at 2 _ rfl
  have Al:=oA.lt
  clear oA
  go_wp2_with (fail)
  go_at_call 59
  have hAL:=Below.al (o := .cells #[.int .u64 ml] 24) (Below.refl w4.heap.size w4)
  refine (S3.out B _ _ ((HE4).out.later hAL) (nm_new rfl)).mono ?_
  rintro e w5 ⟨rfl,he,hb⟩
  have hbt:But B w4 w5:=(But.of hAL HE4.out.lt).trans hb
  have HE5:=Lib.hid he
  have HA5:=Lib.hid (HA4.out.but hbt nAB)
  have HB5:=Lib.hid (HB4.out.trans (hbt.below.mono Bw))
  clear he hb hbt hAL HE4 HA4 HB4 A2 Al
  have oA:=HA5.out
  have A3:=oA.at 3 _ rfl
  have A4:=oA.at 4 _ rfl
  have A5:=oA.at 5 _ rfl
  have A6:=oA.at 6 _ rfl
  have A7:=oA.at 7 _ rfl
  have A8:=oA.at 8 _ rfl
  have A9:=oA.at 9 _ rfl
  have A10:=oA.at 10 _ rfl
  have Al:=oA.lt
  clear oA
  go_wp2_with (fail)
  clear A3 A4 A5 A6 A7 A8 A9 A10 Al
  go_loopw [8,34] (fun _ iv wr=>∃ (k:Nat),k≤8∧iv = .int .i64 k∧Hid (EncB wr B (13+k) E)∧Hid (Own A [.int .u64 mi,.int .i64 mk,.int .u32 ml,.int .u8 (mg 0),.int .u8 (mg 1),.int .u8 (mg 2),.int .u8 (mg 3),.int .u8 (mg 4),.int .u8 (mg 5),.int .u8 (mg 6),.int .u8 (mg 7),.int .u32 mf,.int .u32 mt,.int .i64 ms,.int .i64 mc] wr)∧Hid (Below w.heap.size w wr)) (fun _ iv _=>(8 - (intOf iv).toNat))
  case atStart=>exact⟨0,Nat.zero_le _,rfl,HE5,HA5,HB5⟩
  case round =>
   clear HE5 HA5 HB5
   obtain⟨k,hk,rfl,HE5,HA5,HB5⟩:=hrel
   by_cases hlt:k<8
   ·have hx:=ix.out k hlt
    have hki:(k:Int)<8:=by omega
    have wk:IntKind.i64.wrap ((k:Int)+1)=(k:Int)+1:=IntWalk.i64_in _ (by omega)
    have rx:=RG.out k hlt
    have SK:=Lib.hid (S4.out k hlt)
    have HLT:=Lib.hid (show k+1≤8 by omega)
    generalize mg k=x at hx rx SK
    clear hlt hk ix RG S4 S1 S2 S3 S5 S6 S7
    go_wp2_with (fail)
    go_at_call 59
    have hAL:=Below.al (o := .cells #[.int .u64 x] 24) (Below.refl wr.heap.size wr)
    refine (SK.out B _ _ (HE5.out.later hAL) (nm_new rfl)).mono ?_
    rintro e w6 ⟨rfl,he,hb⟩
    have hbt:But B wr w6:=(But.of hAL HE5.out.lt).trans hb
    have HE6:=Lib.hid he
    have HA6:=Lib.hid (HA5.out.but hbt nAB)
    have HB6:=Lib.hid (HB5.out.trans (hbt.below.mono Bw))
    clear he hb hbt hAL HE5 HA5 HB5
    go_wp2_with (fail)
    go_roundw
    case rel=>(first | exact⟨k+1,HLT.out,by go_num,HE6,HA6,HB6⟩ | ((repeat apply Exists.intro);exact⟨⟨k+1,HLT.out,by go_num,HE6,HA6,HB6⟩,rfl⟩))
    case measure=>(have:=HLT.out;simp[intOf];omega)
   ·obtain rfl:k=8:=by omega
    clear hlt hk ix RG S4 S1 S2 S3
    have oA:=HA5.out
    have A11:=oA.at 11 _ rfl
    have A12:=oA.at 12 _ rfl
    have Al:=oA.lt
    clear oA
    go_wp2_with (fail)
    go_at_call 59
    have hAL:=Below.al (o := .cells #[.int .u64 mf,.int .u64 mt] 24) (Below.refl wr.heap.size wr)
    refine (S5.out B _ _ ((HE5).out.later hAL) (nm_new rfl)).mono ?_
    rintro e w7 ⟨rfl,he,hb⟩
    have hbt:But B wr w7:=(But.of hAL HE5.out.lt).trans hb
    have HE7:=Lib.hid he
    have HA7:=Lib.hid (HA5.out.but hbt nAB)
    have HB7:=Lib.hid (HB5.out.trans (hbt.below.mono Bw))
    clear he hb hbt hAL HE5 HA5 HB5 A11 A12 Al
    have oA:=HA7.out
    have A13:=oA.at 13 _ rfl
    have Al:=oA.lt
    clear oA
    go_wp2_with (fail)
    go_at_call 59
    have hAL:=Below.al (o := .cells #[.int .u64 ms] 24) (Below.refl w7.heap.size w7)
    refine (S6.out B _ _ ((HE7).out.later hAL) (nm_new rfl)).mono ?_
    rintro e w8 ⟨rfl,he,hb⟩
    have hbt:But B w7 w8:=(But.of hAL HE7.out.lt).trans hb
    have HE8:=Lib.hid he
    have HA8:=Lib.hid (HA7.out.but hbt nAB)
    have HB8:=Lib.hid (HB7.out.trans (hbt.below.mono Bw))
    clear he hb hbt hAL HE7 HA7 HB7 A13 Al
    have oA:=HA8.out
    have A14:=oA.at 14 _ rfl
    have Al:=oA.lt
    clear oA
    go_wp2_with (fail)
    go_at_call 59
    have hAL:=Below.al (o := .cells #[.int .u64 mc] 24) (Below.refl w8.heap.size w8)
    refine (S7.out B _ _ ((HE8).out.later hAL) (nm_new rfl)).mono ?_
    rintro e w9 ⟨rfl,he,hb⟩
    have hbt:But B w8 w9:=(But.of hAL HE8.out.lt).trans hb
    have HE9:=Lib.hid he
    have HA9:=Lib.hid (HA8.out.but hbt nAB)
    have HB9:=Lib.hid (HB8.out.trans (hbt.below.mono Bw))
    clear he hb hbt hAL HE8 HA8 HB8 A14 Al
    obtain⟨q,c,hO,hq,hcn,hcx⟩:=HE9.out.ex
    have B0:=hO.at 0 _ rfl
    have Bl:=hO.lt
    have RW:Hid (RowR w9 (.slice q 35 c) 35 E):=Lib.hid ⟨q,c,rfl,hcn,hcx,hq.byt⟩
    clear hO hq hcn hcx
    go_wp2_with (fail)
    exact bodyPost_ret (v := .tuple #[.slice q 35 c,.int .i64 0]) (by simp[results,Tryz.results26,go_sem]) rfl ⟨_,rfl,RW.out,HB9.out⟩
 ·have e1:gencL z=0:=if_neg hz
  rw[e1]
  have hd:(z != 0)=true:=by simpa using hz
  clear OKF hi hl hgb hf ht
  go_enter Tryz.func26,Tryz.ntmps26
  go_upto_region 1 with fail
  obtain⟨W0,hW⟩:∃ W0,W0=(w.alloc (.cells #[.int .u64 mi,.int .i64 mk,.int .u32 ml,.int .u8 (mg 0),.int .u8 (mg 1),.int .u8 (mg 2),.int .u8 (mg 3),.int .u8 (mg 4),.int .u8 (mg 5),.int .u8 (mg 6),.int .u8 (mg 7),.int .u32 mf,.int .u32 mt,.int .i64 ms,.int .i64 mc] 27)):=⟨_,rfl⟩
  have hB0:Below w.heap.size w W0:=hW ▸ (Below.al (Below.refl _ _))
  have HA:Hid (Own w.heap.size [.int .u64 mi,.int .i64 mk,.int .u32 ml,.int .u8 (mg 0),.int .u8 (mg 1),.int .u8 (mg 2),.int .u8 (mg 3),.int .u8 (mg 4),.int .u8 (mg 5),.int .u8 (mg 6),.int .u8 (mg 7),.int .u32 mf,.int .u32 mt,.int .i64 ms,.int .i64 mc] W0):=Lib.hid (hW ▸ (Own.newAt (by simp)))
  rw[← hW]
  clear hW
  obtain⟨A,eA⟩:∃ X,X=w.heap.size:=⟨_,rfl⟩
  rw[← eA] at HA ⊢
  have Aw:w.heap.size≤A:=by omega
  clear eA
  have HB0:=Lib.hid hB0
  clear hB0
  have HG0:=Lib.hid (HG.out.later HB0.out)
  clear HG
  have oA:=HA.out
  have A0:=oA.at 0 _ rfl
  have A1:=oA.at 1 _ rfl
  have A2:=oA.at 2 _ rfl
  have A3:=oA.at 3 _ rfl
  have A4:=oA.at 4 _ rfl
  have A5:=oA.at 5 _ rfl
  have A6:=oA.at 6 _ rfl
  have A7:=oA.at 7 _ rfl
  have A8:=oA.at 8 _ rfl
  have A9:=oA.at 9 _ rfl
  have A10:=oA.at 10 _ rfl
  have A11:=oA.at 11 _ rfl
  have A12:=oA.at 12 _ rfl
  have A13:=oA.at 13 _ rfl
  have A14:=oA.at 14 _ rfl
  have Al:=oA.lt
  clear oA
  go_wp2_with (fail)
  go_at_call 58
  refine (FC.out _ HG0.out).mono ?_
  rintro e w1 ⟨rfl,hb⟩
  have HB1:=Lib.hid (Below.go HB0.out hb)
  clear hb HG0 FC HA HB0 A0 A1 A2 A3 A4 A5 A6 A7 A8 A9 A10 A11 A12 A13 A14 Al
  go_wp2_with (fail)
  exact bodyPost_ret (v := .tuple #[.slice none 0 0,.int .i64 z]) (by simp[results,Tryz.results26,go_sem]) rfl ⟨_,rfl,⟨none,0,rfl,Nat.le_refl _,by decide,.inl rfl⟩,HB1.out⟩
end Go.Proofs.YtbilamnnneddmaaGreatDoor
