import Derived.Test.YtbilamnnneddmaaGreatDoorZCHx
import Derived.LoopN
import Derived.LoopTactic
import Derived.Deep.WholeRow
import Derived.Deep.RegionHeld3
namespace Go.Proofs.YtbilamnnneddmaaGreatDoor
set_option linter.unusedVariables false
set_option maxRecDepth 2000
set_option linter.unusedSimpArgs false
open Go.RowKit
theorem in_stF {kf nf:Nat→Int} {c:Int} (hk:∀ i,i<32→inB (kf i)) (hn:∀ i,i<12→inB (nf i)) (hc:in32 c):inS (stF kf c nf):=by
 intro i hi
 unfold stF
 repeat' split
 ·unfold in32;decide
 ·unfold in32;decide
 ·unfold in32;decide
 ·unfold in32;decide
 ·exact in_word fun j h1 h2=>hk j (by omega)
 ·exact hc
 ·exact in_word fun j h1 h2=>hn j (by omega)
def blkF (kf:Nat→Int) (c:Int) (nf:Nat→Int) (i:Nat):Int :=
 (iterR (stF kf c nf) 10 (i/4)+stF kf c nf (i/4))%4294967296/2 ^ (8*(i%4))%256
theorem in_blkF (kf:Nat→Int) (c:Int) (nf:Nat→Int) (i:Nat):inB (blkF kf c nf i):=by
 unfold inB blkF
 omega
def upto (F:Nat→Int) (n:Nat):Nat→Int:=fun j=>if j<n then F j else 0
theorem upto_step (k:IntKind) (F:Nat→Int) (n N:Nat) (v:Int) (hv:v=F n):nums k (at1 (upto F n) n v) N=nums k (upto F (n+1)) N:=nums_congr _ fun j _=>by
 unfold at1 upto
 by_cases h:j=n
 ·rw[if_pos h,if_pos (by omega),h];exact hv
 ·rw[if_neg h]
  by_cases h2:j<n
  ·rw[if_pos h2,if_pos (by omega)]
  ·rw[if_neg h2,if_neg (by omega)]
theorem upto_all (k:IntKind) (F:Nat→Int) (N:Nat):nums k (upto F N) N=nums k F N:=nums_congr _ fun _ hj=>if_pos hj
theorem tdiv4 (n m:Nat) (h:n/4=m):(n:Int).tdiv 4=(m:Int):=by
 rw[Int.tdiv_eq_ediv_of_nonneg (by omega)]
 omega
theorem tmod4 (n r:Nat) (h:n%4=r):(n:Int).tmod 4=(r:Int):=by
 rw[Int.tmod_eq_emod_of_nonneg (by omega)]
 omega
theorem st16 (w:World) (f:Nat→Int) (c:Array Value) (hc:c.size=16):(storeCells ⟨w.heap.size,0,none⟩ (nums .u32 f 16)).run Tryz.prog (w.alloc (.cells c 219)) = .ok () (w.alloc (.cells (nums .u32 f 16).toArray 219)) :=
 run_storeCells_new (P:=Tryz.prog) w 219 c (nums .u32 f 16).toArray (by rw[nums_size];kernel_rfl) (by rw[nums_size,hc]) (nums_all _ _ _)
theorem st64 (w:World) (f:Nat→Int) (c:Array Value) (hc:c.size=64):(storeCells ⟨w.heap.size,0,none⟩ (nums .u8 f 64)).run Tryz.prog (w.alloc (.cells c 181)) = .ok () (w.alloc (.cells (nums .u8 f 64).toArray 181)) :=
 run_storeCells_new (P:=Tryz.prog) w 181 c (nums .u8 f 64).toArray (by rw[nums_size];kernel_rfl) (by rw[nums_size,hc]) (nums_all _ _ _)
attribute [local go_sem] nums_length st16 st64
set_option maxHeartbeats 8000000 in
theorem Block_any (kf nf:Nat→Int) (c:Int) (hk:∀ i,i<32→inB (kf i)) (hn:∀ i,i<12→inB (nf i)) (hc:in32 c) (w:World) (hg:Has 1 0 GL w) :
  Calls Tryz.prog 130 #[(.agg (nums .u8 kf 32).toArray),.int .u32 c,(.agg (nums .u8 nf 12).toArray)] w fun e w'=>e = .returned (.agg (nums .u8 (blkF kf c nf) 64).toArray)∧Below w.heap.size w w':=by
 have FK:=Lib.hid hk;have FN:=Lib.hid hn;have IS:=Lib.hid (in_stF hk hn hc)
 clear hk hn hc
 have HG:=Lib.hid hg
 clear hg
 go_enter Tryz.func130,Tryz.ntmps130
 go_upto_region 1 with fail
 obtain⟨W0,hW⟩:∃ W0,W0=(((w.alloc (.cells (nums .u8 kf 32).toArray 22)).alloc (.cells (nums .u8 nf 12).toArray 54)).alloc (.cells #[.int .u8 0,.int .u8 0,.int .u8 0,.int .u8 0,.int .u8 0,.int .u8 0,.int .u8 0,.int .u8 0,.int .u8 0,.int .u8 0,.int .u8 0,.int .u8 0,.int .u8 0,.int .u8 0,.int .u8 0,.int .u8 0,.int .u8 0,.int .u8 0,.int .u8 0,.int .u8 0,.int .u8 0,.int .u8 0,.int .u8 0,.int .u8 0,.int .u8 0,.int .u8 0,.int .u8 0,.int .u8 0,.int .u8 0,.int .u8 0,.int .u8 0,.int .u8 0,.int .u8 0,.int .u8 0,.int .u8 0,.int .u8 0,.int .u8 0,.int .u8 0,.int .u8 0,.int .u8 0,.int .u8 0,.int .u8 0,.int .u8 0,.int .u8 0,.int .u8 0,.int .u8 0,.int .u8 0,.int .u8 0,.int .u8 0,.int .u8 0,.int .u8 0,.int .u8 0,.int .u8 0,.int .u8 0,.int .u8 0,.int .u8 0,.int .u8 0,.int .u8 0,.int .u8 0,.int .u8 0,.int .u8 0,.int .u8 0,.int .u8 0,.int .u8 0] 181)):=⟨_,rfl⟩
 have hB0:Below w.heap.size w W0:=hW ▸ (Below.al (Below.al (Below.al (Below.refl _ _))))
 have HK:Hid (Own w.heap.size (nums .u8 kf 32) W0):=Lib.hid (hW ▸ (show Own w.heap.size (nums .u8 kf 32) (w.alloc (.cells (nums .u8 kf 32).toArray 22)) from Own.newAt (by simp)).alloc.alloc)
 have HM:Hid (Own (w.heap.size+1) (nums .u8 nf 12) W0):=Lib.hid (hW ▸ (show Own (w.heap.size+1) (nums .u8 nf 12) ((w.alloc (.cells (nums .u8 kf 32).toArray 22)).alloc (.cells (nums .u8 nf 12).toArray 54)) from Own.newAt (by simp)).alloc)
 have HR:Hid (Own ((w.heap.size+1)+1) (nums .u8 (fun _=>0) 64) W0):=Lib.hid (hW ▸ (show Own ((w.heap.size+1)+1) (nums .u8 (fun _=>0) 64) (((w.alloc (.cells (nums .u8 kf 32).toArray 22)).alloc (.cells (nums .u8 nf 12).toArray 54)).alloc (.cells #[.int .u8 0,.int .u8 0,.int .u8 0,.int .u8 0,.int .u8 0,.int .u8 0,.int .u8 0,.int .u8 0,.int .u8 0,.int .u8 0,.int .u8 0,.int .u8 0,.int .u8 0,.int .u8 0,.int .u8 0,.int .u8 0,.int .u8 0,.int .u8 0,.int .u8 0,.int .u8 0,.int .u8 0,.int .u8 0,.int .u8 0,.int .u8 0,.int .u8 0,.int .u8 0,.int .u8 0,.int .u8 0,.int .u8 0,.int .u8 0,.int .u8 0,.int .u8 0,.int .u8 0,.int .u8 0,.int .u8 0,.int .u8 0,.int .u8 0,.int .u8 0,.int .u8 0,.int .u8 0,.int .u8 0,.int .u8 0,.int .u8 0,.int .u8 0,.int .u8 0,.int .u8 0,.int .u8 0,.int .u8 0,.int .u8 0,.int .u8 0,.int .u8 0,.int .u8 0,.int .u8 0,.int .u8 0,.int .u8 0,.int .u8 0,.int .u8 0,.int .u8 0,.int .u8 0,.int .u8 0,.int .u8 0,.int .u8 0,.int .u8 0,.int .u8 0] 181)) from Own.newAt (by simp)))
 rw[← hW]
 clear hW
 obtain⟨R,eR⟩:∃ X,X=((w.heap.size+1)+1):=⟨_,rfl⟩
 rw[← eR] at HR ⊢
 have Rw:w.heap.size≤R:=by omega
 obtain⟨M,eM⟩:∃ X,X=(w.heap.size+1):=⟨_,rfl⟩
 rw[← eM] at HM ⊢
 have Mw:w.heap.size≤M:=by omega
 obtain⟨K,eK⟩:∃ X,X=w.heap.size:=⟨_,rfl⟩
 rw[← eK] at HK ⊢
 have Kw:w.heap.size≤K:=by omega
 have nKM:K≠M:=by omega
 have nMK:M≠K:=by omega
 have nKR:K≠R:=by omega
 have nRK:R≠K:=by omega
 have nMR:M≠R:=by omega
 have nRM:R≠M:=by omega
 clear eK eM eR
 have HGk:=Lib.hid (HG.out.later hB0)
 clear HG
 have HG:=HGk
 clear HGk
 refine wp_region_lit ?_
 refine wpList_load_mid rfl 22 _ rfl K 0 rfl (nums .u8 kf 32) _ HK.out.cell Tryz.underlying22 rfl (by kernel_rfl) ?_
 refine wpList_move rfl _ rfl ?_
 refine wpList_load_mid rfl 54 _ rfl M 0 rfl (nums .u8 nf 12) _ HM.out.cell Tryz.underlying54 rfl (by kernel_rfl) ?_
 go_wp2_with (fail)
 go_at_call 162
 refine (State_any kf nf c FK.out FN.out _).mono ?_
 rintro e w1 ⟨rfl,hb⟩
 go_upto_region 2 with fail
 have HGk:=Lib.hid (HG.out.later hb)
 have HRk:=Lib.hid (HR.out.later hb)
 clear HG HR
 have HG:=HGk
 clear HGk
 have HR:=HRk
 clear HRk
 have hB1:=Below.go hB0 hb
 have nMx:=HK.out.lt
 clear hB0 hb HK HM nKM nMK nKR nRK nMR nRM Kw Mw nMx
 have hB0:=hB1
 clear hB1
 obtain⟨W1,hW⟩:∃ W1,W1=(w1.alloc (.cells (nums .u32 (stF kf c nf) 16).toArray 219)):=⟨_,rfl⟩
 have hBx:Below w1.heap.size w1 W1:=hW ▸ (Below.al (Below.refl _ _))
 have HA:Hid (Own w1.heap.size (nums .u32 (stF kf c nf) 16) W1):=Lib.hid (hW ▸ (show Own w1.heap.size (nums .u32 (stF kf c nf) 16) (w1.alloc (.cells (nums .u32 (stF kf c nf) 16).toArray 219)) from Own.newAt (by simp)))
 rw[← hW]
 clear hW
 obtain⟨A,eA⟩:∃ X,X=w1.heap.size:=⟨_,rfl⟩
 rw[← eA] at HA ⊢
 have Aw:w1.heap.size≤A:=by omega
 clear eA
 have nAR:A≠R:=by have:=HR.out.lt;omega
 have nRA:R≠A:=Ne.symm nAR
 have nA0:A≠1:=by have:=HG.out.lt;omega
 have n0A:1≠A:=Ne.symm nA0
 have Aw2:w.heap.size≤A:=by have:=hB0.size;omega
 clear Aw
 have Aw:=Aw2
 clear Aw2
 have HRk:=Lib.hid (HR.out.later hBx)
 have HGk:=Lib.hid (HG.out.later hBx)
 clear HR HG
 have HR:=HRk
 clear HRk
 have HG:=HGk
 clear HGk
 have hB0n:=Below.go hB0 hBx
 clear hB0 hBx
 have hB0:=hB0n
 clear hB0n
 refine wp_region_lit ?_
 refine wpList_load_mid rfl 219 _ rfl A 0 rfl (nums .u32 (stF kf c nf) 16) _ HA.out.cell Tryz.underlying219 rfl (by kernel_rfl) ?_
 go_upto_region 3 with fail
 obtain⟨W2,hW⟩:∃ W2,W2=(W1.alloc (.cells (nums .u32 (stF kf c nf) 16).toArray 219)):=⟨_,rfl⟩
 have hBx:Below W1.heap.size W1 W2:=hW ▸ (Below.al (Below.refl _ _))
 have HBk:Hid (Own W1.heap.size (nums .u32 (stF kf c nf) 16) W2):=Lib.hid (hW ▸ (show Own W1.heap.size (nums .u32 (stF kf c nf) 16) (W1.alloc (.cells (nums .u32 (stF kf c nf) 16).toArray 219)) from Own.newAt (by simp)))
 rw[← hW]
 clear hW
 obtain⟨B,eB⟩:∃ X,X=W1.heap.size:=⟨_,rfl⟩
 rw[← eB] at HBk ⊢
 have Bw:W1.heap.size≤B:=by omega
 clear eB
 have nBR:B≠R:=by have:=HR.out.lt;omega
 have nRB:R≠B:=Ne.symm nBR
 have nBA:B≠A:=by have:=HA.out.lt;omega
 have nAB:A≠B:=Ne.symm nBA
 have nB0:B≠1:=by have:=HG.out.lt;omega
 have n0B:1≠B:=Ne.symm nB0
 have Bw2:w.heap.size≤B:=by have:=hB0.size;omega
 clear Bw
 have Bw:=Bw2
 clear Bw2
 have HRk:=Lib.hid (HR.out.later hBx)
 have HAk:=Lib.hid (HA.out.later hBx)
 have HGk:=Lib.hid (HG.out.later hBx)
 clear HR HA HG
 have HR:=HRk
 clear HRk
 have HA:=HAk
 clear HAk
 have HG:=HGk
 clear HGk
 have hB0n:=Below.go hB0 hBx
 clear hB0 hBx
 have hB0:=hB0n
 clear hB0n
 go_wp2_with (fail)
 go_loopw [17] (fun i wr=>∃ (k:Nat),k≤10∧i = .int .i64 k∧Hid (Below w.heap.size w wr)∧Hid (Own B (nums .u32 (iterR (stF kf c nf) k) 16) wr)∧Hid (Own A (nums .u32 (stF kf c nf) 16) wr)∧Hid (Own R (nums .u8 (fun _=>0) 64) wr)∧Hid (Has 1 0 GL wr)) (fun i _=>(10 - (intOf i).toNat))
 case atStart=>exact⟨0,by omega,rfl,Lib.hid hB0,HBk,HA,HR,HG⟩
 case round =>
  clear HBk HA HR HG hB0
  obtain⟨k,hk,rfl,HB,HBk,HA,HR,HG⟩:=hrel
  by_cases hlt:k<10
  ·have hI:=Lib.hid (in_iterR IS.out k)
   have hN:=Lib.hid (show roundF (iterR (stF kf c nf) k)=iterR (stF kf c nf) (k+1) from rfl)
   obtain⟨nx,hnx⟩:∃ z,iterR (stF kf c nf) (k+1)=z:=⟨_,rfl⟩
   rw[hnx] at hN
   replace hnx:=Lib.hid hnx
   generalize iterR (stF kf c nf) k=f at *
   go_upto_region 5 with fail
   rw[show decide ((k:Int)<10)=true from decide_eq_true (by omega)]
   refine wp_region_lit ?_
   refine wpList_load_mid rfl 219 _ rfl B 0 rfl (nums .u32 f 16) _ HBk.out.cell Tryz.underlying219 rfl (by kernel_rfl) ?_
   go_wp2_with (fail)
   go_at_call 163
   refine (round_any f hI.out _ HG.out).mono ?_
   rintro e w2 ⟨rfl,hb⟩
   rw[hN.out]
   have HBkk:=Lib.hid (HBk.out.later hb)
   have HAk:=Lib.hid (HA.out.later hb)
   have HRk:=Lib.hid (HR.out.later hb)
   have HGk:=Lib.hid (HG.out.later hb)
   clear HBk HA HR HG
   have HBk:=HBkk
   clear HBkk
   have HA:=HAk
   clear HAk
   have HR:=HRk
   clear HRk
   have HG:=HGk
   clear HGk
   have hB0:=Lib.hid (Below.go HB.out hb)
   have hst:=store_nums (P:=Tryz.prog) .u32 nx HBk.out (nums_length _ _ _)
   go_wp2_with (fail)
   go_roundw
   case rel=>exact⟨k+1,by omega,by go_num,Lib.hid (Below.setCells hB0.out Bw _ 0),Lib.hid (by rw[hnx.out];exact own_store HBk.out),Lib.hid (Own.far HA.out nAB),Lib.hid (Own.far HR.out nRB),Lib.hid (Has.far HG.out n0B)⟩
   case measure=>simp[intOf];omega
  ·have e10:k=10:=by omega
   subst e10
   go_upto_region 8 with fail
   clear HG nB0 n0B nA0 n0A
   have hB0:=HB.out
   clear HB
   obtain⟨W3,hW⟩:∃ W3,W3=(wr.alloc (.cells #[.int .u8 0,.int .u8 0,.int .u8 0,.int .u8 0,.int .u8 0,.int .u8 0,.int .u8 0,.int .u8 0,.int .u8 0,.int .u8 0,.int .u8 0,.int .u8 0,.int .u8 0,.int .u8 0,.int .u8 0,.int .u8 0,.int .u8 0,.int .u8 0,.int .u8 0,.int .u8 0,.int .u8 0,.int .u8 0,.int .u8 0,.int .u8 0,.int .u8 0,.int .u8 0,.int .u8 0,.int .u8 0,.int .u8 0,.int .u8 0,.int .u8 0,.int .u8 0,.int .u8 0,.int .u8 0,.int .u8 0,.int .u8 0,.int .u8 0,.int .u8 0,.int .u8 0,.int .u8 0,.int .u8 0,.int .u8 0,.int .u8 0,.int .u8 0,.int .u8 0,.int .u8 0,.int .u8 0,.int .u8 0,.int .u8 0,.int .u8 0,.int .u8 0,.int .u8 0,.int .u8 0,.int .u8 0,.int .u8 0,.int .u8 0,.int .u8 0,.int .u8 0,.int .u8 0,.int .u8 0,.int .u8 0,.int .u8 0,.int .u8 0,.int .u8 0] 181)):=⟨_,rfl⟩
   have hBx:Below wr.heap.size wr W3:=hW ▸ (Below.al (Below.refl _ _))
   have HC:Hid (Own wr.heap.size (nums .u8 (upto (blkF kf c nf) 0) 64) W3):=Lib.hid (hW ▸ (show Own wr.heap.size (nums .u8 (upto (blkF kf c nf) 0) 64) (wr.alloc (.cells #[.int .u8 0,.int .u8 0,.int .u8 0,.int .u8 0,.int .u8 0,.int .u8 0,.int .u8 0,.int .u8 0,.int .u8 0,.int .u8 0,.int .u8 0,.int .u8 0,.int .u8 0,.int .u8 0,.int .u8 0,.int .u8 0,.int .u8 0,.int .u8 0,.int .u8 0,.int .u8 0,.int .u8 0,.int .u8 0,.int .u8 0,.int .u8 0,.int .u8 0,.int .u8 0,.int .u8 0,.int .u8 0,.int .u8 0,.int .u8 0,.int .u8 0,.int .u8 0,.int .u8 0,.int .u8 0,.int .u8 0,.int .u8 0,.int .u8 0,.int .u8 0,.int .u8 0,.int .u8 0,.int .u8 0,.int .u8 0,.int .u8 0,.int .u8 0,.int .u8 0,.int .u8 0,.int .u8 0,.int .u8 0,.int .u8 0,.int .u8 0,.int .u8 0,.int .u8 0,.int .u8 0,.int .u8 0,.int .u8 0,.int .u8 0,.int .u8 0,.int .u8 0,.int .u8 0,.int .u8 0,.int .u8 0,.int .u8 0,.int .u8 0,.int .u8 0] 181)) from Own.newAt (by simp)))
   rw[← hW]
   clear hW
   obtain⟨C,eC⟩:∃ X,X=wr.heap.size:=⟨_,rfl⟩
   rw[← eC] at HC ⊢
   have Cw:wr.heap.size≤C:=by omega
   clear eC
   have nCR:C≠R:=by have:=HR.out.lt;omega
   have nRC:R≠C:=Ne.symm nCR
   have nCA:C≠A:=by have:=HA.out.lt;omega
   have nAC:A≠C:=Ne.symm nCA
   have nCB:C≠B:=by have:=HBk.out.lt;omega
   have nBC:B≠C:=Ne.symm nCB
   have Cw2:w.heap.size≤C:=by have:=hB0.size;omega
   clear Cw
   have Cw:=Cw2
   clear Cw2
   have HRk:=Lib.hid (HR.out.later hBx)
   have HAk:=Lib.hid (HA.out.later hBx)
   have HBkk:=Lib.hid (HBk.out.later hBx)
   clear HR HA HBk
   have HR:=HRk
   clear HRk
   have HA:=HAk
   clear HAk
   have HBk:=HBkk
   clear HBkk
   have hB0n:=Below.go hB0 hBx
   clear hB0 hBx
   have hB0:=hB0n
   clear hB0n
   go_wp2_with (fail)
   go_loopw [22] (fun i wr=>∃ (k:Nat),k≤64∧i = .int .i64 k∧Hid (Below w.heap.size w wr)∧Hid (Own B (nums .u32 (iterR (stF kf c nf) 10) 16) wr)∧Hid (Own A (nums .u32 (stF kf c nf) 16) wr)∧Hid (Own R (nums .u8 (fun _=>0) 64) wr)∧Hid (Own C (nums .u8 (upto (blkF kf c nf) k) 64) wr)) (fun i _=>(64 - (intOf i).toNat))
   case atStart=>exact⟨0,by omega,rfl,Lib.hid hB0,HBk,HA,HR,HC⟩
   case round =>
    clear HBk HA HR HC hB0
    obtain⟨k,hk,rfl,HB,HBk,HA,HR,HC⟩:=hrel
    by_cases hlt:k<64
    ·obtain⟨m,r,hr,rfl⟩:∃ m r,r<4∧k=4*m+r:=⟨k/4,k%4,by omega,by omega⟩
     have hm:m<16:=by omega
     have a0:=HA.out.at m _ (nums_at _ _ hm)
     have b0:=HBk.out.at m _ (nums_at _ _ hm)
     have c0:=HC.out.at (4*m+r) _ (nums_at _ _ hlt)
     have f0:=HC.out.ok (4*m+r) (by rw[nums_length];exact hlt)
     have Cl:=HC.out.lt
     obtain⟨x,hx⟩:∃ z,iterR (stF kf c nf) 10 m=z:=⟨_,rfl⟩
     obtain⟨y,hy⟩:∃ z,(stF kf c nf) m=z:=⟨_,rfl⟩
     rw[hx] at b0
     rw[hy] at a0
     have m0:(0:Int)≤(m:Int):=by omega
     have m1:(m:Int)<16:=by omega
     have wm:IntKind.i64.wrap (m:Int)=(m:Int):=IntWalk.i64_in _ (by omega)
     match r,hr with
     | 0,_ =>
      have q0:((4*m+0:Nat):Int).tdiv 4=(m:Int):=tdiv4 _ _ (by omega)
      have q1:((4*m+0:Nat):Int).tmod 4=0:=tmod4 _ 0 (by omega)
      have hv:(x+y)%4294967296/1%256=blkF kf c nf (4*m+0):=by
       unfold blkF
       rw[show (4*m+0)/4=m by omega,show (4*m+0)%4=0 by omega,hx,hy]
       rfl
      obtain⟨n,hn⟩:∃ n:Nat,4*m+0=n:=⟨_,rfl⟩
      rw[hn] at c0 f0 hlt q0 q1 hv HC hk ⊢
      have n0:(0:Int)≤(n:Int):=by omega
      have n1:(n:Int)<64:=by omega
      obtain⟨z,fz⟩:∃ z,(x+y)%4294967296=z:=⟨_,rfl⟩
      have gz:IntKind.u32.wrap (x+y)=z:=(IntKind.wrap_u32' _).trans fz
      have z0:0≤z:=by omega
      rw[fz] at hv
      rw[Int.ediv_one] at hv
      obtain⟨v,fv⟩:∃ v,z%256=v:=⟨_,rfl⟩
      have gv:IntKind.u8.wrap (z)=v:=(IntKind.wrap_u8' _).trans fv
      rw[fv] at hv
      replace hv:=Lib.hid hv
      clear hx hy hn hk
      go_wp2_with (fail)
      go_quiet (fail)
      go_wp2_with (fail)
      have hD:Below wr.heap.size wr (wr.drewN nq):=below_drewN (Below.refl _ _) _
      have e1:=upto_step .u8 (blkF kf c nf) n 64 v hv.out
      have o1:=Lib.hid (e1 ▸ own_set (v:=v) (HC.out.later hD) hlt)
      have o2:=Lib.hid (Own.far (c:=C) (o:=n) (vs:=[.int .u8 v]) (HBk.out.later hD) nBC)
      have o3:=Lib.hid (Own.far (c:=C) (o:=n) (vs:=[.int .u8 v]) (HA.out.later hD) nAC)
      have o4:=Lib.hid (Own.far (c:=C) (o:=n) (vs:=[.int .u8 v]) (HR.out.later hD) nRC)
      have o5:=Lib.hid (Below.setCells (Below.go HB.out hD) Cw [.int .u8 v] n)
      go_roundw
      case rel=>(first | exact⟨n+1,by omega,by go_num,o5,o2,o3,o4,o1⟩ | ((repeat apply Exists.intro);exact⟨⟨n+1,by omega,by go_num,o5,o2,o3,o4,o1⟩,rfl⟩))
      case measure=>simp[intOf];omega
     | 1,_ =>
      have q0:((4*m+1:Nat):Int).tdiv 4=(m:Int):=tdiv4 _ _ (by omega)
      have q1:((4*m+1:Nat):Int).tmod 4=1:=tmod4 _ 1 (by omega)
      have hv:(x+y)%4294967296/256%256=blkF kf c nf (4*m+1):=by
       unfold blkF
       rw[show (4*m+1)/4=m by omega,show (4*m+1)%4=1 by omega,hx,hy]
       rfl
      obtain⟨n,hn⟩:∃ n:Nat,4*m+1=n:=⟨_,rfl⟩
      rw[hn] at c0 f0 hlt q0 q1 hv HC hk ⊢
      have n0:(0:Int)≤(n:Int):=by omega
      have n1:(n:Int)<64:=by omega
      obtain⟨z,fz⟩:∃ z,(x+y)%4294967296=z:=⟨_,rfl⟩
      have gz:IntKind.u32.wrap (x+y)=z:=(IntKind.wrap_u32' _).trans fz
      have z0:0≤z:=by omega
      rw[fz] at hv
      skip
      obtain⟨v,fv⟩:∃ v,z/256%256=v:=⟨_,rfl⟩
      have gv:IntKind.u8.wrap (z/256)=v:=(IntKind.wrap_u8' _).trans fv
      rw[fv] at hv
      replace hv:=Lib.hid hv
      clear hx hy hn hk
      go_wp2_with (fail)
      go_quiet (fail)
      go_wp2_with (fail)
      have hD:Below wr.heap.size wr (wr.drewN nq):=below_drewN (Below.refl _ _) _
      have e1:=upto_step .u8 (blkF kf c nf) n 64 v hv.out
      have o1:=Lib.hid (e1 ▸ own_set (v:=v) (HC.out.later hD) hlt)
      have o2:=Lib.hid (Own.far (c:=C) (o:=n) (vs:=[.int .u8 v]) (HBk.out.later hD) nBC)
      have o3:=Lib.hid (Own.far (c:=C) (o:=n) (vs:=[.int .u8 v]) (HA.out.later hD) nAC)
      have o4:=Lib.hid (Own.far (c:=C) (o:=n) (vs:=[.int .u8 v]) (HR.out.later hD) nRC)
      have o5:=Lib.hid (Below.setCells (Below.go HB.out hD) Cw [.int .u8 v] n)
      go_roundw
      case rel=>(first | exact⟨n+1,by omega,by go_num,o5,o2,o3,o4,o1⟩ | ((repeat apply Exists.intro);exact⟨⟨n+1,by omega,by go_num,o5,o2,o3,o4,o1⟩,rfl⟩))
      case measure=>simp[intOf];omega
     | 2,_ =>
      have q0:((4*m+2:Nat):Int).tdiv 4=(m:Int):=tdiv4 _ _ (by omega)
      have q1:((4*m+2:Nat):Int).tmod 4=2:=tmod4 _ 2 (by omega)
      have hv:(x+y)%4294967296/65536%256=blkF kf c nf (4*m+2):=by
       unfold blkF
       rw[show (4*m+2)/4=m by omega,show (4*m+2)%4=2 by omega,hx,hy]
       rfl
      obtain⟨n,hn⟩:∃ n:Nat,4*m+2=n:=⟨_,rfl⟩
      rw[hn] at c0 f0 hlt q0 q1 hv HC hk ⊢
      have n0:(0:Int)≤(n:Int):=by omega
      have n1:(n:Int)<64:=by omega
      obtain⟨z,fz⟩:∃ z,(x+y)%4294967296=z:=⟨_,rfl⟩
      have gz:IntKind.u32.wrap (x+y)=z:=(IntKind.wrap_u32' _).trans fz
      have z0:0≤z:=by omega
      rw[fz] at hv
      skip
      obtain⟨v,fv⟩:∃ v,z/65536%256=v:=⟨_,rfl⟩
      have gv:IntKind.u8.wrap (z/65536)=v:=(IntKind.wrap_u8' _).trans fv
      rw[fv] at hv
      replace hv:=Lib.hid hv
      clear hx hy hn hk
      go_wp2_with (fail)
      go_quiet (fail)
      go_wp2_with (fail)
      have hD:Below wr.heap.size wr (wr.drewN nq):=below_drewN (Below.refl _ _) _
      have e1:=upto_step .u8 (blkF kf c nf) n 64 v hv.out
      have o1:=Lib.hid (e1 ▸ own_set (v:=v) (HC.out.later hD) hlt)
      have o2:=Lib.hid (Own.far (c:=C) (o:=n) (vs:=[.int .u8 v]) (HBk.out.later hD) nBC)
      have o3:=Lib.hid (Own.far (c:=C) (o:=n) (vs:=[.int .u8 v]) (HA.out.later hD) nAC)
      have o4:=Lib.hid (Own.far (c:=C) (o:=n) (vs:=[.int .u8 v]) (HR.out.later hD) nRC)
      have o5:=Lib.hid (Below.setCells (Below.go HB.out hD) Cw [.int .u8 v] n)
      go_roundw
      case rel=>(first | exact⟨n+1,by omega,by go_num,o5,o2,o3,o4,o1⟩ | ((repeat apply Exists.intro);exact⟨⟨n+1,by omega,by go_num,o5,o2,o3,o4,o1⟩,rfl⟩))
      case measure=>simp[intOf];omega
     | 3,_ =>
      have q0:((4*m+3:Nat):Int).tdiv 4=(m:Int):=tdiv4 _ _ (by omega)
      have q1:((4*m+3:Nat):Int).tmod 4=3:=tmod4 _ 3 (by omega)
      have hv:(x+y)%4294967296/16777216%256=blkF kf c nf (4*m+3):=by
       unfold blkF
       rw[show (4*m+3)/4=m by omega,show (4*m+3)%4=3 by omega,hx,hy]
       rfl
      obtain⟨n,hn⟩:∃ n:Nat,4*m+3=n:=⟨_,rfl⟩
      rw[hn] at c0 f0 hlt q0 q1 hv HC hk ⊢
      have n0:(0:Int)≤(n:Int):=by omega
      have n1:(n:Int)<64:=by omega
      obtain⟨z,fz⟩:∃ z,(x+y)%4294967296=z:=⟨_,rfl⟩
      have gz:IntKind.u32.wrap (x+y)=z:=(IntKind.wrap_u32' _).trans fz
      have z0:0≤z:=by omega
      rw[fz] at hv
      skip
      obtain⟨v,fv⟩:∃ v,z/16777216%256=v:=⟨_,rfl⟩
      have gv:IntKind.u8.wrap (z/16777216)=v:=(IntKind.wrap_u8' _).trans fv
      rw[fv] at hv
      replace hv:=Lib.hid hv
      clear hx hy hn hk
      go_wp2_with (fail)
      go_quiet (fail)
      go_wp2_with (fail)
      have hD:Below wr.heap.size wr (wr.drewN nq):=below_drewN (Below.refl _ _) _
      have e1:=upto_step .u8 (blkF kf c nf) n 64 v hv.out
      have o1:=Lib.hid (e1 ▸ own_set (v:=v) (HC.out.later hD) hlt)
      have o2:=Lib.hid (Own.far (c:=C) (o:=n) (vs:=[.int .u8 v]) (HBk.out.later hD) nBC)
      have o3:=Lib.hid (Own.far (c:=C) (o:=n) (vs:=[.int .u8 v]) (HA.out.later hD) nAC)
      have o4:=Lib.hid (Own.far (c:=C) (o:=n) (vs:=[.int .u8 v]) (HR.out.later hD) nRC)
      have o5:=Lib.hid (Below.setCells (Below.go HB.out hD) Cw [.int .u8 v] n)
      go_roundw
      case rel=>(first | exact⟨n+1,by omega,by go_num,o5,o2,o3,o4,o1⟩ | ((repeat apply Exists.intro);exact⟨⟨n+1,by omega,by go_num,o5,o2,o3,o4,o1⟩,rfl⟩))
      case measure=>simp[intOf];omega
    ·have e64:k=64:=by omega
     subst e64
     have hF:nums .u8 (upto (blkF kf c nf) 64) 64=nums .u8 (blkF kf c nf) 64:=upto_all _ _ _
     rw[hF] at HC
     go_upto_region 14 with fail
     have hB0:=HB.out
     refine wp_region_lit ?_
     refine wpList_load_mid rfl 181 _ rfl C 0 rfl (nums .u8 (blkF kf c nf) 64) _ HC.out.cell Tryz.underlying181 rfl (by kernel_rfl) ?_
     refine wpList_store_mid rfl 181 _ _ rfl R 0 (nums .u8 (blkF kf c nf) 64).toArray rfl rfl HR.out.free (by kernel_rfl) (all_oneCell_toArray (nums_one _ _ _)) ?_
     change wpList _ _ _ [] _ (wr.setCells R 0 (nums .u8 (blkF kf c nf) 64))
     have HRn:Hid (Own R (nums .u8 (blkF kf c nf) 64) (wr.setCells R 0 (nums .u8 (blkF kf c nf) 64))):=Lib.hid (own_store HR.out)
     have HCn:Hid (Own C (nums .u8 (blkF kf c nf) 64) (wr.setCells R 0 (nums .u8 (blkF kf c nf) 64))):=Lib.hid (Own.far (o:=0) (vs:=(nums .u8 (blkF kf c nf) 64)) HC.out nCR)
     have hB0n:Below w.heap.size w (wr.setCells R 0 (nums .u8 (blkF kf c nf) 64)):=Below.setCells hB0 Rw (nums .u8 (blkF kf c nf) 64) 0
     clear HR HC hB0
     generalize (wr.setCells R 0 (nums .u8 (blkF kf c nf) 64))=w3 at *
     have HR:=HRn
     clear HRn
     have HC:=HCn
     clear HCn
     have hB0:=hB0n
     clear hB0n
     go_wp2_with (fail)
     have hL:=run_loadVar_mid (P:=Tryz.prog) _ R 0 181 (nums .u8 (blkF kf c nf) 64) _ HR.out.cell Tryz.underlying181 rfl (by kernel_rfl)
     exact bodyPost_ret (v := .agg (nums .u8 (blkF kf c nf) 64).toArray) (res_cell Tryz.results130 rfl hL) rfl ⟨rfl,hB0⟩
end Go.Proofs.YtbilamnnneddmaaGreatDoor
