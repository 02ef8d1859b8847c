import Derived.Test.YtbilamnnneddmaaGreatDoorZCTx
import Derived.Test.YtbilamnnneddmaaGreatDoorZCOx
import Derived.Test.YtbilamnnneddmaaGreatDoorZCJx
import Derived.Test.YtbilamnnneddmaaGreatDoorZNJx
import Derived.Lib.Hide
import Derived.Deep.Onto
import Derived.LoopN
import Derived.LoopTactic
import Derived.Laws.OwnMore
import Derived.Test.YtbilamnnneddmaaGreatDoorZNBx
namespace Go.Proofs.YtbilamnnneddmaaGreatDoor
set_option linter.unusedVariables false
set_option maxRecDepth 2000
set_option linter.unusedSimpArgs false
open Go.RowKit
attribute [local go_sem] nums_length st64
set_option maxHeartbeats 4000000 in
theorem Key_any (kf nf:Nat→Int) (hk:∀ i,i<32→inB (kf i)) (hn:∀ i,i<12→inB (nf i)) (w:World) (hg:Has 1 0 GL w) :
  Calls Tryz.prog 91 #[(.agg (nums .u8 kf 32).toArray),(.agg (nums .u8 nf 12).toArray)] w fun e w'=>e = .returned (.agg (nums .u8 (blkF kf 0 nf) 32).toArray)∧Below w.heap.size w w':=by
 have FK:=Lib.hid hk;have FN:=Lib.hid hn;have HG:=Lib.hid hg
 clear hk hn hg
 go_enter Tryz.func91,Tryz.ntmps91
 go_upto_region 1 with fail
 obtain⟨W0,hW⟩:∃ W0,W0=(((w.alloc (.cells (nums .u8 kf 32).toArray 22)).alloc (.cells (nums .u8 nf 12).toArray 54)).alloc (.cells #[.int .u8 0,.int .u8 0,.int .u8 0,.int .u8 0,.int .u8 0,.int .u8 0,.int .u8 0,.int .u8 0,.int .u8 0,.int .u8 0,.int .u8 0,.int .u8 0,.int .u8 0,.int .u8 0,.int .u8 0,.int .u8 0,.int .u8 0,.int .u8 0,.int .u8 0,.int .u8 0,.int .u8 0,.int .u8 0,.int .u8 0,.int .u8 0,.int .u8 0,.int .u8 0,.int .u8 0,.int .u8 0,.int .u8 0,.int .u8 0,.int .u8 0,.int .u8 0] 22)):=⟨_,rfl⟩
 have hB0:Below w.heap.size w W0:=hW ▸ (Below.al (Below.al (Below.al (Below.refl _ _))))
 have HY:Hid (Own w.heap.size (nums .u8 kf 32) W0):=Lib.hid (hW ▸ (show Own w.heap.size (nums .u8 kf 32) (w.alloc (.cells (nums .u8 kf 32).toArray 22)) from Own.newAt (by simp)).alloc.alloc)
 have HM:Hid (Own (w.heap.size+1) (nums .u8 nf 12) W0):=Lib.hid (hW ▸ (show Own (w.heap.size+1) (nums .u8 nf 12) ((w.alloc (.cells (nums .u8 kf 32).toArray 22)).alloc (.cells (nums .u8 nf 12).toArray 54)) from Own.newAt (by simp)).alloc)
 have HR:Hid (Own ((w.heap.size+1)+1) (nums .u8 (fun _=>0) 32) W0):=Lib.hid (hW ▸ (show Own ((w.heap.size+1)+1) (nums .u8 (fun _=>0) 32) (((w.alloc (.cells (nums .u8 kf 32).toArray 22)).alloc (.cells (nums .u8 nf 12).toArray 54)).alloc (.cells #[.int .u8 0,.int .u8 0,.int .u8 0,.int .u8 0,.int .u8 0,.int .u8 0,.int .u8 0,.int .u8 0,.int .u8 0,.int .u8 0,.int .u8 0,.int .u8 0,.int .u8 0,.int .u8 0,.int .u8 0,.int .u8 0,.int .u8 0,.int .u8 0,.int .u8 0,.int .u8 0,.int .u8 0,.int .u8 0,.int .u8 0,.int .u8 0,.int .u8 0,.int .u8 0,.int .u8 0,.int .u8 0,.int .u8 0,.int .u8 0,.int .u8 0,.int .u8 0] 22)) from Own.newAt (by simp)))
 rw[← hW]
 clear hW
 obtain⟨R,eR⟩:∃ X,X=((w.heap.size+1)+1):=⟨_,rfl⟩
 rw[← eR] at HR ⊢
 have Rw:w.heap.size≤R:=by omega
 obtain⟨M,eM⟩:∃ X,X=(w.heap.size+1):=⟨_,rfl⟩
 rw[← eM] at HM ⊢
 have Mw:w.heap.size≤M:=by omega
 obtain⟨Y,eY⟩:∃ X,X=w.heap.size:=⟨_,rfl⟩
 rw[← eY] at HY ⊢
 have Yw:w.heap.size≤Y:=by omega
 have nYM:Y≠M:=by omega
 have nMY:M≠Y:=by omega
 have nYR:Y≠R:=by omega
 have nRY:R≠Y:=by omega
 have nMR:M≠R:=by omega
 have nRM:R≠M:=by omega
 clear eY eM eR
 have HG1:=Lib.hid (HG.out.later hB0)
 refine wp_region_lit ?_
 refine wpList_load_mid rfl 22 _ rfl Y 0 rfl (nums .u8 kf 32) _ HY.out.cell Tryz.underlying22 rfl (by kernel_rfl) ?_
 refine wpList_load_mid rfl 54 _ rfl M 0 rfl (nums .u8 nf 12) _ HM.out.cell Tryz.underlying54 rfl (by kernel_rfl) ?_
 go_wp2_with (fail)
 go_at_call 130
 refine (Block_any kf nf 0 FK.out FN.out (by unfold in32;decide) _ HG1.out).mono ?_
 rintro e w1 ⟨rfl,hb⟩
 have HRk:=Lib.hid (HR.out.later hb)
 clear HR
 have HR:=HRk
 clear HRk
 have hB1:=Below.go hB0 hb
 clear hB0 hb HY HM HG HG1
 have hB0:=hB1
 clear hB1
 go_upto_region 2 with fail
 obtain⟨w2,hW⟩:∃ w2,w2=(w1.alloc (.cells (nums .u8 (blkF kf 0 nf) 64).toArray 181)):=⟨_,rfl⟩
 have hBx:Below w1.heap.size w1 w2:=hW ▸ (Below.al (Below.refl _ _))
 have HB:Hid (Own w1.heap.size (nums .u8 (blkF kf 0 nf) 64) w2):=Lib.hid (hW ▸ (show Own w1.heap.size (nums .u8 (blkF kf 0 nf) 64) (w1.alloc (.cells (nums .u8 (blkF kf 0 nf) 64).toArray 181)) from Own.newAt (by simp)))
 rw[← hW]
 clear hW
 obtain⟨B,eB⟩:∃ X,X=w1.heap.size:=⟨_,rfl⟩
 rw[← eB] at HB ⊢
 have Bw:w1.heap.size≤B:=by omega
 clear eB
 have nBR:B≠R:=by have:=HR.out.lt;omega
 have nRB:R≠B:=Ne.symm nBR
 have Bw2:w.heap.size≤B:=by have:=hB0.size;omega
 clear Bw
 have Bw:=Bw2
 clear Bw2
 have HRk:=Lib.hid (HR.out.later hBx)
 clear HR
 have HR:=HRk
 clear HRk
 have hB0n:=Below.go hB0 hBx
 clear hB0 hBx
 have hB0:=hB0n
 clear hB0n
 refine wp_region_lit ?_
 refine wpList_val rfl (.slice (some ⟨B,0,none⟩) 32 64) (by kernel_rfl) ?_
 refine wpList_val rfl (.pointer (some ⟨B,0,none⟩)) (by kernel_rfl) ?_
 refine wpList_load_mid rfl 22 _ rfl B 0 rfl (nums .u8 (blkF kf 0 nf) 32) _ (nhas_take HB.out.has (by decide)).cell Tryz.underlying22 rfl (by kernel_rfl) ?_
 refine wpList_store_mid rfl 22 _ _ rfl R 0 (nums .u8 (blkF kf 0 nf) 32).toArray rfl rfl HR.out.free (by kernel_rfl) (nums_all _ _ _) ?_
 change wpList _ _ _ [] _ (w2.setCells R 0 (nums .u8 (blkF kf 0 nf) 32))
 have HRn:Hid (Own R (nums .u8 (blkF kf 0 nf) 32) (w2.setCells R 0 (nums .u8 (blkF kf 0 nf) 32))):=Lib.hid (Own.store HR.out (by simp[nums_length]))
 have hB0n:Below w.heap.size w (w2.setCells R 0 (nums .u8 (blkF kf 0 nf) 32)):=Below.setCells hB0 Rw (nums .u8 (blkF kf 0 nf) 32) 0
 clear HR hB0
 generalize (w2.setCells R 0 (nums .u8 (blkF kf 0 nf) 32))=wz at *
 have HR:=HRn
 clear HRn
 have hB0:=hB0n
 clear hB0n
 go_wp2_with (fail)
 have hL:=run_loadVar_mid (P:=Tryz.prog) _ R 0 22 (nums .u8 (blkF kf 0 nf) 32) _ HR.out.cell Tryz.underlying22 rfl (by kernel_rfl)
 exact bodyPost_ret (v := .agg (nums .u8 (blkF kf 0 nf) 32).toArray) (res_cell Tryz.results91 rfl hL) rfl ⟨rfl,hB0⟩
end Go.Proofs.YtbilamnnneddmaaGreatDoor
namespace Go.Proofs.YtbilamnnneddmaaGreatDoor
set_option linter.unusedVariables false
set_option maxRecDepth 2000
set_option linter.unusedSimpArgs false
open Go.RowKit
def layL (n m:Nat):Nat:=n+padN n+(m+padN m)+16
def layF (f:Nat→Int) (n:Nat) (g:Nat→Int) (m:Nat) (j:Nat):Int :=
 if j<n+padN n then fillF f n j else if j<n+padN n+(m+padN m) then fillF g m (j - (n+padN n)) else lenF n m (j - (n+padN n+(m+padN m)))
def layT (n m:Nat) (k:Nat):Nat:=if k=0 then 0 else if k=1 then n else if k=2 then n+padN n else if k=3 then n+padN n+m else if k=4 then n+padN n+(m+padN m) else layL n m
def macN (kf nf f:Nat→Int) (n:Nat) (g:Nat→Int) (m:Nat):Nat:=tagN (blkF kf 0 nf) (layF f n g m) (layL n m)
def macF (kf nf f:Nat→Int) (n:Nat) (g:Nat→Int) (m:Nat):Nat→Int:=byt (macN kf nf f n g m)
theorem padN_lt (n:Nat):padN n<16:=by unfold padN;omega
theorem in_fillF {f:Nat→Int} {n:Nat} (h:∀ i,i<n→inB (f i)) (j:Nat):inB (fillF f n j):=by
 unfold fillF
 split
 ·rename_i hj;exact h _ hj
 ·unfold inB;decide
theorem in_layF {f g:Nat→Int} {n m:Nat} (hf:∀ i,i<n→inB (f i)) (hg:∀ i,i<m→inB (g i)) (j:Nat):inB (layF f n g m j):=by
 unfold layF
 split
 ·exact in_fillF hf _
 ·split
  ·exact in_fillF hg _
  ·exact in_lenF _ _ _
theorem lay0 (f:Nat→Int) (n:Nat) (g:Nat→Int) (m j:Nat) (hj:j<n):layF f n g m (0+j)=f j:=by
 unfold layF fillF
 rw[if_pos (by omega),if_pos (by omega),Nat.zero_add]
theorem lay1 (f:Nat→Int) (n:Nat) (g:Nat→Int) (m j:Nat) (hj:j<padN n):layF f n g m (n+j)=0:=by
 unfold layF fillF
 rw[if_pos (by omega),if_neg (by omega)]
theorem lay2 (f:Nat→Int) (n:Nat) (g:Nat→Int) (m j:Nat) (hj:j<m):layF f n g m (n+padN n+j)=g j:=by
 unfold layF fillF
 rw[if_neg (by omega),if_pos (by omega),if_pos (by omega),Nat.add_sub_cancel_left]
theorem lay3 (f:Nat→Int) (n:Nat) (g:Nat→Int) (m j:Nat) (hj:j<padN m):layF f n g m (n+padN n+m+j)=0:=by
 unfold layF fillF
 rw[if_neg (by omega),if_pos (by omega),if_neg (by omega)]
theorem lay4 (f:Nat→Int) (n:Nat) (g:Nat→Int) (m j:Nat):layF f n g m (n+padN n+(m+padN m)+j)=lenF n m j:=by
 unfold layF
 rw[if_neg (by omega),if_neg (by omega),Nat.add_sub_cancel_left]
theorem nbyt_congr {w:World} {q:Option Addr} {n:Nat} {f g:Nat→Int} (h:Byt w q n f) (e:∀ j,j<n→f j=g j):Byt w q n g:=by
 rcases h with h | ⟨b,off,h1,h2⟩
 ·exact .inl h
 ·exact .inr ⟨b,off,h1,by rw[← nums_congr .u8 e];exact h2⟩
theorem zero_byt {w:World} {Z k:Nat} {g:Nat→Int} (h:Own Z (nums .u8 (fun _=>0) 16) w) (hk:k≤16) (hg:∀ j,j<k→g j=0):Byt w (some ⟨Z,0,none⟩) k g :=
 nbyt_congr (.inr ⟨Z,0,rfl,nhas_take h.has hk⟩) (fun j hj=>(hg j hj).symm)
theorem layT_le (n m k:Nat) (hn:n≤16384) (hm:m≤16384):layT n m k≤65536:=by
 have:=padN_lt n;have:=padN_lt m
 unfold layT layL
 repeat' split
 all_goals omega
theorem mac_parts {w:World} {S n m c d c5:Nat} {p q q5:Option Addr} {Z:Nat} {f g:Nat→Int} (hS:Own S [.slice p n c,.slice (some ⟨Z,0,none⟩) (padN n) 16,.slice q m d,.slice (some ⟨Z,0,none⟩) (padN m) 16,.slice q5 16 c5] w)
  (hZ:Own Z (nums .u8 (fun _=>0) 16) w) (hp:Byt w p n f) (hq:Byt w q m g) (h5:Byt w q5 16 (lenF n m)) (hnc:n≤c) (hmd:m≤d) (h16:16≤c5) (hc:c≤9223372036854775807) (hd:d≤9223372036854775807) (hc5:c5≤9223372036854775807) :
  Parts w (some ⟨S,0,none⟩) 5 (layF f n g m) (layT n m):=fun k hk=>by
 have a1:=padN_lt n;have a2:=padN_lt m
 have hk':k=0∨k=1∨k=2∨k=3∨k=4:=by omega
 rcases hk' with rfl | rfl | rfl | rfl | rfl
 ·exact⟨S,0,p,n,c,rfl,hS.lt,hS.at 0 _ rfl,hnc,hc,(Nat.zero_add n).symm,nbyt_congr hp (fun j hj=>(lay0 f n g m j hj).symm)⟩
 ·exact⟨S,0,_,padN n,16,rfl,hS.lt,hS.at 1 _ rfl,by omega,by omega,rfl,zero_byt hZ (by omega) (fun j hj=>lay1 f n g m j hj)⟩
 ·exact⟨S,0,q,m,d,rfl,hS.lt,hS.at 2 _ rfl,hmd,hd,rfl,nbyt_congr hq (fun j hj=>(lay2 f n g m j hj).symm)⟩
 ·exact⟨S,0,_,padN m,16,rfl,hS.lt,hS.at 3 _ rfl,by omega,by omega,(Nat.add_assoc _ _ _).symm,zero_byt hZ (by omega) (fun j hj=>lay3 f n g m j hj)⟩
 ·exact⟨S,0,q5,16,c5,rfl,hS.lt,hS.at 4 _ rfl,h16,hc5,rfl,nbyt_congr h5 (fun j hj=>(lay4 f n g m j).symm)⟩
attribute [local go_sem] nums_length
set_option maxHeartbeats 4000000 in
theorem Mac_any (kf nf f g:Nat→Int) (p q:Option Addr) (n m c d:Nat) (hk:∀ i,i<32→inB (kf i)) (hn:∀ i,i<12→inB (nf i)) (hf:∀ i,i<n→inB (f i)) (hg:∀ i,i<m→inB (g i)) (hn4:n≤16384) (hm4:m≤16384)
  (hnc:n≤c) (hmd:m≤d) (hc:c≤9223372036854775807) (hd:d≤9223372036854775807) (w:World) (hG:Has 1 0 GL w) (hp:Byt w p n f) (hq:Byt w q m g) :
  Calls Tryz.prog 56 #[(.agg (nums .u8 kf 32).toArray),(.agg (nums .u8 nf 12).toArray),.slice p n c,.slice q m d] w fun e w'=>e = .returned (.agg (nums .u8 (macF kf nf f n g m) 16).toArray)∧Below w.heap.size w w':=by
 have FK:=Lib.hid hk;have FN:=Lib.hid hn;have HF:=Lib.hid hf;have HGF:=Lib.hid hg;have HN:=Lib.hid hn4;have HM:=Lib.hid hm4
 have HNC:=Lib.hid hnc;have HMD:=Lib.hid hmd;have HC:=Lib.hid hc;have HD:=Lib.hid hd;have HG:=Lib.hid hG;have HP:=Lib.hid hp;have HQ:=Lib.hid hq
 clear hk hn hf hg hn4 hm4 hnc hmd hc hd hG hp hq
 have hmf:∀ (fn:Fn) (first cap:Array Value) (w:World),(Instr.makeFunc fn first cap).run Tryz.prog w = .ok (.func fn first cap) w:=fun _ _ _ _=>rfl
 go_enter Tryz.func56,Tryz.ntmps56
 go_upto_region 3 with fail
 obtain⟨W0,hW⟩:∃ W0,W0=((((w.alloc (.cells (nums .u8 kf 32).toArray 22)).alloc (.cells (nums .u8 nf 12).toArray 54)).alloc (.cells #[.int .u8 0,.int .u8 0,.int .u8 0,.int .u8 0,.int .u8 0,.int .u8 0,.int .u8 0,.int .u8 0,.int .u8 0,.int .u8 0,.int .u8 0,.int .u8 0,.int .u8 0,.int .u8 0,.int .u8 0,.int .u8 0] 101)).alloc (.cells #[.int .u8 0,.int .u8 0,.int .u8 0,.int .u8 0,.int .u8 0,.int .u8 0,.int .u8 0,.int .u8 0,.int .u8 0,.int .u8 0,.int .u8 0,.int .u8 0,.int .u8 0,.int .u8 0,.int .u8 0,.int .u8 0] 101)):=⟨_,rfl⟩
 have hB0:Below w.heap.size w W0:=hW ▸ (Below.al (Below.al (Below.al (Below.al (Below.refl _ _)))))
 have HY:Hid (Own w.heap.size (nums .u8 kf 32) W0):=Lib.hid (hW ▸ (show Own w.heap.size (nums .u8 kf 32) (w.alloc (.cells (nums .u8 kf 32).toArray 22)) from Own.newAt (by simp)).alloc.alloc.alloc)
 have HM_:Hid (Own (w.heap.size+1) (nums .u8 nf 12) W0):=Lib.hid (hW ▸ (show Own (w.heap.size+1) (nums .u8 nf 12) ((w.alloc (.cells (nums .u8 kf 32).toArray 22)).alloc (.cells (nums .u8 nf 12).toArray 54)) from Own.newAt (by simp)).alloc.alloc)
 have HR:Hid (Own ((w.heap.size+1)+1) (nums .u8 (fun _=>0) 16) W0):=Lib.hid (hW ▸ (show Own ((w.heap.size+1)+1) (nums .u8 (fun _=>0) 16) (((w.alloc (.cells (nums .u8 kf 32).toArray 22)).alloc (.cells (nums .u8 nf 12).toArray 54)).alloc (.cells #[.int .u8 0,.int .u8 0,.int .u8 0,.int .u8 0,.int .u8 0,.int .u8 0,.int .u8 0,.int .u8 0,.int .u8 0,.int .u8 0,.int .u8 0,.int .u8 0,.int .u8 0,.int .u8 0,.int .u8 0,.int .u8 0] 101)) from Own.newAt (by simp)).alloc)
 have HZ:Hid (Own (((w.heap.size+1)+1)+1) (nums .u8 (fun _=>0) 16) W0):=Lib.hid (hW ▸ (show Own (((w.heap.size+1)+1)+1) (nums .u8 (fun _=>0) 16) ((((w.alloc (.cells (nums .u8 kf 32).toArray 22)).alloc (.cells (nums .u8 nf 12).toArray 54)).alloc (.cells #[.int .u8 0,.int .u8 0,.int .u8 0,.int .u8 0,.int .u8 0,.int .u8 0,.int .u8 0,.int .u8 0,.int .u8 0,.int .u8 0,.int .u8 0,.int .u8 0,.int .u8 0,.int .u8 0,.int .u8 0,.int .u8 0] 101)).alloc (.cells #[.int .u8 0,.int .u8 0,.int .u8 0,.int .u8 0,.int .u8 0,.int .u8 0,.int .u8 0,.int .u8 0,.int .u8 0,.int .u8 0,.int .u8 0,.int .u8 0,.int .u8 0,.int .u8 0,.int .u8 0,.int .u8 0] 101)) from Own.newAt (by simp)))
 rw[← hW]
 clear hW
 obtain⟨Z,eZ⟩:∃ X,X=(((w.heap.size+1)+1)+1):=⟨_,rfl⟩
 rw[← eZ] at HZ ⊢
 have Zw:w.heap.size≤Z:=by omega
 obtain⟨R,eR⟩:∃ X,X=((w.heap.size+1)+1):=⟨_,rfl⟩
 rw[← eR] at HR ⊢
 have Rw:w.heap.size≤R:=by omega
 obtain⟨M,eM⟩:∃ X,X=(w.heap.size+1):=⟨_,rfl⟩
 rw[← eM] at HM_ ⊢
 have Mw:w.heap.size≤M:=by omega
 obtain⟨Y,eY⟩:∃ X,X=w.heap.size:=⟨_,rfl⟩
 rw[← eY] at HY ⊢
 have Yw:w.heap.size≤Y:=by omega
 have nYM:Y≠M:=by omega
 have nMY:M≠Y:=by omega
 have nYR:Y≠R:=by omega
 have nRY:R≠Y:=by omega
 have nYZ:Y≠Z:=by omega
 have nZY:Z≠Y:=by omega
 have nMR:M≠R:=by omega
 have nRM:R≠M:=by omega
 have nMZ:M≠Z:=by omega
 have nZM:Z≠M:=by omega
 have nRZ:R≠Z:=by omega
 have nZR:Z≠R:=by omega
 clear eY eM eR eZ
 have HG1:=Lib.hid (HG.out.later hB0)
 have HP1:=Lib.hid (HP.out.later hB0)
 have HQ1:=Lib.hid (HQ.out.later hB0)
 clear HG HP HQ
 refine wp_region_lit ?_
 refine wpList_load_mid rfl 22 _ rfl Y 0 rfl (nums .u8 kf 32) _ HY.out.cell Tryz.underlying22 rfl (by kernel_rfl) ?_
 refine wpList_load_mid rfl 54 _ rfl M 0 rfl (nums .u8 nf 12) _ HM_.out.cell Tryz.underlying54 rfl (by kernel_rfl) ?_
 go_wp2_with (fail)
 go_at_call 91
 refine (Key_any kf nf FK.out FN.out _ HG1.out).mono ?_
 rintro e w1 ⟨rfl,hb⟩
 have HRk:=Lib.hid (HR.out.later hb)
 have HZk:=Lib.hid (HZ.out.later hb)
 clear HR HZ
 have HR:=HRk
 clear HRk
 have HZ:=HZk
 clear HZk
 have HP1k:=Lib.hid (HP1.out.later hb)
 have HQ1k:=Lib.hid (HQ1.out.later hb)
 clear HP1 HQ1
 have HP1:=HP1k;have HQ1:=HQ1k
 clear HP1k HQ1k
 have hB1:=Below.go hB0 hb
 clear hB0 hb
 have hB0:=hB1
 clear hB1
 clear HY HM_ HG1
 go_wp2_with (fail)
 go_at_call 89
 refine (pad_any Z p n c (by have:=HN.out;omega) _).mono ?_
 rintro e w2 ⟨rfl,hb⟩
 have HRk:=Lib.hid (HR.out.later hb)
 have HZk:=Lib.hid (HZ.out.later hb)
 clear HR HZ
 have HR:=HRk
 clear HRk
 have HZ:=HZk
 clear HZk
 have HP1k:=Lib.hid (HP1.out.later hb)
 have HQ1k:=Lib.hid (HQ1.out.later hb)
 clear HP1 HQ1
 have HP1:=HP1k;have HQ1:=HQ1k
 clear HP1k HQ1k
 have hB1:=Below.go hB0 hb
 clear hB0 hb
 have hB0:=hB1
 clear hB1
 go_wp2_with (fail)
 go_at_call 89
 refine (pad_any Z q m d (by have:=HM.out;omega) _).mono ?_
 rintro e w3 ⟨rfl,hb⟩
 have HRk:=Lib.hid (HR.out.later hb)
 have HZk:=Lib.hid (HZ.out.later hb)
 clear HR HZ
 have HR:=HRk
 clear HRk
 have HZ:=HZk
 clear HZk
 have HP1k:=Lib.hid (HP1.out.later hb)
 have HQ1k:=Lib.hid (HQ1.out.later hb)
 clear HP1 HQ1
 have HP1:=HP1k;have HQ1:=HQ1k
 clear HP1k HQ1k
 have hB1:=Below.go hB0 hb
 clear hB0 hb
 have hB0:=hB1
 clear hB1
 go_wp2_with (fail)
 obtain⟨W3,hW⟩:∃ W,W=(w3.alloc (.cells #[.slice p n c,.slice q m d] 47)):=⟨_,rfl⟩
 have HL:Hid (Own w3.heap.size [.slice p n c,.slice q m d] W3):=Lib.hid (hW ▸ Own.newAt rfl)
 have hb:Below w3.heap.size w3 W3:=hW ▸ Below.al (Below.refl _ _)
 rw[← hW]
 clear hW
 have HRk:=Lib.hid (HR.out.later hb)
 have HZk:=Lib.hid (HZ.out.later hb)
 clear HR HZ
 have HR:=HRk
 clear HRk
 have HZ:=HZk
 clear HZk
 have HP1k:=Lib.hid (HP1.out.later hb)
 have HQ1k:=Lib.hid (HQ1.out.later hb)
 clear HP1 HQ1
 have HP1:=HP1k;have HQ1:=HQ1k
 clear HP1k HQ1k
 have hB1:=Below.go hB0 hb
 clear hB0 hb
 have hB0:=hB1
 clear hB1
 obtain⟨L_,eL⟩:∃ X,X=w3.heap.size:=⟨_,rfl⟩
 rw[← eL] at HL ⊢
 clear eL
 go_at_call 92
 refine (lengths_any L_ n m c d p q (by have:=HN.out;omega) (by have:=HM.out;omega) _ HL.out.has).mono ?_
 rintro e w4 ⟨v4,rfl,hrow,hb⟩
 obtain⟨q5,c5,rfl,h16⟩:=row_form hrow
 have HC5:=Lib.hid (nrow_cap_ hrow).2
 have H5:=Lib.hid (byt_row hrow).2
 have H16:=Lib.hid h16
 clear hrow h16 HL
 have HRk:=Lib.hid (HR.out.later hb)
 have HZk:=Lib.hid (HZ.out.later hb)
 clear HR HZ
 have HR:=HRk
 clear HRk
 have HZ:=HZk
 clear HZk
 have HP1k:=Lib.hid (HP1.out.later hb)
 have HQ1k:=Lib.hid (HQ1.out.later hb)
 clear HP1 HQ1
 have HP1:=HP1k;have HQ1:=HQ1k
 clear HP1k HQ1k
 have hB1:=Below.go hB0 hb
 clear hB0 hb
 have hB0:=hB1
 clear hB1
 go_wp2_with (fail)
 obtain⟨W5,hW⟩:∃ W,W=(w4.alloc (.cells #[.slice p n c,.slice (some ⟨Z,0,none⟩) (padN n) 16,.slice q m d,.slice (some ⟨Z,0,none⟩) (padN m) 16,.slice q5 16 c5] 47)):=⟨_,rfl⟩
 have HL:Hid (Own w4.heap.size [.slice p n c,.slice (some ⟨Z,0,none⟩) (padN n) 16,.slice q m d,.slice (some ⟨Z,0,none⟩) (padN m) 16,.slice q5 16 c5] W5):=Lib.hid (hW ▸ Own.newAt rfl)
 have hb:Below w4.heap.size w4 W5:=hW ▸ Below.al (Below.refl _ _)
 rw[← hW]
 clear hW
 have H5k:=Lib.hid (H5.out.later hb)
 clear H5
 have HRk:=Lib.hid (HR.out.later hb)
 have HZk:=Lib.hid (HZ.out.later hb)
 clear HR HZ
 have HR:=HRk
 clear HRk
 have HZ:=HZk
 clear HZk
 have HP1k:=Lib.hid (HP1.out.later hb)
 have HQ1k:=Lib.hid (HQ1.out.later hb)
 clear HP1 HQ1
 have HP1:=HP1k;have HQ1:=HQ1k
 clear HP1k HQ1k
 have hB1:=Below.go hB0 hb
 clear hB0 hb
 have hB0:=hB1
 clear hB1
 obtain⟨S_,eS⟩:∃ X,X=w4.heap.size:=⟨_,rfl⟩
 rw[← eS] at HL ⊢
 clear eS
 go_at_call 90
 refine (Tag_any (blkF kf 0 nf) (layF f n g m) (some ⟨S_,0,none⟩) 5 5 (layT n m) (fun i _=>in_blkF kf 0 nf i) (fun i _=>in_layF HF.out HGF.out i) rfl (fun k _=>layT_le n m k HN.out HM.out) (Nat.le_refl _) (by decide) _ (mac_parts HL.out HZ.out HP1.out HQ1.out H5k.out HNC.out HMD.out H16.out HC.out HD.out HC5.out)).mono ?_
 rintro e w6 ⟨rfl,hb⟩
 clear HL HP1 HQ1 H5k HZ
 have HRk:=Lib.hid (HR.out.later hb)
 clear HR
 have HR:=HRk
 clear HRk
 have hB1:=Below.go hB0 hb
 clear hB0 hb
 obtain⟨T_,eT⟩:∃ x,byt (tagN (blkF kf 0 nf) (layF f n g m) (layT n m 5))=x:=⟨_,rfl⟩
 rw[eT]
 have ET:=Lib.hid (show macF kf nf f n g m=T_ from eT)
 clear eT
 have hst:=store_nums (P:=Tryz.prog) (n:=16) .u8 T_ HR.out rfl
 have HR1:=Lib.hid (Own.store (vs:=nums .u8 T_ 16) HR.out rfl)
 have hB2:=Below.setCells hB1 Rw (nums .u8 T_ 16) 0
 go_wp2_with (fail)
 have hL:=run_loadVar_mid (P:=Tryz.prog) _ R 0 101 (nums .u8 T_ 16) _ HR1.out.cell Tryz.underlying101 rfl (by kernel_rfl)
 exact bodyPost_ret (v := .agg (nums .u8 T_ 16).toArray) (res_cell Tryz.results56 rfl hL) rfl ⟨by rw[ET.out],hB2⟩
end Go.Proofs.YtbilamnnneddmaaGreatDoor
namespace Go.Proofs.YtbilamnnneddmaaGreatDoor
set_option linter.unusedVariables false
set_option maxRecDepth 2000
set_option linter.unusedSimpArgs false
open Go.RowKit
def nencF (kf nf g:Nat→Int) (j:Nat):Int:=xorB (g j) (strF kf 1 nf j)
theorem nin_encF {kf nf g:Nat→Int} {m:Nat} (h:∀ i,i<m→inB (g i)) (j:Nat) (hj:j<m):inB (nencF kf nf g j):=in_xorB (h j hj) (in_strF kf 1 nf j)
theorem nenc_back {kf nf g:Nat→Int} {m:Nat} (h:∀ i,i<m→inB (g i)) (j:Nat) (hj:j<m):nencF kf nf (nencF kf nf g) j=g j:=xorB_back (h j hj) (in_strF kf 1 nf j)
def sealF (kf nf f:Nat→Int) (n:Nat) (g:Nat→Int) (m:Nat) (j:Nat):Int:=if j<m then nencF kf nf g j else macF kf nf f n (nencF kf nf g) m (j - m)
theorem seal_app (kf nf f:Nat→Int) (n:Nat) (g:Nat→Int) (m:Nat):nums .u8 (nencF kf nf g) m ++ nums .u8 (macF kf nf f n (nencF kf nf g) m) 16=nums .u8 (sealF kf nf f n g m) (m+16):=by
 rw[← nums_append .u8 (sealF kf nf f n g m) (macF kf nf f n (nencF kf nf g) m) m 16 (fun j hj=>by unfold sealF;rw[if_neg (by omega),Nat.add_sub_cancel_left])]
 rw[nums_congr (f:=sealF kf nf f n g m) (g:=nencF kf nf g) .u8 (fun j hj=>by unfold sealF;rw[if_pos hj])]
theorem in_macF (kf nf f:Nat→Int) (n:Nat) (g:Nat→Int) (m j:Nat):inB (macF kf nf f n g m j):=in_byt _ _
theorem in_sealF {kf nf f g:Nat→Int} {n m:Nat} (h:∀ i,i<m→inB (g i)) (j:Nat):inB (sealF kf nf f n g m j):=by
 unfold sealF
 split
 ·exact nin_encF h _ (by assumption)
 ·exact in_macF _ _ _ _ _ _ _
theorem Xor_own (kf nf:Nat→Int) (S m:Nat) (v:Value) (g:Nat→Int) (hm:m≤65536) (hk:∀ i,i<32→inB (kf i)) (hn:∀ i,i<12→inB (nf i)) (w:World) (hg:Has 1 0 GL w) (h:Own S [v] w) (hr:RowR w v m g) :
  Calls Tryz.prog 57 #[(.agg (nums .u8 kf 32).toArray),.int .u32 1,(.agg (nums .u8 nf 12).toArray),.slice (some ⟨S,0,none⟩) 1 1] w fun e w'=>∃ v,e = .returned v∧w'.ownsRow w.heap.size 5 1 v m (nums .u8 (nencF kf nf g) m)∧Below w.heap.size w w' :=
 (Xor_any kf nf 1 (some ⟨S,0,none⟩) 1 1 g (T1 m) rfl (fun k hk=>by unfold T1;split<;>omega) (Nat.le_refl _) (by decide) hk hn (by unfold in32;decide) w hg (parts_one h hr)).mono fun _ _ h=>h
theorem st16b (w:World) (f:Nat→Int) (c:Array Value) (hc:c.size=16):(storeCells ⟨w.heap.size,0,none⟩ (nums .u8 f 16)).run Tryz.prog (w.alloc (.cells c 101)) = .ok () (w.alloc (.cells (nums .u8 f 16).toArray 101)) :=
 run_storeCells_new (P:=Tryz.prog) w 101 c (nums .u8 f 16).toArray (by rw[nums_size];kernel_rfl) (by rw[nums_size,hc]) (nums_all _ _ _)
attribute [local go_sem] nums_length st16b
set_option maxHeartbeats 4000000 in
theorem Seal_any (kf nf f g:Nat→Int) (p q:Option Addr) (n m c d:Nat) (hk:∀ i,i<32→inB (kf i)) (hn:∀ i,i<12→inB (nf i)) (hf:∀ i,i<n→inB (f i)) (hg:∀ i,i<m→inB (g i)) (hn4:n≤16384) (hm4:m≤16384)
  (hnc:n≤c) (hmd:m≤d) (hc:c≤9223372036854775807) (hd:d≤9223372036854775807) (w:World) (hG:Has 1 0 GL w) (hp:Byt w p n f) (hq:Byt w q m g) :
  Calls Tryz.prog 28 #[(.agg (nums .u8 kf 32).toArray),(.agg (nums .u8 nf 12).toArray),.slice p n c,.slice q m d] w fun e w'=>∃ v,e = .returned (.tuple #[v,.int .i64 0])∧w'.ownsRow w.heap.size 5 1 v (m+16) (nums .u8 (sealF kf nf f n g m) (m+16))∧Below w.heap.size w w':=by
 have FK:=Lib.hid hk;have FN:=Lib.hid hn;have HF:=Lib.hid hf;have HGF:=Lib.hid hg;have HN:=Lib.hid hn4;have HM:=Lib.hid hm4
 have HNC:=Lib.hid hnc;have HMD:=Lib.hid hmd;have HC:=Lib.hid hc;have HD:=Lib.hid hd;have HG:=Lib.hid hG;have HP:=Lib.hid hp;have HQ:=Lib.hid hq
 clear hk hn hf hg hn4 hm4 hnc hmd hc hd hG hp hq
 go_enter Tryz.func28,Tryz.ntmps28
 go_upto_region 1 with fail
 obtain⟨W0,hW⟩:∃ W0,W0=((w.alloc (.cells (nums .u8 kf 32).toArray 22)).alloc (.cells (nums .u8 nf 12).toArray 54)):=⟨_,rfl⟩
 have hB0:Below w.heap.size w W0:=hW ▸ (Below.al (Below.al (Below.refl _ _)))
 have HY:Hid (Own w.heap.size (nums .u8 kf 32) W0):=Lib.hid (hW ▸ (show Own w.heap.size (nums .u8 kf 32) (w.alloc (.cells (nums .u8 kf 32).toArray 22)) from Own.newAt (by simp)).alloc)
 have HM_:Hid (Own (w.heap.size+1) (nums .u8 nf 12) W0):=Lib.hid (hW ▸ (show Own (w.heap.size+1) (nums .u8 nf 12) ((w.alloc (.cells (nums .u8 kf 32).toArray 22)).alloc (.cells (nums .u8 nf 12).toArray 54)) from Own.newAt (by simp)))
 rw[← hW]
 clear hW
 obtain⟨M,eM⟩:∃ X,X=(w.heap.size+1):=⟨_,rfl⟩
 rw[← eM] at HM_ ⊢
 have Mw:w.heap.size≤M:=by omega
 obtain⟨Y,eY⟩:∃ X,X=w.heap.size:=⟨_,rfl⟩
 rw[← eY] at HY ⊢
 have Yw:w.heap.size≤Y:=by omega
 have nYM:Y≠M:=by omega
 have nMY:M≠Y:=by omega
 clear eY eM
 have HGk:=Lib.hid (HG.out.later hB0);have HPk:=Lib.hid (HP.out.later hB0);have HQk:=Lib.hid (HQ.out.later hB0)
 clear HG HP HQ
 have HG:=HGk;have HP:=HPk;have HQ:=HQk
 clear HGk HPk HQk
 go_wp2_with (fail)
 go_at_call 54
 refine (long_any p q n m c d HN.out HM.out _).mono ?_
 rintro e w1 ⟨rfl,hb⟩
 have HYk:=Lib.hid (HY.out.later hb)
 have HM_k:=Lib.hid (HM_.out.later hb)
 have HGk:=Lib.hid (HG.out.later hb)
 have HPk:=Lib.hid (HP.out.later hb)
 have HQk:=Lib.hid (HQ.out.later hb)
 clear HY HM_ HG HP HQ
 have HY:=HYk
 clear HYk
 have HM_:=HM_k
 clear HM_k
 have HG:=HGk
 clear HGk
 have HP:=HPk
 clear HPk
 have HQ:=HQk
 clear HQk
 have hB1:=Below.go hB0 hb
 clear hB0 hb
 have hB0:=hB1
 clear hB1
 go_upto_region 3 with fail
 refine wp_region_lit ?_
 refine wpList_load_mid rfl 22 _ rfl Y 0 rfl (nums .u8 kf 32) _ HY.out.cell Tryz.underlying22 rfl (by kernel_rfl) ?_
 refine wpList_load_mid rfl 54 _ rfl M 0 rfl (nums .u8 nf 12) _ HM_.out.cell Tryz.underlying54 rfl (by kernel_rfl) ?_
 go_wp2_with (fail)
 obtain⟨W2,hW⟩:∃ W,W=(w1.alloc (.cells #[.slice q m d] 47)):=⟨_,rfl⟩
 have HL:Hid (Own w1.heap.size [.slice q m d] W2):=Lib.hid (hW ▸ Own.newAt rfl)
 have hb:Below w1.heap.size w1 W2:=hW ▸ Below.al (Below.refl _ _)
 rw[← hW]
 clear hW
 have HYk:=Lib.hid (HY.out.later hb)
 have HM_k:=Lib.hid (HM_.out.later hb)
 have HGk:=Lib.hid (HG.out.later hb)
 have HPk:=Lib.hid (HP.out.later hb)
 have HQk:=Lib.hid (HQ.out.later hb)
 clear HY HM_ HG HP HQ
 have HY:=HYk
 clear HYk
 have HM_:=HM_k
 clear HM_k
 have HG:=HGk
 clear HGk
 have HP:=HPk
 clear HPk
 have HQ:=HQk
 clear HQk
 have hB1:=Below.go hB0 hb
 clear hB0 hb
 have hB0:=hB1
 clear hB1
 obtain⟨L_,eL⟩:∃ X,X=w1.heap.size:=⟨_,rfl⟩
 rw[← eL] at HL ⊢
 clear eL
 go_at_call 57
 refine (Xor_own kf nf L_ m (.slice q m d) g (by have:=HM.out;omega) FK.out FN.out _ HG.out HL.out ⟨q,d,rfl,HMD.out,HD.out,HQ.out⟩).mono ?_
 rintro e w3 ⟨v3,rfl,hrow,hb⟩
 obtain⟨q3,c3,rfl,h3⟩:=row_form hrow
 have ROW:Hid (w3.ownsRow w.heap.size 5 1 (.slice q3 m c3) m (nums .u8 (nencF kf nf g) m)):=Lib.hid (hrow.mono hB0.size)
 have HC3:=Lib.hid (nrow_cap_ hrow).2
 have HE:=Lib.hid (byt_row hrow).2
 have H3:=Lib.hid h3
 clear hrow h3 HL HQ
 have HYk:=Lib.hid (HY.out.later hb)
 have HM_k:=Lib.hid (HM_.out.later hb)
 have HGk:=Lib.hid (HG.out.later hb)
 have HPk:=Lib.hid (HP.out.later hb)
 clear HY HM_ HG HP
 have HY:=HYk
 clear HYk
 have HM_:=HM_k
 clear HM_k
 have HG:=HGk
 clear HGk
 have HP:=HPk
 clear HPk
 have hB1:=Below.go hB0 hb
 clear hB0 hb
 have hB0:=hB1
 clear hB1
 go_upto_region 4 with fail
 refine wp_region_lit ?_
 refine wpList_load_mid rfl 22 _ rfl Y 0 rfl (nums .u8 kf 32) _ HY.out.cell Tryz.underlying22 rfl (by kernel_rfl) ?_
 refine wpList_load_mid rfl 54 _ rfl M 0 rfl (nums .u8 nf 12) _ HM_.out.cell Tryz.underlying54 rfl (by kernel_rfl) ?_
 go_wp2_with (fail)
 go_at_call 56
 refine (Mac_any kf nf f (nencF kf nf g) p q3 n m c c3 FK.out FN.out HF.out (nin_encF HGF.out) HN.out HM.out HNC.out H3.out HC.out HC3.out _ HG.out HP.out HE.out).mono ?_
 rintro e w4 ⟨rfl,hb⟩
 have ROW4:=Lib.hid (row_later ROW.out hb)
 clear HY HM_ HE HG HP ROW
 have hB1:=Below.go hB0 hb
 clear hB0 hb
 obtain⟨T_,eT⟩:∃ x,macF kf nf f n (nencF kf nf g) m=x:=⟨_,rfl⟩
 have ET:=Lib.hid eT
 rw[eT]
 clear eT
 go_upto_region 5 with fail
 obtain⟨W5,hW⟩:∃ W,W=(w4.alloc (.cells (nums .u8 T_ 16).toArray 101)):=⟨_,rfl⟩
 have HT:Hid (Own w4.heap.size (nums .u8 T_ 16) W5):=Lib.hid (hW ▸ (show Own w4.heap.size (nums .u8 T_ 16) (w4.alloc (.cells (nums .u8 T_ 16).toArray 101)) from Own.newAt (by simp)))
 have hb:Below w4.heap.size w4 W5:=hW ▸ Below.al (Below.refl _ _)
 rw[← hW]
 clear hW
 have ROW5:=Lib.hid (row_later ROW4.out hb)
 have hB2:=Below.go hB1 hb
 clear hB1 hb ROW4
 obtain⟨B_,eB⟩:∃ X,X=w4.heap.size:=⟨_,rfl⟩
 rw[← eB] at HT ⊢
 clear eB
 go_wp2_with (at_builtin;refine nwpList_append_b rfl _ _ rfl w.heap.size _ m (nums .u8 (nencF kf nf g) m) rfl ROW5.out (some ⟨B_,0,none⟩) 16 16 T_ rfl (.inr ⟨B_,0,rfl,HT.out.has⟩) (by have:=HM.out;omega) hB2.size ?_;intro v' w6 hrow hgr;have hB3:=Lib.hid (hB2.grown hgr hB2.size (fun k hk=>row_ge ROW5.out k hk));rw[← ET.out,seal_app] at hrow;have HROW:=Lib.hid hrow;clear hrow hgr)
 refine bodyPost_ret (v := .tuple #[v',.int .i64 0]) (by simp[results,Tryz.results28,go_sem]) rfl ?_
 exact⟨_,rfl,HROW.out,hB3.out⟩
end Go.Proofs.YtbilamnnneddmaaGreatDoor
namespace Go.Proofs.YtbilamnnneddmaaGreatDoor
set_option linter.unusedVariables false
set_option maxRecDepth 2000
set_option linter.unusedSimpArgs false
open Go.RowKit
attribute [local go_sem] nums_length st16b
attribute [local go_sem ↓ high] sliced_head sliced_one
theorem slq_some (b off m d:Nat) (h:¬ d=m):slq (some ⟨b,off,none⟩) m d=some ⟨b,off+m,none⟩:=by
 unfold slq
 rw[if_neg h]
 simp[Addr.add]
set_option maxHeartbeats 4000000 in
theorem Open_core (kf nf f sg:Nat→Int) (p:Option Addr) (qb qo n m N c dc:Nat) (eN:N=m+16) (z:Bool) (ez:eqB (fun j=>sg (m+j)) (macF kf nf f n sg m) 16=z) (hk:∀ i,i<32→inB (kf i)) (hn:∀ i,i<12→inB (nf i)) (hf:∀ i,i<n→inB (f i)) (hs:∀ i,i<N→inB (sg i)) (hn4:n≤16384) (hm4:m≤16384)
  (hnc:n≤c) (hmd:N≤dc) (hc:c≤9223372036854775807) (hd:dc≤9223372036854775807) (w:World) (hG:Has 1 0 GL w) (hp:Byt w p n f) (hq:Has qb qo (nums .u8 sg N) w) :
  Calls Tryz.prog 24 #[(.agg (nums .u8 kf 32).toArray),(.agg (nums .u8 nf 12).toArray),.slice p n c,.slice (some ⟨qb,qo,none⟩) N dc] w fun e w'=>(if z=true then ∃ v,e = .returned (.tuple #[v,.int .i64 0])∧w'.ownsRow w.heap.size 5 1 v m (nums .u8 (nencF kf nf sg) m) else e = .returned (.tuple #[.slice none 0 0,.int .i64 6]))∧Below w.heap.size w w':=by
 have FK:=Lib.hid hk;have FN:=Lib.hid hn
 have LG:=Lib.hid (fun w=>long_any p (some ⟨qb,qo,none⟩) n m c dc hn4 hm4 w)
 have MC:=Lib.hid (fun w hG hp hs'=>Mac_any kf nf f sg p (some ⟨qb,qo,none⟩) n m c dc hk hn hf (fun i hi=>hs i (by omega)) hn4 hm4 hnc (by omega) hc hd w hG hp hs')
 have SM:=Lib.hid (fun w=>Same_any_ (fun j=>sg (m+j)) (macF kf nf f n sg m) (fun i hi=>hs _ (by omega)) (fun i _=>in_macF _ _ _ _ _ _ _) w)
 have XO:=Lib.hid (fun S w hG h hr=>Xor_own kf nf S m (.slice (some ⟨qb,qo,none⟩) m dc) sg (by omega) hk hn w hG h hr)
 rw[ez] at SM
 have HN:=Lib.hid eN;have HM:=Lib.hid hm4;have HMD:=Lib.hid hmd;have HD:=Lib.hid hd
 have HG:=Lib.hid hG;have HP:=Lib.hid hp;have HQ:=Lib.hid (nhas_take hq (show m≤N by omega));have HT:=Lib.hid (nhas_drop hq (show m+16≤N by omega))
 have sl:=slq_some qb qo m dc (by omega)
 have g1:decide ((N:Int)<16)=false:=by simp;omega
 have g2:decide (N<16)=false:=by simp;omega
 have n1:(N:Int) - 16=(m:Int):=by omega
 have n2:IntKind.i64.wrap (m:Int)=(m:Int):=IntWalk.i64_in _ (by omega)
 have n3:N - m=16:=by omega
 have n4:(0:Int)≤(m:Int):=by omega
 have n5:(m:Int)≤(N:Int):=by omega
 have n6:(m:Int)≤(dc:Int):=by omega
 have n7:(N:Int)≤(dc:Int):=by omega
 have n8:¬ (dc=m):=by omega
 clear hk hn hf hs hn4 hm4 hnc hmd hc hd hG hp hq ez eN
 go_enter Tryz.func24,Tryz.ntmps24
 go_upto_region 4 with fail
 obtain⟨W0,hW⟩:∃ W0,W0=((w.alloc (.cells (nums .u8 kf 32).toArray 22)).alloc (.cells (nums .u8 nf 12).toArray 54)):=⟨_,rfl⟩
 have hB0:Below w.heap.size w W0:=hW ▸ (Below.al (Below.al (Below.refl _ _)))
 have HY:Hid (Own w.heap.size (nums .u8 kf 32) W0):=Lib.hid (hW ▸ (show Own w.heap.size (nums .u8 kf 32) (w.alloc (.cells (nums .u8 kf 32).toArray 22)) from Own.newAt (by simp)).alloc)
 have HM_:Hid (Own (w.heap.size+1) (nums .u8 nf 12) W0):=Lib.hid (hW ▸ (show Own (w.heap.size+1) (nums .u8 nf 12) ((w.alloc (.cells (nums .u8 kf 32).toArray 22)).alloc (.cells (nums .u8 nf 12).toArray 54)) from Own.newAt (by simp)))
 rw[← hW]
 clear hW
 obtain⟨M,eM⟩:∃ X,X=(w.heap.size+1):=⟨_,rfl⟩
 rw[← eM] at HM_ ⊢
 have Mw:w.heap.size≤M:=by omega
 obtain⟨Y,eY⟩:∃ X,X=w.heap.size:=⟨_,rfl⟩
 rw[← eY] at HY ⊢
 have Yw:w.heap.size≤Y:=by omega
 have nYM:Y≠M:=by omega
 have nMY:M≠Y:=by omega
 clear eY eM
 have HGk:=Lib.hid (HG.out.later hB0);have HPk:=Lib.hid (HP.out.later hB0);have HQk:=Lib.hid (HQ.out.later hB0);have HTk:=Lib.hid (HT.out.later hB0)
 clear HG HP HQ HT
 have HG:=HGk;have HP:=HPk;have HQ:=HQk;have HT:=HTk
 clear HGk HPk HQk HTk
 refine wp_region_fun 11 (by kernel_rfl) (by kernel_rfl) rfl (fun s b=>⟨#[.agg (nums .u8 kf 32).toArray,.agg (nums .u8 nf 12).toArray,.slice p n c,.slice (some ⟨qb,qo,none⟩) N dc,.pointer (some ⟨Y,0,none⟩),.pointer (some ⟨M,0,none⟩),undef,undef,.slice none 0 0,.int .i64 0,.int .i64 m,s 11,s 12,.slice (some ⟨qb,qo,none⟩) N dc,.int .i64 N,.bool false,.slice (some ⟨qb,qo,none⟩) N dc,.int .i64 N,.int .i64 m,s 19,s 20,s 21,s 22,s 23,s 24,s 25,s 26,undef,undef,undef,undef,undef,undef,undef,undef,undef,undef,undef,undef,undef,undef,undef,undef],[]⟩) (fun d s b w=>(Below W0.heap.size W0 w)∧(d 0=true→s 19 = .slice (some ⟨qb,qo,none⟩) N dc)∧(d 1=true→s 20 = .int .i64 m)∧(d 2=true→s 21 = .slice (some ⟨qb,qo,none⟩) m dc)∧(d 3=true→s 22 = .slice (some ⟨qb,qo,none⟩) N dc)∧(d 4=true→s 23 = .int .i64 m)∧(d 5=true→s 24 = .slice (some ⟨qb,qo+m,none⟩) 16 (dc - m))∧(d 6=true→s 25 = .pointer (some ⟨qb,qo+m,none⟩))∧(d 7=true→s 26 = .agg (nums .u8 (fun j=>sg (m+j)) 16).toArray)∧(d 8=true→s 12 = .pointer (some ⟨(b 8),0,none⟩)∧W0.heap.size≤b 8)∧(d 8=true→d 10=false→Own (b 8) (nums .u8 (fun _=>0) 16) w)∧(d 9=true→s 11 = .slice (some ⟨qb,qo,none⟩) m dc)∧(d 10=true→Own (b 8) (nums .u8 (fun j=>sg (m+j)) 16) w)∧(d 10=true→d 8=true)) rfl ?h0y1 (?sty1:StepsF _ _ _ _ 11 _ _ [0,1,2,3,4,5,6,7,8,9,10]) ?dny1
 case h0y1=>exact⟨Below.drew (Below.refl _ _),by repeat (first | exact nf_ | refine⟨nf_,?_⟩)⟩
 case sty1 =>
  refine sc_ rfl [] (fun d s b w hF hd hw K_ hK=>?_) ?_
  ·have hB:Below W0.heap.size W0 w:=(p0_ hF.out)
   dsimp only
   go_simp
   exact hK.out (ups s 19 (.slice (some ⟨qb,qo,none⟩) N dc)) b _ ⟨hB,(fun _=>rfl),hF.out.2.2⟩
  refine sc_ rfl [] (fun d s b w hF hd hw K_ hK=>?_) ?_
  ·have hB:Below W0.heap.size W0 w:=(p0_ hF.out)
   dsimp only
   go_simp
   exact hK.out (ups s 20 (.int .i64 m)) b _ ⟨hB,(p1_ hF.out),(fun _=>rfl),hF.out.2.2.2⟩
  refine sc_ rfl [0,1] (fun d s b w hF hd hw K_ hK=>?_) ?_
  ·have hB:Below W0.heap.size W0 w:=(p0_ hF.out)
   have e0:=p1_ hF.out (hw 0 (by decide))
   have e1:=p2_ hF.out (hw 1 (by decide))
   dsimp only
   go_simp
   exact hK.out (ups (ups (ups s 19 (.slice (some ⟨qb,qo,none⟩) N dc)) 20 (.int .i64 m)) 21 (.slice (some ⟨qb,qo,none⟩) m dc)) b _ ⟨hB,(fun _=>rfl),(fun _=>rfl),(fun _=>rfl),hF.out.2.2.2.2⟩
  refine sc_ rfl [] (fun d s b w hF hd hw K_ hK=>?_) ?_
  ·have hB:Below W0.heap.size W0 w:=(p0_ hF.out)
   dsimp only
   go_simp
   exact hK.out (ups s 22 (.slice (some ⟨qb,qo,none⟩) N dc)) b _ ⟨hB,k3_ hF.out.2 fun t=>⟨(fun _=>rfl),t.2⟩⟩
  refine sc_ rfl [] (fun d s b w hF hd hw K_ hK=>?_) ?_
  ·have hB:Below W0.heap.size W0 w:=(p0_ hF.out)
   dsimp only
   go_simp
   exact hK.out (ups s 23 (.int .i64 m)) b _ ⟨hB,k4_ hF.out.2 fun t=>⟨(fun _=>rfl),t.2⟩⟩
  refine sc_ rfl [3,4] (fun d s b w hF hd hw K_ hK=>?_) ?_
  ·have hB:Below W0.heap.size W0 w:=(p0_ hF.out)
   have e3:=p4_ hF.out (hw 3 (by decide))
   have e4:=p5_ hF.out (hw 4 (by decide))
   dsimp only
   go_simp
   exact hK.out (ups (ups (ups s 22 (.slice (some ⟨qb,qo,none⟩) N dc)) 23 (.int .i64 m)) 24 (.slice (some ⟨qb,qo+m,none⟩) 16 (dc - m))) b _ ⟨hB,k3_ hF.out.2 fun t=>⟨(fun _=>rfl),(fun _=>rfl),(fun _=>rfl),t.2.2.2⟩⟩
  refine sc_ rfl [5] (fun d s b w hF hd hw K_ hK=>?_) ?_
  ·have hB:Below W0.heap.size W0 w:=(p0_ hF.out)
   have e5:=p6_ hF.out (hw 5 (by decide))
   dsimp only
   go_simp
   exact hK.out (ups (ups s 24 (.slice (some ⟨qb,qo+m,none⟩) 16 (dc - m))) 25 (.pointer (some ⟨qb,qo+m,none⟩))) b _ ⟨hB,k5_ hF.out.2 fun t=>⟨(fun _=>rfl),(fun _=>rfl),t.2.2⟩⟩
  refine sc_ rfl [6] (fun d s b w hF hd hw K_ hK=>?_) ?_
  ·have hB:Below W0.heap.size W0 w:=(p0_ hF.out)
   have e6:=p7_ hF.out (hw 6 (by decide))
   refine step_load (by simp[Region.wanted]) 101 _ rfl qb (qo+m) e6 (nums .u8 (fun j=>sg (m+j)) 16) _ (HT.out.later hB).cell Tryz.underlying101 rfl (by kernel_rfl) ?_
   exact hK.out (ups s 26 (.agg (nums .u8 (fun j=>sg (m+j)) 16).toArray)) b _ ⟨hB,k7_ hF.out.2 fun t=>⟨(fun _=>rfl),t.2⟩⟩
  refine sc_ rfl [] (fun d s b w hF hd hw K_ hK=>?_) ?_
  ·have hB:Below W0.heap.size W0 w:=(p0_ hF.out)
   dsimp only
   go_simp
   exact hK.out (ups s 12 (.pointer (some ⟨w.heap.size,0,none⟩))) (ups b 8 w.heap.size) _ ⟨(hB.alloc hB.size _),k8_ hF.out.2 fun t=>⟨(fun _=>⟨rfl,hB.size⟩),(fun _ _=>Own.newAt rfl),t.2.2.1,(fun h=>absurd ((q13_ hF.out) h) (by simp[hd])),(fun _=>rfl)⟩⟩
  refine sc_ rfl [2,0,1,2,8] (fun d s b w hF hd hw K_ hK=>?_) ?_
  ·have hB:Below W0.heap.size W0 w:=(p0_ hF.out)
   have e0:=p1_ hF.out (hw 0 (by decide))
   have e1:=p2_ hF.out (hw 1 (by decide))
   have e2:=p3_ hF.out (hw 2 (by decide))
   have e8:s 12 = .pointer (some ⟨(b 8),0,none⟩):=((p9_ hF.out) (hw 8 (by decide))).1
   have le8:W0.heap.size≤b 8:=((p9_ hF.out) (hw 8 (by decide))).2
   dsimp only
   go_simp
   exact hK.out (ups (ups (ups (ups (ups s 19 (.slice (some ⟨qb,qo,none⟩) N dc)) 20 (.int .i64 m)) 21 (.slice (some ⟨qb,qo,none⟩) m dc)) 12 (.pointer (some ⟨(b 8),0,none⟩))) 11 (.slice (some ⟨qb,qo,none⟩) m dc)) b _ ⟨hB,(fun _=>rfl),(fun _=>rfl),(fun _=>rfl),k5_ hF.out.2.2.2.2 fun t=>⟨(fun _=>⟨rfl,le8⟩),t.2.1,(fun _=>rfl),t.2.2.2⟩⟩
  refine sc_ rfl [8,7,9,0,1,2,3,4,5,6,7,8,9] (fun d s b w hF hd hw K_ hK=>?_) ?_
  ·have hB:Below W0.heap.size W0 w:=(p0_ hF.out)
   have e0:=p1_ hF.out (hw 0 (by decide))
   have e1:=p2_ hF.out (hw 1 (by decide))
   have e2:=p3_ hF.out (hw 2 (by decide))
   have e3:=p4_ hF.out (hw 3 (by decide))
   have e4:=p5_ hF.out (hw 4 (by decide))
   have e5:=p6_ hF.out (hw 5 (by decide))
   have e6:=p7_ hF.out (hw 6 (by decide))
   have e7:=p8_ hF.out (hw 7 (by decide))
   have e8:s 12 = .pointer (some ⟨(b 8),0,none⟩):=((p9_ hF.out) (hw 8 (by decide))).1
   have le8:W0.heap.size≤b 8:=((p9_ hF.out) (hw 8 (by decide))).2
   have e9:=p11_ hF.out (hw 9 (by decide))
   dsimp only
   have o8:=(p10_ hF.out) (hw 8 (by decide)) hd
   have hst:=store_nums (P:=Tryz.prog) (n:=16) .u8 (fun j=>sg (m+j)) o8 rfl
   go_simp
   exact hK.out (ups (ups (ups (ups (ups (ups (ups (ups (ups (ups s 19 (.slice (some ⟨qb,qo,none⟩) N dc)) 20 (.int .i64 m)) 21 (.slice (some ⟨qb,qo,none⟩) m dc)) 22 (.slice (some ⟨qb,qo,none⟩) N dc)) 23 (.int .i64 m)) 24 (.slice (some ⟨qb,qo+m,none⟩) 16 (dc - m))) 25 (.pointer (some ⟨qb,qo+m,none⟩))) 26 (.agg (nums .u8 (fun j=>sg (m+j)) 16).toArray)) 12 (.pointer (some ⟨(b 8),0,none⟩))) 11 (.slice (some ⟨qb,qo,none⟩) m dc)) b _ ⟨(Below.setCells hB le8 (nums .u8 (fun j=>sg (m+j)) 16) 0),(fun _=>rfl),(fun _=>rfl),(fun _=>rfl),(fun _=>rfl),(fun _=>rfl),(fun _=>rfl),(fun _=>rfl),(fun _=>rfl),(fun _=>⟨rfl,le8⟩),(fun _ h=>nomatch h),(fun _=>rfl),(fun _=>Own.store (vs:=(nums .u8 (fun j=>sg (m+j)) 16)) o8 rfl),(fun _=>hw 8 (by decide))⟩
  exact StepsF.nil
 intro d s b y1 hF hall
 replace hF:=Lib.hid hF
 have hB:Below W0.heap.size W0 y1:=(p0_ hF.out)
 try dsimp only
 have e0:s 19 = .slice (some ⟨qb,qo,none⟩) N dc:=(p1_ hF.out) (hall 0 (by decide))
 have e1:s 20 = .int .i64 m:=(p2_ hF.out) (hall 1 (by decide))
 have e2:s 21 = .slice (some ⟨qb,qo,none⟩) m dc:=(p3_ hF.out) (hall 2 (by decide))
 have e3:s 22 = .slice (some ⟨qb,qo,none⟩) N dc:=(p4_ hF.out) (hall 3 (by decide))
 have e4:s 23 = .int .i64 m:=(p5_ hF.out) (hall 4 (by decide))
 have e5:s 24 = .slice (some ⟨qb,qo+m,none⟩) 16 (dc - m):=(p6_ hF.out) (hall 5 (by decide))
 have e6:s 25 = .pointer (some ⟨qb,qo+m,none⟩):=(p7_ hF.out) (hall 6 (by decide))
 have e7:s 26 = .agg (nums .u8 (fun j=>sg (m+j)) 16).toArray:=(p8_ hF.out) (hall 7 (by decide))
 have e8:s 12 = .pointer (some ⟨(b 8),0,none⟩):=((p9_ hF.out) (hall 8 (by decide))).1
 have le8:W0.heap.size≤b 8:=((p9_ hF.out) (hall 8 (by decide))).2
 have e9:s 11 = .slice (some ⟨qb,qo,none⟩) m dc:=(p11_ hF.out) (hall 9 (by decide))
 have f10:=(p12_ hF.out) (hall 10 (by decide))
 rw[e0,e1,e2,e3,e4,e5,e6,e7,e8,e9]
 clear hall hF e0 e1 e2 e3 e4 e5 e6 e7 e8 e9
 obtain⟨X,hz⟩:∃ x,x=b 8:=⟨_,rfl⟩
 rw[← hz] at le8 f10 ⊢
 clear hz
 clear d s b
 have HX:=Lib.hid f10
 clear f10 HT le8
 have HYk:=Lib.hid (HY.out.later hB)
 have HM_k:=Lib.hid (HM_.out.later hB)
 have HGk:=Lib.hid (HG.out.later hB)
 have HPk:=Lib.hid (HP.out.later hB)
 have HQk:=Lib.hid (HQ.out.later hB)
 clear HY HM_ HG HP HQ
 have HY:=HYk
 clear HYk
 have HM_:=HM_k
 clear HM_k
 have HG:=HGk
 clear HGk
 have HP:=HPk
 clear HPk
 have HQ:=HQk
 clear HQk
 have hB1:=Below.go hB0 hB
 clear hB0 hB
 have hB0:=hB1
 clear hB1
 go_wp2_with (fail)
 go_at_call 54
 refine (LG.out _).mono ?_
 rintro e w2 ⟨rfl,hB⟩
 have HYk:=Lib.hid (HY.out.later hB)
 have HM_k:=Lib.hid (HM_.out.later hB)
 have HGk:=Lib.hid (HG.out.later hB)
 have HPk:=Lib.hid (HP.out.later hB)
 have HQk:=Lib.hid (HQ.out.later hB)
 have HXk:=Lib.hid (HX.out.later hB)
 clear HY HM_ HG HP HQ HX
 have HY:=HYk
 clear HYk
 have HM_:=HM_k
 clear HM_k
 have HG:=HGk
 clear HGk
 have HP:=HPk
 clear HPk
 have HQ:=HQk
 clear HQk
 have HX:=HXk
 clear HXk
 have hB1:=Below.go hB0 hB
 clear hB0 hB
 have hB0:=hB1
 clear hB1
 go_upto_region 7 with fail
 refine wp_region_fun 8 (by kernel_rfl) (by kernel_rfl) rfl (fun s b=>⟨#[.agg (nums .u8 kf 32).toArray,.agg (nums .u8 nf 12).toArray,.slice p n c,.slice (some ⟨qb,qo,none⟩) N dc,.pointer (some ⟨Y,0,none⟩),.pointer (some ⟨M,0,none⟩),undef,undef,.slice none 0 0,.int .i64 0,.int .i64 m,.slice (some ⟨qb,qo,none⟩) m dc,.pointer (some ⟨X,0,none⟩),.slice (some ⟨qb,qo,none⟩) N dc,.int .i64 N,.bool false,.slice (some ⟨qb,qo,none⟩) N dc,.int .i64 N,.int .i64 m,.slice (some ⟨qb,qo,none⟩) N dc,.int .i64 m,.slice (some ⟨qb,qo,none⟩) m dc,.slice (some ⟨qb,qo,none⟩) N dc,.int .i64 m,.slice (some ⟨qb,qo+m,none⟩) 16 (dc - m),.pointer (some ⟨qb,qo+m,none⟩),.agg (nums .u8 (fun j=>sg (m+j)) 16).toArray,.slice p n c,.slice (some ⟨qb,qo,none⟩) m dc,.bool false,s 30,s 31,s 32,s 33,s 34,s 35,s 36,s 37,undef,undef,undef,undef,undef],[]⟩) (fun d s b w=>(Below w2.heap.size w2 w)∧(d 0=true→s 30 = .agg (nums .u8 (fun j=>sg (m+j)) 16).toArray)∧(d 1=true→s 31 = .agg (nums .u8 kf 32).toArray)∧(d 2=true→s 32 = .agg (nums .u8 nf 12).toArray)∧(d 3=true→s 33 = .slice p n c)∧(d 4=true→s 34 = .slice (some ⟨qb,qo,none⟩) m dc)∧(d 5=true→s 35 = .agg (nums .u8 (macF kf nf f n sg m) 16).toArray)∧(d 6=true→s 36 = .bool z)∧(d 7=true→s 37 = .bool (!z))) rfl ?h0y2 (?sty2:StepsF _ _ _ _ 8 _ _ [0,1,2,3,4,5,6,7]) ?dny2
 case h0y2=>exact⟨Below.drew (Below.refl _ _),by repeat (first | exact nf_ | refine⟨nf_,?_⟩)⟩
 case sty2 =>
  refine sc_ rfl [] (fun d s b w hF hd hw K_ hK=>?_) ?_
  ·have hB:Below w2.heap.size w2 w:=(p0_ hF.out)
   refine step_load (by simp[Region.wanted]) 101 _ rfl X 0 rfl (nums .u8 (fun j=>sg (m+j)) 16) _ (HX.out.later hB).cell Tryz.underlying101 rfl (by kernel_rfl) ?_
   exact hK.out (ups s 30 (.agg (nums .u8 (fun j=>sg (m+j)) 16).toArray)) b _ ⟨hB,(fun _=>rfl),hF.out.2.2⟩
  refine sc_ rfl [] (fun d s b w hF hd hw K_ hK=>?_) ?_
  ·have hB:Below w2.heap.size w2 w:=(p0_ hF.out)
   refine step_load (by simp[Region.wanted]) 22 _ rfl Y 0 rfl (nums .u8 kf 32) _ (HY.out.later hB).cell Tryz.underlying22 rfl (by kernel_rfl) ?_
   exact hK.out (ups s 31 (.agg (nums .u8 kf 32).toArray)) b _ ⟨hB,(p1_ hF.out),(fun _=>rfl),hF.out.2.2.2⟩
  refine sc_ rfl [] (fun d s b w hF hd hw K_ hK=>?_) ?_
  ·have hB:Below w2.heap.size w2 w:=(p0_ hF.out)
   refine step_load (by simp[Region.wanted]) 54 _ rfl M 0 rfl (nums .u8 nf 12) _ (HM_.out.later hB).cell Tryz.underlying54 rfl (by kernel_rfl) ?_
   exact hK.out (ups s 32 (.agg (nums .u8 nf 12).toArray)) b _ ⟨hB,k2_ hF.out.2 fun t=>⟨(fun _=>rfl),t.2⟩⟩
  refine sc_ rfl [] (fun d s b w hF hd hw K_ hK=>?_) ?_
  ·have hB:Below w2.heap.size w2 w:=(p0_ hF.out)
   dsimp only
   go_simp
   exact hK.out (ups s 33 (.slice p n c)) b _ ⟨hB,k3_ hF.out.2 fun t=>⟨(fun _=>rfl),t.2⟩⟩
  refine sc_ rfl [] (fun d s b w hF hd hw K_ hK=>?_) ?_
  ·have hB:Below w2.heap.size w2 w:=(p0_ hF.out)
   dsimp only
   go_simp
   exact hK.out (ups s 34 (.slice (some ⟨qb,qo,none⟩) m dc)) b _ ⟨hB,k4_ hF.out.2 fun t=>⟨(fun _=>rfl),t.2⟩⟩
  refine sc_ rfl [1,2,3,4] (fun d s b w hF hd hw K_ hK=>?_) ?_
  ·have hB:Below w2.heap.size w2 w:=(p0_ hF.out)
   have e1:=p2_ hF.out (hw 1 (by decide))
   have e2:=p3_ hF.out (hw 2 (by decide))
   have e3:=p4_ hF.out (hw 3 (by decide))
   have e4:=p5_ hF.out (hw 4 (by decide))
   dsimp only
   go_simp
   go_at_call 56
   refine (MC.out _ (HG.out.later hB) (HP.out.later hB) (.inr ⟨qb,qo,rfl,HQ.out.later hB⟩)).mono ?_
   rintro e w1 ⟨rfl,hb⟩
   exact hK.out (ups (ups (ups (ups (ups s 31 (.agg (nums .u8 kf 32).toArray)) 32 (.agg (nums .u8 nf 12).toArray)) 33 (.slice p n c)) 34 (.slice (some ⟨qb,qo,none⟩) m dc)) 35 (.agg (nums .u8 (macF kf nf f n sg m) 16).toArray)) b _ ⟨(Below.go hB hb),(p1_ hF.out),(fun _=>rfl),(fun _=>rfl),(fun _=>rfl),(fun _=>rfl),(fun _=>rfl),hF.out.2.2.2.2.2.2.2⟩
  refine sc_ rfl [0,5,5] (fun d s b w hF hd hw K_ hK=>?_) ?_
  ·have hB:Below w2.heap.size w2 w:=(p0_ hF.out)
   have e0:=p1_ hF.out (hw 0 (by decide))
   have e5:=p6_ hF.out (hw 5 (by decide))
   dsimp only
   go_simp
   go_at_call 55
   refine (SM.out _).mono ?_
   rintro e w1 ⟨rfl,hb⟩
   exact hK.out (ups (ups (ups s 30 (.agg (nums .u8 (fun j=>sg (m+j)) 16).toArray)) 35 (.agg (nums .u8 (macF kf nf f n sg m) 16).toArray)) 36 (.bool z)) b _ ⟨(Below.go hB hb),(fun _=>rfl),k4_ hF.out.2.2 fun t=>⟨(fun _=>rfl),(fun _=>rfl),t.2.2⟩⟩
  refine sc_ rfl [6] (fun d s b w hF hd hw K_ hK=>?_) ?_
  ·have hB:Below w2.heap.size w2 w:=(p0_ hF.out)
   have e6:=p7_ hF.out (hw 6 (by decide))
   dsimp only
   go_simp
   exact hK.out (ups (ups s 36 (.bool z)) 37 (.bool (!z))) b _ ⟨hB,k6_ hF.out.2 fun t=>⟨(fun _=>rfl),(fun _=>rfl)⟩⟩
  exact StepsF.nil
 intro d s b y2 hF hall
 replace hF:=Lib.hid hF
 have hB:Below w2.heap.size w2 y2:=(p0_ hF.out)
 try dsimp only
 have e0:s 30 = .agg (nums .u8 (fun j=>sg (m+j)) 16).toArray:=(p1_ hF.out) (hall 0 (by decide))
 have e1:s 31 = .agg (nums .u8 kf 32).toArray:=(p2_ hF.out) (hall 1 (by decide))
 have e2:s 32 = .agg (nums .u8 nf 12).toArray:=(p3_ hF.out) (hall 2 (by decide))
 have e3:s 33 = .slice p n c:=(p4_ hF.out) (hall 3 (by decide))
 have e4:s 34 = .slice (some ⟨qb,qo,none⟩) m dc:=(p5_ hF.out) (hall 4 (by decide))
 have e5:s 35 = .agg (nums .u8 (macF kf nf f n sg m) 16).toArray:=(p6_ hF.out) (hall 5 (by decide))
 have e6:s 36 = .bool z:=(p7_ hF.out) (hall 6 (by decide))
 have e7:s 37 = .bool (!z):=(q8_ hF.out) (hall 7 (by decide))
 rw[e0,e1,e2,e3,e4,e5,e6,e7]
 clear hall hF e0 e1 e2 e3 e4 e5 e6 e7
 clear d s b
 clear HX MC SM LG
 have HYk:=Lib.hid (HY.out.later hB)
 have HM_k:=Lib.hid (HM_.out.later hB)
 have HGk:=Lib.hid (HG.out.later hB)
 have HPk:=Lib.hid (HP.out.later hB)
 have HQk:=Lib.hid (HQ.out.later hB)
 clear HY HM_ HG HP HQ
 have HY:=HYk
 clear HYk
 have HM_:=HM_k
 clear HM_k
 have HG:=HGk
 clear HGk
 have HP:=HPk
 clear HPk
 have HQ:=HQk
 clear HQk
 have hB1:=Below.go hB0 hB
 clear hB0 hB
 have hB0:=hB1
 clear hB1
 cases z with
 | false =>
  go_wp2_with (fail)
  exact bodyPost_ret (v := .tuple #[.slice none 0 0,.int .i64 6]) (by simp[results,Tryz.results24,go_sem]) rfl ⟨rfl,hB0⟩
 | true =>
  go_upto_region 9 with fail
  refine wp_region_lit ?_
  refine wpList_load_mid rfl 22 _ rfl Y 0 rfl (nums .u8 kf 32) _ HY.out.cell Tryz.underlying22 rfl (by kernel_rfl) ?_
  refine wpList_load_mid rfl 54 _ rfl M 0 rfl (nums .u8 nf 12) _ HM_.out.cell Tryz.underlying54 rfl (by kernel_rfl) ?_
  go_wp2_with (fail)
  obtain⟨W2,hW⟩:∃ W,W=(y2.alloc (.cells #[.slice (some ⟨qb,qo,none⟩) m dc] 47)):=⟨_,rfl⟩
  have HL:Hid (Own y2.heap.size [.slice (some ⟨qb,qo,none⟩) m dc] W2):=Lib.hid (hW ▸ Own.newAt rfl)
  have hb:Below y2.heap.size y2 W2:=hW ▸ Below.al (Below.refl _ _)
  rw[← hW]
  clear hW
  have HG2:=Lib.hid (HG.out.later hb)
  have HQ2:=Lib.hid (HQ.out.later hb)
  have hB1:=Below.go hB0 hb
  obtain⟨L_,eL⟩:∃ X,X=y2.heap.size:=⟨_,rfl⟩
  rw[← eL] at HL ⊢
  clear eL hB0 hb HG HQ HP HY HM_
  go_at_call 57
  refine (XO.out L_ _ HG2.out HL.out ⟨some ⟨qb,qo,none⟩,dc,rfl,by have:=HN.out;have:=HMD.out;omega,HD.out,.inr ⟨qb,qo,rfl,HQ2.out⟩⟩).mono ?_
  rintro e w3 ⟨v3,rfl,hrow,hb⟩
  have ROW:Hid (w3.ownsRow w.heap.size 5 1 v3 m (nums .u8 (nencF kf nf sg) m)):=Lib.hid (hrow.mono hB1.size)
  have hB2:=Below.go hB1 hb
  clear hrow hb hB1
  go_wp2_with (fail)
  exact bodyPost_ret (v := .tuple #[v3,.int .i64 0]) (by simp[results,Tryz.results24,go_sem]) rfl ⟨⟨_,rfl,ROW.out⟩,hB2⟩
end Go.Proofs.YtbilamnnneddmaaGreatDoor
