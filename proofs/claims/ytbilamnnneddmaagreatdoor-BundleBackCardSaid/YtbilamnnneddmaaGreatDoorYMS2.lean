import Derived.Test.YtbilamnnneddmaaGreatDoorYMS1
import Derived.Lib.Hide
import Derived.LoopN
import Derived.LoopTactic
import Derived.Deep.Onto
import Derived.Deep.RegionHeld3
import Derived.Deep.QuietTactic
import Derived.BigQuiet
import Derived.Great.BuildSlice
namespace Go.Proofs.YtbilamnnneddmaaGreatDoor
set_option linter.unusedVariables false
set_option maxRecDepth 2000
set_option linter.unusedSimpArgs false
open Go.RowKit
attribute [local go_sem] setCell_self
def dcN (F:Nat→Int) (N t:Nat):Nat:=(valN F N t 1).toNat
def decV (F:Nat→Int) (N j:Nat):Int:=sgnN F N (2+2*j)
def decU (F:Nat→Int) (N j:Nat):Int:=valN F N (2+dcN F N 0*6+2*j) 2
def decR (F:Nat→Int) (N j:Nat):Int:=valN F N (2+dcN F N 0*10+j) 1
def decT (F:Nat→Int) (N:Nat):Nat:=2+dcN F N 0*10+dcN F N 1*3
theorem dcN_val {F:Nat→Int} {N:Nat} (hF:∀ j,j<N→inB (F j)) (t:Nat):valN F N t 1=(dcN F N t:Int)∧dcN F N t≤255:=by
 have h:=in_valN hF t 1
 have p:=pw_vals.1
 unfold dcN
 omega
set_option maxHeartbeats 16000000 in
theorem Mesh_any (K D N:Nat) (F:Nat→Int) (hF:∀ j,j<N→inB (F j)) (w:World) (h:Rd w K D F N 0 0) (hD:D<w.heap.size) :
  Calls Tryz.prog 142 #[.agg #[.pointer (some ⟨K,0,none⟩)]] w fun e w'=>(∃ V U T:Nat,e = .returned (.agg #[.slice (some ⟨V,0,none⟩) (dcN F N 0) (dcN F N 0),.slice (some ⟨U,0,none⟩) (dcN F N 0) (dcN F N 0),.slice (some ⟨T,0,none⟩) (dcN F N 1) (dcN F N 1)])∧(w.heap.size≤V∧w.heap.size≤U∧w.heap.size≤T)∧Has V 0 (nums .i64 (decV F N) (dcN F N 0*3)) w'∧Has U 0 (nums .i64 (decU F N) (dcN F N 0*2)) w'∧Has T 0 (nums .i64 (decR F N) (dcN F N 1*3)) w')∧Rd w' K D F N (decT F N) (erN N (decT F N))∧But K w w':=by
 have HR0:=Lib.hid (show Rd w K D F N 0 (erN N 0) by rw[show erN N 0=0 from if_pos (Nat.zero_le _)];exact h)
 have Kl:=h.lt
 have c0:=dcN_val hF 0;have c1:=dcN_val hF 1
 have S0:=Lib.hid (fun w h=>Num_next (K:=K) (D:=D) (N:=N) (t:=0) (F:=F) (w:=w) 1 1 1 rfl rfl (by decide) (by decide) hF h)
 have S1:=Lib.hid (fun w h=>Num_next (K:=K) (D:=D) (N:=N) (t:=1) (F:=F) (w:=w) 1 2 1 rfl rfl (by decide) (by decide) hF h)
 rw[c0.1] at S0
 rw[c1.1] at S1
 have SV:=Lib.hid (fun t w h=>Int_next (K:=K) (D:=D) (N:=N) (t:=t) (F:=F) (w:=w) (t+2) rfl hF h)
 have SU:=Lib.hid (fun t w h=>Num_next (K:=K) (D:=D) (N:=N) (t:=t) (F:=F) (w:=w) 2 (t+2) 2 rfl rfl (by decide) (by decide) hF h)
 have ST:=Lib.hid (fun t w h=>Num_next (K:=K) (D:=D) (N:=N) (t:=t) (F:=F) (w:=w) 1 (t+1) 1 rfl rfl (by decide) (by decide) hF h)
 have BV:=Lib.hid (in_sgnN hF)
 have BU:=Lib.hid (fun t=>show IntKind.i64.wrap (valN F N t 2)=valN F N t 2 from IntWalk.i64_in _ (by have:=in_valN hF t 2;have:=pw_vals.2.1;omega))
 have BT:=Lib.hid (fun t=>show IntKind.i64.wrap (valN F N t 1)=valN F N t 1 from IntWalk.i64_in _ (by have:=in_valN hF t 1;have:=pw_vals.1;omega))
 have EV:Hid (∀ j,decV F N j=sgnN F N (2+2*j)):=Lib.hid fun _=>rfl
 have EU:Hid (∀ j,decU F N j=valN F N (2+dcN F N 0*6+2*j) 2):=Lib.hid fun _=>rfl
 have ER:Hid (∀ j,decR F N j=valN F N (2+dcN F N 0*10+j) 1):=Lib.hid fun _=>rfl
 have ET:Hid (decT F N=2+dcN F N 0*10+dcN F N 1*3):=Lib.hid rfl
 have n255:=c0.2;have m255:=c1.2
 clear c0 c1 h
 generalize dcN F N 0=n at *
 generalize dcN F N 1=m at *
 generalize decV F N=GV at *
 generalize decU F N=GU at *
 generalize decR F N=GR at *
 generalize decT F N=TT at *
 have mk1:=mkP .u64 n (by omega);have mk2:=mkU .i64 n (by omega);have mk3:=mkT .u64 m (by omega)
 have NB:=Lib.hid n255;have MB:=Lib.hid m255
 have HDl:=Lib.hid hD
 clear n255 m255
 go_enter Tryz.func142,Tryz.ntmps142
 go_upto_region 1 with fail
 obtain⟨W0,hW⟩:∃ W0,W0=((w.alloc (.cells #[.pointer (some ⟨K,0,none⟩)] 195)).alloc (.cells #[.slice none 0 0,.slice none 0 0,.slice none 0 0] 34)):=⟨_,rfl⟩
 have hB0:Below w.heap.size w W0:=hW ▸ (Below.al (Below.al (Below.refl _ _)))
 have HQ:Hid (Own w.heap.size ([.pointer (some ⟨K,0,none⟩)]) W0):=Lib.hid (hW ▸ (show Own w.heap.size ([.pointer (some ⟨K,0,none⟩)]) (w.alloc (.cells #[.pointer (some ⟨K,0,none⟩)] 195)) from Own.newAt (by simp)).alloc)
 have HM:Hid (Own (w.heap.size+1) ([.slice none 0 0,.slice none 0 0,.slice none 0 0]) W0):=Lib.hid (hW ▸ (show Own (w.heap.size+1) ([.slice none 0 0,.slice none 0 0,.slice none 0 0]) ((w.alloc (.cells #[.pointer (some ⟨K,0,none⟩)] 195)).alloc (.cells #[.slice none 0 0,.slice none 0 0,.slice none 0 0] 34)) from Own.newAt (by simp)))
 rw[← hW]
 clear hW
 obtain⟨M,eM⟩:∃ X,X=(w.heap.size+1):=⟨_,rfl⟩
 rw[← eM] at HM ⊢
 have Mw:w.heap.size≤M:=by omega
 obtain⟨Q,eQ⟩:∃ X,X=w.heap.size:=⟨_,rfl⟩
 rw[← eQ] at HQ ⊢
 have Qw:w.heap.size≤Q:=by omega
 have nQM:Q≠M:=by omega
 have nMQ:M≠Q:=by omega
 clear eQ eM
 have nQK:Q≠K:=by omega
 have nMK:M≠K:=by omega
 have nKM:K≠M:=by omega
 have nDM:D≠M:=by omega
 have HR:=Lib.hid (HR0.out.later hB0)
 have HB:=Lib.hid (But.of hB0 Kl)
 have MW:=Lib.hid Mw;have KL:=Lib.hid Kl
 clear HR0 hB0 hD Qw Mw Kl
 have oQ:=HQ.out
 have Q0:=oQ.at 0 _ rfl
 have Ql:=oQ.lt
 clear oQ
 go_wp2_with (fail)
 go_at_call 108
 refine (S0.out _ HR.out).mono ?_
 rintro e y1 ⟨rfl,h1,h2⟩
 have HQ_:=Lib.hid (HQ.out.but h2 nQK)
 have HM_:=Lib.hid (HM.out.but h2 nMK)
 have HB_:=Lib.hid (HB.out.trans h2)
 have HR_:=Lib.hid h1
 clear h1 h2 HR HB HQ HM
 have HQ:=HQ_
 clear HQ_
 have HM:=HM_
 clear HM_
 have HR:=HR_
 clear HR_
 have HB:=HB_
 clear HB_
 clear Q0 Ql
 have oM:=HM.out
 have M0:=oM.at 0 _ rfl
 have Mf0:=oM.ok 0 (by simp)
 have Ml:=oM.lt
 clear oM
 go_upto_region 2 with fail
 clear M0 Mf0 Ml
 obtain⟨V,eV⟩:∃ X,X=y1.heap.size:=⟨_,rfl⟩
 rw[← eV]
 have eV2:V=(y1.setCells M 0 [.slice (some ⟨V,0,none⟩) n n]).heap.size:=by rw[size_setCells];exact eV
 clear eV
 rw[show (y1.setCell ⟨M,0,none⟩ (.slice (some ⟨V,0,none⟩) n n))=y1.setCells M 0 [.slice (some ⟨V,0,none⟩) n n] from rfl]
 have hbm:But M y1 (y1.setCells M 0 [.slice (some ⟨V,0,none⟩) n n]):=But.store
 have HM_:Hid (Own M ([.slice (some ⟨V,0,none⟩) n n,.slice none 0 0,.slice none 0 0]) (y1.setCells M 0 [.slice (some ⟨V,0,none⟩) n n])):=Lib.hid (show Own M (over _ 0 [.slice (some ⟨V,0,none⟩) n n]) _ from Own.part HM.out (by simp))
 have HQ_:=Lib.hid (HQ.out.but hbm nQM)
 have HR_:=Lib.hid (HR.out.far hbm nKM nDM)
 have HB_:=Lib.hid (HB.out.news (o:=0) (vs:=[.slice (some ⟨V,0,none⟩) n n]) MW.out KL.out)
 clear hbm HR HB HQ HM
 generalize y1.setCells M 0 [.slice (some ⟨V,0,none⟩) n n]=y2 at *
 have HQ:=HQ_
 clear HQ_
 have HM:=HM_
 clear HM_
 have HR:=HR_
 clear HR_
 have HB:=HB_
 clear HB_
 have hal:=Below.al (o := .cells (nums .i64 (fun _=>0) (n*3)).toArray 41) (Below.refl y2.heap.size y2)
 have HV__:Hid (Own V (nums .i64 (fun _=>0) (n*3)) (y2.alloc (.cells (nums .i64 (fun _=>0) (n*3)).toArray 41))):=Lib.hid (Own.newAt eV2)
 have nQV:Q≠V:=by have:=HQ.out.lt;omega
 have nVQ:V≠Q:=Ne.symm nQV
 have nMV:M≠V:=by have:=HM.out.lt;omega
 have nVM:V≠M:=Ne.symm nMV
 have nKV:K≠V:=by have:=HR.out.lt;omega
 have nVK:V≠K:=Ne.symm nKV
 have nDV:D≠V:=by have:=HDl.out;have:=HB.out.below.size;omega
 have VW:=Lib.hid (show w.heap.size≤V by have:=HB.out.below.size;omega)
 have HQ_:=Lib.hid (HQ.out.later hal)
 have HM_:=Lib.hid (HM.out.later hal)
 have HR_:=Lib.hid (HR.out.later hal)
 have HB_:=Lib.hid (HB.out.trans (But.of hal HR.out.lt))
 clear hal eV2 HR HB HQ HM
 generalize (y2.alloc (.cells (nums .i64 (fun _=>0) (n*3)).toArray 41))=y3 at *
 have HQ:=HQ_
 clear HQ_
 have HM:=HM_
 clear HM_
 have HR:=HR_
 clear HR_
 have HB:=HB_
 clear HB_
 have HV:=HV__
 clear HV__
 have oM:=HM.out
 have M0:=oM.at 0 _ rfl
 have Mf0:=oM.ok 0 (by simp)
 have M1:=oM.at 1 _ rfl
 have Mf1:=oM.ok 1 (by simp)
 have Ml:=oM.lt
 clear oM
 go_upto_region 3 with fail
 clear M0 Mf0 M1 Mf1 Ml
 obtain⟨U,eU⟩:∃ X,X=y3.heap.size:=⟨_,rfl⟩
 rw[← eU]
 have eU2:U=(y3.setCells M 1 [.slice (some ⟨U,0,none⟩) n n]).heap.size:=by rw[size_setCells];exact eU
 clear eU
 rw[show (y3.setCell ⟨M,1,none⟩ (.slice (some ⟨U,0,none⟩) n n))=y3.setCells M 1 [.slice (some ⟨U,0,none⟩) n n] from rfl]
 have hbm:But M y3 (y3.setCells M 1 [.slice (some ⟨U,0,none⟩) n n]):=But.store
 have HM_:Hid (Own M ([.slice (some ⟨V,0,none⟩) n n,.slice (some ⟨U,0,none⟩) n n,.slice none 0 0]) (y3.setCells M 1 [.slice (some ⟨U,0,none⟩) n n])):=Lib.hid (show Own M (over _ 1 [.slice (some ⟨U,0,none⟩) n n]) _ from Own.part HM.out (by simp))
 have HQ_:=Lib.hid (HQ.out.but hbm nQM)
 have HV_:=Lib.hid (HV.out.but hbm nVM)
 have HR_:=Lib.hid (HR.out.far hbm nKM nDM)
 have HB_:=Lib.hid (HB.out.news (o:=1) (vs:=[.slice (some ⟨U,0,none⟩) n n]) MW.out KL.out)
 clear hbm HR HB HQ HM HV
 generalize y3.setCells M 1 [.slice (some ⟨U,0,none⟩) n n]=y4 at *
 have HQ:=HQ_
 clear HQ_
 have HM:=HM_
 clear HM_
 have HV:=HV_
 clear HV_
 have HR:=HR_
 clear HR_
 have HB:=HB_
 clear HB_
 have hal:=Below.al (o := .cells (nums .i64 (fun _=>0) (n*2)).toArray 99) (Below.refl y4.heap.size y4)
 have HU__:Hid (Own U (nums .i64 (fun _=>0) (n*2)) (y4.alloc (.cells (nums .i64 (fun _=>0) (n*2)).toArray 99))):=Lib.hid (Own.newAt eU2)
 have nQU:Q≠U:=by have:=HQ.out.lt;omega
 have nUQ:U≠Q:=Ne.symm nQU
 have nMU:M≠U:=by have:=HM.out.lt;omega
 have nUM:U≠M:=Ne.symm nMU
 have nVU:V≠U:=by have:=HV.out.lt;omega
 have nUV:U≠V:=Ne.symm nVU
 have nKU:K≠U:=by have:=HR.out.lt;omega
 have nUK:U≠K:=Ne.symm nKU
 have nDU:D≠U:=by have:=HDl.out;have:=HB.out.below.size;omega
 have UW:=Lib.hid (show w.heap.size≤U by have:=HB.out.below.size;omega)
 have HQ_:=Lib.hid (HQ.out.later hal)
 have HM_:=Lib.hid (HM.out.later hal)
 have HV_:=Lib.hid (HV.out.later hal)
 have HR_:=Lib.hid (HR.out.later hal)
 have HB_:=Lib.hid (HB.out.trans (But.of hal HR.out.lt))
 clear hal eU2 HR HB HQ HM HV
 generalize (y4.alloc (.cells (nums .i64 (fun _=>0) (n*2)).toArray 99))=y5 at *
 have HQ:=HQ_
 clear HQ_
 have HM:=HM_
 clear HM_
 have HV:=HV_
 clear HV_
 have HR:=HR_
 clear HR_
 have HB:=HB_
 clear HB_
 have HU:=HU__
 clear HU__
 have oQ:=HQ.out
 have Q0:=oQ.at 0 _ rfl
 have Ql:=oQ.lt
 clear oQ
 go_wp2_with (fail)
 go_at_call 108
 refine (S1.out _ HR.out).mono ?_
 rintro e y6 ⟨rfl,h1,h2⟩
 have HQ_:=Lib.hid (HQ.out.but h2 nQK)
 have HM_:=Lib.hid (HM.out.but h2 nMK)
 have HV_:=Lib.hid (HV.out.but h2 nVK)
 have HU_:=Lib.hid (HU.out.but h2 nUK)
 have HB_:=Lib.hid (HB.out.trans h2)
 have HR_:=Lib.hid h1
 clear h1 h2 HR HB HQ HM HV HU
 have HQ:=HQ_
 clear HQ_
 have HM:=HM_
 clear HM_
 have HV:=HV_
 clear HV_
 have HU:=HU_
 clear HU_
 have HR:=HR_
 clear HR_
 have HB:=HB_
 clear HB_
 clear Q0 Ql
 have oM:=HM.out
 have M2:=oM.at 2 _ rfl
 have Mf2:=oM.ok 2 (by simp)
 have Ml:=oM.lt
 clear oM
 go_upto_region 4 with fail
 clear M2 Mf2 Ml
 obtain⟨T,eT⟩:∃ X,X=y6.heap.size:=⟨_,rfl⟩
 rw[← eT]
 have eT2:T=(y6.setCells M 2 [.slice (some ⟨T,0,none⟩) m m]).heap.size:=by rw[size_setCells];exact eT
 clear eT
 rw[show (y6.setCell ⟨M,2,none⟩ (.slice (some ⟨T,0,none⟩) m m))=y6.setCells M 2 [.slice (some ⟨T,0,none⟩) m m] from rfl]
 have hbm:But M y6 (y6.setCells M 2 [.slice (some ⟨T,0,none⟩) m m]):=But.store
 have HM_:Hid (Own M ([.slice (some ⟨V,0,none⟩) n n,.slice (some ⟨U,0,none⟩) n n,.slice (some ⟨T,0,none⟩) m m]) (y6.setCells M 2 [.slice (some ⟨T,0,none⟩) m m])):=Lib.hid (show Own M (over _ 2 [.slice (some ⟨T,0,none⟩) m m]) _ from Own.part HM.out (by simp))
 have HQ_:=Lib.hid (HQ.out.but hbm nQM)
 have HV_:=Lib.hid (HV.out.but hbm nVM)
 have HU_:=Lib.hid (HU.out.but hbm nUM)
 have HR_:=Lib.hid (HR.out.far hbm nKM nDM)
 have HB_:=Lib.hid (HB.out.news (o:=2) (vs:=[.slice (some ⟨T,0,none⟩) m m]) MW.out KL.out)
 clear hbm HR HB HQ HM HV HU
 generalize y6.setCells M 2 [.slice (some ⟨T,0,none⟩) m m]=y7 at *
 have HQ:=HQ_
 clear HQ_
 have HM:=HM_
 clear HM_
 have HV:=HV_
 clear HV_
 have HU:=HU_
 clear HU_
 have HR:=HR_
 clear HR_
 have HB:=HB_
 clear HB_
 have hal:=Below.al (o := .cells (nums .i64 (fun _=>0) (m*3)).toArray 37) (Below.refl y7.heap.size y7)
 have HT__:Hid (Own T (nums .i64 (fun _=>0) (m*3)) (y7.alloc (.cells (nums .i64 (fun _=>0) (m*3)).toArray 37))):=Lib.hid (Own.newAt eT2)
 have nQT:Q≠T:=by have:=HQ.out.lt;omega
 have nTQ:T≠Q:=Ne.symm nQT
 have nMT:M≠T:=by have:=HM.out.lt;omega
 have nTM:T≠M:=Ne.symm nMT
 have nVT:V≠T:=by have:=HV.out.lt;omega
 have nTV:T≠V:=Ne.symm nVT
 have nUT:U≠T:=by have:=HU.out.lt;omega
 have nTU:T≠U:=Ne.symm nUT
 have nKT:K≠T:=by have:=HR.out.lt;omega
 have nTK:T≠K:=Ne.symm nKT
 have nDT:D≠T:=by have:=HDl.out;have:=HB.out.below.size;omega
 have TW:=Lib.hid (show w.heap.size≤T by have:=HB.out.below.size;omega)
 have HQ_:=Lib.hid (HQ.out.later hal)
 have HM_:=Lib.hid (HM.out.later hal)
 have HV_:=Lib.hid (HV.out.later hal)
 have HU_:=Lib.hid (HU.out.later hal)
 have HR_:=Lib.hid (HR.out.later hal)
 have HB_:=Lib.hid (HB.out.trans (But.of hal HR.out.lt))
 clear hal eT2 HR HB HQ HM HV HU
 generalize (y7.alloc (.cells (nums .i64 (fun _=>0) (m*3)).toArray 37))=y8 at *
 have HQ:=HQ_
 clear HQ_
 have HM:=HM_
 clear HM_
 have HV:=HV_
 clear HV_
 have HU:=HU_
 clear HU_
 have HR:=HR_
 clear HR_
 have HB:=HB_
 clear HB_
 have HT:=HT__
 clear HT__
 clear S0 S1 mk1 mk2 mk3
 have oM:=HM.out
 have M0:=oM.at 0 _ rfl
 have Ml:=oM.lt
 clear oM
 go_wp2_with (fail)
 clear M0 Ml
 have HV0:Hid (Own V (nums .i64 (uptoG GV (0*3)) (n*3)) y8):=Lib.hid (by rw[Nat.zero_mul,uptoG_zero];exact HV.out)
 have HR0:Hid (Rd y8 K D F N (2+0*6) (erN N (2+0*6))):=Lib.hid (by rw[show 2+0*6=2 by omega];exact HR.out)
 clear HV HR
 go_loopw [3,24] (fun _ iv wr=>∃ (k:Nat),k≤n∧iv = .int .i64 k∧Hid (Own Q [.pointer (some ⟨K,0,none⟩)] wr)∧Hid (Own M [.slice (some ⟨V,0,none⟩) n n,.slice (some ⟨U,0,none⟩) n n,.slice (some ⟨T,0,none⟩) m m] wr)∧Hid (Own V (nums .i64 (uptoG GV (k*3)) (n*3)) wr)∧Hid (Own U (nums .i64 (fun _=>0) (n*2)) wr)∧Hid (Own T (nums .i64 (fun _=>0) (m*3)) wr)∧Hid (Rd wr K D F N (2+k*6) (erN N (2+k*6)))∧Hid (But K w wr)) (fun _ iv _=>(n - (intOf iv).toNat))
 case atStart=>exact⟨0,Nat.zero_le _,rfl,HQ,HM,HV0,HU,HT,HR0,HB⟩
 case round =>
  clear HQ HM HR0 HB HV0 HU HT
  obtain⟨k,hk,rfl,HQ,HM,HV,HU,HT,HR,HB⟩:=hrel
  by_cases hlt:k<n
  ·have hki:(k:Int)<(n:Int):=by omega
   have k0:(0:Int)≤(k:Int):=by omega
   have wk:IntKind.i64.wrap ((k:Int)+1)=(k:Int)+1:=IntWalk.i64_in _ (by have:=NB.out;omega)
   have HLT:=Lib.hid hlt
   obtain⟨t,et⟩:∃ t,2+k*6=t:=⟨_,rfl⟩
   rw[et] at HR
   have HTT:=Lib.hid et
   obtain⟨x0,ex0⟩:∃ x,sgnN F N (t)=x:=⟨_,rfl⟩
   have C0:=Lib.hid (SV.out (t))
   rw[ex0] at C0
   have g0:GV (k*3+0)=x0:=by rw[EV.out,← ex0];congr 1<;>(have:=HTT.out;omega)
   obtain⟨x1,ex1⟩:∃ x,sgnN F N (t+2)=x:=⟨_,rfl⟩
   have C1:=Lib.hid (SV.out (t+2))
   rw[ex1] at C1
   have g1:GV (k*3+1)=x1:=by rw[EV.out,← ex1];congr 1<;>(have:=HTT.out;omega)
   obtain⟨x2,ex2⟩:∃ x,sgnN F N (t+2+2)=x:=⟨_,rfl⟩
   have C2:=Lib.hid (SV.out (t+2+2))
   rw[ex2] at C2
   have g2:GV (k*3+2)=x2:=by rw[EV.out,← ex2];congr 1<;>(have:=HTT.out;omega)
   have GG:Hid (∀ i,i<3→([.int .i64 x0,.int .i64 x1,.int .i64 x2]:List Value)[i]?=some (.int .i64 (GV (k*3+i)))):=Lib.hid (fun i hi=>match i,hi with
    | 0,_=>by rw[g0];rfl
    | 1,_=>by rw[g1];rfl
    | 2,_=>by rw[g2];rfl)
   have TN:Hid (t+2+2+2=2+(k+1)*6):=Lib.hid (by have:=HTT.out;omega)
   clear hk hlt et ex0 g0 ex1 g1 ex2 g2
   go_upto_region 7 with fail
   have HQ_:=Lib.hid HQ.out.drew
   have HM_:=Lib.hid HM.out.drew
   have HV_:=Lib.hid HV.out.drew
   have HU_:=Lib.hid HU.out.drew
   have HT_:=Lib.hid HT.out.drew
   have HR_:=Lib.hid (HR.out.later (Below.refl _ _).drew);have HB_:=Lib.hid (HB.out.trans (But.drew HR.out.lt))
   refine wp_region_held_drew (S:=fun w'=>(w'.cell? ⟨M,0,none⟩=some (.slice (some ⟨V,0,none⟩) n n)∧w'.cell? ⟨Q,0,none⟩=some (.pointer (some ⟨K,0,none⟩))∧M<w'.heap.size∧Q<w'.heap.size)) (by kernel_rfl) ⟨HM_.out.at 0 _ rfl,HQ_.out.at 0 _ rfl,HM_.out.lt,HQ_.out.lt⟩ (fun hHeld=>?_)
   clear HR HB HQ HM HV HU HT
   generalize wr.drew=z0 at *
   have HQ:=HQ_
   clear HQ_
   have HM:=HM_
   clear HM_
   have HV:=HV_
   clear HV_
   have HU:=HU_
   clear HU_
   have HT:=HT_
   clear HT_
   have HR:=HR_
   clear HR_
   have HB:=HB_
   clear HB_
   refine wpAnyH_take (i:=0) (v := .pointer (some ⟨M,0,none⟩)) rfl (by kernel_rfl) (by kernel_rfl) (by kernel_rfl) (fun _ _ _ h=>h) (Or.inl ⟨by rfl,fun w hSw=>?_⟩) (by assumption) ?_
   ·(try dsimp only at hSw);go_simp
   try simp only[Act.put,List.getElem_toArray,List.getElem_cons_zero,List.getElem_cons_succ,List.setIfInBounds_toArray,List.set_cons_zero,List.set_cons_succ]
   refine wpAnyH_take (i:=1) (v := .slice (some ⟨V,0,none⟩) n n) rfl (by kernel_rfl) (by kernel_rfl) (by kernel_rfl) (fun _ _ _ h=>h) (Or.inl ⟨by rfl,fun w hSw=>?_⟩) (by assumption) ?_
   ·(try dsimp only at hSw);go_simp
   try simp only[Act.put,List.getElem_toArray,List.getElem_cons_zero,List.getElem_cons_succ,List.setIfInBounds_toArray,List.set_cons_zero,List.set_cons_succ]
   refine wpAnyH_take (i:=2) (v := .int .i64 (k:Int)) rfl (by kernel_rfl) (by kernel_rfl) (by kernel_rfl) (fun _ _ _ h=>h) (Or.inl ⟨by rfl,fun w hSw=>?_⟩) (by assumption) ?_
   ·(try dsimp only at hSw);go_simp
   try simp only[Act.put,List.getElem_toArray,List.getElem_cons_zero,List.getElem_cons_succ,List.setIfInBounds_toArray,List.set_cons_zero,List.set_cons_succ]
   refine wpAnyH_take (i:=3) (v := .pointer (some ⟨Q,0,none⟩)) rfl (by kernel_rfl) (by kernel_rfl) (by kernel_rfl) (fun _ _ _ h=>h) (Or.inl ⟨by rfl,fun w hSw=>?_⟩) (by assumption) ?_
   ·(try dsimp only at hSw);go_simp
   try simp only[Act.put,List.getElem_toArray,List.getElem_cons_zero,List.getElem_cons_succ,List.setIfInBounds_toArray,List.set_cons_zero,List.set_cons_succ]
   refine wpAnyH_take (i:=4) (v := .pointer (some ⟨K,0,none⟩)) rfl (by kernel_rfl) (by kernel_rfl) (by kernel_rfl) (fun _ _ _ h=>h) (Or.inl ⟨by rfl,fun w hSw=>?_⟩) (by assumption) ?_
   ·(try dsimp only at hSw);go_simp
   try simp only[Act.put,List.getElem_toArray,List.getElem_cons_zero,List.getElem_cons_succ,List.setIfInBounds_toArray,List.set_cons_zero,List.set_cons_succ]
   refine wpAnyH_take (i:=6) (v := .pointer (some ⟨Q,0,none⟩)) rfl (by kernel_rfl) (by kernel_rfl) (by kernel_rfl) (fun _ _ _ h=>h) (Or.inl ⟨by rfl,fun w hSw=>?_⟩) (by assumption) ?_
   ·(try dsimp only at hSw);go_simp
   try simp only[Act.put,List.getElem_toArray,List.getElem_cons_zero,List.getElem_cons_succ,List.setIfInBounds_toArray,List.set_cons_zero,List.set_cons_succ]
   refine wpAnyH_take (i:=7) (v := .pointer (some ⟨K,0,none⟩)) rfl (by kernel_rfl) (by kernel_rfl) (by kernel_rfl) (fun _ _ _ h=>h) (Or.inl ⟨by rfl,fun w hSw=>?_⟩) (by assumption) ?_
   ·(try dsimp only at hSw);go_simp
   try simp only[Act.put,List.getElem_toArray,List.getElem_cons_zero,List.getElem_cons_succ,List.setIfInBounds_toArray,List.set_cons_zero,List.set_cons_succ]
   refine wpAnyH_take (i:=9) (v := .pointer (some ⟨Q,0,none⟩)) rfl (by kernel_rfl) (by kernel_rfl) (by kernel_rfl) (fun _ _ _ h=>h) (Or.inl ⟨by rfl,fun w hSw=>?_⟩) (by assumption) ?_
   ·(try dsimp only at hSw);go_simp
   try simp only[Act.put,List.getElem_toArray,List.getElem_cons_zero,List.getElem_cons_succ,List.setIfInBounds_toArray,List.set_cons_zero,List.set_cons_succ]
   refine wpAnyH_take (i:=10) (v := .pointer (some ⟨K,0,none⟩)) rfl (by kernel_rfl) (by kernel_rfl) (by kernel_rfl) (fun _ _ _ h=>h) (Or.inl ⟨by rfl,fun w hSw=>?_⟩) (by assumption) ?_
   ·(try dsimp only at hSw);go_simp
   try simp only[Act.put,List.getElem_toArray,List.getElem_cons_zero,List.getElem_cons_succ,List.setIfInBounds_toArray,List.set_cons_zero,List.set_cons_succ]
   refine wpAnyH_ready (rs:=[5]) (by kernel_rfl) (by simp) ?_
   refine AllReadyH.cons rfl (fun K_ hK=>?_) AllReadyH.nil
   go_simp
   go_at_call 167
   refine (C0.out _ HR.out).mono ?_
   rintro e z1 ⟨rfl,h1,h2⟩
   have HQ_:=Lib.hid (HQ.out.but h2 nQK)
   have HM_:=Lib.hid (HM.out.but h2 nMK)
   have HV_:=Lib.hid (HV.out.but h2 nVK)
   have HU_:=Lib.hid (HU.out.but h2 nUK)
   have HT_:=Lib.hid (HT.out.but h2 nTK)
   have HB_:=Lib.hid (HB.out.trans h2)
   have HR_:=Lib.hid h1
   clear h1 h2 HR HB HQ HM HV HU HT
   have HQ:=HQ_
   clear HQ_
   have HM:=HM_
   clear HM_
   have HV:=HV_
   clear HV_
   have HU:=HU_
   clear HU_
   have HT:=HT_
   clear HT_
   have HR:=HR_
   clear HR_
   have HB:=HB_
   clear HB_
   refine hK.out _ _ ⟨HM.out.at 0 _ rfl,HQ.out.at 0 _ rfl,HM.out.lt,HQ.out.lt⟩ (fun hHeld=>?_)
   clear hK K_
   try simp only[Act.put,List.getElem_toArray,List.getElem_cons_zero,List.getElem_cons_succ,List.setIfInBounds_toArray,List.set_cons_zero,List.set_cons_succ]
   refine wpAnyH_ready (rs:=[8]) (by kernel_rfl) (by simp) ?_
   refine AllReadyH.cons rfl (fun K_ hK=>?_) AllReadyH.nil
   go_simp
   go_at_call 167
   refine (C1.out _ HR.out).mono ?_
   rintro e z2 ⟨rfl,h1,h2⟩
   have HQ_:=Lib.hid (HQ.out.but h2 nQK)
   have HM_:=Lib.hid (HM.out.but h2 nMK)
   have HV_:=Lib.hid (HV.out.but h2 nVK)
   have HU_:=Lib.hid (HU.out.but h2 nUK)
   have HT_:=Lib.hid (HT.out.but h2 nTK)
   have HB_:=Lib.hid (HB.out.trans h2)
   have HR_:=Lib.hid h1
   clear h1 h2 HR HB HQ HM HV HU HT
   have HQ:=HQ_
   clear HQ_
   have HM:=HM_
   clear HM_
   have HV:=HV_
   clear HV_
   have HU:=HU_
   clear HU_
   have HT:=HT_
   clear HT_
   have HR:=HR_
   clear HR_
   have HB:=HB_
   clear HB_
   refine hK.out _ _ ⟨HM.out.at 0 _ rfl,HQ.out.at 0 _ rfl,HM.out.lt,HQ.out.lt⟩ (fun hHeld=>?_)
   clear hK K_
   try simp only[Act.put,List.getElem_toArray,List.getElem_cons_zero,List.getElem_cons_succ,List.setIfInBounds_toArray,List.set_cons_zero,List.set_cons_succ]
   refine wpAnyH_ready (rs:=[11]) (by kernel_rfl) (by simp) ?_
   refine AllReadyH.cons rfl (fun K_ hK=>?_) AllReadyH.nil
   go_simp
   go_at_call 167
   refine (C2.out _ HR.out).mono ?_
   rintro e z3 ⟨rfl,h1,h2⟩
   have HQ_:=Lib.hid (HQ.out.but h2 nQK)
   have HM_:=Lib.hid (HM.out.but h2 nMK)
   have HV_:=Lib.hid (HV.out.but h2 nVK)
   have HU_:=Lib.hid (HU.out.but h2 nUK)
   have HT_:=Lib.hid (HT.out.but h2 nTK)
   have HB_:=Lib.hid (HB.out.trans h2)
   have HR_:=Lib.hid h1
   clear h1 h2 HR HB HQ HM HV HU HT
   have HQ:=HQ_
   clear HQ_
   have HM:=HM_
   clear HM_
   have HV:=HV_
   clear HV_
   have HU:=HU_
   clear HU_
   have HT:=HT_
   clear HT_
   have HR:=HR_
   clear HR_
   have HB:=HB_
   clear HB_
   refine hK.out _ _ ⟨HM.out.at 0 _ rfl,HQ.out.at 0 _ rfl,HM.out.lt,HQ.out.lt⟩ (fun hHeld=>?_)
   clear hK K_
   try simp only[Act.put,List.getElem_toArray,List.getElem_cons_zero,List.getElem_cons_succ,List.setIfInBounds_toArray,List.set_cons_zero,List.set_cons_succ]
   refine wpAnyH_take (i:=12) (v := .agg #[.int .i64 x0,.int .i64 x1,.int .i64 x2]) rfl (by kernel_rfl) (by kernel_rfl) (by kernel_rfl) (fun _ _ _ h=>h) (Or.inl ⟨by rfl,fun w hSw=>?_⟩) (by assumption) ?_
   ·(try dsimp only at hSw);go_simp
   try simp only[Act.put,List.getElem_toArray,List.getElem_cons_zero,List.getElem_cons_succ,List.setIfInBounds_toArray,List.set_cons_zero,List.set_cons_succ]
   refine wpAnyH_take (i:=13) (v := .pointer (some ⟨V,k*3,none⟩)) rfl (by kernel_rfl) (by kernel_rfl) (by kernel_rfl) (fun _ _ _ h=>h) (Or.inl ⟨by rfl,fun w hSw=>?_⟩) (by assumption) ?_
   ·(try dsimp only at hSw);go_simp
   try simp only[Act.put,List.getElem_toArray,List.getElem_cons_zero,List.getElem_cons_succ,List.setIfInBounds_toArray,List.set_cons_zero,List.set_cons_succ]
   refine wpAnyH_ready (rs:=[14]) (by kernel_rfl) (by simp) ?_
   refine AllReadyH.cons rfl (fun K_ hK=>?_) AllReadyH.nil
   refine step_store (by simp[Region.wanted]) 41 _ _ rfl V (k*3) #[.int .i64 x0,.int .i64 x1,.int .i64 x2] rfl rfl (HV.out.room (by rw[nums_length];have:=HLT.out;simp;omega)) (by kernel_rfl) (by simp[Value.oneCell']) ?_
   change K_ _ (z3.setCells V (k*3) [.int .i64 x0,.int .i64 x1,.int .i64 x2])
   have hbm:But V z3 (z3.setCells V (k*3) [.int .i64 x0,.int .i64 x1,.int .i64 x2]):=But.store
   have HV_:Hid (Own V (nums .i64 (uptoG GV ((k+1)*3)) (n*3)) (z3.setCells V (k*3) [.int .i64 x0,.int .i64 x1,.int .i64 x2])):=Lib.hid (by rw[show (k+1)*3=k*3+3 from Nat.succ_mul _ _,← over_uptoG GV (n*3) (k*3) 3 [.int .i64 x0,.int .i64 x1,.int .i64 x2] rfl GG.out (by have:=HLT.out;omega)];exact Own.part HV.out (by rw[nums_length];have:=HLT.out;simp;omega))
   have HQ_:=Lib.hid (HQ.out.but hbm nQV)
   have HM_:=Lib.hid (HM.out.but hbm nMV)
   have HU_:=Lib.hid (HU.out.but hbm nUV)
   have HT_:=Lib.hid (HT.out.but hbm nTV)
   have HR_:=Lib.hid (HR.out.far hbm nKV nDV)
   have HB_:=Lib.hid (HB.out.news (o:=(k*3)) (vs:=[.int .i64 x0,.int .i64 x1,.int .i64 x2]) VW.out KL.out)
   clear hbm HR HB HQ HM HV HU HT
   generalize z3.setCells V (k*3) [.int .i64 x0,.int .i64 x1,.int .i64 x2]=zz at *
   have HQ:=HQ_
   clear HQ_
   have HM:=HM_
   clear HM_
   have HV:=HV_
   clear HV_
   have HU:=HU_
   clear HU_
   have HT:=HT_
   clear HT_
   have HR:=HR_
   clear HR_
   have HB:=HB_
   clear HB_
   refine hK.out _ _ ⟨HM.out.at 0 _ rfl,HQ.out.at 0 _ rfl,HM.out.lt,HQ.out.lt⟩ (fun hHeld=>?_)
   clear hK K_
   try simp only[Act.put,List.getElem_toArray,List.getElem_cons_zero,List.getElem_cons_succ,List.setIfInBounds_toArray,List.set_cons_zero,List.set_cons_succ]
   refine wpAnyH_done (by kernel_rfl) ?_ _
   have HR_:Hid (Rd zz K D F N (2+(k+1)*6) (erN N (2+(k+1)*6))):=Lib.hid (by rw[← TN.out];exact HR.out)
   clear hHeld HR GG TN C0 C1 C2
   go_wp2_with (fail)
   go_roundw
   case rel=>(first | exact⟨k+1,HLT.out,by go_num,HQ,HM,HV,HU,HT,HR_,HB⟩ | ((repeat apply Exists.intro);exact⟨⟨k+1,HLT.out,by go_num,HQ,HM,HV,HU,HT,HR_,HB⟩,rfl⟩))
   case measure=>(have:=HLT.out;simp[intOf];omega)
  ·obtain rfl:n=k:=by omega
   clear hlt hk
   obtain⟨v1,ewr⟩:∃ x,x=wr:=⟨_,rfl⟩
   subst ewr
   have oM:=HM.out
   have M1:=oM.at 1 _ rfl
   have Ml:=oM.lt
   clear oM
   go_wp2_with (fail)
   clear M1 Ml
   have HU0:Hid (Own U (nums .i64 (uptoG GU (0*2)) (n*2)) v1):=Lib.hid (by rw[Nat.zero_mul,uptoG_zero];exact HU.out)
   have HR0:Hid (Rd v1 K D F N (2+n*6+0*4) (erN N (2+n*6+0*4))):=Lib.hid (by rw[show 2+n*6+0*4=2+n*6 by omega];exact HR.out)
   clear HU HR
   go_loopw [4,45] (fun _ iv wr=>∃ (k:Nat),k≤n∧iv = .int .i64 k∧Hid (Own Q [.pointer (some ⟨K,0,none⟩)] wr)∧Hid (Own M [.slice (some ⟨V,0,none⟩) n n,.slice (some ⟨U,0,none⟩) n n,.slice (some ⟨T,0,none⟩) m m] wr)∧Hid (Own V (nums .i64 (uptoG GV (n*3)) (n*3)) wr)∧Hid (Own U (nums .i64 (uptoG GU (k*2)) (n*2)) wr)∧Hid (Own T (nums .i64 (fun _=>0) (m*3)) wr)∧Hid (Rd wr K D F N (2+n*6+k*4) (erN N (2+n*6+k*4)))∧Hid (But K w wr)) (fun _ iv _=>(n - (intOf iv).toNat))
   case atStart=>exact⟨0,Nat.zero_le _,rfl,HQ,HM,HV,HU0,HT,HR0,HB⟩
   case round =>
    clear HQ HM HR0 HB HV HU0 HT
    obtain⟨k,hk,rfl,HQ,HM,HV,HU,HT,HR,HB⟩:=hrel
    by_cases hlt:k<n
    ·have hki:(k:Int)<(n:Int):=by omega
     have k0:(0:Int)≤(k:Int):=by omega
     have wk:IntKind.i64.wrap ((k:Int)+1)=(k:Int)+1:=IntWalk.i64_in _ (by have:=NB.out;omega)
     have HLT:=Lib.hid hlt
     obtain⟨t,et⟩:∃ t,2+n*6+k*4=t:=⟨_,rfl⟩
     rw[et] at HR
     have HTT:=Lib.hid et
     obtain⟨x0,ex0⟩:∃ x,valN F N (t) 2=x:=⟨_,rfl⟩
     have C0:=Lib.hid (SU.out (t))
     rw[ex0] at C0
     have wx0:=BU.out (t)
     rw[ex0] at wx0
     have g0:GU (k*2+0)=x0:=by rw[EU.out,← ex0];congr 1<;>(have:=HTT.out;omega)
     obtain⟨x1,ex1⟩:∃ x,valN F N (t+2) 2=x:=⟨_,rfl⟩
     have C1:=Lib.hid (SU.out (t+2))
     rw[ex1] at C1
     have wx1:=BU.out (t+2)
     rw[ex1] at wx1
     have g1:GU (k*2+1)=x1:=by rw[EU.out,← ex1];congr 1<;>(have:=HTT.out;omega)
     have GG:Hid (∀ i,i<2→([.int .i64 x0,.int .i64 x1]:List Value)[i]?=some (.int .i64 (GU (k*2+i)))):=Lib.hid (fun i hi=>match i,hi with
      | 0,_=>by rw[g0];rfl
      | 1,_=>by rw[g1];rfl)
     have TN:Hid (t+2+2=2+n*6+(k+1)*4):=Lib.hid (by have:=HTT.out;omega)
     clear hk hlt et ex0 g0 ex1 g1
     go_upto_region 12 with fail
     have HQ_:=Lib.hid HQ.out.drew
     have HM_:=Lib.hid HM.out.drew
     have HV_:=Lib.hid HV.out.drew
     have HU_:=Lib.hid HU.out.drew
     have HT_:=Lib.hid HT.out.drew
     have HR_:=Lib.hid (HR.out.later (Below.refl _ _).drew);have HB_:=Lib.hid (HB.out.trans (But.drew HR.out.lt))
     refine wp_region_held_drew (S:=fun w'=>(w'.cell? ⟨M,1,none⟩=some (.slice (some ⟨U,0,none⟩) n n)∧w'.cell? ⟨Q,0,none⟩=some (.pointer (some ⟨K,0,none⟩))∧M<w'.heap.size∧Q<w'.heap.size)) (by kernel_rfl) ⟨HM_.out.at 1 _ rfl,HQ_.out.at 0 _ rfl,HM_.out.lt,HQ_.out.lt⟩ (fun hHeld=>?_)
     clear HR HB HQ HM HV HU HT
     generalize wr.drew=z0 at *
     have HQ:=HQ_
     clear HQ_
     have HM:=HM_
     clear HM_
     have HV:=HV_
     clear HV_
     have HU:=HU_
     clear HU_
     have HT:=HT_
     clear HT_
     have HR:=HR_
     clear HR_
     have HB:=HB_
     clear HB_
     refine wpAnyH_take (i:=0) (v := .pointer (some ⟨M,1,none⟩)) rfl (by kernel_rfl) (by kernel_rfl) (by kernel_rfl) (fun _ _ _ h=>h) (Or.inl ⟨by rfl,fun w hSw=>?_⟩) (by assumption) ?_
     ·(try dsimp only at hSw);go_simp
     try simp only[Act.put,List.getElem_toArray,List.getElem_cons_zero,List.getElem_cons_succ,List.setIfInBounds_toArray,List.set_cons_zero,List.set_cons_succ]
     refine wpAnyH_take (i:=1) (v := .slice (some ⟨U,0,none⟩) n n) rfl (by kernel_rfl) (by kernel_rfl) (by kernel_rfl) (fun _ _ _ h=>h) (Or.inl ⟨by rfl,fun w hSw=>?_⟩) (by assumption) ?_
     ·(try dsimp only at hSw);go_simp
     try simp only[Act.put,List.getElem_toArray,List.getElem_cons_zero,List.getElem_cons_succ,List.setIfInBounds_toArray,List.set_cons_zero,List.set_cons_succ]
     refine wpAnyH_take (i:=2) (v := .int .i64 (k:Int)) rfl (by kernel_rfl) (by kernel_rfl) (by kernel_rfl) (fun _ _ _ h=>h) (Or.inl ⟨by rfl,fun w hSw=>?_⟩) (by assumption) ?_
     ·(try dsimp only at hSw);go_simp
     try simp only[Act.put,List.getElem_toArray,List.getElem_cons_zero,List.getElem_cons_succ,List.setIfInBounds_toArray,List.set_cons_zero,List.set_cons_succ]
     refine wpAnyH_take (i:=3) (v := .pointer (some ⟨Q,0,none⟩)) rfl (by kernel_rfl) (by kernel_rfl) (by kernel_rfl) (fun _ _ _ h=>h) (Or.inl ⟨by rfl,fun w hSw=>?_⟩) (by assumption) ?_
     ·(try dsimp only at hSw);go_simp
     try simp only[Act.put,List.getElem_toArray,List.getElem_cons_zero,List.getElem_cons_succ,List.setIfInBounds_toArray,List.set_cons_zero,List.set_cons_succ]
     refine wpAnyH_take (i:=4) (v := .pointer (some ⟨K,0,none⟩)) rfl (by kernel_rfl) (by kernel_rfl) (by kernel_rfl) (fun _ _ _ h=>h) (Or.inl ⟨by rfl,fun w hSw=>?_⟩) (by assumption) ?_
     ·(try dsimp only at hSw);go_simp
     try simp only[Act.put,List.getElem_toArray,List.getElem_cons_zero,List.getElem_cons_succ,List.setIfInBounds_toArray,List.set_cons_zero,List.set_cons_succ]
     refine wpAnyH_take (i:=7) (v := .pointer (some ⟨Q,0,none⟩)) rfl (by kernel_rfl) (by kernel_rfl) (by kernel_rfl) (fun _ _ _ h=>h) (Or.inl ⟨by rfl,fun w hSw=>?_⟩) (by assumption) ?_
     ·(try dsimp only at hSw);go_simp
     try simp only[Act.put,List.getElem_toArray,List.getElem_cons_zero,List.getElem_cons_succ,List.setIfInBounds_toArray,List.set_cons_zero,List.set_cons_succ]
     refine wpAnyH_take (i:=8) (v := .pointer (some ⟨K,0,none⟩)) rfl (by kernel_rfl) (by kernel_rfl) (by kernel_rfl) (fun _ _ _ h=>h) (Or.inl ⟨by rfl,fun w hSw=>?_⟩) (by assumption) ?_
     ·(try dsimp only at hSw);go_simp
     try simp only[Act.put,List.getElem_toArray,List.getElem_cons_zero,List.getElem_cons_succ,List.setIfInBounds_toArray,List.set_cons_zero,List.set_cons_succ]
     refine wpAnyH_ready (rs:=[5]) (by kernel_rfl) (by simp) ?_
     refine AllReadyH.cons rfl (fun K_ hK=>?_) AllReadyH.nil
     go_simp
     go_at_call 108
     refine (C0.out _ HR.out).mono ?_
     rintro e z1 ⟨rfl,h1,h2⟩
     have HQ_:=Lib.hid (HQ.out.but h2 nQK)
     have HM_:=Lib.hid (HM.out.but h2 nMK)
     have HV_:=Lib.hid (HV.out.but h2 nVK)
     have HU_:=Lib.hid (HU.out.but h2 nUK)
     have HT_:=Lib.hid (HT.out.but h2 nTK)
     have HB_:=Lib.hid (HB.out.trans h2)
     have HR_:=Lib.hid h1
     clear h1 h2 HR HB HQ HM HV HU HT
     have HQ:=HQ_
     clear HQ_
     have HM:=HM_
     clear HM_
     have HV:=HV_
     clear HV_
     have HU:=HU_
     clear HU_
     have HT:=HT_
     clear HT_
     have HR:=HR_
     clear HR_
     have HB:=HB_
     clear HB_
     refine hK.out _ _ ⟨HM.out.at 1 _ rfl,HQ.out.at 0 _ rfl,HM.out.lt,HQ.out.lt⟩ (fun hHeld=>?_)
     clear hK K_
     try simp only[Act.put,List.getElem_toArray,List.getElem_cons_zero,List.getElem_cons_succ,List.setIfInBounds_toArray,List.set_cons_zero,List.set_cons_succ]
     refine wpAnyH_take (i:=6) (v := .int .i64 x0) rfl (by kernel_rfl) (by kernel_rfl) (by kernel_rfl) (fun _ _ _ h=>h) (Or.inl ⟨by rfl,fun w hSw=>?_⟩) (by assumption) ?_
     ·(try dsimp only at hSw);go_simp
     try simp only[Act.put,List.getElem_toArray,List.getElem_cons_zero,List.getElem_cons_succ,List.setIfInBounds_toArray,List.set_cons_zero,List.set_cons_succ]
     refine wpAnyH_ready (rs:=[9]) (by kernel_rfl) (by simp) ?_
     refine AllReadyH.cons rfl (fun K_ hK=>?_) AllReadyH.nil
     go_simp
     go_at_call 108
     refine (C1.out _ HR.out).mono ?_
     rintro e z2 ⟨rfl,h1,h2⟩
     have HQ_:=Lib.hid (HQ.out.but h2 nQK)
     have HM_:=Lib.hid (HM.out.but h2 nMK)
     have HV_:=Lib.hid (HV.out.but h2 nVK)
     have HU_:=Lib.hid (HU.out.but h2 nUK)
     have HT_:=Lib.hid (HT.out.but h2 nTK)
     have HB_:=Lib.hid (HB.out.trans h2)
     have HR_:=Lib.hid h1
     clear h1 h2 HR HB HQ HM HV HU HT
     have HQ:=HQ_
     clear HQ_
     have HM:=HM_
     clear HM_
     have HV:=HV_
     clear HV_
     have HU:=HU_
     clear HU_
     have HT:=HT_
     clear HT_
     have HR:=HR_
     clear HR_
     have HB:=HB_
     clear HB_
     refine hK.out _ _ ⟨HM.out.at 1 _ rfl,HQ.out.at 0 _ rfl,HM.out.lt,HQ.out.lt⟩ (fun hHeld=>?_)
     clear hK K_
     try simp only[Act.put,List.getElem_toArray,List.getElem_cons_zero,List.getElem_cons_succ,List.setIfInBounds_toArray,List.set_cons_zero,List.set_cons_succ]
     refine wpAnyH_take (i:=10) (v := .int .i64 x1) rfl (by kernel_rfl) (by kernel_rfl) (by kernel_rfl) (fun _ _ _ h=>h) (Or.inl ⟨by rfl,fun w hSw=>?_⟩) (by assumption) ?_
     ·(try dsimp only at hSw);go_simp
     try simp only[Act.put,List.getElem_toArray,List.getElem_cons_zero,List.getElem_cons_succ,List.setIfInBounds_toArray,List.set_cons_zero,List.set_cons_succ]
     refine wpAnyH_take (i:=11) (v := .agg #[.int .i64 x0,.int .i64 x1]) rfl (by kernel_rfl) (by kernel_rfl) (by kernel_rfl) (fun _ _ _ h=>h) (Or.inl ⟨by rfl,fun w hSw=>?_⟩) (by assumption) ?_
     ·(try dsimp only at hSw);go_simp
     try simp only[Act.put,List.getElem_toArray,List.getElem_cons_zero,List.getElem_cons_succ,List.setIfInBounds_toArray,List.set_cons_zero,List.set_cons_succ]
     refine wpAnyH_take (i:=12) (v := .pointer (some ⟨U,k*2,none⟩)) rfl (by kernel_rfl) (by kernel_rfl) (by kernel_rfl) (fun _ _ _ h=>h) (Or.inl ⟨by rfl,fun w hSw=>?_⟩) (by assumption) ?_
     ·(try dsimp only at hSw);go_simp
     try simp only[Act.put,List.getElem_toArray,List.getElem_cons_zero,List.getElem_cons_succ,List.setIfInBounds_toArray,List.set_cons_zero,List.set_cons_succ]
     refine wpAnyH_ready (rs:=[13]) (by kernel_rfl) (by simp) ?_
     refine AllReadyH.cons rfl (fun K_ hK=>?_) AllReadyH.nil
     refine step_store (by simp[Region.wanted]) 99 _ _ rfl U (k*2) #[.int .i64 x0,.int .i64 x1] rfl rfl (HU.out.room (by rw[nums_length];have:=HLT.out;simp;omega)) (by kernel_rfl) (by simp[Value.oneCell']) ?_
     change K_ _ (z2.setCells U (k*2) [.int .i64 x0,.int .i64 x1])
     have hbm:But U z2 (z2.setCells U (k*2) [.int .i64 x0,.int .i64 x1]):=But.store
     have HU_:Hid (Own U (nums .i64 (uptoG GU ((k+1)*2)) (n*2)) (z2.setCells U (k*2) [.int .i64 x0,.int .i64 x1])):=Lib.hid (by rw[show (k+1)*2=k*2+2 from Nat.succ_mul _ _,← over_uptoG GU (n*2) (k*2) 2 [.int .i64 x0,.int .i64 x1] rfl GG.out (by have:=HLT.out;omega)];exact Own.part HU.out (by rw[nums_length];have:=HLT.out;simp;omega))
     have HQ_:=Lib.hid (HQ.out.but hbm nQU)
     have HM_:=Lib.hid (HM.out.but hbm nMU)
     have HV_:=Lib.hid (HV.out.but hbm nVU)
     have HT_:=Lib.hid (HT.out.but hbm nTU)
     have HR_:=Lib.hid (HR.out.far hbm nKU nDU)
     have HB_:=Lib.hid (HB.out.news (o:=(k*2)) (vs:=[.int .i64 x0,.int .i64 x1]) UW.out KL.out)
     clear hbm HR HB HQ HM HV HU HT
     generalize z2.setCells U (k*2) [.int .i64 x0,.int .i64 x1]=zz at *
     have HQ:=HQ_
     clear HQ_
     have HM:=HM_
     clear HM_
     have HV:=HV_
     clear HV_
     have HU:=HU_
     clear HU_
     have HT:=HT_
     clear HT_
     have HR:=HR_
     clear HR_
     have HB:=HB_
     clear HB_
     refine hK.out _ _ ⟨HM.out.at 1 _ rfl,HQ.out.at 0 _ rfl,HM.out.lt,HQ.out.lt⟩ (fun hHeld=>?_)
     clear hK K_
     try simp only[Act.put,List.getElem_toArray,List.getElem_cons_zero,List.getElem_cons_succ,List.setIfInBounds_toArray,List.set_cons_zero,List.set_cons_succ]
     refine wpAnyH_done (by kernel_rfl) ?_ _
     have HR_:Hid (Rd zz K D F N (2+n*6+(k+1)*4) (erN N (2+n*6+(k+1)*4))):=Lib.hid (by rw[← TN.out];exact HR.out)
     clear hHeld HR GG TN C0 C1
     go_wp2_with (fail)
     go_roundw
     case rel=>(first | exact⟨k+1,HLT.out,by go_num,HQ,HM,HV,HU,HT,HR_,HB⟩ | ((repeat apply Exists.intro);exact⟨⟨k+1,HLT.out,by go_num,HQ,HM,HV,HU,HT,HR_,HB⟩,rfl⟩))
     case measure=>(have:=HLT.out;simp[intOf];omega)
    ·obtain rfl:n=k:=by omega
     clear hlt hk
     obtain⟨v2,ewr⟩:∃ x,x=wr:=⟨_,rfl⟩
     subst ewr
     have oM:=HM.out
     have M2:=oM.at 2 _ rfl
     have Ml:=oM.lt
     clear oM
     go_wp2_with (fail)
     clear M2 Ml
     have HT0:Hid (Own T (nums .i64 (uptoG GR (0*3)) (m*3)) v2):=Lib.hid (by rw[Nat.zero_mul,uptoG_zero];exact HT.out)
     have HR0:Hid (Rd v2 K D F N (2+n*10+0*3) (erN N (2+n*10+0*3))):=Lib.hid (by rw[show 2+n*10+0*3=2+n*6+n*4 by omega];exact HR.out)
     clear HT HR
     go_loopw [5,65] (fun _ iv wr=>∃ (k:Nat),k≤m∧iv = .int .i64 k∧Hid (Own Q [.pointer (some ⟨K,0,none⟩)] wr)∧Hid (Own M [.slice (some ⟨V,0,none⟩) n n,.slice (some ⟨U,0,none⟩) n n,.slice (some ⟨T,0,none⟩) m m] wr)∧Hid (Own V (nums .i64 (uptoG GV (n*3)) (n*3)) wr)∧Hid (Own U (nums .i64 (uptoG GU (n*2)) (n*2)) wr)∧Hid (Own T (nums .i64 (uptoG GR (k*3)) (m*3)) wr)∧Hid (Rd wr K D F N (2+n*10+k*3) (erN N (2+n*10+k*3)))∧Hid (But K w wr)) (fun _ iv _=>(m - (intOf iv).toNat))
     case atStart=>exact⟨0,Nat.zero_le _,rfl,HQ,HM,HV,HU,HT0,HR0,HB⟩
     case round =>
      clear HQ HM HR0 HB HV HU HT0
      obtain⟨k,hk,rfl,HQ,HM,HV,HU,HT,HR,HB⟩:=hrel
      by_cases hlt:k<m
      ·have hki:(k:Int)<(m:Int):=by omega
       have k0:(0:Int)≤(k:Int):=by omega
       have wk:IntKind.i64.wrap ((k:Int)+1)=(k:Int)+1:=IntWalk.i64_in _ (by have:=MB.out;omega)
       have HLT:=Lib.hid hlt
       obtain⟨t,et⟩:∃ t,2+n*10+k*3=t:=⟨_,rfl⟩
       rw[et] at HR
       have HTT:=Lib.hid et
       obtain⟨x0,ex0⟩:∃ x,valN F N (t) 1=x:=⟨_,rfl⟩
       have C0:=Lib.hid (ST.out (t))
       rw[ex0] at C0
       have wx0:=BT.out (t)
       rw[ex0] at wx0
       have g0:GR (k*3+0)=x0:=by rw[ER.out,← ex0];congr 1<;>(have:=HTT.out;omega)
       obtain⟨x1,ex1⟩:∃ x,valN F N (t+1) 1=x:=⟨_,rfl⟩
       have C1:=Lib.hid (ST.out (t+1))
       rw[ex1] at C1
       have wx1:=BT.out (t+1)
       rw[ex1] at wx1
       have g1:GR (k*3+1)=x1:=by rw[ER.out,← ex1];congr 1<;>(have:=HTT.out;omega)
       obtain⟨x2,ex2⟩:∃ x,valN F N (t+1+1) 1=x:=⟨_,rfl⟩
       have C2:=Lib.hid (ST.out (t+1+1))
       rw[ex2] at C2
       have wx2:=BT.out (t+1+1)
       rw[ex2] at wx2
       have g2:GR (k*3+2)=x2:=by rw[ER.out,← ex2];congr 1<;>(have:=HTT.out;omega)
       have GG:Hid (∀ i,i<3→([.int .i64 x0,.int .i64 x1,.int .i64 x2]:List Value)[i]?=some (.int .i64 (GR (k*3+i)))):=Lib.hid (fun i hi=>match i,hi with
        | 0,_=>by rw[g0];rfl
        | 1,_=>by rw[g1];rfl
        | 2,_=>by rw[g2];rfl)
       have TN:Hid (t+1+1+1=2+n*10+(k+1)*3):=Lib.hid (by have:=HTT.out;omega)
       clear hk hlt et ex0 g0 ex1 g1 ex2 g2
       go_upto_region 17 with fail
       have HQ_:=Lib.hid HQ.out.drew
       have HM_:=Lib.hid HM.out.drew
       have HV_:=Lib.hid HV.out.drew
       have HU_:=Lib.hid HU.out.drew
       have HT_:=Lib.hid HT.out.drew
       have HR_:=Lib.hid (HR.out.later (Below.refl _ _).drew);have HB_:=Lib.hid (HB.out.trans (But.drew HR.out.lt))
       refine wp_region_held_drew (S:=fun w'=>(w'.cell? ⟨M,2,none⟩=some (.slice (some ⟨T,0,none⟩) m m)∧w'.cell? ⟨Q,0,none⟩=some (.pointer (some ⟨K,0,none⟩))∧M<w'.heap.size∧Q<w'.heap.size)) (by kernel_rfl) ⟨HM_.out.at 2 _ rfl,HQ_.out.at 0 _ rfl,HM_.out.lt,HQ_.out.lt⟩ (fun hHeld=>?_)
       clear HR HB HQ HM HV HU HT
       generalize wr.drew=z0 at *
       have HQ:=HQ_
       clear HQ_
       have HM:=HM_
       clear HM_
       have HV:=HV_
       clear HV_
       have HU:=HU_
       clear HU_
       have HT:=HT_
       clear HT_
       have HR:=HR_
       clear HR_
       have HB:=HB_
       clear HB_
       refine wpAnyH_take (i:=0) (v := .pointer (some ⟨M,2,none⟩)) rfl (by kernel_rfl) (by kernel_rfl) (by kernel_rfl) (fun _ _ _ h=>h) (Or.inl ⟨by rfl,fun w hSw=>?_⟩) (by assumption) ?_
       ·(try dsimp only at hSw);go_simp
       try simp only[Act.put,List.getElem_toArray,List.getElem_cons_zero,List.getElem_cons_succ,List.setIfInBounds_toArray,List.set_cons_zero,List.set_cons_succ]
       refine wpAnyH_take (i:=1) (v := .slice (some ⟨T,0,none⟩) m m) rfl (by kernel_rfl) (by kernel_rfl) (by kernel_rfl) (fun _ _ _ h=>h) (Or.inl ⟨by rfl,fun w hSw=>?_⟩) (by assumption) ?_
       ·(try dsimp only at hSw);go_simp
       try simp only[Act.put,List.getElem_toArray,List.getElem_cons_zero,List.getElem_cons_succ,List.setIfInBounds_toArray,List.set_cons_zero,List.set_cons_succ]
       refine wpAnyH_take (i:=2) (v := .int .i64 (k:Int)) rfl (by kernel_rfl) (by kernel_rfl) (by kernel_rfl) (fun _ _ _ h=>h) (Or.inl ⟨by rfl,fun w hSw=>?_⟩) (by assumption) ?_
       ·(try dsimp only at hSw);go_simp
       try simp only[Act.put,List.getElem_toArray,List.getElem_cons_zero,List.getElem_cons_succ,List.setIfInBounds_toArray,List.set_cons_zero,List.set_cons_succ]
       refine wpAnyH_take (i:=3) (v := .pointer (some ⟨Q,0,none⟩)) rfl (by kernel_rfl) (by kernel_rfl) (by kernel_rfl) (fun _ _ _ h=>h) (Or.inl ⟨by rfl,fun w hSw=>?_⟩) (by assumption) ?_
       ·(try dsimp only at hSw);go_simp
       try simp only[Act.put,List.getElem_toArray,List.getElem_cons_zero,List.getElem_cons_succ,List.setIfInBounds_toArray,List.set_cons_zero,List.set_cons_succ]
       refine wpAnyH_take (i:=4) (v := .pointer (some ⟨K,0,none⟩)) rfl (by kernel_rfl) (by kernel_rfl) (by kernel_rfl) (fun _ _ _ h=>h) (Or.inl ⟨by rfl,fun w hSw=>?_⟩) (by assumption) ?_
       ·(try dsimp only at hSw);go_simp
       try simp only[Act.put,List.getElem_toArray,List.getElem_cons_zero,List.getElem_cons_succ,List.setIfInBounds_toArray,List.set_cons_zero,List.set_cons_succ]
       refine wpAnyH_take (i:=7) (v := .pointer (some ⟨Q,0,none⟩)) rfl (by kernel_rfl) (by kernel_rfl) (by kernel_rfl) (fun _ _ _ h=>h) (Or.inl ⟨by rfl,fun w hSw=>?_⟩) (by assumption) ?_
       ·(try dsimp only at hSw);go_simp
       try simp only[Act.put,List.getElem_toArray,List.getElem_cons_zero,List.getElem_cons_succ,List.setIfInBounds_toArray,List.set_cons_zero,List.set_cons_succ]
       refine wpAnyH_take (i:=8) (v := .pointer (some ⟨K,0,none⟩)) rfl (by kernel_rfl) (by kernel_rfl) (by kernel_rfl) (fun _ _ _ h=>h) (Or.inl ⟨by rfl,fun w hSw=>?_⟩) (by assumption) ?_
       ·(try dsimp only at hSw);go_simp
       try simp only[Act.put,List.getElem_toArray,List.getElem_cons_zero,List.getElem_cons_succ,List.setIfInBounds_toArray,List.set_cons_zero,List.set_cons_succ]
       refine wpAnyH_take (i:=11) (v := .pointer (some ⟨Q,0,none⟩)) rfl (by kernel_rfl) (by kernel_rfl) (by kernel_rfl) (fun _ _ _ h=>h) (Or.inl ⟨by rfl,fun w hSw=>?_⟩) (by assumption) ?_
       ·(try dsimp only at hSw);go_simp
       try simp only[Act.put,List.getElem_toArray,List.getElem_cons_zero,List.getElem_cons_succ,List.setIfInBounds_toArray,List.set_cons_zero,List.set_cons_succ]
       refine wpAnyH_take (i:=12) (v := .pointer (some ⟨K,0,none⟩)) rfl (by kernel_rfl) (by kernel_rfl) (by kernel_rfl) (fun _ _ _ h=>h) (Or.inl ⟨by rfl,fun w hSw=>?_⟩) (by assumption) ?_
       ·(try dsimp only at hSw);go_simp
       try simp only[Act.put,List.getElem_toArray,List.getElem_cons_zero,List.getElem_cons_succ,List.setIfInBounds_toArray,List.set_cons_zero,List.set_cons_succ]
       refine wpAnyH_ready (rs:=[5]) (by kernel_rfl) (by simp) ?_
       refine AllReadyH.cons rfl (fun K_ hK=>?_) AllReadyH.nil
       go_simp
       go_at_call 108
       refine (C0.out _ HR.out).mono ?_
       rintro e z1 ⟨rfl,h1,h2⟩
       have HQ_:=Lib.hid (HQ.out.but h2 nQK)
       have HM_:=Lib.hid (HM.out.but h2 nMK)
       have HV_:=Lib.hid (HV.out.but h2 nVK)
       have HU_:=Lib.hid (HU.out.but h2 nUK)
       have HT_:=Lib.hid (HT.out.but h2 nTK)
       have HB_:=Lib.hid (HB.out.trans h2)
       have HR_:=Lib.hid h1
       clear h1 h2 HR HB HQ HM HV HU HT
       have HQ:=HQ_
       clear HQ_
       have HM:=HM_
       clear HM_
       have HV:=HV_
       clear HV_
       have HU:=HU_
       clear HU_
       have HT:=HT_
       clear HT_
       have HR:=HR_
       clear HR_
       have HB:=HB_
       clear HB_
       refine hK.out _ _ ⟨HM.out.at 2 _ rfl,HQ.out.at 0 _ rfl,HM.out.lt,HQ.out.lt⟩ (fun hHeld=>?_)
       clear hK K_
       try simp only[Act.put,List.getElem_toArray,List.getElem_cons_zero,List.getElem_cons_succ,List.setIfInBounds_toArray,List.set_cons_zero,List.set_cons_succ]
       refine wpAnyH_take (i:=6) (v := .int .i64 x0) rfl (by kernel_rfl) (by kernel_rfl) (by kernel_rfl) (fun _ _ _ h=>h) (Or.inl ⟨by rfl,fun w hSw=>?_⟩) (by assumption) ?_
       ·(try dsimp only at hSw);go_simp
       try simp only[Act.put,List.getElem_toArray,List.getElem_cons_zero,List.getElem_cons_succ,List.setIfInBounds_toArray,List.set_cons_zero,List.set_cons_succ]
       refine wpAnyH_ready (rs:=[9]) (by kernel_rfl) (by simp) ?_
       refine AllReadyH.cons rfl (fun K_ hK=>?_) AllReadyH.nil
       go_simp
       go_at_call 108
       refine (C1.out _ HR.out).mono ?_
       rintro e z2 ⟨rfl,h1,h2⟩
       have HQ_:=Lib.hid (HQ.out.but h2 nQK)
       have HM_:=Lib.hid (HM.out.but h2 nMK)
       have HV_:=Lib.hid (HV.out.but h2 nVK)
       have HU_:=Lib.hid (HU.out.but h2 nUK)
       have HT_:=Lib.hid (HT.out.but h2 nTK)
       have HB_:=Lib.hid (HB.out.trans h2)
       have HR_:=Lib.hid h1
       clear h1 h2 HR HB HQ HM HV HU HT
       have HQ:=HQ_
       clear HQ_
       have HM:=HM_
       clear HM_
       have HV:=HV_
       clear HV_
       have HU:=HU_
       clear HU_
       have HT:=HT_
       clear HT_
       have HR:=HR_
       clear HR_
       have HB:=HB_
       clear HB_
       refine hK.out _ _ ⟨HM.out.at 2 _ rfl,HQ.out.at 0 _ rfl,HM.out.lt,HQ.out.lt⟩ (fun hHeld=>?_)
       clear hK K_
       try simp only[Act.put,List.getElem_toArray,List.getElem_cons_zero,List.getElem_cons_succ,List.setIfInBounds_toArray,List.set_cons_zero,List.set_cons_succ]
       refine wpAnyH_take (i:=10) (v := .int .i64 x1) rfl (by kernel_rfl) (by kernel_rfl) (by kernel_rfl) (fun _ _ _ h=>h) (Or.inl ⟨by rfl,fun w hSw=>?_⟩) (by assumption) ?_
       ·(try dsimp only at hSw);go_simp
       try simp only[Act.put,List.getElem_toArray,List.getElem_cons_zero,List.getElem_cons_succ,List.setIfInBounds_toArray,List.set_cons_zero,List.set_cons_succ]
       refine wpAnyH_ready (rs:=[13]) (by kernel_rfl) (by simp) ?_
       refine AllReadyH.cons rfl (fun K_ hK=>?_) AllReadyH.nil
       go_simp
       go_at_call 108
       refine (C2.out _ HR.out).mono ?_
       rintro e z3 ⟨rfl,h1,h2⟩
       have HQ_:=Lib.hid (HQ.out.but h2 nQK)
       have HM_:=Lib.hid (HM.out.but h2 nMK)
       have HV_:=Lib.hid (HV.out.but h2 nVK)
       have HU_:=Lib.hid (HU.out.but h2 nUK)
       have HT_:=Lib.hid (HT.out.but h2 nTK)
       have HB_:=Lib.hid (HB.out.trans h2)
       have HR_:=Lib.hid h1
       clear h1 h2 HR HB HQ HM HV HU HT
       have HQ:=HQ_
       clear HQ_
       have HM:=HM_
       clear HM_
       have HV:=HV_
       clear HV_
       have HU:=HU_
       clear HU_
       have HT:=HT_
       clear HT_
       have HR:=HR_
       clear HR_
       have HB:=HB_
       clear HB_
       refine hK.out _ _ ⟨HM.out.at 2 _ rfl,HQ.out.at 0 _ rfl,HM.out.lt,HQ.out.lt⟩ (fun hHeld=>?_)
       clear hK K_
       try simp only[Act.put,List.getElem_toArray,List.getElem_cons_zero,List.getElem_cons_succ,List.setIfInBounds_toArray,List.set_cons_zero,List.set_cons_succ]
       refine wpAnyH_take (i:=14) (v := .int .i64 x2) rfl (by kernel_rfl) (by kernel_rfl) (by kernel_rfl) (fun _ _ _ h=>h) (Or.inl ⟨by rfl,fun w hSw=>?_⟩) (by assumption) ?_
       ·(try dsimp only at hSw);go_simp
       try simp only[Act.put,List.getElem_toArray,List.getElem_cons_zero,List.getElem_cons_succ,List.setIfInBounds_toArray,List.set_cons_zero,List.set_cons_succ]
       refine wpAnyH_take (i:=15) (v := .agg #[.int .i64 x0,.int .i64 x1,.int .i64 x2]) rfl (by kernel_rfl) (by kernel_rfl) (by kernel_rfl) (fun _ _ _ h=>h) (Or.inl ⟨by rfl,fun w hSw=>?_⟩) (by assumption) ?_
       ·(try dsimp only at hSw);go_simp
       try simp only[Act.put,List.getElem_toArray,List.getElem_cons_zero,List.getElem_cons_succ,List.setIfInBounds_toArray,List.set_cons_zero,List.set_cons_succ]
       refine wpAnyH_take (i:=16) (v := .pointer (some ⟨T,k*3,none⟩)) rfl (by kernel_rfl) (by kernel_rfl) (by kernel_rfl) (fun _ _ _ h=>h) (Or.inl ⟨by rfl,fun w hSw=>?_⟩) (by assumption) ?_
       ·(try dsimp only at hSw);go_simp
       try simp only[Act.put,List.getElem_toArray,List.getElem_cons_zero,List.getElem_cons_succ,List.setIfInBounds_toArray,List.set_cons_zero,List.set_cons_succ]
       refine wpAnyH_ready (rs:=[17]) (by kernel_rfl) (by simp) ?_
       refine AllReadyH.cons rfl (fun K_ hK=>?_) AllReadyH.nil
       refine step_store (by simp[Region.wanted]) 37 _ _ rfl T (k*3) #[.int .i64 x0,.int .i64 x1,.int .i64 x2] rfl rfl (HT.out.room (by rw[nums_length];have:=HLT.out;simp;omega)) (by kernel_rfl) (by simp[Value.oneCell']) ?_
       change K_ _ (z3.setCells T (k*3) [.int .i64 x0,.int .i64 x1,.int .i64 x2])
       have hbm:But T z3 (z3.setCells T (k*3) [.int .i64 x0,.int .i64 x1,.int .i64 x2]):=But.store
       have HT_:Hid (Own T (nums .i64 (uptoG GR ((k+1)*3)) (m*3)) (z3.setCells T (k*3) [.int .i64 x0,.int .i64 x1,.int .i64 x2])):=Lib.hid (by rw[show (k+1)*3=k*3+3 from Nat.succ_mul _ _,← over_uptoG GR (m*3) (k*3) 3 [.int .i64 x0,.int .i64 x1,.int .i64 x2] rfl GG.out (by have:=HLT.out;omega)];exact Own.part HT.out (by rw[nums_length];have:=HLT.out;simp;omega))
       have HQ_:=Lib.hid (HQ.out.but hbm nQT)
       have HM_:=Lib.hid (HM.out.but hbm nMT)
       have HV_:=Lib.hid (HV.out.but hbm nVT)
       have HU_:=Lib.hid (HU.out.but hbm nUT)
       have HR_:=Lib.hid (HR.out.far hbm nKT nDT)
       have HB_:=Lib.hid (HB.out.news (o:=(k*3)) (vs:=[.int .i64 x0,.int .i64 x1,.int .i64 x2]) TW.out KL.out)
       clear hbm HR HB HQ HM HV HU HT
       generalize z3.setCells T (k*3) [.int .i64 x0,.int .i64 x1,.int .i64 x2]=zz at *
       have HQ:=HQ_
       clear HQ_
       have HM:=HM_
       clear HM_
       have HV:=HV_
       clear HV_
       have HU:=HU_
       clear HU_
       have HT:=HT_
       clear HT_
       have HR:=HR_
       clear HR_
       have HB:=HB_
       clear HB_
       refine hK.out _ _ ⟨HM.out.at 2 _ rfl,HQ.out.at 0 _ rfl,HM.out.lt,HQ.out.lt⟩ (fun hHeld=>?_)
       clear hK K_
       try simp only[Act.put,List.getElem_toArray,List.getElem_cons_zero,List.getElem_cons_succ,List.setIfInBounds_toArray,List.set_cons_zero,List.set_cons_succ]
       refine wpAnyH_done (by kernel_rfl) ?_ _
       have HR_:Hid (Rd zz K D F N (2+n*10+(k+1)*3) (erN N (2+n*10+(k+1)*3))):=Lib.hid (by rw[← TN.out];exact HR.out)
       clear hHeld HR GG TN C0 C1 C2
       go_wp2_with (fail)
       go_roundw
       case rel=>(first | exact⟨k+1,HLT.out,by go_num,HQ,HM,HV,HU,HT,HR_,HB⟩ | ((repeat apply Exists.intro);exact⟨⟨k+1,HLT.out,by go_num,HQ,HM,HV,HU,HT,HR_,HB⟩,rfl⟩))
       case measure=>(have:=HLT.out;simp[intOf];omega)
      ·obtain rfl:m=k:=by omega
       clear hlt hk
       have oM:=HM.out
       have M0:=oM.at 0 _ rfl
       have Mf0:=oM.ok 0 (by simp)
       have M1:=oM.at 1 _ rfl
       have Mf1:=oM.ok 1 (by simp)
       have M2:=oM.at 2 _ rfl
       have Mf2:=oM.ok 2 (by simp)
       have Ml:=oM.lt
       clear oM
       go_wp2_with (fail)
       clear M0 Mf0 M1 Mf1 M2 Mf2 Ml
       have hL:=run_loadVar_mid (P:=Tryz.prog) _ M 0 34 [.slice (some ⟨V,0,none⟩) n n,.slice (some ⟨U,0,none⟩) n n,.slice (some ⟨T,0,none⟩) m m] _ HM.out.cell Tryz.underlying34 rfl (by kernel_rfl)
       have NV:Has V 0 (nums .i64 GV (n*3)) wr:=by have:=HV.out.has;rwa [uptoG_all] at this
       have NU:Has U 0 (nums .i64 GU (n*2)) wr:=by have:=HU.out.has;rwa [uptoG_all] at this
       have NT:Has T 0 (nums .i64 GR (m*3)) wr:=by have:=HT.out.has;rwa [uptoG_all] at this
       have RR:Rd wr K D F N TT (erN N TT):=by rw[ET.out];exact HR.out
       exact bodyPost_ret (v := .agg ([.slice (some ⟨V,0,none⟩) n n,.slice (some ⟨U,0,none⟩) n n,.slice (some ⟨T,0,none⟩) m m]:List Value).toArray) (res_cell Tryz.results142 rfl hL) rfl ⟨⟨V,U,T,rfl,⟨VW.out,UW.out,TW.out⟩,NV,NU,NT⟩,RR,HB.out⟩
end Go.Proofs.YtbilamnnneddmaaGreatDoor
namespace Go.Proofs.YtbilamnnneddmaaGreatDoor
set_option linter.unusedVariables false
set_option maxRecDepth 2000
set_option linter.unusedSimpArgs false
open Go.RowKit
attribute [local go_sem] setCell_self
def decE (F:Nat→Int) (N:Nat):Int:=if N<decT F N then 4 else if decT F N<N then 5 else chkF (dcN F N 0) (dcN F N 0) (dcN F N 1) (decV F N) (decU F N) (decR F N)
def FrU (B:Nat) (M:Msh):Prop:=FrQ B M.nv M.qv∧FrQ B M.nu M.qu∧FrQ B M.nt M.qt
theorem FrU.mono {B C:Nat} {M:Msh} (h:FrU C M) (hb:B≤C):FrU B M:=⟨h.1.mono hb,h.2.1.mono hb,h.2.2.mono hb⟩
structure DecM (F:Nat→Int) (N:Nat) (M:Msh):Prop where
 yes:decE F N=0→M.nv=dcN F N 0∧M.nu=dcN F N 0∧M.nt=dcN F N 1∧M.V=decV F N∧M.U=decU F N∧M.R=decR F N
 no:decE F N≠0→M.nv=0∧M.nu=0∧M.nt=0
theorem dec_end (N T:Nat):endE N T (erN N T)=if N<T then 4 else if T<N then 5 else 0:=by
 unfold endE erN
 by_cases h:T≤N
 ·rw[if_pos h,if_neg (by decide),if_neg (show ¬N<T by omega)]
 ·rw[if_neg h,if_pos (by decide),if_pos (show N<T by omega)]
theorem mesh_has {n m V U T:Nat} {GV GU GR:Nat→Int} {w:World} (hn:n≤255) (hm:m≤255) (h1:Has V 0 (nums .i64 GV (n*3)) w) (h2:Has U 0 (nums .i64 GU (n*2)) w) (h3:Has T 0 (nums .i64 GR (m*3)) w):MeshAt ⟨some ⟨V,0,none⟩,n,n,GV,some ⟨U,0,none⟩,n,n,GU,some ⟨T,0,none⟩,m,m,GR⟩ w:=⟨.inr ⟨V,0,rfl,h1⟩,.inr ⟨U,0,rfl,h2⟩,.inr ⟨T,0,rfl,h3⟩,Nat.le_refl _,Nat.le_refl _,Nat.le_refl _,by show n≤_;omega,by show n≤_;omega,by show m≤_;omega⟩
def nilM:Msh:=⟨none,0,0,fun _=>0,none,0,0,fun _=>0,none,0,0,fun _=>0⟩
theorem FrU.nil (B:Nat):FrU B nilM:=⟨.inl rfl,.inl rfl,.inl rfl⟩
theorem nilM_at (w:World):MeshAt nilM w:=⟨.inl rfl,.inl rfl,.inl rfl,by decide,by decide,by decide,by decide,by decide,by decide⟩
theorem nilM_dec {F:Nat→Int} {N:Nat} (h:decE F N≠0):DecM F N nilM:=⟨fun e=>absurd e h,fun _=>⟨rfl,rfl,rfl⟩⟩
set_option maxHeartbeats 8000000 in
theorem Decode_any (F:Nat→Int) (q:Option Addr) (N c:Nat) (hF:∀ j,j<N→inB (F j)) (hN:N≤100000) (w:World) (hq:Byt w q N F) :
  Calls Tryz.prog 116 #[.slice q N c] w fun e w'=>(∃ M,e = .returned (.tuple #[.agg #[.slice M.qv M.nv M.cv,.slice M.qu M.nu M.cu,.slice M.qt M.nt M.ct],.int .i64 (decE F N)])∧MeshAt M w'∧DecM F N M∧FrU w.heap.size M)∧Below w.heap.size w w':=by
 have HQ:=Lib.hid hq
 have NW:=Lib.hid (fun w hq=>New_any q N c F (by omega) w hq)
 have MN:=Lib.hid (fun K D w h hd=>Mesh_any K D N F hF w h hd)
 have NO:=Lib.hid (@nilM_dec F N)
 have DE:Hid (decE F N=if N<decT F N then 4 else if decT F N<N then 5 else chkF (dcN F N 0) (dcN F N 0) (dcN F N 1) (decV F N) (decU F N) (decR F N)):=Lib.hid rfl
 have MK:Hid (∀ M:Msh,M.nv=dcN F N 0→M.nu=dcN F N 0→M.nt=dcN F N 1→M.V=decV F N→M.U=decU F N→M.R=decR F N→decE F N=0→DecM F N M):=Lib.hid (fun M a b c d e f h=>⟨fun _=>⟨a,b,c,d,e,f⟩,fun hn=>absurd h hn⟩)
 have NB:=Lib.hid (dcN_val hF 0).2;have MB:=Lib.hid (dcN_val hF 1).2
 obtain⟨z,ez⟩:∃ z,decE F N=z:=⟨_,rfl⟩
 rw[ez] at DE MK NO ⊢
 generalize DecM F N=DM at *
 generalize decT F N=T at *
 generalize dcN F N 0=n at *
 generalize dcN F N 1=m at *
 generalize decV F N=GV at *
 generalize decU F N=GU at *
 generalize decR F N=GR at *
 obtain⟨e1,hee⟩:∃ e,(if N<T then (4:Int) else if T<N then 5 else 0)=e:=⟨_,rfl⟩
 have EE:=Lib.hid hee
 clear hF hN hq ez
 by_cases h1:e1=0
 ·subst h1
  have ec:z=chkF n n m GV GU GR:=by
   have h:=DE.out
   by_cases a:N<T
   ·rw[if_pos a] at hee;omega
   ·rw[if_neg a] at h hee
    by_cases b:T<N
    ·rw[if_pos b] at hee;omega
    ·rw[if_neg b] at h;exact h
  have EC:=Lib.hid ec
  clear DE hee ec
  go_enter Tryz.func116,Tryz.ntmps116
  go_upto_region 1 with fail
  obtain⟨W0,hW⟩:∃ W0,W0=(w.alloc (.cells #[.slice none 0 0,.slice none 0 0,.slice none 0 0] 34)):=⟨_,rfl⟩
  have hB0:Below w.heap.size w W0:=hW ▸ (Below.al (Below.refl _ _))
  have HR:Hid (Own w.heap.size ([.slice none 0 0,.slice none 0 0,.slice none 0 0]) W0):=Lib.hid (hW ▸ (show Own w.heap.size ([.slice none 0 0,.slice none 0 0,.slice none 0 0]) (w.alloc (.cells #[.slice none 0 0,.slice none 0 0,.slice none 0 0] 34)) from Own.newAt (by simp)))
  rw[← hW]
  clear hW
  obtain⟨R,eR⟩:∃ X,X=w.heap.size:=⟨_,rfl⟩
  rw[← eR] at HR ⊢
  have Rw:w.heap.size≤R:=by omega
  clear eR
  have HQ0:=Lib.hid (HQ.out.later hB0)
  clear HQ
  go_wp2_with (fail)
  go_at_call 69
  refine (NW.out _ HQ0.out).mono ?_
  rintro e w1 ⟨K,D,rfl,hKw,hDw,hDl,hrd,hb⟩
  have HR1:=Lib.hid (HR.out.later hb)
  have nRK:R≠K:=by have:=HR.out.lt;omega
  have hB1:=Below.go hB0 hb
  have KW:w.heap.size≤K:=by have:=hB0.size;omega
  have HRD:=Lib.hid hrd
  have HDl:=Lib.hid hDl
  clear hb hB0 HQ0 HR NW hrd hKw hDw hDl
  go_upto_region 2 with fail
  obtain⟨w2,hW⟩:∃ w2,w2=(w1.alloc (.cells #[.pointer (some ⟨K,0,none⟩)] 195)):=⟨_,rfl⟩
  have hBx:Below w1.heap.size w1 w2:=hW ▸ (Below.al (Below.refl _ _))
  have HP:Hid (Own w1.heap.size ([.pointer (some ⟨K,0,none⟩)]) w2):=Lib.hid (hW ▸ (show Own w1.heap.size ([.pointer (some ⟨K,0,none⟩)]) (w1.alloc (.cells #[.pointer (some ⟨K,0,none⟩)] 195)) from Own.newAt (by simp)))
  rw[← hW]
  clear hW
  obtain⟨P,eP⟩:∃ X,X=w1.heap.size:=⟨_,rfl⟩
  rw[← eP] at HP ⊢
  have Pw:w1.heap.size≤P:=by omega
  clear eP
  have nPK:P≠K:=by have:=HRD.out.lt;omega
  have HR2:=Lib.hid (HR1.out.later hBx);have HRD2:=Lib.hid (HRD.out.later hBx);have hD2:=Nat.lt_of_lt_of_le HDl.out hBx.size
  have hB2:=Below.go hB1 hBx
  clear HR1 HRD HDl hBx hB1 Pw
  have oP:=HP.out
  have P0:=oP.at 0 _ rfl
  have Pl:=oP.lt
  clear oP
  go_wp2_with (fail)
  go_at_call 142
  refine (MN.out K D _ HRD2.out hD2).mono ?_
  rintro e w3 ⟨⟨V,U,T,rfl,⟨gv,gu,gt⟩,m1,m2,m3⟩,h1,h2⟩
  have GFR:=Lib.hid (show w.heap.size≤V∧w.heap.size≤U∧w.heap.size≤T from ⟨Nat.le_trans hB2.size gv,Nat.le_trans hB2.size gu,Nat.le_trans hB2.size gt⟩)
  have nVR:V≠R:=by have:=HR2.out.lt;omega
  have nUR:U≠R:=by have:=HR2.out.lt;omega
  have nTR:T≠R:=by have:=HR2.out.lt;omega
  have HV3:=Lib.hid m1;have HU3:=Lib.hid m2;have HT3:=Lib.hid m3
  have HRD3:=Lib.hid h1
  have HR3:=Lib.hid (HR2.out.but h2 nRK);have HP3:=Lib.hid (HP.out.but h2 nPK)
  have hB3:=hB2.trans (h2.below.mono KW)
  clear h1 h2 m1 m2 m3 gv gu gt HRD2 HR2 HP hB2 hD2 P0 Pl MN
  go_upto_region 3 with fail
  obtain⟨w4,hW⟩:∃ w4,w4=(w3.alloc (.cells #[.slice (some ⟨V,0,none⟩) n n,.slice (some ⟨U,0,none⟩) n n,.slice (some ⟨T,0,none⟩) m m] 34)):=⟨_,rfl⟩
  have hBx:Below w3.heap.size w3 w4:=hW ▸ (Below.al (Below.refl _ _))
  have HX:Hid (Own w3.heap.size ([.slice (some ⟨V,0,none⟩) n n,.slice (some ⟨U,0,none⟩) n n,.slice (some ⟨T,0,none⟩) m m]) w4):=Lib.hid (hW ▸ (show Own w3.heap.size ([.slice (some ⟨V,0,none⟩) n n,.slice (some ⟨U,0,none⟩) n n,.slice (some ⟨T,0,none⟩) m m]) (w3.alloc (.cells #[.slice (some ⟨V,0,none⟩) n n,.slice (some ⟨U,0,none⟩) n n,.slice (some ⟨T,0,none⟩) m m] 34)) from Own.newAt (by simp)))
  rw[← hW]
  clear hW
  obtain⟨X,eX⟩:∃ X,X=w3.heap.size:=⟨_,rfl⟩
  rw[← eX] at HX ⊢
  have Xw:w3.heap.size≤X:=by omega
  clear eX
  have HR4:=Lib.hid (HR3.out.later hBx);have HP4:=Lib.hid (HP3.out.later hBx);have HV4:=Lib.hid (HV3.out.later hBx);have HU4:=Lib.hid (HU3.out.later hBx);have HT4:=Lib.hid (HT3.out.later hBx)
  have EN:=Lib.hid (End_any (HRD3.out.later hBx))
  have HB4:=Lib.hid (Below.go hB3 hBx)
  rw[dec_end,EE.out] at EN
  clear HR3 HP3 HV3 HU3 HT3 HRD3 hB3 hBx Xw
  have oP:=HP4.out
  have P0:=oP.at 0 _ rfl
  have Pl:=oP.lt
  clear oP
  go_wp2_with (fail)
  go_at_call 71
  refine EN.out.mono ?_
  rintro e y5 ⟨rfl,hw⟩
  subst hw
  clear EN P0 Pl HP4
  have oX:=HX.out
  have X0:=oX.at 0 _ rfl
  have X1:=oX.at 1 _ rfl
  have X2:=oX.at 2 _ rfl
  have Xl:=oX.lt
  clear oX
  go_wp2_with (fail)
  go_at_call 121
  refine (Check_any ⟨some ⟨V,0,none⟩,n,n,GV,some ⟨U,0,none⟩,n,n,GU,some ⟨T,0,none⟩,m,m,GR⟩ _ (mesh_has NB.out MB.out HV4.out HU4.out HT4.out)).mono ?_
  rintro e w5 ⟨rfl,hb⟩
  rw[show chkM ⟨some ⟨V,0,none⟩,n,n,GV,some ⟨U,0,none⟩,n,n,GU,some ⟨T,0,none⟩,m,m,GR⟩=z from EC.out.symm]
  have HR5:=Lib.hid (HR4.out.later hb);have HX5:=Lib.hid (HX.out.later hb);have HV5:=Lib.hid (HV4.out.later hb);have HU5:=Lib.hid (HU4.out.later hb);have HT5:=Lib.hid (HT4.out.later hb);have HB5:=Lib.hid (Below.go HB4.out hb)
  clear hb HR4 HX HV4 HU4 HT4 HB4 X0 X1 X2 Xl EC EE
  by_cases hz:z=0
  ·subst hz
   have HD:=Lib.hid (MK.out ⟨some ⟨V,0,none⟩,n,n,GV,some ⟨U,0,none⟩,n,n,GU,some ⟨T,0,none⟩,m,m,GR⟩ rfl rfl rfl rfl rfl rfl rfl)
   clear MK NO
   go_upto_region 9 with fail
   have oX:=HX5.out
   have X0:=oX.at 0 _ rfl
   have X1:=oX.at 1 _ rfl
   have X2:=oX.at 2 _ rfl
   have Xl:=oX.lt
   clear oX
   have oR:=HR5.out
   have R0:=oR.at 0 _ rfl
   have Rf0:=oR.ok 0 (by simp)
   have R1:=oR.at 1 _ rfl
   have Rf1:=oR.ok 1 (by simp)
   have R2:=oR.at 2 _ rfl
   have Rf2:=oR.ok 2 (by simp)
   have Rl:=oR.lt
   clear oR
   go_wp2_with (fail)
   change bodyPost _ _ _ _ _ (w5.setCells R 0 [.slice (some ⟨V,0,none⟩) n n,.slice (some ⟨U,0,none⟩) n n,.slice (some ⟨T,0,none⟩) m m])
   have HR9:Own R [.slice (some ⟨V,0,none⟩) n n,.slice (some ⟨U,0,none⟩) n n,.slice (some ⟨T,0,none⟩) m m] (w5.setCells R 0 [.slice (some ⟨V,0,none⟩) n n,.slice (some ⟨U,0,none⟩) n n,.slice (some ⟨T,0,none⟩) m m]):=Own.store HR5.out rfl
   have HB9:Below w.heap.size w (w5.setCells R 0 [.slice (some ⟨V,0,none⟩) n n,.slice (some ⟨U,0,none⟩) n n,.slice (some ⟨T,0,none⟩) m m]):=Below.setCells HB5.out Rw _ _
   have HM9:MeshAt ⟨some ⟨V,0,none⟩,n,n,GV,some ⟨U,0,none⟩,n,n,GU,some ⟨T,0,none⟩,m,m,GR⟩ (w5.setCells R 0 [.slice (some ⟨V,0,none⟩) n n,.slice (some ⟨U,0,none⟩) n n,.slice (some ⟨T,0,none⟩) m m]):=mesh_has NB.out MB.out (HV5.out.far nVR) (HU5.out.far nUR) (HT5.out.far nTR)
   have hL:=run_loadVar_mid (P:=Tryz.prog) _ R 0 34 [.slice (some ⟨V,0,none⟩) n n,.slice (some ⟨U,0,none⟩) n n,.slice (some ⟨T,0,none⟩) m m] _ HR9.cell Tryz.underlying34 rfl (by kernel_rfl)
   exact bodyPost_ret (v := .tuple #[.agg ([.slice (some ⟨V,0,none⟩) n n,.slice (some ⟨U,0,none⟩) n n,.slice (some ⟨T,0,none⟩) m m]:List Value).toArray,.int .i64 0]) (res_two Tryz.results116 rfl hL rfl) rfl ⟨⟨_,rfl,HM9,HD.out,.inr ⟨_,_,rfl,GFR.out.1⟩,.inr ⟨_,_,rfl,GFR.out.2.1⟩,.inr ⟨_,_,rfl,GFR.out.2.2⟩⟩,HB9⟩
  ·have hd:(z != 0)=true:=by simpa using hz
   have HD:=Lib.hid (NO.out hz)
   clear MK NO HX5
   have oR:=HR5.out
   have R0:=oR.at 0 _ rfl
   have Rf0:=oR.ok 0 (by simp)
   have R1:=oR.at 1 _ rfl
   have Rf1:=oR.ok 1 (by simp)
   have R2:=oR.at 2 _ rfl
   have Rf2:=oR.ok 2 (by simp)
   have Rl:=oR.lt
   clear oR
   go_wp2_with (fail)
   have hL:=run_loadVar_mid (P:=Tryz.prog) _ R 0 34 [.slice none 0 0,.slice none 0 0,.slice none 0 0] _ HR5.out.cell Tryz.underlying34 rfl (by kernel_rfl)
   exact bodyPost_ret (v := .tuple #[.agg ([.slice none 0 0,.slice none 0 0,.slice none 0 0]:List Value).toArray,.int .i64 z]) (res_two Tryz.results116 rfl hL rfl) rfl ⟨⟨nilM,rfl,nilM_at _,HD.out,FrU.nil _⟩,HB5.out⟩
 ·have ez:z=e1:=by
   have h:=DE.out
   by_cases a:N<T
   ·rw[if_pos a] at hee h;omega
   ·rw[if_neg a] at h hee
    by_cases b:T<N
    ·rw[if_pos b] at hee h;omega
    ·rw[if_neg b] at hee;exact absurd hee.symm h1
  subst ez
  have hd:(z != 0)=true:=by simpa using h1
  have HD:=Lib.hid (NO.out h1)
  clear MK NO DE hee h1
  go_enter Tryz.func116,Tryz.ntmps116
  go_upto_region 1 with fail
  obtain⟨W0,hW⟩:∃ W0,W0=(w.alloc (.cells #[.slice none 0 0,.slice none 0 0,.slice none 0 0] 34)):=⟨_,rfl⟩
  have hB0:Below w.heap.size w W0:=hW ▸ (Below.al (Below.refl _ _))
  have HR:Hid (Own w.heap.size ([.slice none 0 0,.slice none 0 0,.slice none 0 0]) W0):=Lib.hid (hW ▸ (show Own w.heap.size ([.slice none 0 0,.slice none 0 0,.slice none 0 0]) (w.alloc (.cells #[.slice none 0 0,.slice none 0 0,.slice none 0 0] 34)) from Own.newAt (by simp)))
  rw[← hW]
  clear hW
  obtain⟨R,eR⟩:∃ X,X=w.heap.size:=⟨_,rfl⟩
  rw[← eR] at HR ⊢
  have Rw:w.heap.size≤R:=by omega
  clear eR
  have HQ0:=Lib.hid (HQ.out.later hB0)
  clear HQ
  go_wp2_with (fail)
  go_at_call 69
  refine (NW.out _ HQ0.out).mono ?_
  rintro e w1 ⟨K,D,rfl,hKw,hDw,hDl,hrd,hb⟩
  have HR1:=Lib.hid (HR.out.later hb)
  have nRK:R≠K:=by have:=HR.out.lt;omega
  have hB1:=Below.go hB0 hb
  have KW:w.heap.size≤K:=by have:=hB0.size;omega
  have HRD:=Lib.hid hrd
  have HDl:=Lib.hid hDl
  clear hb hB0 HQ0 HR NW hrd hKw hDw hDl
  go_upto_region 2 with fail
  obtain⟨w2,hW⟩:∃ w2,w2=(w1.alloc (.cells #[.pointer (some ⟨K,0,none⟩)] 195)):=⟨_,rfl⟩
  have hBx:Below w1.heap.size w1 w2:=hW ▸ (Below.al (Below.refl _ _))
  have HP:Hid (Own w1.heap.size ([.pointer (some ⟨K,0,none⟩)]) w2):=Lib.hid (hW ▸ (show Own w1.heap.size ([.pointer (some ⟨K,0,none⟩)]) (w1.alloc (.cells #[.pointer (some ⟨K,0,none⟩)] 195)) from Own.newAt (by simp)))
  rw[← hW]
  clear hW
  obtain⟨P,eP⟩:∃ X,X=w1.heap.size:=⟨_,rfl⟩
  rw[← eP] at HP ⊢
  have Pw:w1.heap.size≤P:=by omega
  clear eP
  have nPK:P≠K:=by have:=HRD.out.lt;omega
  have HR2:=Lib.hid (HR1.out.later hBx);have HRD2:=Lib.hid (HRD.out.later hBx);have hD2:=Nat.lt_of_lt_of_le HDl.out hBx.size
  have hB2:=Below.go hB1 hBx
  clear HR1 HRD HDl hBx hB1 Pw
  have oP:=HP.out
  have P0:=oP.at 0 _ rfl
  have Pl:=oP.lt
  clear oP
  go_wp2_with (fail)
  go_at_call 142
  refine (MN.out K D _ HRD2.out hD2).mono ?_
  rintro e w3 ⟨⟨V,U,T,rfl,⟨gv,gu,gt⟩,m1,m2,m3⟩,h1,h2⟩
  have nVR:V≠R:=by have:=HR2.out.lt;omega
  have nUR:U≠R:=by have:=HR2.out.lt;omega
  have nTR:T≠R:=by have:=HR2.out.lt;omega
  have HV3:=Lib.hid m1;have HU3:=Lib.hid m2;have HT3:=Lib.hid m3
  have HRD3:=Lib.hid h1
  have HR3:=Lib.hid (HR2.out.but h2 nRK);have HP3:=Lib.hid (HP.out.but h2 nPK)
  have hB3:=hB2.trans (h2.below.mono KW)
  clear h1 h2 m1 m2 m3 gv gu gt HRD2 HR2 HP hB2 hD2 P0 Pl MN
  go_upto_region 3 with fail
  obtain⟨w4,hW⟩:∃ w4,w4=(w3.alloc (.cells #[.slice (some ⟨V,0,none⟩) n n,.slice (some ⟨U,0,none⟩) n n,.slice (some ⟨T,0,none⟩) m m] 34)):=⟨_,rfl⟩
  have hBx:Below w3.heap.size w3 w4:=hW ▸ (Below.al (Below.refl _ _))
  have HX:Hid (Own w3.heap.size ([.slice (some ⟨V,0,none⟩) n n,.slice (some ⟨U,0,none⟩) n n,.slice (some ⟨T,0,none⟩) m m]) w4):=Lib.hid (hW ▸ (show Own w3.heap.size ([.slice (some ⟨V,0,none⟩) n n,.slice (some ⟨U,0,none⟩) n n,.slice (some ⟨T,0,none⟩) m m]) (w3.alloc (.cells #[.slice (some ⟨V,0,none⟩) n n,.slice (some ⟨U,0,none⟩) n n,.slice (some ⟨T,0,none⟩) m m] 34)) from Own.newAt (by simp)))
  rw[← hW]
  clear hW
  obtain⟨X,eX⟩:∃ X,X=w3.heap.size:=⟨_,rfl⟩
  rw[← eX] at HX ⊢
  have Xw:w3.heap.size≤X:=by omega
  clear eX
  have HR4:=Lib.hid (HR3.out.later hBx);have HP4:=Lib.hid (HP3.out.later hBx);have HV4:=Lib.hid (HV3.out.later hBx);have HU4:=Lib.hid (HU3.out.later hBx);have HT4:=Lib.hid (HT3.out.later hBx)
  have EN:=Lib.hid (End_any (HRD3.out.later hBx))
  have HB4:=Lib.hid (Below.go hB3 hBx)
  rw[dec_end,EE.out] at EN
  clear HR3 HP3 HV3 HU3 HT3 HRD3 hB3 hBx Xw
  have oP:=HP4.out
  have P0:=oP.at 0 _ rfl
  have Pl:=oP.lt
  clear oP
  go_wp2_with (fail)
  go_at_call 71
  refine EN.out.mono ?_
  rintro e y5 ⟨rfl,hw⟩
  subst hw
  clear EN P0 Pl HP4
  have oR:=HR4.out
  have R0:=oR.at 0 _ rfl
  have Rf0:=oR.ok 0 (by simp)
  have R1:=oR.at 1 _ rfl
  have Rf1:=oR.ok 1 (by simp)
  have R2:=oR.at 2 _ rfl
  have Rf2:=oR.ok 2 (by simp)
  have Rl:=oR.lt
  clear oR
  go_wp2_with (fail)
  have hL:=run_loadVar_mid (P:=Tryz.prog) _ R 0 34 [.slice none 0 0,.slice none 0 0,.slice none 0 0] _ HR4.out.cell Tryz.underlying34 rfl (by kernel_rfl)
  exact bodyPost_ret (v := .tuple #[.agg ([.slice none 0 0,.slice none 0 0,.slice none 0 0]:List Value).toArray,.int .i64 z]) (res_two Tryz.results116 rfl hL rfl) rfl ⟨⟨nilM,rfl,nilM_at _,HD.out,FrU.nil _⟩,HB4.out⟩
end Go.Proofs.YtbilamnnneddmaaGreatDoor
namespace Go.Proofs.YtbilamnnneddmaaGreatDoor
set_option linter.unusedVariables false
set_option maxRecDepth 2000
set_option linter.unusedSimpArgs false
open Go.RowKit
attribute [local go_sem] setCell_self
theorem NmS.but {s n K:Nat} {q:Option Addr} {f:Nat→Int} {w w':World} (h:NmS w s q n f) (hb:But K w w') (hq:∀ b o,q=some ⟨b,o,none⟩→b≠K):NmS w' s q n f:=by
 rcases h with h | ⟨b,off,h1,h2⟩
 ·exact .inl h
 ·exact .inr ⟨b,off,h1,h2.but hb (hq b off h1)⟩
end Go.Proofs.YtbilamnnneddmaaGreatDoor
namespace Go.Proofs.YtbilamnnneddmaaGreatDoor
set_option linter.unusedVariables false
set_option maxRecDepth 2000
set_option linter.unusedSimpArgs false
open Go.RowKit
end Go.Proofs.YtbilamnnneddmaaGreatDoor
