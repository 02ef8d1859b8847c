import Derived.Test.YtbilamnnneddmaaGreatDoorZDOx
import Derived.Lib.Hide
import Derived.Deep.Onto
import Derived.LoopN
import Derived.LoopTactic
import Derived.Deep.RegionHeld3
import Derived.Deep.QuietTactic
import Derived.BigQuiet
import Derived.Laws.EntriesVeiled
import Derived.StillTailTactics
import Derived.Lib.SliceRun
import Derived.Test.YtbilamnnneddmaaGreatDoorZHUx
import Derived.Great.BuildSlice
import Derived.Laws.MakeOwn
namespace Go.Proofs.YtbilamnnneddmaaGreatDoor
set_option linter.unusedVariables false
set_option maxRecDepth 2000
set_option linter.unusedSimpArgs false
open Go.RowKit
def FrQ (B n:Nat) (q:Option Addr):Prop:=n=0∨∃ b o,q=some ⟨b,o,none⟩∧B≤b
theorem FrQ.mono {B C n:Nat} {q:Option Addr} (h:FrQ C n q) (hb:B≤C):FrQ B n q:=h.imp id fun ⟨b,o,e,hc⟩=>⟨b,o,e,Nat.le_trans hb hc⟩
theorem FrQ.row {w:World} {base B s n m c:Nat} {e:TypeId} {q:Option Addr} {xs:List Value} (h:w.ownsRow base e s (.slice q n c) m xs) (hb:B≤base):FrQ B n q:=by
 rcases h.2 with ⟨h1,_⟩ | ⟨g,_,_,h1,h2,_⟩
 ·injection h1 with _ h1
  exact .inl h1
 ·injection h1 with h1
  exact .inr ⟨g,0,h1,Nat.le_trans hb h2⟩
def NmS (w:World) (s:Nat) (q:Option Addr) (n:Nat) (f:Nat→Int):Prop:=n=0∨∃ b off,q=some ⟨b,off,none⟩∧Has b off (nums .i64 f (n*s)) w
theorem NmS.later {w w':World} {s:Nat} {q:Option Addr} {n:Nat} {f:Nat→Int} (h:NmS w s q n f) (hb:Below w.heap.size w w'):NmS w' s q n f:=by
 rcases h with h | ⟨b,off,h1,h2⟩
 ·exact .inl h
 ·exact .inr ⟨b,off,h1,h2.later hb⟩
theorem NmS.at {w:World} {s:Nat} {q:Option Addr} {n i:Nat} {f:Nat→Int} (h:NmS w s q n f) (hi:i<n):∃ D o,q=some ⟨D,o,none⟩∧D<w.heap.size∧Has D (o+i*s) (nums .i64 (fun j=>f (i*s+j)) s) w:=by
 obtain⟨D,o,h1,h2⟩:=h.resolve_left (by omega)
 refine⟨D,o,h1,h2.lt,has_drop h2 ?_⟩
 have:(i+1)*s≤n*s:=Nat.mul_le_mul_right _ hi
 rw[Nat.succ_mul] at this
 exact this
theorem NmS.at3 {w:World} {q:Option Addr} {n i:Nat} {f:Nat→Int} (h:NmS w 3 q n f) (hi:i<n):∃ D o,q=some ⟨D,o,none⟩∧D<w.heap.size∧w.cell? ⟨D,o+i*3,none⟩=some (.int .i64 (f (i*3)))∧w.cell? ⟨D,o+i*3+1,none⟩=some (.int .i64 (f (i*3+1)))∧w.cell? ⟨D,o+i*3+2,none⟩=some (.int .i64 (f (i*3+2))):=by
 obtain⟨D,o,h1,h2,h3⟩:=h.at hi
 exact⟨D,o,h1,h2,h3.at 0 _ rfl,h3.at 1 _ rfl,h3.at 2 _ rfl⟩
theorem NmS.at2 {w:World} {q:Option Addr} {n i:Nat} {f:Nat→Int} (h:NmS w 2 q n f) (hi:i<n):∃ D o,q=some ⟨D,o,none⟩∧D<w.heap.size∧w.cell? ⟨D,o+i*2,none⟩=some (.int .i64 (f (i*2)))∧w.cell? ⟨D,o+i*2+1,none⟩=some (.int .i64 (f (i*2+1))):=by
 obtain⟨D,o,h1,h2,h3⟩:=h.at hi
 exact⟨D,o,h1,h2,h3.at 0 _ rfl,h3.at 1 _ rfl⟩
theorem NmS.take {w:World} {s:Nat} {q:Option Addr} {n m:Nat} {f:Nat→Int} (h:NmS w s q n f) (hm:m≤n):NmS w s q m f:=by
 by_cases h0:m=0
 ·exact .inl h0
 ·obtain⟨b,off,h1,h2⟩:=h.resolve_left (by omega)
  exact .inr ⟨b,off,h1,has_take h2 (Nat.mul_le_mul_right _ hm)⟩
structure Msh where
 qv:Option Addr
 nv:Nat
 cv:Nat
 V:Nat→Int
 qu:Option Addr
 nu:Nat
 cu:Nat
 U:Nat→Int
 qt:Option Addr
 nt:Nat
 ct:Nat
 R:Nat→Int
structure MeshAt (M:Msh) (w:World):Prop where
 v:NmS w 3 M.qv M.nv M.V
 u:NmS w 2 M.qu M.nu M.U
 t:NmS w 3 M.qt M.nt M.R
 lv:M.nv≤M.cv
 lu:M.nu≤M.cu
 lt:M.nt≤M.ct
 mv:M.cv≤9223372036854775807
 mu:M.cu≤9223372036854775807
 mt:M.ct≤9223372036854775807
theorem MeshAt.later {M:Msh} {w w':World} (h:MeshAt M w) (hb:Below w.heap.size w w'):MeshAt M w':=⟨h.v.later hb,h.u.later hb,h.t.later hb,h.lv,h.lu,h.lt,h.mv,h.mu,h.mt⟩
def okP (x y z:Int):Bool:=decide ((-4096≤x∧x≤4096)∧(-4096≤y∧y≤4096)∧(-4096≤z∧z≤4096))
def okU (x y:Int):Bool:=decide ((0≤x∧x≤65535)∧(0≤y∧y≤65535))
def okT (n:Nat) (x y z:Int):Bool:=decide ((0≤x∧x<(n:Int))∧(0≤y∧y<(n:Int))∧(0≤z∧z<(n:Int))∧x≠y∧y≠z∧z≠x)
def okPs (V:Nat→Int) (i:Nat):Bool:=okP (V (i*3)) (V (i*3+1)) (V (i*3+2))
def okUs (U:Nat→Int) (i:Nat):Bool:=okU (U (i*2)) (U (i*2+1))
def okTs (n:Nat) (R:Nat→Int) (i:Nat):Bool:=okT n (R (i*3)) (R (i*3+1)) (R (i*3+2))
def chkF (nv nu nt:Nat) (V U R:Nat→Int):Int :=
 if 64<nv∨64<nt then 3 else if nv=0∨nt=0∨nu≠nv then 5 else if allB (okPs V) nv=false then 8 else if allB (okUs U) nu=false then 5 else if allB (okTs nv R) nt=false then 5 else 0
def chkM (M:Msh):Int:=chkF M.nv M.nu M.nt M.V M.U M.R
structure GoodM (nv nu nt:Nat) (V U R:Nat→Int):Prop where
 hn:1≤nv∧nv≤64
 ht:1≤nt∧nt≤64
 hu:nu=nv
 v:∀ j,j<nv*3 → -4096≤V j∧V j≤4096
 u:∀ j,j<nu*2→0≤U j∧U j≤65535
 t:∀ j,j<nt*3→0≤R j∧R j<(nv:Int)
theorem by3 {p:Nat→Prop} {n:Nat} (h:∀ i,i<n→p (i*3)∧p (i*3+1)∧p (i*3+2)) (j:Nat) (hj:j<n*3):p j:=by
 have h1:=h (j/3) (by omega)
 rcases (show j%3=0∨j%3=1∨j%3=2 by omega) with e | e | e
 ·have:=h1.1;rwa [show j/3*3=j by omega] at this
 ·have:=h1.2.1;rwa [show j/3*3+1=j by omega] at this
 ·have:=h1.2.2;rwa [show j/3*3+2=j by omega] at this
theorem by2 {p:Nat→Prop} {n:Nat} (h:∀ i,i<n→p (i*2)∧p (i*2+1)) (j:Nat) (hj:j<n*2):p j:=by
 have h1:=h (j/2) (by omega)
 rcases (show j%2=0∨j%2=1 by omega) with e | e
 ·have:=h1.1;rwa [show j/2*2=j by omega] at this
 ·have:=h1.2;rwa [show j/2*2+1=j by omega] at this
theorem chk_1 {nv nu nt:Nat} {V U R:Nat→Int} (h:64<nv∨64<nt):chkF nv nu nt V U R=3:=if_pos h
theorem chk_2 {nv nu nt:Nat} {V U R:Nat→Int} (h:¬(64<nv∨64<nt)) (h2:nv=0∨nt=0∨nu≠nv):chkF nv nu nt V U R=5:=by unfold chkF;rw[if_neg h,if_pos h2]
theorem chk_3 {nv nu nt:Nat} {V U R:Nat→Int} (h:¬(64<nv∨64<nt)) (h2:¬(nv=0∨nt=0∨nu≠nv)) (h3:allB (okPs V) nv=false):chkF nv nu nt V U R=8:=by unfold chkF;rw[if_neg h,if_neg h2,if_pos h3]
theorem chk_4 {nv nu nt:Nat} {V U R:Nat→Int} (h:¬(64<nv∨64<nt)) (h2:¬(nv=0∨nt=0∨nu≠nv)) (h3:allB (okPs V) nv=true) (h4:allB (okUs U) nu=false):chkF nv nu nt V U R=5:=by unfold chkF;rw[if_neg h,if_neg h2,if_neg (by simp[h3]),if_pos h4]
theorem chk_5 {nv nu nt:Nat} {V U R:Nat→Int} (h:¬(64<nv∨64<nt)) (h2:¬(nv=0∨nt=0∨nu≠nv)) (h3:allB (okPs V) nv=true) (h4:allB (okUs U) nu=true) (h5:allB (okTs nv R) nt=false):chkF nv nu nt V U R=5:=by unfold chkF;rw[if_neg h,if_neg h2,if_neg (by simp[h3]),if_neg (by simp[h4]),if_pos h5]
theorem chk_6 {nv nu nt:Nat} {V U R:Nat→Int} (h:¬(64<nv∨64<nt)) (h2:¬(nv=0∨nt=0∨nu≠nv)) (h3:allB (okPs V) nv=true) (h4:allB (okUs U) nu=true) (h5:allB (okTs nv R) nt=true):chkF nv nu nt V U R=0:=by unfold chkF;rw[if_neg h,if_neg h2,if_neg (by simp[h3]),if_neg (by simp[h4]),if_neg (by simp[h5])]
theorem chk_good {nv nu nt:Nat} {V U R:Nat→Int} (h:chkF nv nu nt V U R=0):GoodM nv nu nt V U R:=by
 by_cases h1:64<nv∨64<nt
 ·rw[chk_1 h1] at h;omega
 by_cases h2:nv=0∨nt=0∨nu≠nv
 ·rw[chk_2 h1 h2] at h;omega
 cases h3:allB (okPs V) nv with
 | false=>rw[chk_3 h1 h2 h3] at h;omega
 | true =>
  cases h4:allB (okUs U) nu with
  | false=>rw[chk_4 h1 h2 h3 h4] at h;omega
  | true =>
   cases h5:allB (okTs nv R) nt with
   | false=>rw[chk_5 h1 h2 h3 h4 h5] at h;omega
   | true =>
    have a3:=allB_iff.1 h3;have a4:=allB_iff.1 h4;have a5:=allB_iff.1 h5
    refine⟨by omega,by omega,by omega,by3 fun i hi=>?_,by2 fun i hi=>?_,by3 fun i hi=>?_⟩
    ·have:=of_decide_eq_true (a3 i hi);exact this
    ·have:=of_decide_eq_true (a4 i hi);exact this
    ·have:=of_decide_eq_true (a5 i hi);exact⟨this.1,this.2.1,this.2.2.1⟩
theorem chk_congr {nv nu nt:Nat} {V U R V' U' R':Nat→Int} (hv:∀ j,j<nv*3→V j=V' j) (hu:∀ j,j<nu*2→U j=U' j) (ht:∀ j,j<nt*3→R j=R' j):chkF nv nu nt V U R=chkF nv nu nt V' U' R':=by
 have e1:allB (okPs V) nv=allB (okPs V') nv:=allB_congr fun i hi=>by unfold okPs;rw[hv _ (by omega),hv _ (by omega),hv _ (by omega)]
 have e2:allB (okUs U) nu=allB (okUs U') nu:=allB_congr fun i hi=>by unfold okUs;rw[hu _ (by omega),hu _ (by omega)]
 have e3:allB (okTs nv R) nt=allB (okTs nv R') nt:=allB_congr fun i hi=>by unfold okTs;rw[ht _ (by omega),ht _ (by omega),ht _ (by omega)]
 unfold chkF
 rw[e1,e2,e3]
end Go.Proofs.YtbilamnnneddmaaGreatDoor
namespace Go.Proofs.YtbilamnnneddmaaGreatDoor
set_option linter.unusedVariables false
set_option maxRecDepth 2000
set_option linter.unusedSimpArgs false
open Go.RowKit
attribute [local go_sem ↓] run_mn3 run_mx3
theorem ret_bool {b c:Bool} (h:(b=true↔¬(c=true))):Ending.returned (.bool b)=Ending.returned (.bool (!c)):=by
 cases b<;>cases c<;>simp at h ⊢
theorem okP_iff {x y z:Int}:okP x y z=true↔(-4096≤x∧x≤4096)∧(-4096≤y∧y≤4096)∧(-4096≤z∧z≤4096):=decide_eq_true_iff
theorem okU_iff {x y:Int}:okU x y=true↔(0≤x∧x≤65535)∧(0≤y∧y≤65535):=decide_eq_true_iff
theorem okT_iff {n:Nat} {x y z:Int}:okT n x y z=true↔(0≤x∧x<(n:Int))∧(0≤y∧y<(n:Int))∧(0≤z∧z<(n:Int))∧x≠y∧y≠z∧z≠x:=decide_eq_true_iff
set_option maxHeartbeats 2000000 in
theorem offGrid_any (x y z:Int) (w:World):Calls Tryz.prog 173 #[.agg #[.int .i64 x,.int .i64 y,.int .i64 z]] w fun e w'=>e = .returned (.bool (!okP x y z))∧Below w.heap.size w w':=by
 have HE:=Lib.hid (@okP_iff x y z)
 generalize okP x y z=b at *
 go_enter Tryz.func173,Tryz.ntmps173
 go_wp2_with (fail)
 all_goals (go_ret;exact⟨ret_bool (by rw[HE.out];simp[mn3_lt,mx3_gt] at *;omega),Below.al (Below.refl _ _)⟩)
set_option maxHeartbeats 2000000 in
theorem offTexture_any (x y:Int) (w:World):Calls Tryz.prog 176 #[.agg #[.int .i64 x,.int .i64 y]] w fun e w'=>e = .returned (.bool (!okU x y))∧Below w.heap.size w w':=by
 have HE:=Lib.hid (@okU_iff x y)
 generalize okU x y=b at *
 go_enter Tryz.func176,Tryz.ntmps176
 go_wp2_with (fail)
 all_goals (go_ret;exact⟨ret_bool (by rw[HE.out];simp;omega),Below.al (Below.refl _ _)⟩)
set_option maxHeartbeats 2000000 in
theorem noTriangle_any (n:Nat) (x y z:Int) (w:World):Calls Tryz.prog 179 #[.agg #[.int .i64 x,.int .i64 y,.int .i64 z],.int .i64 n] w fun e w'=>e = .returned (.bool (!okT n x y z))∧Below w.heap.size w w':=by
 have HE:=Lib.hid (@okT_iff n x y z)
 generalize okT n x y z=b at *
 have M1:=Lib.hid (mn3_lt x y z);have M2:=Lib.hid (mx3_gt x y z ((n:Int) - 1))
 go_enter Tryz.func179,Tryz.ntmps179
 go_wp2_with (fail)
 all_goals (go_ret;exact⟨ret_bool (by have m1:=M1.out 0;have m2:=M2.out;rw[HE.out];simp;omega),Below.al (Below.refl _ _)⟩)
end Go.Proofs.YtbilamnnneddmaaGreatDoor
namespace Go.Proofs.YtbilamnnneddmaaGreatDoor
set_option linter.unusedVariables false
set_option maxRecDepth 2000
set_option linter.unusedSimpArgs false
open Go.RowKit
attribute [local go_sem] nums_length
set_option maxHeartbeats 2000000 in
theorem fault51_any (B nv cv:Nat) (qv:Option Addr) (x y z:Int) (w:World) (hB:w.cell? ⟨B,0,none⟩=some (.slice qv nv cv)) (Bl:B<w.heap.size):Calls Tryz.prog 178 #[.agg #[.int .i64 x,.int .i64 y,.int .i64 z],.pointer (some ⟨B,0,none⟩)] w fun e w'=>e = .returned (.bool (!okT nv x y z))∧Below w.heap.size w w':=by
 have F:=Lib.hid (noTriangle_any nv x y z)
 go_enter Tryz.func178,Tryz.ntmps178
 go_wp2_with (fail)
 go_at_call 179
 refine (F.out _).mono ?_
 rintro e w1 ⟨rfl,hb⟩
 have hB2:=Below.go (Below.al (o := .cells #[.int .i64 x,.int .i64 y,.int .i64 z] 37) (Below.refl _ _)) hb
 clear hb F hB Bl
 go_wp2_with (fail)
 go_ret
 exact⟨rfl,hB2⟩
set_option maxHeartbeats 4000000 in
theorem IndexP_any (q:Option Addr) (n c:Nat) (V:Nat→Int) (hnc:n≤c) (hc:c≤9223372036854775807) (w:World) (hq:NmS w 3 q n V) :
  Calls Tryz.prog 188 #[.slice q n c,.func (.func 173) #[] #[]] w fun e w'=>∃ z:Int,e = .returned (.int .i64 z)∧(0≤z↔allB (okPs V) n=false)∧Below w.heap.size w w':=by
 have HNC:=Lib.hid hnc;have HC:=Lib.hid hc;have HQ:=Lib.hid hq
 clear hnc hc hq
 go_enter Tryz.func188,Tryz.ntmps188
 go_wp2_with (fail)
 go_loopw [5,8] (fun _ iv wr=>∃ (k:Nat),k≤n∧iv = .int .i64 k∧Hid (∀ j,j<k→okPs V j=true)∧Hid (Below w.heap.size w wr)) (fun _ iv _=>(n - (intOf iv).toNat))
 case atStart=>exact⟨0,Nat.zero_le _,rfl,Lib.hid (fun j hj=>absurd hj (Nat.not_lt_zero j)),Lib.hid (Below.refl _ _)⟩
 case round =>
  obtain⟨k,hk,rfl,ALL,HB⟩:=hrel
  by_cases hlt:k<n
  ·obtain⟨D,o,rfl,hD,hh⟩:=(HQ.out.later HB.out).at hlt
   have hki:(k:Int)<(n:Int):=by omega
   have k0:(0:Int)≤(k:Int):=by omega
   have wk:IntKind.i64.wrap ((k:Int)+1)=(k:Int)+1:=IntWalk.i64_in _ (by have:=HNC.out;have:=HC.out;omega)
   have c0:=hh.at 0 _ rfl;have c1:=hh.at 1 _ rfl;have c2:=hh.at 2 _ rfl
   clear hh
   rw[Nat.add_zero] at c0
   have HLT:=Lib.hid hlt
   clear hk hlt
   go_wp2_with (fail)
   go_at_call 173
   refine (offGrid_any _ _ _ _).mono ?_
   rintro e w1 ⟨rfl,hb⟩
   have HB1:=Lib.hid (Below.go HB.out hb)
   clear hb HB c0 c1 c2 hD
   obtain⟨b,eb⟩:∃ b,okPs V k=b:=⟨_,rfl⟩
   rw[show okP (V (k*3)) (V (k*3+1)) (V (k*3+2))=b from eb]
   cases b with
   | true =>
    have ALL2:Hid (∀ j,j<k+1→okPs V j=true):=Lib.hid fun j hj=>(Nat.lt_succ_iff_lt_or_eq.1 hj).elim (ALL.out j) (fun e=>by rw[e];exact eb)
    clear eb ALL
    go_wp2_with (fail)
    go_roundw
    case rel=>(first | exact⟨k+1,HLT.out,by go_num,ALL2,HB1⟩ | ((repeat apply Exists.intro);exact⟨⟨k+1,HLT.out,by go_num,ALL2,HB1⟩,rfl⟩))
    case measure=>(have:=HLT.out;simp[intOf];omega)
   | false =>
    have NO:Hid ((0:Int)≤(k:Int)↔allB (okPs V) n=false):=Lib.hid ⟨fun _=>allB_not HLT.out eb,fun _=>k0⟩
    clear eb ALL
    go_wp2_with (fail)
    go_ret
    exact⟨k,rfl,NO.out,HB1.out⟩
  ·obtain rfl:k=n:=by omega
   have YES:Hid ((0:Int) ≤ -1↔allB (okPs V) k=false):=Lib.hid ⟨fun h=>by omega,fun h=>by rw[allB_iff.2 ALL.out] at h;cases h⟩
   clear hlt hk ALL
   go_wp2_with (fail)
   go_ret
   exact⟨-1,rfl,YES.out,HB.out⟩
set_option maxHeartbeats 2000000 in
theorem ContP_any (q:Option Addr) (n c:Nat) (V:Nat→Int) (hnc:n≤c) (hc:c≤9223372036854775807) (w:World) (hq:NmS w 3 q n V) :
  Calls Tryz.prog 172 #[.slice q n c,.func (.func 173) #[] #[]] w fun e w'=>e = .returned (.bool (!allB (okPs V) n))∧Below w.heap.size w w':=by
 have F:=Lib.hid (IndexP_any q n c V hnc hc w hq)
 clear hnc hc hq
 go_enter Tryz.func172,Tryz.ntmps172
 go_wp2_with (fail)
 go_at_call 188
 refine F.out.mono ?_
 rintro e w1 ⟨z,rfl,hz,hb⟩
 clear F
 have R:Hid (decide (0≤z) = !allB (okPs V) n):=Lib.hid (by
  cases h:allB (okPs V) n with
  | false=>rw[h] at hz;simpa using hz
  | true=>rw[h] at hz;simpa using hz)
 clear hz
 go_wp2_with (fail)
 go_ret
 exact⟨by rw[← R.out];rfl,hb⟩
set_option maxHeartbeats 4000000 in
theorem IndexU_any (q:Option Addr) (n c:Nat) (V:Nat→Int) (hnc:n≤c) (hc:c≤9223372036854775807) (w:World) (hq:NmS w 2 q n V) :
  Calls Tryz.prog 189 #[.slice q n c,.func (.func 176) #[] #[]] w fun e w'=>∃ z:Int,e = .returned (.int .i64 z)∧(0≤z↔allB (okUs V) n=false)∧Below w.heap.size w w':=by
 have HNC:=Lib.hid hnc;have HC:=Lib.hid hc;have HQ:=Lib.hid hq
 clear hnc hc hq
 go_enter Tryz.func189,Tryz.ntmps189
 go_wp2_with (fail)
 go_loopw [5,8] (fun _ iv wr=>∃ (k:Nat),k≤n∧iv = .int .i64 k∧Hid (∀ j,j<k→okUs V j=true)∧Hid (Below w.heap.size w wr)) (fun _ iv _=>(n - (intOf iv).toNat))
 case atStart=>exact⟨0,Nat.zero_le _,rfl,Lib.hid (fun j hj=>absurd hj (Nat.not_lt_zero j)),Lib.hid (Below.refl _ _)⟩
 case round =>
  obtain⟨k,hk,rfl,ALL,HB⟩:=hrel
  by_cases hlt:k<n
  ·obtain⟨D,o,rfl,hD,hh⟩:=(HQ.out.later HB.out).at hlt
   have hki:(k:Int)<(n:Int):=by omega
   have k0:(0:Int)≤(k:Int):=by omega
   have wk:IntKind.i64.wrap ((k:Int)+1)=(k:Int)+1:=IntWalk.i64_in _ (by have:=HNC.out;have:=HC.out;omega)
   have c0:=hh.at 0 _ rfl;have c1:=hh.at 1 _ rfl
   clear hh
   rw[Nat.add_zero] at c0
   have HLT:=Lib.hid hlt
   clear hk hlt
   go_wp2_with (fail)
   go_at_call 176
   refine (offTexture_any _ _ _).mono ?_
   rintro e w1 ⟨rfl,hb⟩
   have HB1:=Lib.hid (Below.go HB.out hb)
   clear hb HB c0 c1 hD
   obtain⟨b,eb⟩:∃ b,okUs V k=b:=⟨_,rfl⟩
   rw[show okU (V (k*2)) (V (k*2+1))=b from eb]
   cases b with
   | true =>
    have ALL2:Hid (∀ j,j<k+1→okUs V j=true):=Lib.hid fun j hj=>(Nat.lt_succ_iff_lt_or_eq.1 hj).elim (ALL.out j) (fun e=>by rw[e];exact eb)
    clear eb ALL
    go_wp2_with (fail)
    go_roundw
    case rel=>(first | exact⟨k+1,HLT.out,by go_num,ALL2,HB1⟩ | ((repeat apply Exists.intro);exact⟨⟨k+1,HLT.out,by go_num,ALL2,HB1⟩,rfl⟩))
    case measure=>(have:=HLT.out;simp[intOf];omega)
   | false =>
    have NO:Hid ((0:Int)≤(k:Int)↔allB (okUs V) n=false):=Lib.hid ⟨fun _=>allB_not HLT.out eb,fun _=>k0⟩
    clear eb ALL
    go_wp2_with (fail)
    go_ret
    exact⟨k,rfl,NO.out,HB1.out⟩
  ·obtain rfl:k=n:=by omega
   have YES:Hid ((0:Int) ≤ -1↔allB (okUs V) k=false):=Lib.hid ⟨fun h=>by omega,fun h=>by rw[allB_iff.2 ALL.out] at h;cases h⟩
   clear hlt hk ALL
   go_wp2_with (fail)
   go_ret
   exact⟨-1,rfl,YES.out,HB.out⟩
set_option maxHeartbeats 2000000 in
theorem ContU_any (q:Option Addr) (n c:Nat) (V:Nat→Int) (hnc:n≤c) (hc:c≤9223372036854775807) (w:World) (hq:NmS w 2 q n V) :
  Calls Tryz.prog 175 #[.slice q n c,.func (.func 176) #[] #[]] w fun e w'=>e = .returned (.bool (!allB (okUs V) n))∧Below w.heap.size w w':=by
 have F:=Lib.hid (IndexU_any q n c V hnc hc w hq)
 clear hnc hc hq
 go_enter Tryz.func175,Tryz.ntmps175
 go_wp2_with (fail)
 go_at_call 189
 refine F.out.mono ?_
 rintro e w1 ⟨z,rfl,hz,hb⟩
 clear F
 have R:Hid (decide (0≤z) = !allB (okUs V) n):=Lib.hid (by
  cases h:allB (okUs V) n with
  | false=>rw[h] at hz;simpa using hz
  | true=>rw[h] at hz;simpa using hz)
 clear hz
 go_wp2_with (fail)
 go_ret
 exact⟨by rw[← R.out];rfl,hb⟩
set_option maxHeartbeats 4000000 in
theorem IndexT_any (q:Option Addr) (n c:Nat) (V:Nat→Int) (B nv cv:Nat) (qv:Option Addr) (hnc:n≤c) (hc:c≤9223372036854775807) (w:World) (hq:NmS w 3 q n V) (hB:Has B 0 [.slice qv nv cv] w) :
  Calls Tryz.prog 180 #[.slice q n c,.func (.func 178) #[] #[.pointer (some ⟨B,0,none⟩)]] w fun e w'=>∃ z:Int,e = .returned (.int .i64 z)∧(0≤z↔allB (okTs nv V) n=false)∧Below w.heap.size w w':=by
 have HNC:=Lib.hid hnc;have HC:=Lib.hid hc;have HQ:=Lib.hid hq;have HBB:=Lib.hid hB
 clear hnc hc hq hB
 go_enter Tryz.func180,Tryz.ntmps180
 go_wp2_with (fail)
 go_loopw [5,8] (fun _ iv wr=>∃ (k:Nat),k≤n∧iv = .int .i64 k∧Hid (∀ j,j<k→okTs nv V j=true)∧Hid (Below w.heap.size w wr)) (fun _ iv _=>(n - (intOf iv).toNat))
 case atStart=>exact⟨0,Nat.zero_le _,rfl,Lib.hid (fun j hj=>absurd hj (Nat.not_lt_zero j)),Lib.hid (Below.refl _ _)⟩
 case round =>
  obtain⟨k,hk,rfl,ALL,HB⟩:=hrel
  by_cases hlt:k<n
  ·obtain⟨D,o,rfl,hD,hh⟩:=(HQ.out.later HB.out).at hlt
   have hki:(k:Int)<(n:Int):=by omega
   have k0:(0:Int)≤(k:Int):=by omega
   have wk:IntKind.i64.wrap ((k:Int)+1)=(k:Int)+1:=IntWalk.i64_in _ (by have:=HNC.out;have:=HC.out;omega)
   have c0:=hh.at 0 _ rfl;have c1:=hh.at 1 _ rfl;have c2:=hh.at 2 _ rfl
   clear hh
   rw[Nat.add_zero] at c0
   have HLT:=Lib.hid hlt
   clear hk hlt
   go_wp2_with (fail)
   go_at_call 178
   refine (fault51_any B nv cv qv _ _ _ _ ((HBB.out.later HB.out).at 0 _ rfl) (HBB.out.later HB.out).lt).mono ?_
   rintro e w1 ⟨rfl,hb⟩
   have HB1:=Lib.hid (Below.go HB.out hb)
   clear hb HB c0 c1 c2 hD
   obtain⟨b,eb⟩:∃ b,okTs nv V k=b:=⟨_,rfl⟩
   rw[show okT nv (V (k*3)) (V (k*3+1)) (V (k*3+2))=b from eb]
   cases b with
   | true =>
    have ALL2:Hid (∀ j,j<k+1→okTs nv V j=true):=Lib.hid fun j hj=>(Nat.lt_succ_iff_lt_or_eq.1 hj).elim (ALL.out j) (fun e=>by rw[e];exact eb)
    clear eb ALL
    go_wp2_with (fail)
    go_roundw
    case rel=>(first | exact⟨k+1,HLT.out,by go_num,ALL2,HB1⟩ | ((repeat apply Exists.intro);exact⟨⟨k+1,HLT.out,by go_num,ALL2,HB1⟩,rfl⟩))
    case measure=>(have:=HLT.out;simp[intOf];omega)
   | false =>
    have NO:Hid ((0:Int)≤(k:Int)↔allB (okTs nv V) n=false):=Lib.hid ⟨fun _=>allB_not HLT.out eb,fun _=>k0⟩
    clear eb ALL
    go_wp2_with (fail)
    go_ret
    exact⟨k,rfl,NO.out,HB1.out⟩
  ·obtain rfl:k=n:=by omega
   have YES:Hid ((0:Int) ≤ -1↔allB (okTs nv V) k=false):=Lib.hid ⟨fun h=>by omega,fun h=>by rw[allB_iff.2 ALL.out] at h;cases h⟩
   clear hlt hk ALL
   go_wp2_with (fail)
   go_ret
   exact⟨-1,rfl,YES.out,HB.out⟩
set_option maxHeartbeats 2000000 in
theorem ContT_any (q:Option Addr) (n c:Nat) (V:Nat→Int) (B nv cv:Nat) (qv:Option Addr) (hnc:n≤c) (hc:c≤9223372036854775807) (w:World) (hq:NmS w 3 q n V) (hB:Has B 0 [.slice qv nv cv] w) :
  Calls Tryz.prog 150 #[.slice q n c,.func (.func 178) #[] #[.pointer (some ⟨B,0,none⟩)]] w fun e w'=>e = .returned (.bool (!allB (okTs nv V) n))∧Below w.heap.size w w':=by
 have F:=Lib.hid (IndexT_any q n c V B nv cv qv hnc hc w hq hB)
 clear hnc hc hq hB
 go_enter Tryz.func150,Tryz.ntmps150
 go_wp2_with (fail)
 go_at_call 180
 refine F.out.mono ?_
 rintro e w1 ⟨z,rfl,hz,hb⟩
 clear F
 have R:Hid (decide (0≤z) = !allB (okTs nv V) n):=Lib.hid (by
  cases h:allB (okTs nv V) n with
  | false=>rw[h] at hz;simpa using hz
  | true=>rw[h] at hz;simpa using hz)
 clear hz
 go_wp2_with (fail)
 go_ret
 exact⟨by rw[← R.out];rfl,hb⟩
end Go.Proofs.YtbilamnnneddmaaGreatDoor
namespace Go.Proofs.YtbilamnnneddmaaGreatDoor
set_option linter.unusedVariables false
set_option maxRecDepth 2000
set_option linter.unusedSimpArgs false
open Go.RowKit
set_option maxHeartbeats 4000000 in
theorem faults_any (M:Msh) (w:World):Calls Tryz.prog 146 #[(.agg #[.slice M.qv M.nv M.cv,.slice M.qu M.nu M.cu,.slice M.qt M.nt M.ct])] w fun e w'=>∃ B L,e = .returned (.slice (some ⟨L,0,none⟩) 5 5)∧Has B 0 [.slice M.qv M.nv M.cv,.slice M.qu M.nu M.cu,.slice M.qt M.nt M.ct] w'∧Has L 0 [.func (.func 169) #[] #[.pointer (some ⟨B,0,none⟩)],.int .i64 3,.func (.func 170) #[] #[.pointer (some ⟨B,0,none⟩)],.int .i64 5,.func (.func 171) #[] #[.pointer (some ⟨B,0,none⟩)],.int .i64 8,.func (.func 174) #[] #[.pointer (some ⟨B,0,none⟩)],.int .i64 5,.func (.func 177) #[] #[.pointer (some ⟨B,0,none⟩)],.int .i64 5] w'∧Below w.heap.size w w':=by
 have hmf:∀ (fn:Fn) (first cap:Array Value) (w:World),(Instr.makeFunc fn first cap).run Tryz.prog w = .ok (.func fn first cap) w:=fun _ _ _ _=>rfl
 go_enter Tryz.func146,Tryz.ntmps146
 go_wp2_with (fail)
 go_ret
 exact⟨w.heap.size,w.heap.size+1,rfl,((Own.newAt (b:=w.heap.size) rfl).alloc).has,(Own.newAt (by simp)).has,Below.al (Below.al (Below.refl _ _))⟩
theorem ret_bool2 {b c:Bool} (h:c=true↔b=true):Ending.returned (.bool b)=Ending.returned (.bool c):=by
 cases b<;>cases c<;>simp at h ⊢
set_option maxHeartbeats 2000000 in
theorem fault1_any (M:Msh) (B:Nat) (w:World) (hB:Has B 0 [.slice M.qv M.nv M.cv,.slice M.qu M.nu M.cu,.slice M.qt M.nt M.ct] w):Calls Tryz.prog 169 #[.pointer (some ⟨B,0,none⟩)] w fun e w'=>e = .returned (.bool (decide (64<M.nv∨64<M.nt)))∧w'=w:=by
 have E:=Lib.hid (@decide_eq_true_iff ((64<M.nv∨64<M.nt)) _)
 generalize decide (64<M.nv∨64<M.nt)=b at *
 have B0:=hB.at 0 _ rfl
 have B2:=hB.at 2 _ rfl
 have Bl:=hB.lt
 clear hB
 go_enter Tryz.func169,Tryz.ntmps169
 go_wp2_with (fail)
 all_goals (go_ret;exact⟨ret_bool2 (by rw[E.out];simp;omega),rfl⟩)
set_option maxHeartbeats 2000000 in
theorem fault2_any (M:Msh) (B:Nat) (w:World) (hB:Has B 0 [.slice M.qv M.nv M.cv,.slice M.qu M.nu M.cu,.slice M.qt M.nt M.ct] w):Calls Tryz.prog 170 #[.pointer (some ⟨B,0,none⟩)] w fun e w'=>e = .returned (.bool (decide (M.nv=0∨M.nt=0∨M.nu≠M.nv)))∧w'=w:=by
 have E:=Lib.hid (@decide_eq_true_iff ((M.nv=0∨M.nt=0∨M.nu≠M.nv)) _)
 generalize decide (M.nv=0∨M.nt=0∨M.nu≠M.nv)=b at *
 have B0:=hB.at 0 _ rfl
 have B1:=hB.at 1 _ rfl
 have B2:=hB.at 2 _ rfl
 have Bl:=hB.lt
 clear hB
 go_enter Tryz.func170,Tryz.ntmps170
 go_wp2_with (fail)
 all_goals (go_ret;exact⟨ret_bool2 (by rw[E.out];simp;omega),rfl⟩)
set_option maxHeartbeats 2000000 in
theorem fault3_any (M:Msh) (B:Nat) (w:World) (hB:Has B 0 [.slice M.qv M.nv M.cv,.slice M.qu M.nu M.cu,.slice M.qt M.nt M.ct] w) (hM:MeshAt M w):Calls Tryz.prog 171 #[.pointer (some ⟨B,0,none⟩)] w fun e w'=>e = .returned (.bool (!allB (okPs M.V) M.nv))∧Below w.heap.size w w':=by
 have F:=Lib.hid (ContP_any M.qv M.nv M.cv M.V hM.lv hM.mv w hM.v)
 have B0:=hB.at 0 _ rfl
 have Bl:=hB.lt
 clear hB hM
 go_enter Tryz.func171,Tryz.ntmps171
 go_wp2_with (fail)
 go_at_call 172
 refine F.out.mono ?_
 rintro e w1 ⟨rfl,hb⟩
 clear F
 go_wp2_with (fail)
 go_ret
 exact⟨rfl,hb⟩
set_option maxHeartbeats 2000000 in
theorem fault4_any (M:Msh) (B:Nat) (w:World) (hB:Has B 0 [.slice M.qv M.nv M.cv,.slice M.qu M.nu M.cu,.slice M.qt M.nt M.ct] w) (hM:MeshAt M w):Calls Tryz.prog 174 #[.pointer (some ⟨B,0,none⟩)] w fun e w'=>e = .returned (.bool (!allB (okUs M.U) M.nu))∧Below w.heap.size w w':=by
 have F:=Lib.hid (ContU_any M.qu M.nu M.cu M.U hM.lu hM.mu w hM.u)
 have B1:=hB.at 1 _ rfl
 have Bl:=hB.lt
 clear hB hM
 go_enter Tryz.func174,Tryz.ntmps174
 go_wp2_with (fail)
 go_at_call 175
 refine F.out.mono ?_
 rintro e w1 ⟨rfl,hb⟩
 clear F
 go_wp2_with (fail)
 go_ret
 exact⟨rfl,hb⟩
set_option maxHeartbeats 2000000 in
theorem fault5_any (M:Msh) (B:Nat) (w:World) (hB:Has B 0 [.slice M.qv M.nv M.cv,.slice M.qu M.nu M.cu,.slice M.qt M.nt M.ct] w) (hM:MeshAt M w):Calls Tryz.prog 177 #[.pointer (some ⟨B,0,none⟩)] w fun e w'=>e = .returned (.bool (!allB (okTs M.nv M.R) M.nt))∧Below w.heap.size w w':=by
 have F:=Lib.hid (ContT_any M.qt M.nt M.ct M.R B M.nv M.cv M.qv hM.lt hM.mt w hM.t ⟨hB.lt,fun j v hj=>hB.cell j v (by cases j with | zero=>exact hj | succ j=>cases hj)⟩)
 have hmf:∀ (fn:Fn) (first cap:Array Value) (w:World),(Instr.makeFunc fn first cap).run Tryz.prog w = .ok (.func fn first cap) w:=fun _ _ _ _=>rfl
 have B2:=hB.at 2 _ rfl
 have Bl:=hB.lt
 clear hB hM
 go_enter Tryz.func177,Tryz.ntmps177
 go_wp2_with (fail)
 go_at_call 150
 refine F.out.mono ?_
 rintro e w1 ⟨rfl,hb⟩
 clear F
 go_wp2_with (fail)
 go_ret
 exact⟨rfl,hb⟩
end Go.Proofs.YtbilamnnneddmaaGreatDoor
namespace Go.Proofs.YtbilamnnneddmaaGreatDoor
set_option linter.unusedVariables false
set_option maxRecDepth 2000
set_option linter.unusedSimpArgs false
open Go.RowKit
set_option maxHeartbeats 8000000 in
theorem Check_any (M:Msh) (w:World) (hM:MeshAt M w):Calls Tryz.prog 121 #[(.agg #[.slice M.qv M.nv M.cv,.slice M.qu M.nu M.cu,.slice M.qt M.nt M.ct])] w fun e w'=>e = .returned (.int .i64 (chkM M))∧Below w.heap.size w w':=by
 have HM0:=Lib.hid hM
 have V1:=Lib.hid (@chk_1 M.nv M.nu M.nt M.V M.U M.R);have V2:=Lib.hid (@chk_2 M.nv M.nu M.nt M.V M.U M.R);have V3:=Lib.hid (@chk_3 M.nv M.nu M.nt M.V M.U M.R);have V4:=Lib.hid (@chk_4 M.nv M.nu M.nt M.V M.U M.R);have V5:=Lib.hid (@chk_5 M.nv M.nu M.nt M.V M.U M.R);have V6:=Lib.hid (@chk_6 M.nv M.nu M.nt M.V M.U M.R)
 change Calls _ _ _ _ fun e w'=>e = .returned (.int .i64 (chkF M.nv M.nu M.nt M.V M.U M.R))∧Below w.heap.size w w'
 generalize chkF M.nv M.nu M.nt M.V M.U M.R=z at *
 clear hM
 go_enter Tryz.func121,Tryz.ntmps121
 go_wp2_with (fail)
 go_at_call 146
 refine (faults_any M _).mono ?_
 rintro e w1 ⟨B,L,rfl,hB,hL,hb⟩
 have HB1:=Lib.hid (Below.go (Below.al (o := .cells #[.slice M.qv M.nv M.cv,.slice M.qu M.nu M.cu,.slice M.qt M.nt M.ct] 34) (Below.refl _ _)) hb)
 have HM1:=Lib.hid (HM0.out.later HB1.out)
 have HX1:=Lib.hid hB;have HL1:=Lib.hid hL
 clear hB hL hb HM0
 go_wp2_with (fail)
 refine wp_loop_rounds 6 ?_
 rw[rounds_succ]
 have L0:=HL1.out.at 0 _ rfl;have L1:=HL1.out.at 1 _ rfl;have Ll:=HL1.out.lt
 go_upto_region 4 with fail
 clear L0 L1 Ll
 obtain⟨w2,hW⟩:∃ w2,w2=(w1.alloc (.cells #[.func (.func 169) #[] #[.pointer (some ⟨B,0,none⟩)],.int .i64 3] 205)):=⟨_,rfl⟩
 have hBx:Below w1.heap.size w1 w2:=hW ▸ (Below.al (Below.refl _ _))
 have HF:Hid (Own w1.heap.size ([.func (.func 169) #[] #[.pointer (some ⟨B,0,none⟩)],.int .i64 3]) w2):=Lib.hid (hW ▸ (show Own w1.heap.size ([.func (.func 169) #[] #[.pointer (some ⟨B,0,none⟩)],.int .i64 3]) (w1.alloc (.cells #[.func (.func 169) #[] #[.pointer (some ⟨B,0,none⟩)],.int .i64 3] 205)) from Own.newAt (by simp)))
 rw[← hW]
 clear hW
 obtain⟨F,eF⟩:∃ X,X=w1.heap.size:=⟨_,rfl⟩
 rw[← eF] at HF ⊢
 have Fw:w1.heap.size≤F:=by omega
 clear eF
 have HB2:=Lib.hid (Below.go HB1.out hBx);have HM2:=Lib.hid (HM1.out.later hBx);have HX2:=Lib.hid (HX1.out.later hBx);have HL2:=Lib.hid (HL1.out.later hBx)
 clear HB1 HM1 HX1 HL1 hBx Fw
 have F0:=HF.out.at 0 _ rfl;have Fl:=HF.out.lt
 go_wp2_with (fail)
 go_at_call 169
 refine (fault1_any M B _ HX2.out).mono ?_
 rintro e w3 ⟨rfl,hw⟩
 subst hw
 clear F0 Fl
 have HB3:=HB2;have HM3:=HM2;have HX3:=HX2;have HL3:=HL2
 clear HB2 HM2 HX2 HL2
 have F1:=HF.out.at 1 _ rfl;have Fl:=HF.out.lt
 obtain⟨b,eb⟩:∃ b,decide (64<M.nv∨64<M.nt)=b:=⟨_,rfl⟩
 rw[eb]
 cases b with
 | true =>
  obtain rfl:z=3:=V1.out (of_decide_eq_true eb)
  clear V1 V2 V3 V4 V5 V6 eb
  go_wp2_with (fail)
  go_ret
  exact⟨rfl,HB3.out⟩
 | false =>
 have c1:=of_decide_eq_false eb
 clear eb
 have C1:=Lib.hid c1
 clear c1 F1 Fl HF
 go_wp2_with (fail)
 rw[rounds_succ]
 have L0:=HL3.out.at 2 _ rfl;have L1:=HL3.out.at 3 _ rfl;have Ll:=HL3.out.lt
 go_upto_region 4 with fail
 clear L0 L1 Ll
 obtain⟨w4,hW⟩:∃ w4,w4=(w3.alloc (.cells #[.func (.func 170) #[] #[.pointer (some ⟨B,0,none⟩)],.int .i64 5] 205)):=⟨_,rfl⟩
 have hBx:Below w3.heap.size w3 w4:=hW ▸ (Below.al (Below.refl _ _))
 have HF:Hid (Own w3.heap.size ([.func (.func 170) #[] #[.pointer (some ⟨B,0,none⟩)],.int .i64 5]) w4):=Lib.hid (hW ▸ (show Own w3.heap.size ([.func (.func 170) #[] #[.pointer (some ⟨B,0,none⟩)],.int .i64 5]) (w3.alloc (.cells #[.func (.func 170) #[] #[.pointer (some ⟨B,0,none⟩)],.int .i64 5] 205)) from Own.newAt (by simp)))
 rw[← hW]
 clear hW
 obtain⟨F,eF⟩:∃ X,X=w3.heap.size:=⟨_,rfl⟩
 rw[← eF] at HF ⊢
 have Fw:w3.heap.size≤F:=by omega
 clear eF
 have HB4:=Lib.hid (Below.go HB3.out hBx);have HM4:=Lib.hid (HM3.out.later hBx);have HX4:=Lib.hid (HX3.out.later hBx);have HL4:=Lib.hid (HL3.out.later hBx)
 clear HB3 HM3 HX3 HL3 hBx Fw
 have F0:=HF.out.at 0 _ rfl;have Fl:=HF.out.lt
 go_wp2_with (fail)
 go_at_call 170
 refine (fault2_any M B _ HX4.out).mono ?_
 rintro e w5 ⟨rfl,hw⟩
 subst hw
 clear F0 Fl
 have HB5:=HB4;have HM5:=HM4;have HX5:=HX4;have HL5:=HL4
 clear HB4 HM4 HX4 HL4
 have F1:=HF.out.at 1 _ rfl;have Fl:=HF.out.lt
 obtain⟨b,eb⟩:∃ b,decide (M.nv=0∨M.nt=0∨M.nu≠M.nv)=b:=⟨_,rfl⟩
 rw[eb]
 cases b with
 | true =>
  obtain rfl:z=5:=V2.out C1.out (of_decide_eq_true eb)
  clear V1 V2 V3 V4 V5 V6 eb
  go_wp2_with (fail)
  go_ret
  exact⟨rfl,HB5.out⟩
 | false =>
 have c2:=of_decide_eq_false eb
 clear eb
 have C2:=Lib.hid c2
 clear c2 F1 Fl HF
 go_wp2_with (fail)
 rw[rounds_succ]
 have L0:=HL5.out.at 4 _ rfl;have L1:=HL5.out.at 5 _ rfl;have Ll:=HL5.out.lt
 go_upto_region 4 with fail
 clear L0 L1 Ll
 obtain⟨w6,hW⟩:∃ w6,w6=(w5.alloc (.cells #[.func (.func 171) #[] #[.pointer (some ⟨B,0,none⟩)],.int .i64 8] 205)):=⟨_,rfl⟩
 have hBx:Below w5.heap.size w5 w6:=hW ▸ (Below.al (Below.refl _ _))
 have HF:Hid (Own w5.heap.size ([.func (.func 171) #[] #[.pointer (some ⟨B,0,none⟩)],.int .i64 8]) w6):=Lib.hid (hW ▸ (show Own w5.heap.size ([.func (.func 171) #[] #[.pointer (some ⟨B,0,none⟩)],.int .i64 8]) (w5.alloc (.cells #[.func (.func 171) #[] #[.pointer (some ⟨B,0,none⟩)],.int .i64 8] 205)) from Own.newAt (by simp)))
 rw[← hW]
 clear hW
 obtain⟨F,eF⟩:∃ X,X=w5.heap.size:=⟨_,rfl⟩
 rw[← eF] at HF ⊢
 have Fw:w5.heap.size≤F:=by omega
 clear eF
 have HB6:=Lib.hid (Below.go HB5.out hBx);have HM6:=Lib.hid (HM5.out.later hBx);have HX6:=Lib.hid (HX5.out.later hBx);have HL6:=Lib.hid (HL5.out.later hBx)
 clear HB5 HM5 HX5 HL5 hBx Fw
 have F0:=HF.out.at 0 _ rfl;have Fl:=HF.out.lt
 go_wp2_with (fail)
 go_at_call 171
 refine (fault3_any M B _ HX6.out HM6.out).mono ?_
 rintro e w7 ⟨rfl,hb⟩
 have HB7:=Lib.hid (Below.go HB6.out hb);have HM7:=Lib.hid (HM6.out.later hb);have HX7:=Lib.hid (HX6.out.later hb);have HL7:=Lib.hid (HL6.out.later hb);have HFn:=Lib.hid (HF.out.later hb)
 clear HB6 HM6 HX6 HL6 hb F0 HF Fl
 have HF:=HFn
 clear HFn
 have F1:=HF.out.at 1 _ rfl;have Fl:=HF.out.lt
 obtain⟨b,eb⟩:∃ b,allB (okPs M.V) M.nv=b:=⟨_,rfl⟩
 rw[eb]
 cases b with
 | false =>
  obtain rfl:z=8:=V3.out C1.out C2.out eb
  clear V1 V2 V3 V4 V5 V6 eb
  go_wp2_with (fail)
  go_ret
  exact⟨rfl,HB7.out⟩
 | true =>
 have c3:=eb
 clear eb
 have C3:=Lib.hid c3
 clear c3 F1 Fl HF
 go_wp2_with (fail)
 rw[rounds_succ]
 have L0:=HL7.out.at 6 _ rfl;have L1:=HL7.out.at 7 _ rfl;have Ll:=HL7.out.lt
 go_upto_region 4 with fail
 clear L0 L1 Ll
 obtain⟨w8,hW⟩:∃ w8,w8=(w7.alloc (.cells #[.func (.func 174) #[] #[.pointer (some ⟨B,0,none⟩)],.int .i64 5] 205)):=⟨_,rfl⟩
 have hBx:Below w7.heap.size w7 w8:=hW ▸ (Below.al (Below.refl _ _))
 have HF:Hid (Own w7.heap.size ([.func (.func 174) #[] #[.pointer (some ⟨B,0,none⟩)],.int .i64 5]) w8):=Lib.hid (hW ▸ (show Own w7.heap.size ([.func (.func 174) #[] #[.pointer (some ⟨B,0,none⟩)],.int .i64 5]) (w7.alloc (.cells #[.func (.func 174) #[] #[.pointer (some ⟨B,0,none⟩)],.int .i64 5] 205)) from Own.newAt (by simp)))
 rw[← hW]
 clear hW
 obtain⟨F,eF⟩:∃ X,X=w7.heap.size:=⟨_,rfl⟩
 rw[← eF] at HF ⊢
 have Fw:w7.heap.size≤F:=by omega
 clear eF
 have HB8:=Lib.hid (Below.go HB7.out hBx);have HM8:=Lib.hid (HM7.out.later hBx);have HX8:=Lib.hid (HX7.out.later hBx);have HL8:=Lib.hid (HL7.out.later hBx)
 clear HB7 HM7 HX7 HL7 hBx Fw
 have F0:=HF.out.at 0 _ rfl;have Fl:=HF.out.lt
 go_wp2_with (fail)
 go_at_call 174
 refine (fault4_any M B _ HX8.out HM8.out).mono ?_
 rintro e w9 ⟨rfl,hb⟩
 have HB9:=Lib.hid (Below.go HB8.out hb);have HM9:=Lib.hid (HM8.out.later hb);have HX9:=Lib.hid (HX8.out.later hb);have HL9:=Lib.hid (HL8.out.later hb);have HFn:=Lib.hid (HF.out.later hb)
 clear HB8 HM8 HX8 HL8 hb F0 HF Fl
 have HF:=HFn
 clear HFn
 have F1:=HF.out.at 1 _ rfl;have Fl:=HF.out.lt
 obtain⟨b,eb⟩:∃ b,allB (okUs M.U) M.nu=b:=⟨_,rfl⟩
 rw[eb]
 cases b with
 | false =>
  obtain rfl:z=5:=V4.out C1.out C2.out C3.out eb
  clear V1 V2 V3 V4 V5 V6 eb
  go_wp2_with (fail)
  go_ret
  exact⟨rfl,HB9.out⟩
 | true =>
 have c4:=eb
 clear eb
 have C4:=Lib.hid c4
 clear c4 F1 Fl HF
 go_wp2_with (fail)
 rw[rounds_succ]
 have L0:=HL9.out.at 8 _ rfl;have L1:=HL9.out.at 9 _ rfl;have Ll:=HL9.out.lt
 go_upto_region 4 with fail
 clear L0 L1 Ll
 obtain⟨w10,hW⟩:∃ w10,w10=(w9.alloc (.cells #[.func (.func 177) #[] #[.pointer (some ⟨B,0,none⟩)],.int .i64 5] 205)):=⟨_,rfl⟩
 have hBx:Below w9.heap.size w9 w10:=hW ▸ (Below.al (Below.refl _ _))
 have HF:Hid (Own w9.heap.size ([.func (.func 177) #[] #[.pointer (some ⟨B,0,none⟩)],.int .i64 5]) w10):=Lib.hid (hW ▸ (show Own w9.heap.size ([.func (.func 177) #[] #[.pointer (some ⟨B,0,none⟩)],.int .i64 5]) (w9.alloc (.cells #[.func (.func 177) #[] #[.pointer (some ⟨B,0,none⟩)],.int .i64 5] 205)) from Own.newAt (by simp)))
 rw[← hW]
 clear hW
 obtain⟨F,eF⟩:∃ X,X=w9.heap.size:=⟨_,rfl⟩
 rw[← eF] at HF ⊢
 have Fw:w9.heap.size≤F:=by omega
 clear eF
 have HB10:=Lib.hid (Below.go HB9.out hBx);have HM10:=Lib.hid (HM9.out.later hBx);have HX10:=Lib.hid (HX9.out.later hBx);have HL10:=Lib.hid (HL9.out.later hBx)
 clear HB9 HM9 HX9 HL9 hBx Fw
 have F0:=HF.out.at 0 _ rfl;have Fl:=HF.out.lt
 go_wp2_with (fail)
 go_at_call 177
 refine (fault5_any M B _ HX10.out HM10.out).mono ?_
 rintro e w11 ⟨rfl,hb⟩
 have HB11:=Lib.hid (Below.go HB10.out hb);have HM11:=Lib.hid (HM10.out.later hb);have HX11:=Lib.hid (HX10.out.later hb);have HL11:=Lib.hid (HL10.out.later hb);have HFn:=Lib.hid (HF.out.later hb)
 clear HB10 HM10 HX10 HL10 hb F0 HF Fl
 have HF:=HFn
 clear HFn
 have F1:=HF.out.at 1 _ rfl;have Fl:=HF.out.lt
 obtain⟨b,eb⟩:∃ b,allB (okTs M.nv M.R) M.nt=b:=⟨_,rfl⟩
 rw[eb]
 cases b with
 | false =>
  obtain rfl:z=5:=V5.out C1.out C2.out C3.out C4.out eb
  clear V1 V2 V3 V4 V5 V6 eb
  go_wp2_with (fail)
  go_ret
  exact⟨rfl,HB11.out⟩
 | true =>
 have c5:=eb
 clear eb
 obtain rfl:z=0:=V6.out C1.out C2.out C3.out C4.out c5
 clear V1 V2 V3 V4 V5 V6 c5 F1 Fl HF
 go_wp2_with (fail)
 rw[rounds_succ]
 go_wp2_with (fail)
 go_ret
 exact⟨rfl,HB11.out⟩
end Go.Proofs.YtbilamnnneddmaaGreatDoor
namespace Go.Proofs.YtbilamnnneddmaaGreatDoor
set_option linter.unusedVariables false
set_option maxRecDepth 2000
set_option linter.unusedSimpArgs false
open Go.RowKit
end Go.Proofs.YtbilamnnneddmaaGreatDoor
namespace Go.Proofs.YtbilamnnneddmaaGreatDoor
set_option linter.unusedVariables false
set_option maxRecDepth 2000
set_option linter.unusedSimpArgs false
open Go.RowKit
attribute [local go_sem ↓ high] sliced_head
set_option maxHeartbeats 8000000 in
theorem Few_any (qv qu qt:Option Addr) (nv cv nu cu nt ct a b c:Nat) (ea:min (nv:Int) 70=(a:Int)) (eb:min (nu:Int) 70=(b:Int)) (ec:min (nt:Int) 70=(c:Int)) (lv:nv≤cv) (lu:nu≤cu) (lt:nt≤ct) (xv:cv≤9223372036854775807) (xu:cu≤9223372036854775807) (xt:ct≤9223372036854775807) (w:World) :
  Calls Tryz.prog 25 #[.agg #[.slice qv nv cv,.slice qu nu cu,.slice qt nt ct]] w fun e w'=>e = .returned (.agg #[.slice qv a cv,.slice qu b cu,.slice qt c ct])∧Below w.heap.size w w':=by
 have a0:(0:Int)≤(a:Int):=by omega
 have b0:(0:Int)≤(b:Int):=by omega
 have c0:(0:Int)≤(c:Int):=by omega
 have a1:(a:Int)≤(cv:Int):=by omega
 have b1:(b:Int)≤(cu:Int):=by omega
 have c1:(c:Int)≤(ct:Int):=by omega
 clear lv lu lt xv xu xt
 go_enter Tryz.func25,Tryz.ntmps25
 go_upto_region 1 with fail
 obtain⟨W0,hW⟩:∃ W0,W0=((w.alloc (.cells #[.slice qv nv cv,.slice qu nu cu,.slice qt nt ct] 34)).alloc (.cells #[.slice none 0 0,.slice none 0 0,.slice none 0 0] 34)):=⟨_,rfl⟩
 have hB0:Below w.heap.size w W0:=hW ▸ (Below.al (Below.al (Below.refl _ _)))
 have HA:Hid (Own w.heap.size [.slice qv nv cv,.slice qu nu cu,.slice qt nt ct] W0):=Lib.hid (hW ▸ (Own.newAt (by simp)).alloc)
 have HR:Hid (Own (w.heap.size+1) [.slice none 0 0,.slice none 0 0,.slice none 0 0] W0):=Lib.hid (hW ▸ (Own.newAt (by simp)))
 rw[← hW]
 clear hW
 obtain⟨R,eR⟩:∃ X,X=(w.heap.size+1):=⟨_,rfl⟩
 rw[← eR] at HR ⊢
 have Rw:w.heap.size≤R:=by omega
 obtain⟨A,eA⟩:∃ X,X=w.heap.size:=⟨_,rfl⟩
 rw[← eA] at HA ⊢
 have Aw:w.heap.size≤A:=by omega
 have nAR:A≠R:=by omega
 have nRA:R≠A:=by omega
 clear eA eR
 have oA:=HA.out
 have A0:=oA.at 0 _ rfl
 have A1:=oA.at 1 _ rfl
 have A2:=oA.at 2 _ rfl
 have Al:=oA.lt
 clear oA
 have oR:=HR.out
 have R0:=oR.at 0 _ rfl
 have Rf0:=oR.ok 0 (by simp)
 have R1:=oR.at 1 _ rfl
 have Rf1:=oR.ok 1 (by simp)
 have R2:=oR.at 2 _ rfl
 have Rf2:=oR.ok 2 (by simp)
 have Rl:=oR.lt
 clear oR
 refine wp_region_still_tail 22 (by kernel_rfl) (by kernel_rfl) ?_;simp only[List.take_succ_cons,List.take_zero,List.drop_succ_cons,List.drop_zero];change wpStill _ _ (World.drew _) (fun a1=>wpList _ _ _ _ a1 (World.drew _)) _ _;repeat still_step
 refine wpStill_nil ?_
 clear ea eb ec a0 b0 c0 a1 b1 c1 A0 A1 A2 Al R0 Rf0 R1 Rf1 R2 Rf2 Rl
 have HRd:=Lib.hid (HR.out.drew)
 refine wpList_store_mid rfl 34 _ _ rfl R 0 ([.slice qv a cv,.slice qu b cu,.slice qt c ct]).toArray rfl rfl HRd.out.free (by kernel_rfl) (by simp[Value.oneCell']) ?_
 have HR5:Hid (Own R [.slice qv a cv,.slice qu b cu,.slice qt c ct] (W0.drew.setCells R 0 [.slice qv a cv,.slice qu b cu,.slice qt c ct])):=Lib.hid (Own.store HRd.out rfl)
 have HB5:Below w.heap.size w (W0.drew.setCells R 0 [.slice qv a cv,.slice qu b cu,.slice qt c ct]):=Below.setCells hB0.drew Rw _ _
 change wpList _ _ _ [] _ (W0.drew.setCells R 0 [.slice qv a cv,.slice qu b cu,.slice qt c ct])
 generalize W0.drew.setCells R 0 [.slice qv a cv,.slice qu b cu,.slice qt c ct]=W5 at *
 go_wp2_with (fail)
 have hL:=run_loadVar_mid (P:=Tryz.prog) _ R 0 34 [.slice qv a cv,.slice qu b cu,.slice qt c ct] _ HR5.out.cell Tryz.underlying34 rfl (by kernel_rfl)
 exact bodyPost_ret (v := .agg ([.slice qv a cv,.slice qu b cu,.slice qt c ct]:List Value).toArray) (res_cell Tryz.results25 rfl hL) rfl ⟨rfl,HB5⟩
end Go.Proofs.YtbilamnnneddmaaGreatDoor
namespace Go.Proofs.YtbilamnnneddmaaGreatDoor
set_option linter.unusedVariables false
set_option maxRecDepth 2000
set_option linter.unusedSimpArgs false
open Go.RowKit
theorem setCell_self {w:World} {b o:Nat} {v:Value} (h:w.cell? ⟨b,o,none⟩=some v):w.setCell ⟨b,o,none⟩ v=w:=by
 have e:(w.setCell ⟨b,o,none⟩ v).heap=w.heap:=by
  unfold World.setCell
  dsimp only
  apply Array.ext_getElem?
  intro i
  rw[Array.getElem?_modify]
  split
  ·rename_i hi
   subst hi
   cases hh:w.heap[b]? with
   | none=>rfl
   | some x =>
    cases x with
    | cells c t f =>
     have hc:c[o]?=some v:=by
      simpa[World.cell?,hh] using h
     simp
     apply Array.ext_getElem?
     intro j
     rw[Array.getElem?_setIfInBounds]
     split
     ·rename_i hj
      subst hj
      rw[hc]
      split
      ·rfl
      ·rename_i hn
       have:=(Array.getElem?_eq_some_iff.1 hc).1
       omega
     ·rfl
    | _=>rfl
  ·rfl
 show World.mk (w.setCell ⟨b,o,none⟩ v).heap _ _ _ _=w
 rw[e]
theorem step_store {P:Program} {ops:Array Oper} {o:Oper} {a:Act} {w:World} {K:Act→World→Prop} {Q:Exit→Act→World→Prop} {E:Prop}
  (hg:Region.wanted o (yielded ops a.tmps)=true) (ty:TypeId) (x y:Operand) (ho:o.op = .store ty x y) (b f:Nat) (cells:Array Value) (hx:a.eval x = .pointer (some ⟨b,f,none⟩)) (hy:a.eval y = .agg cells)
  (ht:w.there b f cells.size) (hi:(P.info? ty).map (·.size)=some cells.size) (h1:cells.all (·.oneCell')=true)
  (h:K (a.put o.dst undef) (w.setCells b f cells.toList)):if Region.wanted o (yielded ops a.tmps)=true then Oper.wp P o a w K Q else E:=by
 rw[if_pos hg]
 exact wp_store_mid ty x y ho b f cells hx hy ht hi h1 h
theorem Own.room {b o n:Nat} {cs:List Value} {W:World} (h:Own b cs W) (hl:o+n≤cs.length):W.there b o n:=fun j hj=>by
 have:=h.free (o+j) (by omega)
 rwa [Nat.zero_add] at this
theorem ix3_0 (a b c:Int) (w:World):(Instr.index 37 (.agg #[.int .i64 a,.int .i64 b,.int .i64 c]) (.int .i64 0)).run Tryz.prog w = .ok (.int .i64 a) w:=by kernel_rfl
theorem ix3_1 (a b c:Int) (w:World):(Instr.index 37 (.agg #[.int .i64 a,.int .i64 b,.int .i64 c]) (.int .i64 1)).run Tryz.prog w = .ok (.int .i64 b) w:=by kernel_rfl
theorem ix3_2 (a b c:Int) (w:World):(Instr.index 37 (.agg #[.int .i64 a,.int .i64 b,.int .i64 c]) (.int .i64 2)).run Tryz.prog w = .ok (.int .i64 c) w:=by kernel_rfl
end Go.Proofs.YtbilamnnneddmaaGreatDoor
namespace Go.Proofs.YtbilamnnneddmaaGreatDoor
set_option linter.unusedVariables false
set_option maxRecDepth 2000
set_option linter.unusedSimpArgs false
open Go.RowKit
def cntF (nv nt:Nat) (k:Nat):Int:=if k=0 then (nv:Int) else (nt:Int)
def enc1 (nv nt:Nat):Nat→Int:=outF (fun _=>0) 0 1 (cntF nv nt)
def enc2 (nv nt:Nat) (V:Nat→Int):Nat→Int:=outF (enc1 nv nt) 2 2 V
def enc3 (nv nu nt:Nat) (V U:Nat→Int):Nat→Int:=outF (enc2 nv nt V) (2+2*(nv*3)) 2 U
def encF (nv nu nt:Nat) (V U R:Nat→Int):Nat→Int:=outF (enc3 nv nu nt V U) (2+2*(nv*3)+2*(nu*2)) 1 R
def encN (nv nu nt:Nat):Nat:=2+2*(nv*3)+2*(nu*2)+1*(nt*3)
def encL (z:Int) (n:Nat):Nat:=if z=0 then n else 0
theorem putE_ok {fit:Nat→Int→Bool} {W n:Nat} {g:Nat→Int} (h1:1≤W) (h8:W≤8) (h:∀ k,k<n→fit W (g k)=true):putE fit (W:Int) n g=0:=by
 have hb:badW (W:Int)=false:=decide_eq_false (by omega)
 unfold putE
 rw[hb,Int.toNat_natCast,allB_iff.2 h]
 rfl
theorem putL_ok (m n W:Nat):putL m n (W:Int) 0=m+W*n:=by unfold putL;rw[if_pos rfl,Int.toNat_natCast]
theorem fit_1 {x:Int} (h:x<256):fitU 1 x=true:=decide_eq_true (by have:=pw_vals.1;omega)
theorem fit_2 {x:Int} (h:x<65536):fitU 2 x=true:=decide_eq_true (by have:=pw_vals.2.1;omega)
theorem fit_s {x:Int} (h : -4096≤x∧x≤4096):fitS 2 x=true:=decide_eq_true (by have:=pw_vals.2.1;omega)
theorem Put_ok (q p:Option Addr) (m c n c2 W N:Nat) (f g:Nat→Int) (eN:m+W*n=N) (h1:1≤W) (h8:W≤8) (hg:∀ k,k<n→0≤g k∧g k≤65535) (hf:∀ k,k<n→fitU W (g k)=true) (hmc:m≤c) (hc:c≤9223372036854775807) (hnc:n≤c2) (hc2:c2≤9223372036854775807) (hm:m≤100000) (hn:n≤1000) (w:World) (hq:Byt w q m f) (hp:Nm w .u64 p n g) :
  Calls Tryz.prog 36 #[.slice q m c,.int .i64 (W:Int),.slice p n c2] w fun e w'=>(∃ v,e = .returned (.tuple #[v,.int .i64 0])∧RowR w' v N (outF f m W g))∧Below w.heap.size w w':=by
 refine (Put_any q p m c n c2 (W:Int) f g (fun k hk=>by have:=hg k hk;omega) hmc hc hnc hc2 (by omega) w hq hp).mono ?_
 rintro e w' ⟨v,he,hr,hb⟩
 rw[putE_ok h1 h8 hf] at he hr
 rw[putL_ok,Int.toNat_natCast,eN] at hr
 exact⟨⟨v,he,RowR.of hr⟩,hb⟩
theorem Signed_ok (q p:Option Addr) (m c n c2 N:Nat) (f g:Nat→Int) (eN:m+2*n=N) (hg:∀ k,k<n → -4096≤g k∧g k≤4096) (hmc:m≤c) (hc:c≤9223372036854775807) (hnc:n≤c2) (hc2:c2≤9223372036854775807) (hm:m≤100000) (hn:n≤1000) (w:World) (hq:Byt w q m f) (hp:Nm w .i64 p n g) :
  Calls Tryz.prog 122 #[.slice q m c,.int .i64 2,.slice p n c2] w fun e w'=>(∃ v,e = .returned (.tuple #[v,.int .i64 0])∧RowR w' v N (outF f m 2 g))∧Below w.heap.size w w':=by
 refine (Signed_any q p m c n c2 2 f g (fun k hk=>by have:=hg k hk;omega) hmc hc hnc hc2 (by omega) w hq hp).mono ?_
 rintro e w' ⟨v,he,hr,hb⟩
 rw[show (2:Int)=((2:Nat):Int) from rfl,putE_ok (by decide) (by decide) (fun k hk=>fit_s (hg k hk))] at he hr
 rw[putL_ok,Int.toNat_natCast,eN] at hr
 exact⟨⟨v,he,RowR.of hr⟩,hb⟩
theorem infoI:(Tryz.prog.info? 3).map (fun i=>(i.zero,i.size,i.bytes))=some (some (.int .i64 0),1,8):=by kernel_rfl
theorem infoI_parts:∃ i,Tryz.prog.info? 3=some i∧i.zero=some (.int .i64 0)∧i.size=1∧i.bytes=8:=by
 obtain⟨i,hi,h⟩:=Option.map_eq_some_iff.1 infoI
 simp only[Prod.mk.injEq] at h
 exact⟨i,hi,h.1,h.2.1,h.2.2⟩
end Go.Proofs.YtbilamnnneddmaaGreatDoor
namespace Go.Proofs.YtbilamnnneddmaaGreatDoor
set_option linter.unusedVariables false
set_option maxRecDepth 2000
set_option linter.unusedSimpArgs false
open Go.RowKit
set_option maxHeartbeats 16000000 in
theorem Encode_any (M:Msh) (w:World) (hM:MeshAt M w):Calls Tryz.prog 85 #[(.agg #[.slice M.qv M.nv M.cv,.slice M.qu M.nu M.cu,.slice M.qt M.nt M.ct])] w fun e w'=>(∃ v,e = .returned (.tuple #[v,.int .i64 (chkM M)])∧RowR w' v (encL (chkM M) (encN M.nv M.nu M.nt)) (encF M.nv M.nu M.nt M.V M.U M.R))∧Below w.heap.size w w':=by
 have HM:=Lib.hid hM
 have CK:=Lib.hid (Check_any M)
 have GD:=Lib.hid (@chk_good M.nv M.nu M.nt M.V M.U M.R)
 have HZ:Hid (chkM M=chkF M.nv M.nu M.nt M.V M.U M.R):=Lib.hid rfl
 obtain⟨z,ez⟩:∃ z,chkM M=z:=⟨_,rfl⟩
 rw[HZ.out] at ez
 rw[ez] at GD HZ
 rw[HZ.out] at CK ⊢
 clear ez HZ hM
 by_cases hz:z=0
 ·subst hz
  have GO:=GD.out rfl
  clear GD
  obtain⟨qv,nv,cv,V,qu,nu,cu,U,qt,nt,ct,R⟩:=M
  dsimp only at *
  obtain⟨nn,tt,un,gv,gu,gt⟩:=GO
  rw[show encL 0 (encN nv nu nt)=encN nv nu nt from rfl]
  obtain⟨N2,e2⟩:∃ n,n=2+2*(nv*3):=⟨_,rfl⟩
  obtain⟨N3,e3⟩:∃ n,n=N2+2*(nu*2):=⟨_,rfl⟩
  obtain⟨N4,e4⟩:∃ n,n=N3+1*(nt*3):=⟨_,rfl⟩
  have C1:=Lib.hid (fun p w hp=>Put_ok none p 0 0 2 2 1 2 (fun _=>0) (cntF nv nt) rfl (by decide) (by decide) (fun k hk=>by unfold cntF;split<;>omega) (fun k hk=>fit_1 (by unfold cntF;split<;>omega)) (by decide) (by decide) (by decide) (by decide) (by decide) (by decide) w (.inl rfl) hp)
  have C2:=Lib.hid (fun q c hc1 hc2 p c2 h1 h2 w hq hp=>Signed_ok q p 2 c (nv*3) c2 N2 (enc1 nv nt) V e2.symm gv hc1 hc2 h1 h2 (by decide) (by omega) w hq hp)
  have C3:=Lib.hid (fun q c hc1 hc2 p c2 h1 h2 w hq hp=>Put_ok q p N2 c (nu*2) c2 2 N3 (enc2 nv nt V) U e3.symm (by decide) (by decide) gu (fun k hk=>fit_2 (by have:=gu k hk;omega)) hc1 hc2 h1 h2 (by omega) (by omega) w hq hp)
  have C4:=Lib.hid (fun q c hc1 hc2 p c2 h1 h2 w hq hp=>Put_ok q p N3 c (nt*3) c2 1 N4 (outF (enc2 nv nt V) N2 2 U) R e4.symm (by decide) (by decide) (fun k hk=>by have:=gt k hk;omega) (fun k hk=>fit_1 (by have:=gt k hk;omega)) hc1 hc2 h1 h2 (by omega) (by omega) w hq hp)
  have EQ:Hid (∀ w v,RowR w v N4 (outF (outF (enc2 nv nt V) N2 2 U) N3 1 R)→RowR w v (encN nv nu nt) (encF nv nu nt V U R)):=Lib.hid (fun w v h=>by
   unfold encN encF enc3
   rw[← e2,← e3,← e4]
   exact h)
  rw[show outF (fun _=>0) 0 1 (cntF nv nt)=enc1 nv nt from rfl] at C1
  rw[show outF (enc1 nv nt) 2 2 V=enc2 nv nt V from rfl] at C2
  have BU:=Lib.hid (fun j (hj:j<nu*2)=>show IntKind.u64.wrap (U j)=U j from IntWalk.u64_in _ (by have:=gu j hj;omega))
  have BR:=Lib.hid (fun j (hj:j<nt*3)=>show IntKind.u64.wrap (R j)=R j from IntWalk.u64_in _ (by have:=gt j hj;omega))
  have HV:=Lib.hid (And.intro HM.out.v (And.intro HM.out.u HM.out.t))
  dsimp only at HV
  have LX:Hid ((nv≤64∧nu≤64∧nt≤64)∧1≤nv∧1≤nt∧nu=nv):=Lib.hid (by omega)
  have r1:IntKind.u64.wrap (nv:Int)=(nv:Int):=IntWalk.u64_in _ (by omega)
  have r2:IntKind.u64.wrap (nt:Int)=(nt:Int):=IntWalk.u64_in _ (by omega)
  have CN0:cntF nv nt 0=(nv:Int):=rfl
  have CN1:cntF nv nt 1=(nt:Int):=rfl
  have CNT:Hid ((#[.int .i64 0,.int .i64 0]:Array Value).size=2):=Lib.hid rfl
  have CL:Hid ([Value.int .u64 (nv:Int),.int .u64 (nt:Int)]=nums .u64 (cntF nv nt) 2):=Lib.hid rfl
  clear CN0 CN1 CNT
  generalize cntF nv nt=g0 at *
  generalize enc1 nv nt=E1 at *
  generalize enc2 nv nt V=E2 at *
  generalize outF E2 N2 2 U=E3 at *
  generalize outF E3 N3 1 R=E4 at *
  generalize encN nv nu nt=NN at *
  generalize encF nv nu nt V U R=EE at *
  have M2:=Lib.hid e2;have M3:=Lib.hid e3;have M4:=Lib.hid e4
  clear e2 e3 e4 nn tt un gv gu gt
  go_enter Tryz.func85,Tryz.ntmps85
  go_upto_region 1 with fail
  obtain⟨W0,hW⟩:∃ W0,W0=(w.alloc (.cells #[.slice qv nv cv,.slice qu nu cu,.slice qt nt ct] 34)):=⟨_,rfl⟩
  have hB0:Below w.heap.size w W0:=hW ▸ (Below.al (Below.refl _ _))
  have HA:Hid (Own w.heap.size [.slice qv nv cv,.slice qu nu cu,.slice qt nt ct] W0):=Lib.hid (hW ▸ (Own.newAt (by simp)))
  rw[← hW]
  clear hW
  obtain⟨A,eA⟩:∃ X,X=w.heap.size:=⟨_,rfl⟩
  rw[← eA] at HA ⊢
  have Aw:w.heap.size≤A:=by omega
  clear eA
  have HM0:=Lib.hid (HM.out.later hB0)
  have oA:=HA.out
  have A0:=oA.at 0 _ rfl
  have A1:=oA.at 1 _ rfl
  have A2:=oA.at 2 _ rfl
  have Al:=oA.lt
  clear oA
  go_wp2_with (fail)
  go_at_call 121
  refine (CK.out _ HM0.out).mono ?_
  rintro e w1 ⟨rfl,hb⟩
  have HA1:=Lib.hid (HA.out.later hb)
  have HB1:=Lib.hid (Below.go hB0 hb)
  clear hb hB0 HM HM0 HA CK A0 A1 A2 Al
  have AF:=HA1.out
  obtain⟨i0,hi,hz0,hz1,hz2⟩:=infoI_parts
  obtain⟨u0,ui,uz0,uz1,uz2⟩:=infoQ_parts
  clear AF
  have HVv:=Lib.hid (HV.out.1.later HB1.out);have HVu:=Lib.hid (HV.out.2.1.later HB1.out);have HVt:=Lib.hid (HV.out.2.2.later HB1.out)
  clear HV
  have oA:=HA1.out
  have A0:=oA.at 0 _ rfl
  have Al:=oA.lt
  clear oA
  go_wp2_with (fail)
  clear A0 Al
  go_loopw [5,24] (fun v iv wr=>∃ (k t:Nat) (p3:Option Addr) (c3:Nat),k≤nv∧Hid (t=k*3)∧v = .slice p3 t c3∧iv = .int .i64 k∧Hid (wr.ownsRow w1.heap.size 3 1 (.slice p3 t c3) t (nums .i64 V t))∧Hid (Below w1.heap.size w1 wr)) (fun _ iv _=>(nv - (intOf iv).toNat))
  case atStart=>exact⟨0,0,none,0,Nat.zero_le _,Lib.hid (Nat.zero_mul _).symm,rfl,rfl,Lib.hid (World.ownsRow_nil _ _ _ _),Lib.hid (Below.refl _ _)⟩
  case round =>
   obtain⟨k,t,p3,c3,hk,HT,rfl,rfl,ROW,HB⟩:=hrel
   by_cases hlt:k<nv
   ·obtain⟨D,o,rfl,hD,c0,c1,c2⟩:=(HVv.out.later HB.out).at3 hlt
    have hki:(k:Int)<(nv:Int):=by omega
    have k0:(0:Int)≤(k:Int):=by omega
    have wk:IntKind.i64.wrap ((k:Int)+1)=(k:Int)+1:=IntWalk.i64_in _ (by have:=LX.out;omega)
    have HLT:=Lib.hid hlt
    obtain⟨x0,ex0⟩:∃ x,V (k*3)=x:=⟨_,rfl⟩
    rw[ex0] at c0
    obtain⟨x1,ex1⟩:∃ x,V (k*3+1)=x:=⟨_,rfl⟩
    rw[ex1] at c1
    obtain⟨x2,ex2⟩:∃ x,V (k*3+2)=x:=⟨_,rfl⟩
    rw[ex2] at c2
    have XS:Hid (nums .i64 V t ++ [.int .i64 x0,.int .i64 x1,.int .i64 x2]=nums .i64 V (t+3)):=Lib.hid (by
     refine nums_append .i64 V (fun i=>[x0,x1,x2].getD i 0) t 3 (fun i hi=>?_)
     rw[HT.out]
     match i,hi with
     | 0,_=>exact ex0
     | 1,_=>exact ex1
     | 2,_=>exact ex2)
    have HT2:Hid (t+3=(k+1)*3):=Lib.hid (by rw[HT.out,Nat.succ_mul])
    have T200:t≤200:=by rw[HT.out];have:=LX.out;omega
    have N63:=Lib.hid (show t+3≤maxLen by unfold maxLen;omega)
    have NBY:=Lib.hid (show (t+3)*8≤140737488355328 by omega)
    clear hk hlt T200 ex0 ex1 ex2
    go_upto_region 8 with fail
    clear hD c0 c1 c2
    obtain⟨y0,hW⟩:∃ y0,y0=(wr.alloc (.cells #[.int .i64 x0,.int .i64 x1,.int .i64 x2] 41)):=⟨_,rfl⟩
    have hBx:Below wr.heap.size wr y0:=hW ▸ (Below.al (Below.refl _ _))
    have HQ:Hid (Own wr.heap.size ([.int .i64 x0,.int .i64 x1,.int .i64 x2]) y0):=Lib.hid (hW ▸ (show Own wr.heap.size ([.int .i64 x0,.int .i64 x1,.int .i64 x2]) (wr.alloc (.cells #[.int .i64 x0,.int .i64 x1,.int .i64 x2] 41)) from Own.newAt (by simp)))
    rw[← hW]
    clear hW
    obtain⟨Q,eQ⟩:∃ X,X=wr.heap.size:=⟨_,rfl⟩
    rw[← eQ] at HQ ⊢
    have Qw:wr.heap.size≤Q:=by omega
    clear eQ
    have ROWy:=Lib.hid (row_later ROW.out hBx)
    have HBy:=Lib.hid (Below.go HB.out hBx)
    clear hBx ROW HB Qw
    have oQ:=HQ.out
    have Q0:=oQ.at 0 _ rfl
    have Q1:=oQ.at 1 _ rfl
    have Q2:=oQ.at 2 _ rfl
    have Ql:=oQ.lt
    clear oQ
    have HS2:Hid (w1.heap.size≤(y0.alloc (.cells #[.int .i64 x0,.int .i64 x1,.int .i64 x2] 3)).heap.size):=Lib.hid (Below.al HBy.out).size
    go_wp2_with (at_builtin;refine wpList_append_own _ rfl _ _ 156 rfl w1.heap.size 3 i0 (.int .i64 0) 1 8 Tryz.underlying156 hi hz0 hz1 hz2 rfl (by decide) _ t _ rfl (row_later ROWy.out (Below.al (Below.refl _ _))) ⟨y0.heap.size,0,none⟩ 3 3 [.int .i64 x0,.int .i64 x1,.int .i64 x2] rfl rfl (Own.newAt (by rfl)).news (by intro v hv;simp at hv;rcases hv with rfl | rfl | rfl<;>rfl) N63.out NBY.out HS2.out ?_;intro v' w6 hrow hgr _;obtain⟨p',c',rfl,_⟩:=row_form hrow;rw[XS.out] at hrow;have o4:=Lib.hid ((Below.al HBy.out).grown hgr (Below.al HBy.out).size fun q hq=>row_ge ROWy.out q hq);have o6:=Lib.hid hrow;clear hrow hgr)
    go_roundw
    case rel=>(first | exact⟨k+1,t+3,_,_,HLT.out,HT2,rfl,by go_num,o6,o4⟩ | ((repeat apply Exists.intro);exact⟨⟨k+1,t+3,_,_,HLT.out,HT2,rfl,by go_num,o6,o4⟩,rfl⟩))
    case measure=>(have:=HLT.out;simp[intOf];omega)
   ·obtain rfl:nv=k:=by omega
    clear hlt hk
    obtain⟨w2,rfl⟩:∃ x,x=wr:=⟨_,rfl⟩
    have B1:=HB.out
    have NM1:=Lib.hid (nm_row ROW.out).2;have cap:=row_cap_ ROW.out
    have CP1:=Lib.hid cap
    have TT1:=HT
    obtain⟨t1,et⟩:∃ x,x=t:=⟨_,rfl⟩
    subst et
    obtain⟨p1,et⟩:∃ x,x=p3:=⟨_,rfl⟩
    subst et
    obtain⟨d1,et⟩:∃ x,x=c3:=⟨_,rfl⟩
    subst et
    have HA1_:=Lib.hid (HA1.out.later B1)
    clear HA1
    have HA1:=HA1_
    clear HA1_
    have HVv_:=Lib.hid (HVv.out.later B1)
    clear HVv
    have HVv:=HVv_
    clear HVv_
    have HVu_:=Lib.hid (HVu.out.later B1)
    clear HVu
    have HVu:=HVu_
    clear HVu_
    have HVt_:=Lib.hid (HVt.out.later B1)
    clear HVt
    have HVt:=HVt_
    clear HVt_
    have HB1_:=Lib.hid (Below.go HB1.out B1)
    clear HB1 HB ROW cap HT B1
    have HB1:=HB1_
    clear HB1_
    have oA:=HA1.out
    have A1:=oA.at 1 _ rfl
    have Al:=oA.lt
    clear oA
    go_wp2_with (fail)
    clear A1 Al
    go_loopw [8,41] (fun v iv wr=>∃ (k t:Nat) (p3:Option Addr) (c3:Nat),k≤nu∧Hid (t=k*2)∧v = .slice p3 t c3∧iv = .int .i64 k∧Hid (wr.ownsRow w2.heap.size 24 1 (.slice p3 t c3) t (nums .u64 U t))∧Hid (Below w2.heap.size w2 wr)) (fun _ iv _=>(nu - (intOf iv).toNat))
    case atStart=>exact⟨0,0,none,0,Nat.zero_le _,Lib.hid (Nat.zero_mul _).symm,rfl,rfl,Lib.hid (World.ownsRow_nil _ _ _ _),Lib.hid (Below.refl _ _)⟩
    case round =>
     obtain⟨k,t,p3,c3,hk,HT,rfl,rfl,ROW,HB⟩:=hrel
     by_cases hlt:k<nu
     ·obtain⟨D,o,rfl,hD,c0,c1⟩:=(HVu.out.later HB.out).at2 hlt
      have hki:(k:Int)<(nu:Int):=by omega
      have k0:(0:Int)≤(k:Int):=by omega
      have wk:IntKind.i64.wrap ((k:Int)+1)=(k:Int)+1:=IntWalk.i64_in _ (by have:=LX.out;omega)
      have HLT:=Lib.hid hlt
      obtain⟨x0,ex0⟩:∃ x,U (k*2)=x:=⟨_,rfl⟩
      rw[ex0] at c0
      have wx0:IntKind.u64.wrap x0=x0:=by rw[← ex0];exact BU.out _ (by omega)
      obtain⟨x1,ex1⟩:∃ x,U (k*2+1)=x:=⟨_,rfl⟩
      rw[ex1] at c1
      have wx1:IntKind.u64.wrap x1=x1:=by rw[← ex1];exact BU.out _ (by omega)
      have XS:Hid (nums .u64 U t ++ [.int .u64 x0,.int .u64 x1]=nums .u64 U (t+2)):=Lib.hid (by
       refine nums_append .u64 U (fun i=>[x0,x1].getD i 0) t 2 (fun i hi=>?_)
       rw[HT.out]
       match i,hi with
       | 0,_=>exact ex0
       | 1,_=>exact ex1)
      have HT2:Hid (t+2=(k+1)*2):=Lib.hid (by rw[HT.out,Nat.succ_mul])
      have T200:t≤200:=by rw[HT.out];have:=LX.out;omega
      have N63:=Lib.hid (show t+2≤maxLen by unfold maxLen;omega)
      have NBY:=Lib.hid (show (t+2)*8≤140737488355328 by omega)
      clear hk hlt T200 ex0 ex1
      go_upto_region 14 with fail
      clear hD c0 c1
      obtain⟨y0,hW⟩:∃ y0,y0=(wr.alloc (.cells #[.int .i64 x0,.int .i64 x1] 99)):=⟨_,rfl⟩
      have hBx:Below wr.heap.size wr y0:=hW ▸ (Below.al (Below.refl _ _))
      have HQ:Hid (Own wr.heap.size ([.int .i64 x0,.int .i64 x1]) y0):=Lib.hid (hW ▸ (show Own wr.heap.size ([.int .i64 x0,.int .i64 x1]) (wr.alloc (.cells #[.int .i64 x0,.int .i64 x1] 99)) from Own.newAt (by simp)))
      rw[← hW]
      clear hW
      obtain⟨Q,eQ⟩:∃ X,X=wr.heap.size:=⟨_,rfl⟩
      rw[← eQ] at HQ ⊢
      have Qw:wr.heap.size≤Q:=by omega
      clear eQ
      have ROWy:=Lib.hid (row_later ROW.out hBx)
      have HBy:=Lib.hid (Below.go HB.out hBx)
      clear hBx ROW HB Qw
      have oQ:=HQ.out
      have Q0:=oQ.at 0 _ rfl
      have Q1:=oQ.at 1 _ rfl
      have Ql:=oQ.lt
      clear oQ
      have HS2:Hid (w2.heap.size≤(y0.alloc (.cells #[.int .u64 x0,.int .u64 x1] 24)).heap.size):=Lib.hid (Below.al HBy.out).size
      go_wp2_with (at_builtin;refine wpList_append_own _ rfl _ _ 106 rfl w2.heap.size 24 u0 (.int .u64 0) 1 8 Tryz.underlying106 ui uz0 uz1 uz2 rfl (by decide) _ t _ rfl (row_later ROWy.out (Below.al (Below.refl _ _))) ⟨y0.heap.size,0,none⟩ 2 2 [.int .u64 x0,.int .u64 x1] rfl rfl (Own.newAt (by rfl)).news (by intro v hv;simp at hv;rcases hv with rfl | rfl<;>rfl) N63.out NBY.out HS2.out ?_;intro v' w6 hrow hgr _;obtain⟨p',c',rfl,_⟩:=row_form hrow;rw[XS.out] at hrow;have o4:=Lib.hid ((Below.al HBy.out).grown hgr (Below.al HBy.out).size fun q hq=>row_ge ROWy.out q hq);have o6:=Lib.hid hrow;clear hrow hgr)
      go_roundw
      case rel=>(first | exact⟨k+1,t+2,_,_,HLT.out,HT2,rfl,by go_num,o6,o4⟩ | ((repeat apply Exists.intro);exact⟨⟨k+1,t+2,_,_,HLT.out,HT2,rfl,by go_num,o6,o4⟩,rfl⟩))
      case measure=>(have:=HLT.out;simp[intOf];omega)
     ·obtain rfl:nu=k:=by omega
      clear hlt hk
      obtain⟨w3,rfl⟩:∃ x,x=wr:=⟨_,rfl⟩
      have B2:=HB.out
      have NM2:=Lib.hid (nm_row ROW.out).2;have cap:=row_cap_ ROW.out
      have CP2:=Lib.hid cap
      have TT2:=HT
      obtain⟨t2,et⟩:∃ x,x=t:=⟨_,rfl⟩
      subst et
      obtain⟨p2,et⟩:∃ x,x=p3:=⟨_,rfl⟩
      subst et
      obtain⟨d2,et⟩:∃ x,x=c3:=⟨_,rfl⟩
      subst et
      have HA1_:=Lib.hid (HA1.out.later B2)
      clear HA1
      have HA1:=HA1_
      clear HA1_
      have HVv_:=Lib.hid (HVv.out.later B2)
      clear HVv
      have HVv:=HVv_
      clear HVv_
      have HVu_:=Lib.hid (HVu.out.later B2)
      clear HVu
      have HVu:=HVu_
      clear HVu_
      have HVt_:=Lib.hid (HVt.out.later B2)
      clear HVt
      have HVt:=HVt_
      clear HVt_
      have NM1_:=Lib.hid (NM1.out.later B2)
      clear NM1
      have NM1:=NM1_
      clear NM1_
      have HB1_:=Lib.hid (Below.go HB1.out B2)
      clear HB1 HB ROW cap HT B2
      have HB1:=HB1_
      clear HB1_
      have oA:=HA1.out
      have A2:=oA.at 2 _ rfl
      have Al:=oA.lt
      clear oA
      go_wp2_with (fail)
      clear A2 Al
      go_loopw [9,58] (fun v iv wr=>∃ (k t:Nat) (p3:Option Addr) (c3:Nat),k≤nt∧Hid (t=k*3)∧v = .slice p3 t c3∧iv = .int .i64 k∧Hid (wr.ownsRow w3.heap.size 24 1 (.slice p3 t c3) t (nums .u64 R t))∧Hid (Below w3.heap.size w3 wr)) (fun _ iv _=>(nt - (intOf iv).toNat))
      case atStart=>exact⟨0,0,none,0,Nat.zero_le _,Lib.hid (Nat.zero_mul _).symm,rfl,rfl,Lib.hid (World.ownsRow_nil _ _ _ _),Lib.hid (Below.refl _ _)⟩
      case round =>
       obtain⟨k,t,p3,c3,hk,HT,rfl,rfl,ROW,HB⟩:=hrel
       by_cases hlt:k<nt
       ·obtain⟨D,o,rfl,hD,c0,c1,c2⟩:=(HVt.out.later HB.out).at3 hlt
        have hki:(k:Int)<(nt:Int):=by omega
        have k0:(0:Int)≤(k:Int):=by omega
        have wk:IntKind.i64.wrap ((k:Int)+1)=(k:Int)+1:=IntWalk.i64_in _ (by have:=LX.out;omega)
        have HLT:=Lib.hid hlt
        obtain⟨x0,ex0⟩:∃ x,R (k*3)=x:=⟨_,rfl⟩
        rw[ex0] at c0
        have wx0:IntKind.u64.wrap x0=x0:=by rw[← ex0];exact BR.out _ (by omega)
        obtain⟨x1,ex1⟩:∃ x,R (k*3+1)=x:=⟨_,rfl⟩
        rw[ex1] at c1
        have wx1:IntKind.u64.wrap x1=x1:=by rw[← ex1];exact BR.out _ (by omega)
        obtain⟨x2,ex2⟩:∃ x,R (k*3+2)=x:=⟨_,rfl⟩
        rw[ex2] at c2
        have wx2:IntKind.u64.wrap x2=x2:=by rw[← ex2];exact BR.out _ (by omega)
        have XS:Hid (nums .u64 R t ++ [.int .u64 x0,.int .u64 x1,.int .u64 x2]=nums .u64 R (t+3)):=Lib.hid (by
         refine nums_append .u64 R (fun i=>[x0,x1,x2].getD i 0) t 3 (fun i hi=>?_)
         rw[HT.out]
         match i,hi with
         | 0,_=>exact ex0
         | 1,_=>exact ex1
         | 2,_=>exact ex2)
        have HT2:Hid (t+3=(k+1)*3):=Lib.hid (by rw[HT.out,Nat.succ_mul])
        have T200:t≤200:=by rw[HT.out];have:=LX.out;omega
        have N63:=Lib.hid (show t+3≤maxLen by unfold maxLen;omega)
        have NBY:=Lib.hid (show (t+3)*8≤140737488355328 by omega)
        clear hk hlt T200 ex0 ex1 ex2
        go_upto_region 19 with fail
        clear hD c0 c1 c2
        obtain⟨y0,hW⟩:∃ y0,y0=(wr.alloc (.cells #[.int .i64 x0,.int .i64 x1,.int .i64 x2] 37)):=⟨_,rfl⟩
        have hBx:Below wr.heap.size wr y0:=hW ▸ (Below.al (Below.refl _ _))
        have HQ:Hid (Own wr.heap.size ([.int .i64 x0,.int .i64 x1,.int .i64 x2]) y0):=Lib.hid (hW ▸ (show Own wr.heap.size ([.int .i64 x0,.int .i64 x1,.int .i64 x2]) (wr.alloc (.cells #[.int .i64 x0,.int .i64 x1,.int .i64 x2] 37)) from Own.newAt (by simp)))
        rw[← hW]
        clear hW
        obtain⟨Q,eQ⟩:∃ X,X=wr.heap.size:=⟨_,rfl⟩
        rw[← eQ] at HQ ⊢
        have Qw:wr.heap.size≤Q:=by omega
        clear eQ
        have ROWy:=Lib.hid (row_later ROW.out hBx)
        have HBy:=Lib.hid (Below.go HB.out hBx)
        clear hBx ROW HB Qw
        have oQ:=HQ.out
        have Q0:=oQ.at 0 _ rfl
        have Q1:=oQ.at 1 _ rfl
        have Q2:=oQ.at 2 _ rfl
        have Ql:=oQ.lt
        clear oQ
        have HS2:Hid (w3.heap.size≤(y0.alloc (.cells #[.int .u64 x0,.int .u64 x1,.int .u64 x2] 24)).heap.size):=Lib.hid (Below.al HBy.out).size
        go_wp2_with (at_builtin;refine wpList_append_own _ rfl _ _ 106 rfl w3.heap.size 24 u0 (.int .u64 0) 1 8 Tryz.underlying106 ui uz0 uz1 uz2 rfl (by decide) _ t _ rfl (row_later ROWy.out (Below.al (Below.refl _ _))) ⟨y0.heap.size,0,none⟩ 3 3 [.int .u64 x0,.int .u64 x1,.int .u64 x2] rfl rfl (Own.newAt (by rfl)).news (by intro v hv;simp at hv;rcases hv with rfl | rfl | rfl<;>rfl) N63.out NBY.out HS2.out ?_;intro v' w6 hrow hgr _;obtain⟨p',c',rfl,_⟩:=row_form hrow;rw[XS.out] at hrow;have o4:=Lib.hid ((Below.al HBy.out).grown hgr (Below.al HBy.out).size fun q hq=>row_ge ROWy.out q hq);have o6:=Lib.hid hrow;clear hrow hgr)
        go_roundw
        case rel=>(first | exact⟨k+1,t+3,_,_,HLT.out,HT2,rfl,by go_num,o6,o4⟩ | ((repeat apply Exists.intro);exact⟨⟨k+1,t+3,_,_,HLT.out,HT2,rfl,by go_num,o6,o4⟩,rfl⟩))
        case measure=>(have:=HLT.out;simp[intOf];omega)
       ·obtain rfl:nt=k:=by omega
        clear hlt hk
        obtain⟨w4,rfl⟩:∃ x,x=wr:=⟨_,rfl⟩
        have B3:=HB.out
        have NM3:=Lib.hid (nm_row ROW.out).2;have cap:=row_cap_ ROW.out
        have CP3:=Lib.hid cap
        have TT3:=HT
        obtain⟨t3,et⟩:∃ x,x=t:=⟨_,rfl⟩
        subst et
        obtain⟨p3_,et⟩:∃ x,x=p3:=⟨_,rfl⟩
        subst et
        obtain⟨d3,et⟩:∃ x,x=c3:=⟨_,rfl⟩
        subst et
        have HA1_:=Lib.hid (HA1.out.later B3)
        clear HA1
        have HA1:=HA1_
        clear HA1_
        have NM1_:=Lib.hid (NM1.out.later B3)
        clear NM1
        have NM1:=NM1_
        clear NM1_
        have NM2_:=Lib.hid (NM2.out.later B3)
        clear NM2
        have NM2:=NM2_
        clear NM2_
        have HB1_:=Lib.hid (Below.go HB1.out B3)
        clear HB1 HB ROW cap HT B3
        have HB1:=HB1_
        clear HB1_
        have oA:=HA1.out
        have A0:=oA.at 0 _ rfl
        have A2:=oA.at 2 _ rfl
        have Al:=oA.lt
        clear oA
        have C2_:=C2.out
        rw[← TT1.out] at C2_
        have C2t:=Lib.hid C2_
        clear C2 C2_
        have C3_:=C3.out
        rw[← TT2.out] at C3_
        have C3t:=Lib.hid C3_
        clear C3 C3_
        have C4_:=C4.out
        rw[← TT3.out] at C4_
        have C4t:=Lib.hid C4_
        clear C4 C4_
        clear BU BR
        go_wp2_with (fail)
        go_at_call 36
        refine (C1.out _ _ (nm_new CL.out)).mono ?_
        rintro e w5 ⟨⟨v1,rfl,q1,a1,rfl,hn,hx,hby⟩,hb0⟩
        have hb:=Below.go (Below.al (o := .cells #[.int .u64 (nv:Int),.int .u64 (nt:Int)] 24) (Below.refl w4.heap.size w4)) hb0
        have BY1:=Lib.hid hby
        have X1:=Lib.hid (And.intro hn hx)
        have NM1_:=Lib.hid (NM1.out.later hb)
        clear NM1
        have NM1:=NM1_
        clear NM1_
        have NM2_:=Lib.hid (NM2.out.later hb)
        clear NM2
        have NM2:=NM2_
        clear NM2_
        have NM3_:=Lib.hid (NM3.out.later hb)
        clear NM3
        have NM3:=NM3_
        clear NM3_
        have HB2:=Lib.hid (Below.go HB1.out hb)
        clear hn hx hby hb hb0 HB1 A0 A2 Al C1
        go_wp2_with (fail)
        go_at_call 122
        refine (C2t.out q1 a1 X1.out.1 X1.out.2 p1 d1 CP1.out.1 CP1.out.2 _ BY1.out NM1.out).mono ?_
        rintro e w6 ⟨⟨v2,rfl,q2,a2,rfl,hn,hx,hby⟩,hb⟩
        have BY2:=Lib.hid hby
        have X2:=Lib.hid (And.intro hn hx)
        have NM2_:=Lib.hid (NM2.out.later hb)
        clear NM2
        have NM2:=NM2_
        clear NM2_
        have NM3_:=Lib.hid (NM3.out.later hb)
        clear NM3
        have NM3:=NM3_
        clear NM3_
        have HB3:=Lib.hid (Below.go HB2.out hb)
        clear hn hx hby hb HB2 NM1 BY1 C2t
        go_wp2_with (fail)
        go_at_call 36
        refine (C3t.out q2 a2 X2.out.1 X2.out.2 p2 d2 CP2.out.1 CP2.out.2 _ BY2.out NM2.out).mono ?_
        rintro e w7 ⟨⟨v3,rfl,q3,a3,rfl,hn,hx,hby⟩,hb⟩
        have BY3:=Lib.hid hby
        have X3:=Lib.hid (And.intro hn hx)
        have NM3_:=Lib.hid (NM3.out.later hb)
        clear NM3
        have NM3:=NM3_
        clear NM3_
        have HB4:=Lib.hid (Below.go HB3.out hb)
        clear hn hx hby hb HB3 NM2 BY2 C3t
        go_wp2_with (fail)
        go_at_call 36
        refine (C4t.out q3 a3 X3.out.1 X3.out.2 p3_ d3 CP3.out.1 CP3.out.2 _ BY3.out NM3.out).mono ?_
        rintro e w8 ⟨⟨v4,rfl,hr⟩,hb⟩
        have RW:=Lib.hid (EQ.out _ _ hr)
        have HB5:=Lib.hid (Below.go HB4.out hb)
        clear hr hb HB4 NM3 BY3 C4t
        go_wp2_with (fail)
        exact bodyPost_ret (v := .tuple #[v4,.int .i64 0]) (by simp[results,Tryz.results85,go_sem]) rfl ⟨⟨_,rfl,RW.out⟩,HB5.out⟩
 ·have hd:(z != 0)=true:=by simpa using hz
  rw[show encL z (encN M.nv M.nu M.nt)=0 from if_neg hz]
  clear GD
  go_enter Tryz.func85,Tryz.ntmps85
  go_upto_region 1 with fail
  obtain⟨W0,hW⟩:∃ W0,W0=(w.alloc (.cells #[.slice M.qv M.nv M.cv,.slice M.qu M.nu M.cu,.slice M.qt M.nt M.ct] 34)):=⟨_,rfl⟩
  have hB0:Below w.heap.size w W0:=hW ▸ (Below.al (Below.refl _ _))
  have HA:Hid (Own w.heap.size [.slice M.qv M.nv M.cv,.slice M.qu M.nu M.cu,.slice M.qt M.nt M.ct] W0):=Lib.hid (hW ▸ (Own.newAt (by simp)))
  rw[← hW]
  clear hW
  obtain⟨A,eA⟩:∃ X,X=w.heap.size:=⟨_,rfl⟩
  rw[← eA] at HA ⊢
  have Aw:w.heap.size≤A:=by omega
  clear eA
  have HM0:=Lib.hid (HM.out.later hB0)
  have oA:=HA.out
  have A0:=oA.at 0 _ rfl
  have A1:=oA.at 1 _ rfl
  have A2:=oA.at 2 _ rfl
  have Al:=oA.lt
  clear oA
  go_wp2_with (fail)
  go_at_call 121
  refine (CK.out _ HM0.out).mono ?_
  rintro e w1 ⟨rfl,hb⟩
  have HB1:=Lib.hid (Below.go hB0 hb)
  clear hb hB0 HM HM0 HA CK A0 A1 A2 Al
  go_wp2_with (fail)
  exact bodyPost_ret (v := .tuple #[.slice none 0 0,.int .i64 z]) (by simp[results,Tryz.results85,go_sem]) rfl ⟨⟨_,rfl,none,0,rfl,Nat.le_refl _,by decide,.inl rfl⟩,HB1.out⟩
end Go.Proofs.YtbilamnnneddmaaGreatDoor
namespace Go.Proofs.YtbilamnnneddmaaGreatDoor
set_option linter.unusedVariables false
set_option maxRecDepth 2000
set_option linter.unusedSimpArgs false
open Go.RowKit
def vec3 (x y z:Int) (k:Nat):Int:=[x,y,z].getD k 0
theorem encF_0 (nv nu nt:Nat) (V U R:Nat→Int) (j:Nat) (h:j<2):encF nv nu nt V U R j=dg (cntF nv nt j) 0:=by
 have e:=outF_dg (fun _=>0) 0 1 (cntF nv nt) j 0 (by decide)
 rw[Nat.zero_add,Nat.one_mul,Nat.add_zero] at e
 unfold encF enc3 enc2 enc1
 rw[outF_head _ _ _ _ (by omega),outF_head _ _ _ _ (by omega),outF_head _ _ _ _ (by omega),e]
theorem encF_v (nv nu nt:Nat) (V U R:Nat→Int) (k i:Nat) (h:k<nv*3) (hi:i<2):encF nv nu nt V U R (2+2*k+i)=dg (V k) i:=by
 unfold encF enc3
 rw[outF_head _ _ _ _ (by omega),outF_head _ _ _ _ (by omega)]
 exact outF_dg _ _ _ _ k i hi
theorem encF_u (nv nu nt:Nat) (V U R:Nat→Int) (k i:Nat) (h:k<nu*2) (hi:i<2):encF nv nu nt V U R (2+2*(nv*3)+2*k+i)=dg (U k) i:=by
 unfold encF
 rw[outF_head _ _ _ _ (by omega)]
 exact outF_dg _ _ _ _ k i hi
theorem encF_t (nv nu nt:Nat) (V U R:Nat→Int) (k:Nat):encF nv nu nt V U R (2+2*(nv*3)+2*(nu*2)+k)=dg (R k) 0:=by
 have:=outF_dg (enc3 nv nu nt V U) (2+2*(nv*3)+2*(nu*2)) 1 R k 0 (by decide)
 rw[Nat.one_mul,Nat.add_zero] at this
 exact this
end Go.Proofs.YtbilamnnneddmaaGreatDoor
namespace Go.Proofs.YtbilamnnneddmaaGreatDoor
set_option linter.unusedVariables false
set_option maxRecDepth 2000
set_option linter.unusedSimpArgs false
open Go.RowKit
def erN (N t:Nat):Int:=if t≤N then 0 else 4
def valN (F:Nat→Int) (N t W:Nat):Int:=if t+W≤N then leN (fun j=>F (t+j)) W else 0
theorem in_valN {F:Nat→Int} {N:Nat} (hF:∀ j,j<N→inB (F j)) (t W:Nat):0≤valN F N t W∧valN F N t W<pw W:=by
 unfold valN
 split
 ·exact leN_lt _ _ fun j hj=>hF _ (by omega)
 ·exact⟨by decide,pw_pos W⟩
theorem nxw_ok (W N at_:Nat) (h1:1≤W) (h8:W≤8) (h:at_+W≤N):nxE N at_ 0 (W:Int) 1 8=0∧nxA at_ (W:Int) 0=at_+W:=by
 constructor
 ·unfold nxE
  rw[if_neg (by simp),if_neg (by omega),if_neg (by omega)]
 ·simp[nxA]
theorem nxw_short (W N at_:Nat) (h1:1≤W) (h8:W≤8) (h:N - at_<W):nxE N at_ 0 (W:Int) 1 8=4:=by
 unfold nxE
 rw[if_neg (by simp),if_neg (by omega),if_pos (by omega)]
theorem nxw_err (N at_:Nat) (x:Int):nxE N at_ 4 x 1 8=4:=by
 unfold nxE
 rw[if_pos (by decide)]
theorem Rd.still {w:World} {K D N at_:Nat} {er:Int} {F:Nat→Int} (h:Rd w K D F N at_ er) (he:er≠0) (t:Nat):Rd w K D F N t er:=by
 obtain⟨p,c,h1,h2,h3,h4⟩:=h.ex
 have l0:∀ s,leftN N s er=0:=fun s=>if_neg he
 refine⟨p,c,?_,?_,?_,h4⟩
 ·rw[l0] at h1 ⊢
  exact h1
 ·rw[l0]
  exact .inl rfl
 ·rw[l0]
  exact Nat.zero_le _
theorem Num_next {K D N t:Nat} {F:Nat→Int} {w:World} (W T:Nat) (wd:Int) (ew:wd=(W:Int)) (eT:t+W=T) (h1:1≤W) (h8:W≤8) (hF:∀ j,j<N→inB (F j)) (h:Rd w K D F N t (erN N t)) :
  Calls Tryz.prog 108 #[.pointer (some ⟨K,0,none⟩),.int .i64 wd] w fun e w'=>e = .returned (.int .u64 (valN F N t W))∧Rd w' K D F N T (erN N T)∧But K w w':=by
 subst ew
 subst eT
 have NA:=Num_any (W:Int) hF h
 by_cases ht:t≤N
 ·rw[show erN N t=0 from if_pos ht] at NA
  by_cases hw:t+W≤N
  ·rw[(nxw_ok W N t h1 h8 hw).1,(nxw_ok W N t h1 h8 hw).2] at NA
   rw[show erN N (t+W)=0 from if_pos hw,show valN F N t W=leN (fun j=>F (t+j)) W from if_pos hw]
   have e:numF F t (W:Int) 0=leN (fun j=>F (t+j)) W:=by
    unfold numF
    rw[show nxL (W:Int) 0=W by simp[nxL]]
   rw[e] at NA
   exact NA
  ·rw[nxw_short W N t h1 h8 (by omega)] at NA
   rw[show erN N (t+W)=4 from if_neg hw,show valN F N t W=0 from if_neg hw]
   exact NA.mono fun e w' hh=>⟨hh.1,hh.2.1.still (by decide) _,hh.2.2⟩
 ·have hw:¬t+W≤N:=by omega
  rw[show erN N t=4 from if_neg ht,nxw_err] at NA
  rw[show erN N (t+W)=4 from if_neg hw,show valN F N t W=0 from if_neg hw]
  exact NA.mono fun e w' hh=>⟨hh.1,hh.2.1.still (by decide) _,hh.2.2⟩
theorem But.news {K M o:Nat} {a b:World} {vs:List Value} (h:But K a b) (hM:a.heap.size≤M) (hK:K<a.heap.size):But K a (b.setCells M o vs) :=
 ⟨Below.setCells h.below (by omega) vs o,fun i hi hn=>(World.heap_setCells_other b M o vs (Nat.lt_of_lt_of_le hi h.below.size) (by omega)).trans (h.heap i hi hn)⟩
theorem res_two {P:Program} {fn:Func} {tmps:Array Value} {w:World} {r s T:Nat} {a:Addr} {v u:Value} (hf:fn.results=#[.cell r T,.tmp s]) (ha:tmps[r]?.getD undef = .pointer (some a)) (hl:(loadVar T a).run P w = .ok v w) (hs:tmps[s]?.getD undef=u):(results fn tmps).run P w = .ok (.tuple #[v,u]) w:=by
 subst hs
 have hx:(asAddr (Value.pointer (some a))).run P w = .ok a w:=by simp[asAddr]
 simp[results,hf,ha,hx,hl]
def sgnN (F:Nat→Int) (N t:Nat):Int:=sgn (valN F N t 2) 2
theorem sgn_zero:sgn 0 2=0:=by decide
theorem in_sgnN {F:Nat→Int} {N:Nat} (hF:∀ j,j<N→inB (F j)) (t:Nat) : -32768≤sgnN F N t∧sgnN F N t≤32767:=by
 have h:=in_valN hF t 2
 have p:=pw_vals.2.1
 unfold sgnN sgn
 split<;>omega
theorem Int_next {K D N t:Nat} {F:Nat→Int} {w:World} (T:Nat) (eT:t+2=T) (hF:∀ j,j<N→inB (F j)) (h:Rd w K D F N t (erN N t)) :
  Calls Tryz.prog 167 #[.pointer (some ⟨K,0,none⟩),.int .i64 2] w fun e w'=>e = .returned (.int .i64 (sgnN F N t))∧Rd w' K D F N T (erN N T)∧But K w w':=by
 subst eT
 have NA:=Int_any (2:Int) hF h
 have c2:(2:Int)=((2:Nat):Int):=rfl
 by_cases ht:t≤N
 ·rw[show erN N t=0 from if_pos ht] at NA
  by_cases hw:t+2≤N
  ·rw[c2,(nxw_ok 2 N t (by decide) (by decide) hw).1,(nxw_ok 2 N t (by decide) (by decide) hw).2] at NA
   rw[show erN N (t+2)=0 from if_pos hw,show sgnN F N t=sgn (leN (fun j=>F (t+j)) 2) 2 by unfold sgnN valN;rw[if_pos hw]]
   exact NA
  ·rw[c2,nxw_short 2 N t (by decide) (by decide) (by omega)] at NA
   rw[show erN N (t+2)=4 from if_neg hw,show sgnN F N t=0 by unfold sgnN valN;rw[if_neg hw];exact sgn_zero]
   exact NA.mono fun e w' hh=>⟨hh.1,hh.2.1.still (by decide) _,hh.2.2⟩
 ·have hw:¬t+2≤N:=by omega
  rw[show erN N t=4 from if_neg ht,nxw_err] at NA
  rw[show erN N (t+2)=4 from if_neg hw,show sgnN F N t=0 by unfold sgnN valN;rw[if_neg hw];exact sgn_zero]
  exact NA.mono fun e w' hh=>⟨hh.1,hh.2.1.still (by decide) _,hh.2.2⟩
def RRn (w:World) (S D:Nat) (F:Nat→Int) (N t:Nat):Prop:=∃ a,RRd w S D F N a (erN N t)∧(t≤N→a=t)
theorem RRn.lt {w:World} {S D N t:Nat} {F:Nat→Int} (h:RRn w S D F N t):S<w.heap.size:=by obtain⟨a,h1,_⟩:=h;exact h1.lt
theorem RRn.later {w w':World} {S D N t:Nat} {F:Nat→Int} (h:RRn w S D F N t) (hb:Below w.heap.size w w'):RRn w' S D F N t:=by
 obtain⟨a,h1,h2⟩:=h
 exact⟨a,h1.later hb,h2⟩
theorem RRn.far {w w':World} {S D N t K:Nat} {F:Nat→Int} (h:RRn w S D F N t) (hb:But K w w') (hS:S≠K) (hD:D≠K):RRn w' S D F N t:=by
 obtain⟨a,h1,h2⟩:=h
 exact⟨a,h1.far hb hS hD,h2⟩
def uptoG (G:Nat→Int) (c j:Nat):Int:=if j<c then G j else 0
theorem over_uptoG (G:Nat→Int) (m c l:Nat) (vs:List Value) (hl:vs.length=l) (hv:∀ i,i<l→vs[i]?=some (.int .i64 (G (c+i)))) (h:c+l≤m):over (nums .i64 (uptoG G c) m) c vs=nums .i64 (uptoG G (c+l)) m:=by
 apply List.ext_getElem?
 intro j
 unfold over
 by_cases hj:j<m
 ·rw[nums_at _ _ hj]
  by_cases h1:j<c
  ·rw[List.append_assoc,List.getElem?_append_left (by rw[List.length_take,nums_length];omega),List.getElem?_take_of_lt h1,nums_at _ _ hj]
   unfold uptoG
   rw[if_pos h1,if_pos (by omega)]
  ·by_cases h2:j<c+l
   ·rw[List.getElem?_append_left (by rw[List.length_append,List.length_take,nums_length,hl];omega),List.getElem?_append_right (by rw[List.length_take,nums_length];omega),List.length_take,nums_length,Nat.min_eq_left (by omega),hv (j - c) (by omega)]
    unfold uptoG
    rw[if_pos h2,show c+(j - c)=j by omega]
   ·rw[List.getElem?_append_right (by rw[List.length_append,List.length_take,nums_length,hl];omega),List.length_append,List.length_take,nums_length,hl,Nat.min_eq_left (by omega),List.getElem?_drop,show c+l+(j - (c+l))=j by omega,nums_at _ _ hj]
    unfold uptoG
    rw[if_neg h1,if_neg h2]
 ·rw[nums_out _ _ (by omega)]
  apply List.getElem?_eq_none
  rw[List.length_append,List.length_append,List.length_take,nums_length,hl,List.length_drop,nums_length]
  omega
theorem uptoG_zero (G:Nat→Int) (m:Nat):nums .i64 (uptoG G 0) m=nums .i64 (fun _=>0) m:=nums_congr .i64 fun j hj=>if_neg (Nat.not_lt_zero j)
theorem uptoG_all (G:Nat→Int) (m:Nat):nums .i64 (uptoG G m) m=nums .i64 G m:=nums_congr .i64 fun j hj=>if_pos hj
theorem made_zero {z:Array Value} (s n:Nat) (hs:z.size=s) (h0:0<s) (hz:∀ k,k<s→z[k]?=some (.int .i64 0)):madeCells z n=(nums .i64 (fun _=>0) n).toArray:=by
 apply Array.ext'
 apply List.ext_getElem?
 intro j
 by_cases hj:j<n
 ·rw[show (nums IntKind.i64 (fun _=>0) n).toArray.toList=nums .i64 (fun _=>0) n from rfl,nums_at _ _ hj]
  have hm:j%z.size<s:=by rw[hs];exact Nat.mod_lt _ h0
  have:=hz _ hm
  simp[madeCells,hj]
  rw[Array.getElem!_eq_getD,Array.getD_eq_getD_getElem?,this]
  rfl
 ·rw[show (nums IntKind.i64 (fun _=>0) n).toArray.toList=nums .i64 (fun _=>0) n from rfl,nums_out _ _ (by omega)]
  apply List.getElem?_eq_none
  simp[madeCells]
  omega
theorem mk_any (t e:TypeId) (s bytes:Nat) (z:Value) (ht:Tryz.prog.underlying t=some (.slice e)) (hinfo:(Tryz.prog.info? e).map (fun i=>(i.zero,i.size,i.bytes))=some (some z,s,bytes)) (hs:z.cells.size=s) (h0:0<s) (hb:bytes≤100) (hz:∀ k,k<s→z.cells[k]?=some (.int .i64 0)) (kl:IntKind) (n:Nat) (hn:n≤256) (w:World) :
  (Instr.makeSlice t (.int kl (n:Int)) (.int kl (n:Int))).run Tryz.prog w = .ok (.slice (some ⟨w.heap.size,0,none⟩) n n) (w.alloc (.cells (nums .i64 (fun _=>0) (n*s)).toArray e)):=by
 obtain⟨i,hi,hzz⟩:=Option.map_eq_some_iff.1 hinfo
 simp only[Prod.mk.injEq] at hzz
 obtain⟨hz0,hsz,hby⟩:=hzz
 have hbn:(i.bytes:Int)*(n:Int)≤281474976710656:=by
  have:i.bytes*n≤100*256:=Nat.mul_le_mul (by omega) hn
  have h2:((i.bytes*n:Nat):Int)≤281474976710656:=by omega
  rwa [Int.natCast_mul] at h2
 have hr:=run_make (P:=Tryz.prog) w t e i z ht hi hz0 kl kl n n (by omega) (Int.le_refl _) hbn (by omega)
 simp only[Int.toNat_natCast,hsz] at hr
 rw[hr,made_zero s (n*s) hs h0 hz]
theorem mkP (kl:IntKind) (n:Nat) (hn:n≤256) (w:World):(Instr.makeSlice 30 (.int kl (n:Int)) (.int kl (n:Int))).run Tryz.prog w = .ok (.slice (some ⟨w.heap.size,0,none⟩) n n) (w.alloc (.cells (nums .i64 (fun _=>0) (n*3)).toArray 41)) :=
 mk_any _ _ 3 24 (.agg #[.int .i64 0,.int .i64 0,.int .i64 0]) Tryz.underlying30 (by kernel_rfl) rfl (by decide) (by decide) (fun k hk=>match k,hk with | 0,_=>rfl | 1,_=>rfl | 2,_=>rfl) kl n hn w
theorem mkU (kl:IntKind) (n:Nat) (hn:n≤256) (w:World):(Instr.makeSlice 31 (.int kl (n:Int)) (.int kl (n:Int))).run Tryz.prog w = .ok (.slice (some ⟨w.heap.size,0,none⟩) n n) (w.alloc (.cells (nums .i64 (fun _=>0) (n*2)).toArray 99)) :=
 mk_any _ _ 2 16 (.agg #[.int .i64 0,.int .i64 0]) Tryz.underlying31 (by kernel_rfl) rfl (by decide) (by decide) (fun k hk=>match k,hk with | 0,_=>rfl | 1,_=>rfl) kl n hn w
theorem mkT (kl:IntKind) (n:Nat) (hn:n≤256) (w:World):(Instr.makeSlice 32 (.int kl (n:Int)) (.int kl (n:Int))).run Tryz.prog w = .ok (.slice (some ⟨w.heap.size,0,none⟩) n n) (w.alloc (.cells (nums .i64 (fun _=>0) (n*3)).toArray 37)) :=
 mk_any _ _ 3 24 (.agg #[.int .i64 0,.int .i64 0,.int .i64 0]) Tryz.underlying32 (by kernel_rfl) rfl (by decide) (by decide) (fun k hk=>match k,hk with | 0,_=>rfl | 1,_=>rfl | 2,_=>rfl) kl n hn w
end Go.Proofs.YtbilamnnneddmaaGreatDoor
