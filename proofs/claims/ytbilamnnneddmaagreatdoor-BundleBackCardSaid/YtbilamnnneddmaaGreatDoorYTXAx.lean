import Derived.Test.YtbilamnnneddmaaGreatDoorYMS1
import Derived.Lib.Hide
import Derived.LoopN
import Derived.LoopTactic
import Derived.Deep.Onto
import Derived.Deep.RegionHeld3
import Derived.Deep.QuietTactic
import Derived.BigQuiet
import Derived.Test.YtbilamnnneddmaaGreatDoorYDOx
import Derived.StillTailTactics
import Derived.Lib.SliceRun
import Derived.Great.BuildSlice
import Derived.Test.YtbilamnnneddmaaGreatDoorYHUx
import Derived.Test.YtbilamnnneddmaaGreatDoorYIB
namespace Go.Proofs.YtbilamnnneddmaaGreatDoor
set_option linter.unusedVariables false
set_option maxRecDepth 2000
set_option linter.unusedSimpArgs false
open Go.RowKit
structure Txr where
 S:Int
 q:Option Addr
 n:Nat
 c:Nat
 f:Nat→Int
structure TxAt (M:Txr) (w:World):Prop where
 t:NmS w 3 M.q M.n M.f
 l:M.n≤M.c
 m:M.c≤9223372036854775807
theorem TxAt.later {M:Txr} {w w':World} (h:TxAt M w) (hb:Below w.heap.size w w'):TxAt M w':=⟨h.t.later hb,h.l,h.m⟩
def okS (S:Int):Bool:=decide (S=1∨S=2∨S=4∨S=8∨S=16)
def okX (x y z:Int):Bool:=decide ((0≤x∧x≤255)∧(0≤y∧y≤255)∧(0≤z∧z≤255))
def okXs (f:Nat→Int) (i:Nat):Bool:=okX (f (i*3)) (f (i*3+1)) (f (i*3+2))
def chkT (S:Int) (n:Nat) (f:Nat→Int):Int:=if okS S=false∨(n:Int)≠S*S then 5 else if allB (okXs f) n=false then 5 else 0
structure GoodT (S:Int) (n:Nat) (f:Nat→Int):Prop where
 s:S=1∨S=2∨S=4∨S=8∨S=16
 k:(n:Int)=S*S
 v:∀ j,j<n*3→0≤f j∧f j≤255
theorem okS_iff {S:Int}:okS S=true↔S=1∨S=2∨S=4∨S=8∨S=16:=decide_eq_true_iff
theorem okX_iff {x y z:Int}:okX x y z=true↔(0≤x∧x≤255)∧(0≤y∧y≤255)∧(0≤z∧z≤255):=decide_eq_true_iff
theorem tchk_1 {S:Int} {n:Nat} {f:Nat→Int} (h:okS S=false∨(n:Int)≠S*S):chkT S n f=5:=if_pos h
theorem tchk_2 {S:Int} {n:Nat} {f:Nat→Int} (h:¬(okS S=false∨(n:Int)≠S*S)) (h2:allB (okXs f) n=false):chkT S n f=5:=by unfold chkT;rw[if_neg h,if_pos h2]
theorem tchk_3 {S:Int} {n:Nat} {f:Nat→Int} (h:¬(okS S=false∨(n:Int)≠S*S)) (h2:allB (okXs f) n=true):chkT S n f=0:=by unfold chkT;rw[if_neg h,if_neg (by simp[h2])]
theorem tchk_good {S:Int} {n:Nat} {f:Nat→Int} (h:chkT S n f=0):GoodT S n f:=by
 by_cases h1:okS S=false∨(n:Int)≠S*S
 ·rw[tchk_1 h1] at h;omega
 cases h2:allB (okXs f) n with
 | false=>rw[tchk_2 h1 h2] at h;omega
 | true =>
  have a2:=allB_iff.1 h2
  have h3:okS S=true:=by
   cases h4:okS S with
   | true=>rfl
   | false=>exact absurd (.inl h4) h1
  refine⟨okS_iff.1 h3,?_,by3 fun i hi=>?_⟩
  ·exact Classical.byContradiction fun h4=>h1 (.inr h4)
  ·exact okX_iff.1 (a2 i hi)
theorem tchk_congr {S:Int} {n:Nat} {f g:Nat→Int} (h:∀ j,j<n*3→f j=g j):chkT S n f=chkT S n g:=by
 have e1:allB (okXs f) n=allB (okXs g) n:=allB_congr fun i hi=>by unfold okXs;rw[h _ (by omega),h _ (by omega),h _ (by omega)]
 unfold chkT
 rw[e1]
theorem GoodT.cnt {S:Int} {n:Nat} {f:Nat→Int} (h:GoodT S n f):∃ s:Nat,S=(s:Int)∧(s=1∨s=2∨s=4∨s=8∨s=16)∧n=s*s:=by
 have hn:=h.k
 rcases h.s with e | e | e | e | e<;>subst e
 ·exact⟨1,rfl,by omega,by omega⟩
 ·exact⟨2,rfl,by omega,by omega⟩
 ·exact⟨4,rfl,by omega,by omega⟩
 ·exact⟨8,rfl,by omega,by omega⟩
 ·exact⟨16,rfl,by omega,by omega⟩
theorem eql3 (a0 a1 a2 b0 b1 b2:Int) (w:World):(Op.equalIn 10000 37 (.agg #[.int .i64 a0,.int .i64 a1,.int .i64 a2]) (.agg #[.int .i64 b0,.int .i64 b1,.int .i64 b2])).run Tryz.prog w = .ok (decide (a0=b0∧a1=b1∧a2=b2)) w:=by
  rw[show (10000:Nat)=9998+2 from rfl,Op.equalIn]
  simp only[Sem.run_bind,run_underlying Tryz.underlying37,Result.andThen_ok]
  by_cases e0:a0=b0<;>by_cases e1:a1=b1<;>by_cases e2:a2=b2<;>simp[go_sem,List.range',e0,e1,e2]
def eq3B (a0 a1 a2 b0 b1 b2:Int):Bool:=decide (a0=b0∧a1=b1∧a2=b2)
theorem eq3_run (a0 a1 a2 b0 b1 b2:Int) (w:World):(binOp .eql 37 (.agg #[.int .i64 a0,.int .i64 a1,.int .i64 a2]) (.agg #[.int .i64 b0,.int .i64 b1,.int .i64 b2])).run Tryz.prog w = .ok (.bool (eq3B a0 a1 a2 b0 b1 b2)) w:=by
 have h:=eql3 a0 a1 a2 b0 b1 b2 w
 simp only[go_sem,h]
 simp[eq3B,go_sem]
theorem neq3_run (a0 a1 a2 b0 b1 b2:Int) (w:World):(binOp .neq 37 (.agg #[.int .i64 a0,.int .i64 a1,.int .i64 a2]) (.agg #[.int .i64 b0,.int .i64 b1,.int .i64 b2])).run Tryz.prog w = .ok (.bool (!eq3B a0 a1 a2 b0 b1 b2)) w:=by
 have h:=eql3 a0 a1 a2 b0 b1 b2 w
 simp only[go_sem,h]
 simp[eq3B,go_sem]
theorem eq3B_iff {a0 a1 a2 b0 b1 b2:Int}:eq3B a0 a1 a2 b0 b1 b2=true↔a0=b0∧a1=b1∧a2=b2:=decide_eq_true_iff
end Go.Proofs.YtbilamnnneddmaaGreatDoor
namespace Go.Proofs.YtbilamnnneddmaaGreatDoor
set_option linter.unusedVariables false
set_option maxRecDepth 2000
set_option linter.unusedSimpArgs false
open Go.RowKit
attribute [local go_sem ↓] eq3_run neq3_run ix3_0 ix3_1 ix3_2
theorem retb {b c:Bool} (h:b=true↔c=true):Ending.returned (.bool b)=Ending.returned (.bool c):=by
 cases b<;>cases c<;>simp at h ⊢
set_option maxHeartbeats 2000000 in
theorem isSide_any (S:Int) (w:World):Calls Tryz.prog 149 #[.int .i64 S] w fun e w'=>e = .returned (.bool (okS S))∧w'=w:=by
 have HE:=Lib.hid (@okS_iff S)
 generalize okS S=b at *
 go_enter Tryz.func149,Tryz.ntmps149
 go_wp2_with (fail)
 all_goals (go_ret;refine⟨retb ?_,rfl⟩;rw[HE.out];simp at *;omega)
set_option maxHeartbeats 4000000 in
theorem offColor_any (x y z:Int) (w:World):Calls Tryz.prog 151 #[.agg #[.int .i64 x,.int .i64 y,.int .i64 z]] w fun e w'=>e = .returned (.bool (!okX x y z))∧Below w.heap.size w w':=by
 have HE:=Lib.hid (@okX_iff x y z)
 generalize okX x y z=b at *
 go_enter Tryz.func151,Tryz.ntmps151
 go_upto_region 2 with fail
 obtain⟨W0,hW⟩:∃ W0,W0=((w.alloc (.cells #[.int .i64 x,.int .i64 y,.int .i64 z] 37)).alloc (.cells #[.int .i64 x,.int .i64 y,.int .i64 z] 37)):=⟨_,rfl⟩
 have hB0:Below w.heap.size w W0:=hW ▸ (Below.al (Below.al (Below.refl _ _)))
 have HA:Hid (Own w.heap.size [.int .i64 x,.int .i64 y,.int .i64 z] W0):=Lib.hid (hW ▸ (Own.newAt (by simp)).alloc)
 have HQ:Hid (Own (w.heap.size+1) [.int .i64 x,.int .i64 y,.int .i64 z] W0):=Lib.hid (hW ▸ (Own.newAt (by simp)))
 rw[← hW]
 clear hW
 obtain⟨Q,eQ⟩:∃ X,X=(w.heap.size+1):=⟨_,rfl⟩
 rw[← eQ] at HQ ⊢
 obtain⟨A,eA⟩:∃ X,X=w.heap.size:=⟨_,rfl⟩
 have nAQ:A≠Q:=by omega
 have hQ:w.heap.size≤Q:=by omega
 rw[← eA] at HA ⊢
 clear eA eQ
 have HB:=Lib.hid hB0
 have HQw:=Lib.hid hQ
 clear hB0 hQ
 have A0:=HA.out.at 0 _ rfl;have A1:=HA.out.at 1 _ rfl;have A2:=HA.out.at 2 _ rfl;have Al:=HA.out.lt
 go_wp2_with (fail)
 clear A0 A1 A2 Al
 refine wp_loop_rounds 4 ?_
 rw[rounds_succ]
 have Q0:=HQ.out.at 0 _ rfl;have Q0f:=HQ.out.ok 0 (by simp);have Q1:=HQ.out.at 1 _ rfl;have Q1f:=HQ.out.ok 1 (by simp);have Q2:=HQ.out.at 2 _ rfl;have Q2f:=HQ.out.ok 2 (by simp);have Ql:=HQ.out.lt
 go_wp2_with (fail)
 rw[rounds_succ]
 go_wp2_with (fail)
 rw[rounds_succ]
 go_wp2_with (fail)
 rw[rounds_succ]
 have A0:=HA.out.at 0 _ rfl;have A1:=HA.out.at 1 _ rfl;have A2:=HA.out.at 2 _ rfl;have Al:=HA.out.lt
 go_wp2_with (fail)
 go_ret
 refine⟨retb ?_,?_⟩
 ·have e:eq3B (min (max x 0) 255) (min (max y 0) 255) (min (max z 0) 255) x y z=b:=by
   rw[Bool.eq_iff_iff,HE.out,eq3B_iff]
   omega
  rw[e]
 ·exact ((HB.out.setCell (p:=⟨Q,0,none⟩) HQw.out _).setCell (p:=⟨Q,1,none⟩) HQw.out _).setCell (p:=⟨Q,2,none⟩) HQw.out _
set_option maxHeartbeats 4000000 in
theorem IndexX_any (q:Option Addr) (n c:Nat) (V:Nat→Int) (hnc:n≤c) (hc:c≤9223372036854775807) (w:World) (hq:NmS w 3 q n V) :
  Calls Tryz.prog 180 #[.slice q n c,.func (.func 151) #[] #[]] w fun e w'=>∃ z:Int,e = .returned (.int .i64 z)∧(0≤z↔allB (okXs V) n=false)∧Below w.heap.size w w':=by
 have HNC:=Lib.hid hnc;have HC:=Lib.hid hc;have HQ:=Lib.hid hq
 clear hnc hc hq
 go_enter Tryz.func180,Tryz.ntmps180
 go_wp2_with (fail)
 go_loopw [5,8] (fun _ iv wr=>∃ (k:Nat),k≤n∧iv = .int .i64 k∧Hid (∀ j,j<k→okXs V j=true)∧Hid (Below w.heap.size w wr)) (fun _ iv _=>(n - (intOf iv).toNat))
 case atStart=>exact⟨0,Nat.zero_le _,rfl,Lib.hid (fun j hj=>absurd hj (Nat.not_lt_zero j)),Lib.hid (Below.refl _ _)⟩
 case round =>
  obtain⟨k,hk,rfl,ALL,HB⟩:=hrel
  by_cases hlt:k<n
  ·obtain⟨D,o,rfl,hD,hh⟩:=(HQ.out.later HB.out).at hlt
   have hki:(k:Int)<(n:Int):=by omega
   have k0:(0:Int)≤(k:Int):=by omega
   have wk:IntKind.i64.wrap ((k:Int)+1)=(k:Int)+1:=IntWalk.i64_in _ (by have:=HNC.out;have:=HC.out;omega)
   have c0:=hh.at 0 _ rfl;have c1:=hh.at 1 _ rfl;have c2:=hh.at 2 _ rfl
   clear hh
   rw[Nat.add_zero] at c0
   have HLT:=Lib.hid hlt
   clear hk hlt
   go_wp2_with (fail)
   go_at_call 151
   refine (offColor_any _ _ _ _).mono ?_
   rintro e w1 ⟨rfl,hb⟩
   have HB1:=Lib.hid (Below.go HB.out hb)
   clear hb HB c0 c1 c2 hD
   obtain⟨b,eb⟩:∃ b,okXs V k=b:=⟨_,rfl⟩
   rw[show okX (V (k*3)) (V (k*3+1)) (V (k*3+2))=b from eb]
   cases b with
   | true =>
    have ALL2:Hid (∀ j,j<k+1→okXs V j=true):=Lib.hid fun j hj=>(Nat.lt_succ_iff_lt_or_eq.1 hj).elim (ALL.out j) (fun e=>by rw[e];exact eb)
    clear eb ALL
    go_wp2_with (fail)
    go_roundw
    case rel=>(first | exact⟨k+1,HLT.out,by go_num,ALL2,HB1⟩ | ((repeat apply Exists.intro);exact⟨⟨k+1,HLT.out,by go_num,ALL2,HB1⟩,rfl⟩))
    case measure=>(have:=HLT.out;simp[intOf];omega)
   | false =>
    have NO:Hid ((0:Int)≤(k:Int)↔allB (okXs V) n=false):=Lib.hid ⟨fun _=>allB_not HLT.out eb,fun _=>k0⟩
    clear eb ALL
    go_wp2_with (fail)
    go_ret
    exact⟨k,rfl,NO.out,HB1.out⟩
  ·obtain rfl:k=n:=by omega
   have YES:Hid ((0:Int) ≤ -1↔allB (okXs V) k=false):=Lib.hid ⟨fun h=>by omega,fun h=>by rw[allB_iff.2 ALL.out] at h;cases h⟩
   clear hlt hk ALL
   go_wp2_with (fail)
   go_ret
   exact⟨-1,rfl,YES.out,HB.out⟩
set_option maxHeartbeats 2000000 in
theorem ContX_any (q:Option Addr) (n c:Nat) (V:Nat→Int) (hnc:n≤c) (hc:c≤9223372036854775807) (w:World) (hq:NmS w 3 q n V) :
  Calls Tryz.prog 150 #[.slice q n c,.func (.func 151) #[] #[]] w fun e w'=>e = .returned (.bool (!allB (okXs V) n))∧Below w.heap.size w w':=by
 have F:=Lib.hid (IndexX_any q n c V hnc hc w hq)
 clear hnc hc hq
 go_enter Tryz.func150,Tryz.ntmps150
 go_wp2_with (fail)
 go_at_call 180
 refine F.out.mono ?_
 rintro e w1 ⟨z,rfl,hz,hb⟩
 clear F
 have R:Hid (decide (0≤z) = !allB (okXs V) n):=Lib.hid (by
  cases h:allB (okXs V) n with
  | false=>rw[h] at hz;simpa using hz
  | true=>rw[h] at hz;simpa using hz)
 clear hz
 go_wp2_with (fail)
 go_ret
 exact⟨by rw[← R.out];rfl,hb⟩
set_option maxHeartbeats 4000000 in
theorem tCheck_any (M:Txr) (w:World) (hM:TxAt M w):Calls Tryz.prog 123 #[.agg #[.int .i64 M.S,.slice M.q M.n M.c]] w fun e w'=>e = .returned (.int .i64 (chkT M.S M.n M.f))∧Below w.heap.size w w':=by
 obtain⟨S,q,n,c,f⟩:=M
 have HT:=Lib.hid hM.t;have HL:=Lib.hid hM.l;have HC:=Lib.hid hM.m
 dsimp only at *
 have V1:=Lib.hid (@tchk_1 S n f);have V2:=Lib.hid (@tchk_2 S n f);have V3:=Lib.hid (@tchk_3 S n f)
 generalize chkT S n f=z at *
 clear hM
 go_enter Tryz.func123,Tryz.ntmps123
 go_upto_region 1 with fail
 obtain⟨W0,hW⟩:∃ W0,W0=(w.alloc (.cells #[.int .i64 S,.slice q n c] 36)):=⟨_,rfl⟩
 have hB0:Below w.heap.size w W0:=hW ▸ (Below.al (Below.refl _ _))
 have HA:Hid (Own w.heap.size [.int .i64 S,.slice q n c] W0):=Lib.hid (hW ▸ (Own.newAt (by simp)))
 rw[← hW]
 clear hW
 obtain⟨A,eA⟩:∃ X,X=w.heap.size:=⟨_,rfl⟩
 rw[← eA] at HA ⊢
 clear eA
 have HB:=Lib.hid hB0
 clear hB0
 have A0:=HA.out.at 0 _ rfl;have A1:=HA.out.at 1 _ rfl;have Al:=HA.out.lt
 go_wp2_with (fail)
 go_at_call 149
 refine (isSide_any S _).mono ?_
 rintro e w1 ⟨rfl,hw⟩
 subst hw
 obtain⟨b,eb⟩:∃ b,okS S=b:=⟨_,rfl⟩
 rw[eb]
 cases b with
 | false =>
  obtain rfl:z=5:=V1.out (.inl eb)
  clear V1 V2 V3 eb
  go_wp2_with (fail)
  go_ret
  exact⟨rfl,HB.out⟩
 | true =>
  have hSS:0≤S*S∧S*S≤256:=by rcases okS_iff.1 eb with rfl | rfl | rfl | rfl | rfl<;>decide
  have wm:IntKind.i64.wrap (S*S)=S*S:=IntWalk.i64_in _ (by omega)
  have EB:=Lib.hid eb
  clear eb hSS
  by_cases hn:(n:Int)=S*S
  ·have hc:((n:Int) != S*S)=false:=by simpa using hn
   have HN:=Lib.hid hn
   clear hn
   go_wp2_with (fail)
   go_at_call 150
   refine (ContX_any q n c f HL.out HC.out _ (HT.out.later HB.out)).mono ?_
   rintro e w2 ⟨rfl,hb⟩
   have HB2:=Lib.hid (Below.go HB.out hb)
   clear hb A0 A1 Al
   have ng:Hid (¬(okS S=false∨(n:Int)≠S*S)):=Lib.hid (by rw[EB.out,HN.out];simp)
   obtain⟨b,eb⟩:∃ b,allB (okXs f) n=b:=⟨_,rfl⟩
   rw[eb]
   cases b with
   | false =>
    obtain rfl:z=5:=V2.out ng.out eb
    clear V1 V2 V3 eb
    go_wp2_with (fail)
    go_ret
    exact⟨rfl,HB2.out⟩
   | true =>
    obtain rfl:z=0:=V3.out ng.out eb
    clear V1 V2 V3 eb
    go_wp2_with (fail)
    go_ret
    exact⟨rfl,HB2.out⟩
  ·have hc:((n:Int) != S*S)=true:=by simpa using hn
   obtain rfl:z=5:=V1.out (.inr hn)
   clear V1 V2 V3 hn
   go_wp2_with (fail)
   go_ret
   exact⟨rfl,HB.out⟩
end Go.Proofs.YtbilamnnneddmaaGreatDoor
namespace Go.Proofs.YtbilamnnneddmaaGreatDoor
set_option linter.unusedVariables false
set_option maxRecDepth 2000
set_option linter.unusedSimpArgs false
open Go.RowKit
end Go.Proofs.YtbilamnnneddmaaGreatDoor
namespace Go.Proofs.YtbilamnnneddmaaGreatDoor
set_option linter.unusedVariables false
set_option maxRecDepth 2000
set_option linter.unusedSimpArgs false
open Go.RowKit
attribute [local go_sem ↓] eq3_run neq3_run
attribute [local go_sem ↓ high] sliced_head
end Go.Proofs.YtbilamnnneddmaaGreatDoor
namespace Go.Proofs.YtbilamnnneddmaaGreatDoor
set_option linter.unusedVariables false
set_option maxRecDepth 2000
set_option linter.unusedSimpArgs false
open Go.RowKit
attribute [local go_sem ↓] ix3_0 ix3_1 ix3_2
def encT (S:Int) (f:Nat→Int) (j:Nat):Int:=if j=0 then S else f (j - 1)
def encTL (z:Int) (n:Nat):Nat:=if z=0 then 1+n*3 else 0
theorem RowR.congr {w:World} {v:Value} {n:Nat} {f g:Nat→Int} (h:RowR w v n f) (e:∀ j,j<n→f j=g j):RowR w v n g:=by
 obtain⟨q,c,h1,h2,h3,h4⟩:=h
 refine⟨q,c,h1,h2,h3,?_⟩
 rcases h4 with h4 | ⟨b,off,h5,h6⟩
 ·exact .inl h4
 ·refine .inr ⟨b,off,h5,?_⟩
  rw[← nums_congr .u8 e]
  exact h6
theorem enc_out {S:Int} {n:Nat} {f:Nat→Int} (h:GoodT S n f) (j:Nat) (hj:j<1+n*3):outF (outF (fun _=>0) 0 1 (fun _=>S)) 1 1 f j=encT S f j:=by
 have hs:0≤S∧S≤255:=by rcases h.s with e | e | e | e | e<;>omega
 unfold encT
 by_cases h0:j=0
 ·subst h0
  rw[if_pos rfl,outF_head _ _ _ _ (by omega)]
  unfold outF dg
  rw[if_neg (by omega),pw_zero]
  show S/1%256=S
  omega
 ·rw[if_neg h0]
  unfold outF dg
  rw[if_neg (by omega)]
  have h1:=h.v (j - 1) (by omega)
  rw[Nat.div_one,Nat.mod_one,pw_zero]
  omega
set_option maxHeartbeats 16000000 in
theorem tEncode_any (M:Txr) (w:World) (hM:TxAt M w):Calls Tryz.prog 86 #[.agg #[.int .i64 M.S,.slice M.q M.n M.c]] w fun e w'=>(∃ v,e = .returned (.tuple #[v,.int .i64 (chkT M.S M.n M.f)])∧RowR w' v (encTL (chkT M.S M.n M.f) M.n) (encT M.S M.f))∧Below w.heap.size w w':=by
 have HM:=Lib.hid hM
 have CK:=Lib.hid (tCheck_any M)
 have GD:=Lib.hid (@tchk_good M.S M.n M.f)
 obtain⟨S,q,n,c,f⟩:=M
 dsimp only at *
 generalize chkT S n f=z at *
 clear hM
 by_cases hz:z=0
 ·subst hz
  have GO:=GD.out rfl
  clear GD
  rw[show encTL 0 n=1+n*3 from rfl]
  have EQ:Hid (∀ w v,RowR w v (1+n*3) (outF (outF (fun _=>0) 0 1 (fun _=>S)) 1 1 f)→RowR w v (1+n*3) (encT S f)):=Lib.hid (fun w v h=>h.congr (fun j hj=>enc_out GO j hj))
  obtain⟨s,eS,hs,hn⟩:=GO.cnt
  have gv:=GO.v
  have n256:n≤256:=by rcases hs with e | e | e | e | e<;>subst e<;>omega
  have s16:0≤S∧S≤16:=by omega
  have rS:IntKind.u64.wrap S=S:=IntWalk.u64_in _ (by omega)
  have C1:=Lib.hid (fun p w hp=>Put_ok none p 0 0 1 1 1 1 (fun _=>0) (fun _=>S) rfl (by decide) (by decide) (fun k hk=>by omega) (fun k hk=>fit_1 (by omega)) (by decide) (by decide) (by decide) (by decide) (by decide) (by decide) w (.inl rfl) hp)
  have C2:=Lib.hid (fun q c hc1 hc2 p c2 h1 h2 w hq hp=>Put_ok q p 1 c (n*3) c2 1 (1+n*3) (outF (fun _=>0) 0 1 (fun _=>S)) f (by omega) (by decide) (by decide) (fun k hk=>by have:=gv k hk;omega) (fun k hk=>fit_1 (by have:=gv k hk;omega)) hc1 hc2 h1 h2 (by omega) (by omega) w hq hp)
  have BU:=Lib.hid (fun j (hj:j<n*3)=>show IntKind.u64.wrap (f j)=f j from IntWalk.u64_in _ (by have:=gv j hj;omega))
  have HV:=Lib.hid HM.out.t
  dsimp only at HV
  have LX:=Lib.hid n256
  generalize outF (outF (fun _=>0) 0 1 (fun _=>S)) 1 1 f=E2 at *
  generalize outF (fun _=>0) 0 1 (fun _=>S)=E1 at *
  have CL:Hid ([Value.int .u64 S]=nums .u64 (fun _=>S) 1):=Lib.hid rfl
  generalize encT S f=EE at *
  clear eS hs hn gv n256 s16 GO
  go_enter Tryz.func86,Tryz.ntmps86
  go_upto_region 1 with fail
  obtain⟨W0,hW⟩:∃ W0,W0=(w.alloc (.cells #[.int .i64 S,.slice q n c] 36)):=⟨_,rfl⟩
  have hB0:Below w.heap.size w W0:=hW ▸ (Below.al (Below.refl _ _))
  have HA:Hid (Own w.heap.size [.int .i64 S,.slice q n c] W0):=Lib.hid (hW ▸ (Own.newAt (by simp)))
  rw[← hW]
  clear hW
  obtain⟨A,eA⟩:∃ X,X=w.heap.size:=⟨_,rfl⟩
  rw[← eA] at HA ⊢
  clear eA
  have HM0:=Lib.hid (HM.out.later hB0)
  have A0:=HA.out.at 0 _ rfl;have A1:=HA.out.at 1 _ rfl;have Al:=HA.out.lt
  go_wp2_with (fail)
  go_at_call 123
  refine (CK.out _ HM0.out).mono ?_
  rintro e w1 ⟨rfl,hb⟩
  have HA1:=Lib.hid (HA.out.later hb)
  have HB1:=Lib.hid (Below.go hB0 hb)
  have HV1:=Lib.hid (HV.out.later HB1.out)
  clear hb hB0 HM HM0 HA CK A0 A1 Al HV
  obtain⟨u0,ui,uz0,uz1,uz2⟩:=infoQ_parts
  have A1:=HA1.out.at 1 _ rfl;have Al:=HA1.out.lt
  go_wp2_with (fail)
  clear A1 Al
  go_loopw [5,20] (fun v iv wr=>∃ (k t:Nat) (p3:Option Addr) (c3:Nat),k≤n∧Hid (t=k*3)∧v = .slice p3 t c3∧iv = .int .i64 k∧Hid (wr.ownsRow w1.heap.size 24 1 (.slice p3 t c3) t (nums .u64 f t))∧Hid (Below w1.heap.size w1 wr)) (fun _ iv _=>(n - (intOf iv).toNat))
  case atStart=>exact⟨0,0,none,0,Nat.zero_le _,Lib.hid (Nat.zero_mul _).symm,rfl,rfl,Lib.hid (World.ownsRow_nil _ _ _ _),Lib.hid (Below.refl _ _)⟩
  case round =>
   obtain⟨k,t,p3,c3,hk,HT,rfl,rfl,ROW,HB⟩:=hrel
   by_cases hlt:k<n
   ·obtain⟨D,o,rfl,hD,c0,c1,c2⟩:=(HV1.out.later HB.out).at3 hlt
    have hki:(k:Int)<(n:Int):=by omega
    have k0:(0:Int)≤(k:Int):=by omega
    have wk:IntKind.i64.wrap ((k:Int)+1)=(k:Int)+1:=IntWalk.i64_in _ (by have:=LX.out;omega)
    have HLT:=Lib.hid hlt
    obtain⟨x0,ex0⟩:∃ x,f (k*3)=x:=⟨_,rfl⟩
    rw[ex0] at c0
    have wx0:IntKind.u64.wrap x0=x0:=by rw[← ex0];exact BU.out _ (by omega)
    obtain⟨x1,ex1⟩:∃ x,f (k*3+1)=x:=⟨_,rfl⟩
    rw[ex1] at c1
    have wx1:IntKind.u64.wrap x1=x1:=by rw[← ex1];exact BU.out _ (by omega)
    obtain⟨x2,ex2⟩:∃ x,f (k*3+2)=x:=⟨_,rfl⟩
    rw[ex2] at c2
    have wx2:IntKind.u64.wrap x2=x2:=by rw[← ex2];exact BU.out _ (by omega)
    have XS0:Hid (nums .u64 f (t+0) ++ [.int .u64 x0]=nums .u64 f (t+0+1)):=Lib.hid (by
     refine nums_append .u64 f (fun _=>x0) (t+0) 1 (fun i hi=>?_)
     obtain rfl:i=0:=by omega
     rw[HT.out]
     exact ex0)
    have XS1:Hid (nums .u64 f (t+1) ++ [.int .u64 x1]=nums .u64 f (t+1+1)):=Lib.hid (by
     refine nums_append .u64 f (fun _=>x1) (t+1) 1 (fun i hi=>?_)
     obtain rfl:i=0:=by omega
     rw[HT.out]
     exact ex1)
    have XS2:Hid (nums .u64 f (t+2) ++ [.int .u64 x2]=nums .u64 f (t+2+1)):=Lib.hid (by
     refine nums_append .u64 f (fun _=>x2) (t+2) 1 (fun i hi=>?_)
     obtain rfl:i=0:=by omega
     rw[HT.out]
     exact ex2)
    have HT2:Hid (t+0+1+1+1=(k+1)*3):=Lib.hid (by have:=HT.out;omega)
    have T800:t≤800:=by rw[HT.out];have:=LX.out;omega
    have N63:=Lib.hid (show t+3≤maxLen by unfold maxLen;omega)
    have NBY:=Lib.hid (show (t+3)*8≤140737488355328 by omega)
    clear hk hlt T800 ex0 ex1 ex2
    go_upto_region 8 with fail
    clear hD c0 c1 c2
    obtain⟨y0,hW⟩:∃ y0,y0=(wr.alloc (.cells #[.int .i64 x0,.int .i64 x1,.int .i64 x2] 37)):=⟨_,rfl⟩
    have hBx:Below wr.heap.size wr y0:=hW ▸ (Below.al (Below.refl _ _))
    have HQ:Hid (Own wr.heap.size ([.int .i64 x0,.int .i64 x1,.int .i64 x2]) y0):=Lib.hid (hW ▸ (show Own wr.heap.size ([.int .i64 x0,.int .i64 x1,.int .i64 x2]) (wr.alloc (.cells #[.int .i64 x0,.int .i64 x1,.int .i64 x2] 37)) from Own.newAt (by simp)))
    rw[← hW]
    clear hW
    obtain⟨Q,eQ⟩:∃ X,X=wr.heap.size:=⟨_,rfl⟩
    rw[← eQ] at HQ ⊢
    clear eQ
    have ROW0:=Lib.hid (row_later ROW.out hBx)
    have HB0:=Lib.hid (Below.go HB.out hBx)
    clear hBx ROW HB
    have Q0:=HQ.out.at 0 _ rfl;have Q1:=HQ.out.at 1 _ rfl;have Q2:=HQ.out.at 2 _ rfl;have Ql:=HQ.out.lt
    rw[show (Value.slice p3 t c3) = .slice p3 (t+0) c3 from rfl]
    have ROW0_:Hid (y0.ownsRow w1.heap.size 24 1 (.slice p3 (t+0) c3) (t+0) (nums .u64 f (t+0))):=ROW0
    clear ROW0
    have ROW0:=ROW0_
    clear ROW0_
    go_wp2_with (fail)
    clear Q0 Q1 Q2 Ql
    refine wp_loop_rounds 4 ?_
    rw[rounds_succ]
    have HS0:Hid (w1.heap.size≤(y0.alloc (.cells #[.int .u64 x0] 24)).heap.size):=Lib.hid (Below.al HB0.out).size
    go_wp2_with (at_builtin;refine wpList_append_own _ rfl _ _ 106 rfl w1.heap.size 24 u0 (.int .u64 0) 1 8 Tryz.underlying106 ui uz0 uz1 uz2 rfl (by decide) _ (t+0) _ rfl (row_later ROW0.out (Below.al (Below.refl _ _))) ⟨y0.heap.size,0,none⟩ 1 1 [.int .u64 x0] rfl rfl (Own.newAt (by rfl)).news (by intro v hv;simp at hv;subst hv;rfl) (by have:=N63.out;omega) (by have:=NBY.out;omega) HS0.out ?_;intro v' y1 hrow hgr _;obtain⟨p0_,c0_,rfl,_⟩:=row_form hrow;have HB1:=Lib.hid ((Below.al HB0.out).grown hgr (Below.al HB0.out).size fun q hq=>row_ge ROW0.out q hq);have ROW1:=Lib.hid (XS0.out ▸ hrow);clear hrow hgr)
    clear ROW0 HB0 HS0
    rw[rounds_succ]
    have HS1:Hid (w1.heap.size≤(y1.alloc (.cells #[.int .u64 x1] 24)).heap.size):=Lib.hid (Below.al HB1.out).size
    go_wp2_with (at_builtin;refine wpList_append_own _ rfl _ _ 106 rfl w1.heap.size 24 u0 (.int .u64 0) 1 8 Tryz.underlying106 ui uz0 uz1 uz2 rfl (by decide) _ (t+0+1) _ rfl (row_later ROW1.out (Below.al (Below.refl _ _))) ⟨y1.heap.size,0,none⟩ 1 1 [.int .u64 x1] rfl rfl (Own.newAt (by rfl)).news (by intro v hv;simp at hv;subst hv;rfl) (by have:=N63.out;omega) (by have:=NBY.out;omega) HS1.out ?_;intro v' y2 hrow hgr _;obtain⟨p1_,c1_,rfl,_⟩:=row_form hrow;have HB2:=Lib.hid ((Below.al HB1.out).grown hgr (Below.al HB1.out).size fun q hq=>row_ge ROW1.out q hq);have ROW2:=Lib.hid (XS1.out ▸ hrow);clear hrow hgr)
    clear ROW1 HB1 HS1
    rw[rounds_succ]
    have HS2:Hid (w1.heap.size≤(y2.alloc (.cells #[.int .u64 x2] 24)).heap.size):=Lib.hid (Below.al HB2.out).size
    go_wp2_with (at_builtin;refine wpList_append_own _ rfl _ _ 106 rfl w1.heap.size 24 u0 (.int .u64 0) 1 8 Tryz.underlying106 ui uz0 uz1 uz2 rfl (by decide) _ (t+0+1+1) _ rfl (row_later ROW2.out (Below.al (Below.refl _ _))) ⟨y2.heap.size,0,none⟩ 1 1 [.int .u64 x2] rfl rfl (Own.newAt (by rfl)).news (by intro v hv;simp at hv;subst hv;rfl) (by have:=N63.out;omega) (by have:=NBY.out;omega) HS2.out ?_;intro v' y3 hrow hgr _;obtain⟨p2_,c2_,rfl,_⟩:=row_form hrow;have HB3:=Lib.hid ((Below.al HB2.out).grown hgr (Below.al HB2.out).size fun q hq=>row_ge ROW2.out q hq);have ROW3:=Lib.hid (XS2.out ▸ hrow);clear hrow hgr)
    clear ROW2 HB2 HS2
    rw[rounds_succ]
    go_wp2_with (fail)
    go_roundw
    case rel=>(first | exact⟨k+1,t+0+1+1+1,_,_,HLT.out,HT2,rfl,by go_num,ROW3,HB3⟩ | ((repeat apply Exists.intro);exact⟨⟨k+1,t+0+1+1+1,_,_,HLT.out,HT2,rfl,by go_num,ROW3,HB3⟩,rfl⟩))
    case measure=>(have:=HLT.out;simp[intOf];omega)
   ·obtain rfl:k=n:=by omega
    clear hlt hk
    obtain⟨w2,rfl⟩:∃ x,x=wr:=⟨_,rfl⟩
    have B1:=HB.out
    have NM1:=Lib.hid (nm_row ROW.out).2;have cap:=row_cap_ ROW.out
    have CP1:=Lib.hid cap
    have HA2:=Lib.hid (HA1.out.later B1)
    have HB2:=Lib.hid (Below.go HB1.out B1)
    clear HA1 HB1 HB ROW cap B1 HV1 BU
    have A0:=HA2.out.at 0 _ rfl;have Al:=HA2.out.lt
    have C2_:=C2.out
    rw[← HT.out] at C2_
    have C2t:=Lib.hid C2_
    clear C2 C2_
    go_wp2_with (fail)
    go_at_call 36
    refine (C1.out _ _ (nm_new CL.out)).mono ?_
    rintro e w5 ⟨⟨v1,rfl,q1,a1,rfl,hn,hx,hby⟩,hb0⟩
    have hb:=Below.go (Below.al (o := .cells #[.int .u64 S] 24) (Below.refl w2.heap.size w2)) hb0
    have BY1:=Lib.hid hby
    have X1:=Lib.hid (And.intro hn hx)
    have NM2:=Lib.hid (NM1.out.later hb)
    have HB3:=Lib.hid (Below.go HB2.out hb)
    clear hn hx hby hb hb0 HB2 A0 Al C1 NM1
    go_wp2_with (fail)
    go_at_call 36
    refine (C2t.out q1 a1 X1.out.1 X1.out.2 _ _ CP1.out.1 CP1.out.2 _ BY1.out NM2.out).mono ?_
    rintro e w6 ⟨⟨v2,rfl,hr⟩,hb⟩
    have RW:=Lib.hid (EQ.out _ _ (HT.out ▸ hr))
    have HB4:=Lib.hid (Below.go HB3.out hb)
    clear hr hb HB3 NM2 BY1 C2t
    go_wp2_with (fail)
    exact bodyPost_ret (v := .tuple #[v2,.int .i64 0]) (by simp[results,Tryz.results86,go_sem]) rfl ⟨⟨_,rfl,RW.out⟩,HB4.out⟩
 ·have hd:(z != 0)=true:=by simpa using hz
  rw[show encTL z n=0 from if_neg hz]
  clear GD
  go_enter Tryz.func86,Tryz.ntmps86
  go_upto_region 1 with fail
  obtain⟨W0,hW⟩:∃ W0,W0=(w.alloc (.cells #[.int .i64 S,.slice q n c] 36)):=⟨_,rfl⟩
  have hB0:Below w.heap.size w W0:=hW ▸ (Below.al (Below.refl _ _))
  have HA:Hid (Own w.heap.size [.int .i64 S,.slice q n c] W0):=Lib.hid (hW ▸ (Own.newAt (by simp)))
  rw[← hW]
  clear hW
  obtain⟨A,eA⟩:∃ X,X=w.heap.size:=⟨_,rfl⟩
  rw[← eA] at HA ⊢
  clear eA
  have HM0:=Lib.hid (HM.out.later hB0)
  have A0:=HA.out.at 0 _ rfl;have A1:=HA.out.at 1 _ rfl;have Al:=HA.out.lt
  go_wp2_with (fail)
  go_at_call 123
  refine (CK.out _ HM0.out).mono ?_
  rintro e w1 ⟨rfl,hb⟩
  have HB1:=Lib.hid (Below.go hB0 hb)
  clear hb hB0 HM HM0 HA CK A0 A1 Al
  go_wp2_with (fail)
  exact bodyPost_ret (v := .tuple #[.slice none 0 0,.int .i64 z]) (by simp[results,Tryz.results86,go_sem]) rfl ⟨⟨_,rfl,none,0,rfl,Nat.le_refl _,by decide,.inl rfl⟩,HB1.out⟩
end Go.Proofs.YtbilamnnneddmaaGreatDoor
namespace Go.Proofs.YtbilamnnneddmaaGreatDoor
set_option linter.unusedVariables false
set_option maxRecDepth 2000
set_option linter.unusedSimpArgs false
open Go.RowKit
end Go.Proofs.YtbilamnnneddmaaGreatDoor
namespace Go.Proofs.YtbilamnnneddmaaGreatDoor
set_option linter.unusedVariables false
set_option maxRecDepth 2000
set_option linter.unusedSimpArgs false
open Go.RowKit
def txl (f:Nat→Int) (s x y i:Nat):Int:=f ((y*s+x)*3+i)
end Go.Proofs.YtbilamnnneddmaaGreatDoor
namespace Go.Proofs.YtbilamnnneddmaaGreatDoor
set_option linter.unusedVariables false
set_option maxRecDepth 2000
set_option linter.unusedSimpArgs false
open Go.RowKit
def meanF (a b c d:Int):Int:=(a+b+c+d+2)/4
end Go.Proofs.YtbilamnnneddmaaGreatDoor
namespace Go.Proofs.YtbilamnnneddmaaGreatDoor
set_option linter.unusedVariables false
set_option maxRecDepth 2000
set_option linter.unusedSimpArgs false
open Go.RowKit
end Go.Proofs.YtbilamnnneddmaaGreatDoor
namespace Go.Proofs.YtbilamnnneddmaaGreatDoor
set_option linter.unusedVariables false
set_option maxRecDepth 2000
set_option linter.unusedSimpArgs false
open Go.RowKit
def hlfT (f:Nat→Int) (s x y i:Nat):Int:=meanF (txl f s (2*x) (2*y) i) (txl f s (2*x+1) (2*y) i) (txl f s (2*x) (2*y+1) i) (txl f s (2*x+1) (2*y+1) i)
def hlfF (f:Nat→Int) (s h j:Nat):Int:=hlfT f s (j/3%h) (j/3/h) (j%3)
theorem infoX:(Tryz.prog.info? 37).map (fun i=>(i.zero,i.size,i.bytes))=some (some (.agg #[.int .i64 0,.int .i64 0,.int .i64 0]),3,24):=by kernel_rfl
theorem infoX_parts:∃ i,Tryz.prog.info? 37=some i∧i.zero=some (.agg #[.int .i64 0,.int .i64 0,.int .i64 0])∧i.size=3∧i.bytes=24:=by
 obtain⟨i,hi,h⟩:=Option.map_eq_some_iff.1 infoX
 simp only[Prod.mk.injEq] at h
 exact⟨i,hi,h.1,h.2.1,h.2.2⟩
end Go.Proofs.YtbilamnnneddmaaGreatDoor
namespace Go.Proofs.YtbilamnnneddmaaGreatDoor
set_option linter.unusedVariables false
set_option maxRecDepth 2000
set_option linter.unusedSimpArgs false
open Go.RowKit
end Go.Proofs.YtbilamnnneddmaaGreatDoor
namespace Go.Proofs.YtbilamnnneddmaaGreatDoor
set_option linter.unusedVariables false
set_option maxRecDepth 2000
set_option linter.unusedSimpArgs false
open Go.RowKit
attribute [local go_sem ↓] eq3_run neq3_run
end Go.Proofs.YtbilamnnneddmaaGreatDoor
namespace Go.Proofs.YtbilamnnneddmaaGreatDoor
set_option linter.unusedVariables false
set_option maxRecDepth 2000
set_option linter.unusedSimpArgs false
open Go.RowKit
theorem neqP0 (a b c:Int) (w:World):(binOp .neq 41 (.agg #[.int .i64 a,.int .i64 b,.int .i64 c]) (.agg #[.int .i64 0,.int .i64 0,.int .i64 0])).run Tryz.prog w = .ok (.bool (!decide (nil3 a b c))) w:=by
 unfold nil3
 by_cases x:a=0<;>by_cases y:b=0<;>by_cases z:c=0<;>simp[x,y,z,go_sem]
attribute [local go_sem ↓] neqP0
set_option maxHeartbeats 4000000 in
theorem hasMore_any (l:Nat→Int) (hk:0≤l 0∧l 0≤2) (w:World):Calls Tryz.prog 153 #[(.agg #[.int .i64 (l 0),.int .i64 (l 1),.int .i64 (l 2),.int .i64 (l 3),.int .i64 (l 4),.int .i64 (l 5),.int .i64 (l 6),.int .i64 (l 7),.int .i64 (l 8),.int .i64 (l 9),.int .i64 (l 10),.int .i64 (l 11),.int .i64 (l 12)])] w fun e w'=>e = .returned (.bool (!decide (lgC l)))∧Below w.heap.size w w':=by
 have HC0:Hid ((lgC l)=((l 0=2→nil3 (l 4) (l 5) (l 6))∧(l 0≠1→nil3 (l 7) (l 8) (l 9)∧nil3 (l 10) (l 11) (l 12)))):=Lib.hid rfl
 obtain⟨b,eb⟩:∃ b,decide (lgC l)=b:=⟨_,rfl⟩
 rw[eb]
 have EB:Hid (b=decide ((l 0=2→nil3 (l 4) (l 5) (l 6))∧(l 0≠1→nil3 (l 7) (l 8) (l 9)∧nil3 (l 10) (l 11) (l 12)))):=Lib.hid (by rw[← eb];exact decide_eq_decide.2 (iff_of_eq HC0.out))
 clear eb HC0
 obtain⟨b1,e1⟩:∃ b,decide (nil3 (l 4) (l 5) (l 6))=b:=⟨_,rfl⟩
 obtain⟨b2,e2⟩:∃ b,decide (nil3 (l 7) (l 8) (l 9))=b:=⟨_,rfl⟩
 obtain⟨b3,e3⟩:∃ b,decide (nil3 (l 10) (l 11) (l 12))=b:=⟨_,rfl⟩
 have HK:=Lib.hid hk
 clear hk
 go_enter Tryz.func153,Tryz.ntmps153
 go_upto_region 2 with fail
 obtain⟨W0,hW⟩:∃ W0,W0=((w.alloc (.cells #[.int .i64 (l 0),.int .i64 (l 1),.int .i64 (l 2),.int .i64 (l 3),.int .i64 (l 4),.int .i64 (l 5),.int .i64 (l 6),.int .i64 (l 7),.int .i64 (l 8),.int .i64 (l 9),.int .i64 (l 10),.int .i64 (l 11),.int .i64 (l 12)] 43)).alloc (.cells #[.int .i64 0,.int .i64 0,.int .i64 0] 41)):=⟨_,rfl⟩
 have hB0:Below w.heap.size w W0:=hW ▸ (Below.al (Below.al (Below.refl _ _)))
 have HA:Hid (Own w.heap.size ([.int .i64 (l 0),.int .i64 (l 1),.int .i64 (l 2),.int .i64 (l 3),.int .i64 (l 4),.int .i64 (l 5),.int .i64 (l 6),.int .i64 (l 7),.int .i64 (l 8),.int .i64 (l 9),.int .i64 (l 10),.int .i64 (l 11),.int .i64 (l 12)]) W0):=Lib.hid (hW ▸ (show Own w.heap.size ([.int .i64 (l 0),.int .i64 (l 1),.int .i64 (l 2),.int .i64 (l 3),.int .i64 (l 4),.int .i64 (l 5),.int .i64 (l 6),.int .i64 (l 7),.int .i64 (l 8),.int .i64 (l 9),.int .i64 (l 10),.int .i64 (l 11),.int .i64 (l 12)]) (w.alloc (.cells #[.int .i64 (l 0),.int .i64 (l 1),.int .i64 (l 2),.int .i64 (l 3),.int .i64 (l 4),.int .i64 (l 5),.int .i64 (l 6),.int .i64 (l 7),.int .i64 (l 8),.int .i64 (l 9),.int .i64 (l 10),.int .i64 (l 11),.int .i64 (l 12)] 43)) from Own.newAt (by simp)).alloc)
 have HZ:Hid (Own (w.heap.size+1) ([.int .i64 0,.int .i64 0,.int .i64 0]) W0):=Lib.hid (hW ▸ (show Own (w.heap.size+1) ([.int .i64 0,.int .i64 0,.int .i64 0]) ((w.alloc (.cells #[.int .i64 (l 0),.int .i64 (l 1),.int .i64 (l 2),.int .i64 (l 3),.int .i64 (l 4),.int .i64 (l 5),.int .i64 (l 6),.int .i64 (l 7),.int .i64 (l 8),.int .i64 (l 9),.int .i64 (l 10),.int .i64 (l 11),.int .i64 (l 12)] 43)).alloc (.cells #[.int .i64 0,.int .i64 0,.int .i64 0] 41)) from Own.newAt (by simp)))
 rw[← hW]
 clear hW
 obtain⟨Z,eZ⟩:∃ X,X=(w.heap.size+1):=⟨_,rfl⟩
 rw[← eZ] at HZ ⊢
 have Zw:w.heap.size≤Z:=by omega
 obtain⟨A,eA⟩:∃ X,X=w.heap.size:=⟨_,rfl⟩
 rw[← eA] at HA ⊢
 have Aw:w.heap.size≤A:=by omega
 have nAZ:A≠Z:=by omega
 have nZA:Z≠A:=by omega
 clear eA eZ
 have HB:=Lib.hid hB0
 clear hB0
 have oA:=HA.out
 have A0:=oA.at 0 _ rfl
 have A1:=oA.at 1 _ rfl
 have A2:=oA.at 2 _ rfl
 have A3:=oA.at 3 _ rfl
 have A4:=oA.at 4 _ rfl
 have A5:=oA.at 5 _ rfl
 have A6:=oA.at 6 _ rfl
 have A7:=oA.at 7 _ rfl
 have A8:=oA.at 8 _ rfl
 have A9:=oA.at 9 _ rfl
 have A10:=oA.at 10 _ rfl
 have A11:=oA.at 11 _ rfl
 have A12:=oA.at 12 _ rfl
 have Al:=oA.lt
 clear oA
 have oZ:=HZ.out
 have Z0:=oZ.at 0 _ rfl
 have Z1:=oZ.at 1 _ rfl
 have Z2:=oZ.at 2 _ rfl
 have Zl:=oZ.lt
 clear oZ
 by_cases k2:l 0=2
 ·have d0:(l 0 == 2)=true:=by rw[k2];rfl
  cases b1 with
  | false =>
   have HC:Hid (b=false):=Lib.hid (by
    have:=EB.out
    simp only[decide_eq_true_eq,decide_eq_false_iff_not] at e1
    rw[this]
    simp[k2,e1])
   go_wp2_with (fail)
   go_ret
   exact⟨by rw[HC.out];rfl,HB.out⟩
  | true =>
   cases b2 with
   | false =>
    have HC:Hid (b=false):=Lib.hid (by
     have:=EB.out
     simp only[decide_eq_true_eq,decide_eq_false_iff_not] at e1 e2
     rw[this]
     simp[k2,e1,e2])
    go_wp2_with (fail)
    go_ret
    exact⟨by rw[HC.out];rfl,HB.out⟩
   | true =>
    cases b3 with
    | false =>
     have HC:Hid (b=false):=Lib.hid (by
      have:=EB.out
      simp only[decide_eq_true_eq,decide_eq_false_iff_not] at e1 e2 e3
      rw[this]
      simp[k2,e1,e2,e3])
     go_wp2_with (fail)
     go_ret
     exact⟨by rw[HC.out];rfl,HB.out⟩
    | true =>
     have HC:Hid (b=true):=Lib.hid (by
      have:=EB.out
      simp only[decide_eq_true_eq,decide_eq_false_iff_not] at e1 e2 e3
      rw[this]
      simp[k2,e1,e2,e3])
     go_wp2_with (fail)
     go_ret
     exact⟨by rw[HC.out];rfl,HB.out⟩
 ·have d0:(l 0 == 2)=false:=by simpa using k2
  by_cases k0:l 0=0
  ·have d1:(l 0 == 0)=true:=by rw[k0];rfl
   cases b2 with
   | false =>
    have HC:Hid (b=false):=Lib.hid (by
     have:=EB.out
     simp only[decide_eq_true_eq,decide_eq_false_iff_not] at e2
     rw[this]
     simp[k0,e2])
    go_wp2_with (fail)
    go_ret
    exact⟨by rw[HC.out];rfl,HB.out⟩
   | true =>
    cases b3 with
    | false =>
     have HC:Hid (b=false):=Lib.hid (by
      have:=EB.out
      simp only[decide_eq_true_eq,decide_eq_false_iff_not] at e2 e3
      rw[this]
      simp[k0,e2,e3])
     go_wp2_with (fail)
     go_ret
     exact⟨by rw[HC.out];rfl,HB.out⟩
    | true =>
     have HC:Hid (b=true):=Lib.hid (by
      have:=EB.out
      simp only[decide_eq_true_eq,decide_eq_false_iff_not] at e2 e3
      rw[this]
      simp[k0,e2,e3])
     go_wp2_with (fail)
     go_ret
     exact⟨by rw[HC.out];rfl,HB.out⟩
  ·have d1:(l 0 == 0)=false:=by simpa using k0
   have k1:l 0=1:=by have:=HK.out;omega
   have HC:Hid (b=true):=Lib.hid (by rw[EB.out];simp[k1])
   go_wp2_with (fail)
   go_ret
   exact⟨by rw[HC.out];rfl,HB.out⟩
set_option maxHeartbeats 4000000 in
theorem coords_any (q:Option Addr) (n c:Nat) (V:Nat→Int) (hn:n≤64) (hnc:n≤c) (hc:c≤9223372036854775807) (w:World) (hq:NmS w 3 q n V) :
  Calls Tryz.prog 127 #[.slice q n c] w fun e w'=>(∃ p d,e = .returned (.slice p (n*3) d)∧Nm w' .i64 p (n*3) V∧n*3≤d∧d≤9223372036854775807)∧Below w.heap.size w w':=by
 have LX:=Lib.hid (And.intro hn (And.intro hnc hc));have HQ:=Lib.hid hq
 obtain⟨i0,hi,hz0,hz1,hz2⟩:=infoI_parts
 clear hn hnc hc hq
 go_enter Tryz.func127,Tryz.ntmps127
 go_wp2_with (fail)
 go_loopw [3,8] (fun v iv wr=>∃ (k t:Nat) (p3:Option Addr) (c3:Nat),k≤n∧Hid (t=k*3)∧v = .slice p3 t c3∧iv = .int .i64 k∧Hid (wr.ownsRow w.heap.size 3 1 (.slice p3 t c3) t (nums .i64 V t))∧Hid (Below w.heap.size w wr)) (fun _ iv _=>(n - (intOf iv).toNat))
 case atStart=>exact⟨0,0,none,0,Nat.zero_le _,Lib.hid (Nat.zero_mul _).symm,rfl,rfl,Lib.hid (World.ownsRow_nil _ _ _ _),Lib.hid (Below.refl _ _)⟩
 case round =>
  obtain⟨k,t,p3,c3,hk,HT,rfl,rfl,ROW,HB⟩:=hrel
  by_cases hlt:k<n
  ·obtain⟨D,o,rfl,hD,c0,c1,c2⟩:=(HQ.out.later HB.out).at3 hlt
   have hki:(k:Int)<(n:Int):=by omega
   have k0:(0:Int)≤(k:Int):=by omega
   have wk:IntKind.i64.wrap ((k:Int)+1)=(k:Int)+1:=IntWalk.i64_in _ (by have:=LX.out;omega)
   have HLT:=Lib.hid hlt
   obtain⟨x0,ex0⟩:∃ x,V (k*3)=x:=⟨_,rfl⟩
   rw[ex0] at c0
   obtain⟨x1,ex1⟩:∃ x,V (k*3+1)=x:=⟨_,rfl⟩
   rw[ex1] at c1
   obtain⟨x2,ex2⟩:∃ x,V (k*3+2)=x:=⟨_,rfl⟩
   rw[ex2] at c2
   have XS:Hid (nums .i64 V t ++ [.int .i64 x0,.int .i64 x1,.int .i64 x2]=nums .i64 V (t+3)):=Lib.hid (by
    refine nums_append .i64 V (fun i=>[x0,x1,x2].getD i 0) t 3 (fun i hi=>?_)
    rw[HT.out]
    match i,hi with
    | 0,_=>exact ex0
    | 1,_=>exact ex1
    | 2,_=>exact ex2)
   have HT2:Hid (t+3=(k+1)*3):=Lib.hid (by rw[HT.out,Nat.succ_mul])
   have T200:t≤200:=by rw[HT.out];have:=LX.out;omega
   have N63:=Lib.hid (show t+3≤maxLen by unfold maxLen;omega)
   have NBY:=Lib.hid (show (t+3)*8≤140737488355328 by omega)
   clear hk hlt T200 ex0 ex1 ex2
   go_upto_region 5 with fail
   clear hD c0 c1 c2
   obtain⟨y0,hW⟩:∃ y0,y0=(wr.alloc (.cells #[.int .i64 x0,.int .i64 x1,.int .i64 x2] 41)):=⟨_,rfl⟩
   have hBx:Below wr.heap.size wr y0:=hW ▸ (Below.al (Below.refl _ _))
   have HQ:Hid (Own wr.heap.size ([.int .i64 x0,.int .i64 x1,.int .i64 x2]) y0):=Lib.hid (hW ▸ (show Own wr.heap.size ([.int .i64 x0,.int .i64 x1,.int .i64 x2]) (wr.alloc (.cells #[.int .i64 x0,.int .i64 x1,.int .i64 x2] 41)) from Own.newAt (by simp)))
   rw[← hW]
   clear hW
   obtain⟨Q,eQ⟩:∃ X,X=wr.heap.size:=⟨_,rfl⟩
   rw[← eQ] at HQ ⊢
   have Qw:wr.heap.size≤Q:=by omega
   clear eQ
   have ROWy:=Lib.hid (row_later ROW.out hBx)
   have HBy:=Lib.hid (Below.go HB.out hBx)
   clear hBx ROW HB Qw
   have oQ:=HQ.out
   have Q0:=oQ.at 0 _ rfl
   have Q1:=oQ.at 1 _ rfl
   have Q2:=oQ.at 2 _ rfl
   have Ql:=oQ.lt
   clear oQ
   have HS2:Hid (w.heap.size≤(y0.alloc (.cells #[.int .i64 x0,.int .i64 x1,.int .i64 x2] 3)).heap.size):=Lib.hid (Below.al HBy.out).size
   go_wp2_with (at_builtin;refine wpList_append_own _ rfl _ _ 156 rfl w.heap.size 3 i0 (.int .i64 0) 1 8 Tryz.underlying156 hi hz0 hz1 hz2 rfl (by decide) _ t _ rfl (row_later ROWy.out (Below.al (Below.refl _ _))) ⟨y0.heap.size,0,none⟩ 3 3 [.int .i64 x0,.int .i64 x1,.int .i64 x2] rfl rfl (Own.newAt (by rfl)).news (by intro v hv;simp at hv;rcases hv with rfl | rfl | rfl<;>rfl) N63.out NBY.out HS2.out ?_;intro v' w6 hrow hgr _;obtain⟨p',c',rfl,_⟩:=row_form hrow;rw[XS.out] at hrow;have o4:=Lib.hid ((Below.al HBy.out).grown hgr (Below.al HBy.out).size fun q hq=>row_ge ROWy.out q hq);have o6:=Lib.hid hrow;clear hrow hgr)
   go_roundw
   case rel=>(first | exact⟨k+1,t+3,_,_,HLT.out,HT2,rfl,by go_num,o6,o4⟩ | ((repeat apply Exists.intro);exact⟨⟨k+1,t+3,_,_,HLT.out,HT2,rfl,by go_num,o6,o4⟩,rfl⟩))
   case measure=>(have:=HLT.out;simp[intOf];omega)
  ·obtain rfl:n=k:=by omega
   clear hlt hk
   go_wp2_with (fail)
   go_ret
   have h:=nm_row ROW.out;have cap:=row_cap_ ROW.out
   have e:=HT.out
   exact⟨⟨_,_,by rw[← e];rfl,by rw[← e];exact h.2,by rw[← e];exact cap.1,cap.2⟩,HB.out⟩
end Go.Proofs.YtbilamnnneddmaaGreatDoor
namespace Go.Proofs.YtbilamnnneddmaaGreatDoor
set_option linter.unusedVariables false
set_option maxRecDepth 2000
set_option linter.unusedSimpArgs false
open Go.RowKit
theorem lgA_iff {l:Nat→Int} {b1 b2:Bool} (e1:decide (0≤l 0∧l 0≤2)=b1) (e2:btw 0 1048576 (fun i=>l (1+i)) 3=b2):lgA l↔(b1=true∧b2=true):=by
 have h2:=@btw_3 0 1048576 (fun i=>l (1+i))
 rw[e2] at h2
 simp only[Nat.add_zero,Nat.reduceAdd] at h2
 rw[← e1,decide_eq_true_eq,h2]
 unfold lgA
 exact Iff.rfl
theorem btw_9 {lo hi:Int} {g:Nat→Int}:btw lo hi g 9=true↔(lo≤g 0∧g 0≤hi)∧(lo≤g 1∧g 1≤hi)∧(lo≤g 2∧g 2≤hi)∧(lo≤g 3∧g 3≤hi)∧(lo≤g 4∧g 4≤hi)∧(lo≤g 5∧g 5≤hi)∧(lo≤g 6∧g 6≤hi)∧(lo≤g 7∧g 7≤hi)∧(lo≤g 8∧g 8≤hi):=by
 unfold btw
 rw[allB_iff]
 constructor
 ·intro h;exact⟨decide_eq_true_iff.1 (h 0 (by decide)),decide_eq_true_iff.1 (h 1 (by decide)),decide_eq_true_iff.1 (h 2 (by decide)),decide_eq_true_iff.1 (h 3 (by decide)),decide_eq_true_iff.1 (h 4 (by decide)),decide_eq_true_iff.1 (h 5 (by decide)),decide_eq_true_iff.1 (h 6 (by decide)),decide_eq_true_iff.1 (h 7 (by decide)),decide_eq_true_iff.1 (h 8 (by decide))⟩
 ·rintro ⟨a0,a1,a2,a3,a4,a5,a6,a7,a8⟩ k hk
  match k,hk with
  | 0,_=>exact decide_eq_true a0
  | 1,_=>exact decide_eq_true a1
  | 2,_=>exact decide_eq_true a2
  | 3,_=>exact decide_eq_true a3
  | 4,_=>exact decide_eq_true a4
  | 5,_=>exact decide_eq_true a5
  | 6,_=>exact decide_eq_true a6
  | 7,_=>exact decide_eq_true a7
  | 8,_=>exact decide_eq_true a8
theorem lgB_iff {l:Nat→Int} {b:Bool} (e:btw (-4096) 4096 (fun i=>l (4+i)) (3*3)=b):lgB l↔b=true:=by
 have h2:=@btw_9 (-4096) 4096 (fun i=>l (4+i))
 rw[show btw (-4096) 4096 (fun i=>l (4+i)) 9=b from e] at h2
 simp only[Nat.add_zero,Nat.reduceAdd] at h2
 rw[h2]
 unfold lgB on3
 simp only[and_assoc]
set_option maxHeartbeats 4000000 in
theorem Light_any (l:Nat→Int) (w:World):Calls Tryz.prog 126 #[(.agg #[.int .i64 (l 0),.int .i64 (l 1),.int .i64 (l 2),.int .i64 (l 3),.int .i64 (l 4),.int .i64 (l 5),.int .i64 (l 6),.int .i64 (l 7),.int .i64 (l 8),.int .i64 (l 9),.int .i64 (l 10),.int .i64 (l 11),.int .i64 (l 12)])] w fun e w'=>e = .returned (.int .i64 (chkLg l))∧Below w.heap.size w w':=by
 have K1:=Lib.hid (@chkLg_1 l);have K2:=Lib.hid (@chkLg_2 l);have K3:=Lib.hid (@chkLg_3 l);have K4:=Lib.hid (@chkLg_4 l)
 generalize chkLg l=z at *
 obtain⟨b1,e1⟩:∃ b,decide (0≤l 0∧l 0≤2)=b:=⟨_,rfl⟩
 obtain⟨b2,e2⟩:∃ b,btw 0 1048576 (fun i=>l (1+i)) 3=b:=⟨_,rfl⟩
 obtain⟨b3,e3⟩:∃ b,btw (-4096) 4096 (fun i=>l (4+i)) (3*3)=b:=⟨_,rfl⟩
 obtain⟨b4,e4⟩:∃ b,decide (lgC l)=b:=⟨_,rfl⟩
 have E1:=Lib.hid e1;have E2:=Lib.hid e2;have E3:=Lib.hid e3;have E4:=Lib.hid e4
 have IA_:=Lib.hid (lgA_iff e1 e2);have IB_:=Lib.hid (lgB_iff e3)
 clear e1 e2 e3 e4
 go_enter Tryz.func126,Tryz.ntmps126
 go_upto_region 1 with fail
 obtain⟨W0,hW⟩:∃ W0,W0=(w.alloc (.cells #[.int .i64 (l 0),.int .i64 (l 1),.int .i64 (l 2),.int .i64 (l 3),.int .i64 (l 4),.int .i64 (l 5),.int .i64 (l 6),.int .i64 (l 7),.int .i64 (l 8),.int .i64 (l 9),.int .i64 (l 10),.int .i64 (l 11),.int .i64 (l 12)] 43)):=⟨_,rfl⟩
 have hB0:Below w.heap.size w W0:=hW ▸ (Below.al (Below.refl _ _))
 have HA:Hid (Own w.heap.size ([.int .i64 (l 0),.int .i64 (l 1),.int .i64 (l 2),.int .i64 (l 3),.int .i64 (l 4),.int .i64 (l 5),.int .i64 (l 6),.int .i64 (l 7),.int .i64 (l 8),.int .i64 (l 9),.int .i64 (l 10),.int .i64 (l 11),.int .i64 (l 12)]) W0):=Lib.hid (hW ▸ (show Own w.heap.size ([.int .i64 (l 0),.int .i64 (l 1),.int .i64 (l 2),.int .i64 (l 3),.int .i64 (l 4),.int .i64 (l 5),.int .i64 (l 6),.int .i64 (l 7),.int .i64 (l 8),.int .i64 (l 9),.int .i64 (l 10),.int .i64 (l 11),.int .i64 (l 12)]) (w.alloc (.cells #[.int .i64 (l 0),.int .i64 (l 1),.int .i64 (l 2),.int .i64 (l 3),.int .i64 (l 4),.int .i64 (l 5),.int .i64 (l 6),.int .i64 (l 7),.int .i64 (l 8),.int .i64 (l 9),.int .i64 (l 10),.int .i64 (l 11),.int .i64 (l 12)] 43)) from Own.newAt (by simp)))
 rw[← hW]
 clear hW
 obtain⟨A,eA⟩:∃ X,X=w.heap.size:=⟨_,rfl⟩
 rw[← eA] at HA ⊢
 have Aw:w.heap.size≤A:=by omega
 clear eA
 have HB:=Lib.hid hB0
 clear hB0
 have oA:=HA.out
 have A0:=oA.at 0 _ rfl
 have Al:=oA.lt
 clear oA
 go_wp2_with (fail)
 clear A0 Al
 go_at_call 152
 refine (within_any 0 2 _ 1 1 (fun _=>l 0) (by decide) (by decide) _ (nm_new rfl)).mono ?_
 rintro e w1 ⟨rfl,hw⟩
 rw[btw1 _ _ _ _ E1.out]
 have hb:=show Below W0.heap.size W0 _ from hw ▸ (Below.al (Below.refl _ _))
 clear hw
 have HA_:=Lib.hid (HA.out.later hb)
 clear HA
 have HA:=HA_
 clear HA_
 have HB_:=Lib.hid (Below.go HB.out hb)
 clear HB
 have HB:=HB_
 clear HB_
 clear hb
 cases b1 with
 | false =>
  have HZ:Hid (z=5):=Lib.hid (K1.out (fun h=>by simpa using IA_.out.1 h))
  go_wp2_with (fail)
  go_ret
  exact⟨by rw[HZ.out];rfl,HB.out⟩
 | true =>
  have oA:=HA.out
  have A0:=oA.at 0 _ rfl
  have A1:=oA.at 1 _ rfl
  have A2:=oA.at 2 _ rfl
  have A3:=oA.at 3 _ rfl
  have A4:=oA.at 4 _ rfl
  have Al:=oA.lt
  clear oA
  go_wp2_with (fail)
  clear A0 A1 A2 A3 A4 Al
  have NA:Nm w1 .i64 (some ⟨A,1,none⟩) 3 (fun i=>l (1+i)) := .inr ⟨A,1,rfl,has_sub 1 HA.out.has (fun j v h=>by
   match j,h with
   | 0,h=>exact h
   | 1,h=>exact h
   | 2,h=>exact h)⟩
  go_at_call 152
  refine (within_any 0 1048576 _ 3 3 (fun i=>l (1+i)) (by decide) (by decide) _ NA).mono ?_
  rintro e w2 ⟨rfl,hw⟩
  subst hw
  clear NA
  rw[E2.out]
  cases b2 with
  | false =>
   have HZ:Hid (z=5):=Lib.hid (K1.out (fun h=>by simpa using IA_.out.1 h))
   go_wp2_with (fail)
   go_ret
   exact⟨by rw[HZ.out];rfl,HB.out⟩
  | true =>
   have GA_:=Lib.hid (IA_.out.2 ⟨by simp,by simp⟩)
   have oA:=HA.out
   have A0:=oA.at 0 _ rfl
   have A1:=oA.at 1 _ rfl
   have A2:=oA.at 2 _ rfl
   have A3:=oA.at 3 _ rfl
   have A4:=oA.at 4 _ rfl
   have A5:=oA.at 5 _ rfl
   have A6:=oA.at 6 _ rfl
   have A7:=oA.at 7 _ rfl
   have A8:=oA.at 8 _ rfl
   have A9:=oA.at 9 _ rfl
   have A10:=oA.at 10 _ rfl
   have A11:=oA.at 11 _ rfl
   have A12:=oA.at 12 _ rfl
   have Al:=oA.lt
   clear oA
   go_wp2_with (fail)
   clear A0 A1 A2 A3 A4 A5 A6 A7 A8 A9 A10 A11 A12 Al
   go_at_call 127
   refine (coords_any _ 3 3 (fun i=>l (4+i)) (by decide) (by decide) (by decide) _ (.inr ⟨_,0,rfl,(Own.new _ [.int .i64 (l 4),.int .i64 (l 5),.int .i64 (l 6),.int .i64 (l 7),.int .i64 (l 8),.int .i64 (l 9),.int .i64 (l 10),.int .i64 (l 11),.int .i64 (l 12)] _).has⟩)).mono ?_
   rintro e w3 ⟨⟨p,d,rfl,hN,hd1,hd2⟩,hb⟩
   have hbx:=Below.go (Below.al (Below.refl _ _)) hb
   clear hb
   have HA_:=Lib.hid (HA.out.later hbx)
   clear HA
   have HA:=HA_
   clear HA_
   have HB_:=Lib.hid (Below.go HB.out hbx)
   clear HB
   have HB:=HB_
   clear HB_
   clear hbx
   have HN:=Lib.hid hN;have HD:=Lib.hid (And.intro hd1 hd2)
   clear hN hd1 hd2
   go_wp2_with (fail)
   go_at_call 152
   refine (within_any (-4096) 4096 _ (3*3) _ (fun i=>l (4+i)) HD.out.1 HD.out.2 _ HN.out).mono ?_
   rintro e w4 ⟨rfl,hw⟩
   subst hw
   clear HN HD
   rw[E3.out]
   cases b3 with
   | false =>
    have HZ:Hid (z=8):=Lib.hid (K2.out GA_.out (fun h=>by simpa using IB_.out.1 h))
    go_wp2_with (fail)
    go_ret
    exact⟨by rw[HZ.out];rfl,HB.out⟩
   | true =>
    have GB_:=Lib.hid (IB_.out.2 (by simp))
    have oA:=HA.out
    have A0:=oA.at 0 _ rfl
    have A1:=oA.at 1 _ rfl
    have A2:=oA.at 2 _ rfl
    have A3:=oA.at 3 _ rfl
    have A4:=oA.at 4 _ rfl
    have A5:=oA.at 5 _ rfl
    have A6:=oA.at 6 _ rfl
    have A7:=oA.at 7 _ rfl
    have A8:=oA.at 8 _ rfl
    have A9:=oA.at 9 _ rfl
    have A10:=oA.at 10 _ rfl
    have A11:=oA.at 11 _ rfl
    have A12:=oA.at 12 _ rfl
    have Al:=oA.lt
    clear oA
    go_wp2_with (fail)
    clear A0 A1 A2 A3 A4 A5 A6 A7 A8 A9 A10 A11 A12 Al
    go_at_call 153
    refine (hasMore_any l GA_.out.1 _).mono ?_
    rintro e w5 ⟨rfl,hb⟩
    have HA_:=Lib.hid (HA.out.later hb)
    clear HA
    have HA:=HA_
    clear HA_
    have HB_:=Lib.hid (Below.go HB.out hb)
    clear HB
    have HB:=HB_
    clear HB_
    clear hb
    rw[E4.out]
    cases b4 with
    | false =>
     have HZ:Hid (z=5):=Lib.hid (K3.out GA_.out GB_.out (of_decide_eq_false E4.out))
     go_wp2_with (fail)
     go_ret
     exact⟨by rw[HZ.out];rfl,HB.out⟩
    | true =>
     have HZ:Hid (z=0):=Lib.hid (K4.out GA_.out GB_.out (of_decide_eq_true E4.out))
     go_wp2_with (fail)
     go_ret
     exact⟨by rw[HZ.out];rfl,HB.out⟩
end Go.Proofs.YtbilamnnneddmaaGreatDoor
namespace Go.Proofs.YtbilamnnneddmaaGreatDoor
set_option linter.unusedVariables false
set_option maxRecDepth 2000
set_option linter.unusedSimpArgs false
open Go.RowKit
theorem neqlP (a0 a1 a2 b0 b1 b2:Int) (w:World):(binOp .neq 41 (.agg #[.int .i64 a0,.int .i64 a1,.int .i64 a2]) (.agg #[.int .i64 b0,.int .i64 b1,.int .i64 b2])).run Tryz.prog w = .ok (.bool (!eq3B a0 a1 a2 b0 b1 b2)) w:=by
 unfold eq3B
 by_cases x:a0=b0<;>by_cases y:a1=b1<;>by_cases z:a2=b2<;>simp[x,y,z,go_sem]
theorem eql2 (a0 a1 b0 b1:Int) (w:World):(Op.equalIn 10000 99 (.agg #[.int .i64 a0,.int .i64 a1]) (.agg #[.int .i64 b0,.int .i64 b1])).run Tryz.prog w = .ok (decide (a0=b0∧a1=b1)) w:=by
 unfold Op.equalIn
 by_cases h0:a0=b0<;>by_cases h1:a1=b1<;>simp[run_underlying Tryz.underlying99,go_sem,List.range',h0,h1]
def eq2B (a0 a1 b0 b1:Int):Bool:=decide (a0=b0∧a1=b1)
theorem neqlU (a0 a1 b0 b1:Int) (w:World):(binOp .neq 99 (.agg #[.int .i64 a0,.int .i64 a1]) (.agg #[.int .i64 b0,.int .i64 b1])).run Tryz.prog w = .ok (.bool (!eq2B a0 a1 b0 b1)) w:=by
 have h:=eql2 a0 a1 b0 b1 w
 unfold eq2B
 simp[go_sem,h]
theorem eq2B_iff {a0 a1 b0 b1:Int}:eq2B a0 a1 b0 b1=true↔a0=b0∧a1=b1:=decide_eq_true_iff
def el3 (f g:Nat→Int) (k:Nat):Bool:=eq3B (f (k*3)) (f (k*3+1)) (f (k*3+2)) (g (k*3)) (g (k*3+1)) (g (k*3+2))
def el2 (f g:Nat→Int) (k:Nat):Bool:=eq2B (f (k*2)) (f (k*2+1)) (g (k*2)) (g (k*2+1))
def eqS3 (n m:Nat) (f g:Nat→Int):Bool:=decide (n=m) && allB (el3 f g) n
def eqS2 (n m:Nat) (f g:Nat→Int):Bool:=decide (n=m) && allB (el2 f g) n
theorem eqS3_iff {n m:Nat} {f g:Nat→Int}:eqS3 n m f g=true↔n=m∧∀ j,j<n*3→f j=g j:=by
 unfold eqS3
 rw[Bool.and_eq_true,decide_eq_true_eq,allB_iff]
 constructor
 ·rintro ⟨e,h⟩
  refine⟨e,fun j hj=>?_⟩
  have hk:=eq3B_iff.1 (h (j/3) (by omega))
  have h3:j=j/3*3+j%3:=by omega
  have h4:j%3<3:=by omega
  generalize j/3=a at *
  generalize j%3=r at *
  subst h3
  match r,h4 with
  | 0,_=>exact hk.1
  | 1,_=>exact hk.2.1
  | 2,_=>exact hk.2.2
 ·rintro ⟨e,h⟩
  exact⟨e,fun k hk=>eq3B_iff.2 ⟨h _ (by omega),h _ (by omega),h _ (by omega)⟩⟩
theorem eqS2_iff {n m:Nat} {f g:Nat→Int}:eqS2 n m f g=true↔n=m∧∀ j,j<n*2→f j=g j:=by
 unfold eqS2
 rw[Bool.and_eq_true,decide_eq_true_eq,allB_iff]
 constructor
 ·rintro ⟨e,h⟩
  refine⟨e,fun j hj=>?_⟩
  have hk:=eq2B_iff.1 (h (j/2) (by omega))
  have h3:j=j/2*2+j%2:=by omega
  have h4:j%2<2:=by omega
  generalize j/2=a at *
  generalize j%2=r at *
  subst h3
  match r,h4 with
  | 0,_=>exact hk.1
  | 1,_=>exact hk.2
 ·rintro ⟨e,h⟩
  exact⟨e,fun k hk=>eq2B_iff.2 ⟨h _ (by omega),h _ (by omega)⟩⟩
theorem eqS3_yes {n m:Nat} {f g:Nat→Int} (e:n=m) (h:∀ j,j<n→el3 f g j=true):eqS3 n m f g=true:=by unfold eqS3;rw[Bool.and_eq_true,decide_eq_true_eq,allB_iff];exact⟨e,h⟩
theorem eqS2_yes {n m:Nat} {f g:Nat→Int} (e:n=m) (h:∀ j,j<n→el2 f g j=true):eqS2 n m f g=true:=by unfold eqS2;rw[Bool.and_eq_true,decide_eq_true_eq,allB_iff];exact⟨e,h⟩
theorem eqS3_len {n m:Nat} {f g:Nat→Int} (e:n≠m):eqS3 n m f g=false:=by unfold eqS3;rw[decide_eq_false e];rfl
theorem eqS2_len {n m:Nat} {f g:Nat→Int} (e:n≠m):eqS2 n m f g=false:=by unfold eqS2;rw[decide_eq_false e];rfl
theorem eqS3_no {n m k:Nat} {f g:Nat→Int} (hk:k<n) (h:el3 f g k=false):eqS3 n m f g=false:=by unfold eqS3;rw[allB_not hk h,Bool.and_false]
theorem eqS2_no {n m k:Nat} {f g:Nat→Int} (hk:k<n) (h:el2 f g k=false):eqS2 n m f g=false:=by unfold eqS2;rw[allB_not hk h,Bool.and_false]
attribute [local go_sem ↓] neqlP
set_option maxHeartbeats 4000000 in
theorem EqP_any (q:Option Addr) (n c:Nat) (f:Nat→Int) (p:Option Addr) (m d:Nat) (g:Nat→Int) (hn:n≤100000) (w:World) (hq:NmS w 3 q n f) (hp:NmS w 3 p m g) :
  Calls Tryz.prog 51 #[.slice q n c,.slice p m d] w fun e w'=>e = .returned (.bool (eqS3 n m f g))∧Below w.heap.size w w':=by
 have HN:=Lib.hid hn;have HQ:=Lib.hid hq;have HP:=Lib.hid hp
 obtain⟨b,eb⟩:∃ b,eqS3 n m f g=b:=⟨_,rfl⟩
 have EB:=Lib.hid eb
 rw[eb]
 clear hn hq hp eb
 go_enter Tryz.func51,Tryz.ntmps51
 by_cases e:n=m
 ·subst e
  go_wp2_with (fail)
  go_loopw [5,6,14] (fun _ _ iv wr=>∃ (k:Nat),k≤n∧iv = .int .i64 k∧Hid (∀ j,j<k→el3 f g j=true)∧Hid (Below w.heap.size w wr)) (fun _ _ iv _=>(n - (intOf iv).toNat))
  case atStart=>exact⟨0,Nat.zero_le _,rfl,Lib.hid (fun j hj=>absurd hj (Nat.not_lt_zero j)),Lib.hid (Below.refl _ _)⟩
  case round =>
   obtain⟨k,hk,rfl,ALL,HB⟩:=hrel
   by_cases hlt:k<n
   ·obtain⟨D,o,rfl,hD,c0,c1,c2⟩:=(HQ.out.later HB.out).at3 hlt
    obtain⟨D2,o2,rfl,hD2,d0,d1,d2⟩:=(HP.out.later HB.out).at3 hlt
    have hki:(k:Int)<(n:Int):=by omega
    have k0:(0:Int)≤(k:Int):=by omega
    have wk:IntKind.i64.wrap ((k:Int)+1)=(k:Int)+1:=IntWalk.i64_in _ (by have:=HN.out;omega)
    have HLT:=Lib.hid hlt
    obtain⟨u,eu⟩:∃ u,el3 f g k=u:=⟨_,rfl⟩
    have EU:=Lib.hid eu
    unfold el3 at eu
    generalize f (k*3)=x0 at c0 eu
    generalize f (k*3+1)=x1 at c1 eu
    generalize f (k*3+2)=x2 at c2 eu
    generalize g (k*3)=y0 at d0 eu
    generalize g (k*3+1)=y1 at d1 eu
    generalize g (k*3+2)=y2 at d2 eu
    clear hk hlt
    go_upto_region 6 with fail
    obtain⟨Vw,hW⟩:∃ Vw,Vw=(wr.alloc (.cells #[.int .i64 x0,.int .i64 x1,.int .i64 x2] 41)):=⟨_,rfl⟩
    have hBx:Below wr.heap.size wr Vw:=hW ▸ (Below.al (Below.refl _ _))
    have HE:Hid (Own wr.heap.size ([.int .i64 x0,.int .i64 x1,.int .i64 x2]) Vw):=Lib.hid (hW ▸ (show Own wr.heap.size ([.int .i64 x0,.int .i64 x1,.int .i64 x2]) (wr.alloc (.cells #[.int .i64 x0,.int .i64 x1,.int .i64 x2] 41)) from Own.newAt (by simp)))
    rw[← hW]
    clear hW
    obtain⟨Q,eQ⟩:∃ X,X=wr.heap.size:=⟨_,rfl⟩
    rw[← eQ] at HE ⊢
    have Qw:wr.heap.size≤Q:=by omega
    clear eQ
    have HB_:=Lib.hid (Below.go HB.out hBx)
    have HDD:=(Has.later (b:=D2) (o:=o2+k*3) (cs:=[.int .i64 y0,.int .i64 y1,.int .i64 y2]) ⟨hD2,fun j v hj=>by
     match j,hj with
     | 0,hj=>cases hj;exact d0
     | 1,hj=>cases hj;exact d1
     | 2,hj=>cases hj;exact d2⟩ hBx)
    clear d0 c0 d1 c1 d2 c2 hD hD2 hBx HB Qw
    have d0:=HDD.at 0 _ rfl;have d1:=HDD.at 1 _ rfl;have d2:=HDD.at 2 _ rfl
    rw[Nat.add_zero] at d0
    have hD2:=HDD.lt
    clear HDD
    have oQ:=HE.out
    have Q0:=oQ.at 0 _ rfl
    have Q1:=oQ.at 1 _ rfl
    have Q2:=oQ.at 2 _ rfl
    have Ql:=oQ.lt
    clear oQ
    go_quiet (fail)
    have hBd:Below Vw.heap.size Vw (Vw.drewN nq):=below_drewN (Below.refl _ _) _
    have HB1:=Lib.hid (Below.go HB_.out hBd)
    clear HB_ hBd hD2 d0 Q0 d1 Q1 d2 Q2 Ql HE
    generalize Vw.drewN nq=z1 at *
    cases u with
    | false =>
     obtain rfl:b=false:=EB.out.symm.trans (eqS3_no HLT.out EU.out)
     clear eu ALL
     go_wp2_with (fail)
     go_ret
     exact⟨rfl,HB1.out⟩
    | true =>
     have ALL2:Hid (∀ j,j<k+1→el3 f g j=true):=Lib.hid fun j hj=>(Nat.lt_succ_iff_lt_or_eq.1 hj).elim (ALL.out j) (fun e=>by rw[e];exact EU.out)
     clear eu ALL
     go_wp2_with (fail)
     go_roundw
     case rel=>(first | exact⟨k+1,HLT.out,by go_num,ALL2,HB1⟩ | ((repeat apply Exists.intro);exact⟨⟨k+1,HLT.out,by go_num,ALL2,HB1⟩,rfl⟩))
     case measure=>(have:=HLT.out;simp[intOf];omega)
   ·obtain rfl:k=n:=by omega
    obtain rfl:b=true:=EB.out.symm.trans (eqS3_yes rfl ALL.out)
    clear hlt hk ALL
    go_wp2_with (fail)
    go_ret
    exact⟨rfl,HB.out⟩
 ·obtain rfl:b=false:=EB.out.symm.trans (eqS3_len e)
  have d0:((n:Int) != (m:Int))=true:=by simp;omega
  clear e
  go_wp2_with (fail)
  go_ret
  exact⟨rfl,Below.refl _ _⟩
attribute [local go_sem ↓] neqlU
set_option maxHeartbeats 4000000 in
theorem EqU_any (q:Option Addr) (n c:Nat) (f:Nat→Int) (p:Option Addr) (m d:Nat) (g:Nat→Int) (hn:n≤100000) (w:World) (hq:NmS w 2 q n f) (hp:NmS w 2 p m g) :
  Calls Tryz.prog 52 #[.slice q n c,.slice p m d] w fun e w'=>e = .returned (.bool (eqS2 n m f g))∧Below w.heap.size w w':=by
 have HN:=Lib.hid hn;have HQ:=Lib.hid hq;have HP:=Lib.hid hp
 obtain⟨b,eb⟩:∃ b,eqS2 n m f g=b:=⟨_,rfl⟩
 have EB:=Lib.hid eb
 rw[eb]
 clear hn hq hp eb
 go_enter Tryz.func52,Tryz.ntmps52
 by_cases e:n=m
 ·subst e
  go_wp2_with (fail)
  go_loopw [5,6,14] (fun _ _ iv wr=>∃ (k:Nat),k≤n∧iv = .int .i64 k∧Hid (∀ j,j<k→el2 f g j=true)∧Hid (Below w.heap.size w wr)) (fun _ _ iv _=>(n - (intOf iv).toNat))
  case atStart=>exact⟨0,Nat.zero_le _,rfl,Lib.hid (fun j hj=>absurd hj (Nat.not_lt_zero j)),Lib.hid (Below.refl _ _)⟩
  case round =>
   obtain⟨k,hk,rfl,ALL,HB⟩:=hrel
   by_cases hlt:k<n
   ·obtain⟨D,o,rfl,hD,c0,c1⟩:=(HQ.out.later HB.out).at2 hlt
    obtain⟨D2,o2,rfl,hD2,d0,d1⟩:=(HP.out.later HB.out).at2 hlt
    have hki:(k:Int)<(n:Int):=by omega
    have k0:(0:Int)≤(k:Int):=by omega
    have wk:IntKind.i64.wrap ((k:Int)+1)=(k:Int)+1:=IntWalk.i64_in _ (by have:=HN.out;omega)
    have HLT:=Lib.hid hlt
    obtain⟨u,eu⟩:∃ u,el2 f g k=u:=⟨_,rfl⟩
    have EU:=Lib.hid eu
    unfold el2 at eu
    generalize f (k*2)=x0 at c0 eu
    generalize f (k*2+1)=x1 at c1 eu
    generalize g (k*2)=y0 at d0 eu
    generalize g (k*2+1)=y1 at d1 eu
    clear hk hlt
    go_upto_region 6 with fail
    obtain⟨Vw,hW⟩:∃ Vw,Vw=(wr.alloc (.cells #[.int .i64 x0,.int .i64 x1] 99)):=⟨_,rfl⟩
    have hBx:Below wr.heap.size wr Vw:=hW ▸ (Below.al (Below.refl _ _))
    have HE:Hid (Own wr.heap.size ([.int .i64 x0,.int .i64 x1]) Vw):=Lib.hid (hW ▸ (show Own wr.heap.size ([.int .i64 x0,.int .i64 x1]) (wr.alloc (.cells #[.int .i64 x0,.int .i64 x1] 99)) from Own.newAt (by simp)))
    rw[← hW]
    clear hW
    obtain⟨Q,eQ⟩:∃ X,X=wr.heap.size:=⟨_,rfl⟩
    rw[← eQ] at HE ⊢
    have Qw:wr.heap.size≤Q:=by omega
    clear eQ
    have HB_:=Lib.hid (Below.go HB.out hBx)
    have HDD:=(Has.later (b:=D2) (o:=o2+k*2) (cs:=[.int .i64 y0,.int .i64 y1]) ⟨hD2,fun j v hj=>by
     match j,hj with
     | 0,hj=>cases hj;exact d0
     | 1,hj=>cases hj;exact d1⟩ hBx)
    clear d0 c0 d1 c1 hD hD2 hBx HB Qw
    have d0:=HDD.at 0 _ rfl;have d1:=HDD.at 1 _ rfl
    rw[Nat.add_zero] at d0
    have hD2:=HDD.lt
    clear HDD
    have oQ:=HE.out
    have Q0:=oQ.at 0 _ rfl
    have Q1:=oQ.at 1 _ rfl
    have Ql:=oQ.lt
    clear oQ
    go_quiet (fail)
    have hBd:Below Vw.heap.size Vw (Vw.drewN nq):=below_drewN (Below.refl _ _) _
    have HB1:=Lib.hid (Below.go HB_.out hBd)
    clear HB_ hBd hD2 d0 Q0 d1 Q1 Ql HE
    generalize Vw.drewN nq=z1 at *
    cases u with
    | false =>
     obtain rfl:b=false:=EB.out.symm.trans (eqS2_no HLT.out EU.out)
     clear eu ALL
     go_wp2_with (fail)
     go_ret
     exact⟨rfl,HB1.out⟩
    | true =>
     have ALL2:Hid (∀ j,j<k+1→el2 f g j=true):=Lib.hid fun j hj=>(Nat.lt_succ_iff_lt_or_eq.1 hj).elim (ALL.out j) (fun e=>by rw[e];exact EU.out)
     clear eu ALL
     go_wp2_with (fail)
     go_roundw
     case rel=>(first | exact⟨k+1,HLT.out,by go_num,ALL2,HB1⟩ | ((repeat apply Exists.intro);exact⟨⟨k+1,HLT.out,by go_num,ALL2,HB1⟩,rfl⟩))
     case measure=>(have:=HLT.out;simp[intOf];omega)
   ·obtain rfl:k=n:=by omega
    obtain rfl:b=true:=EB.out.symm.trans (eqS2_yes rfl ALL.out)
    clear hlt hk ALL
    go_wp2_with (fail)
    go_ret
    exact⟨rfl,HB.out⟩
 ·obtain rfl:b=false:=EB.out.symm.trans (eqS2_len e)
  have d0:((n:Int) != (m:Int))=true:=by simp;omega
  clear e
  go_wp2_with (fail)
  go_ret
  exact⟨rfl,Below.refl _ _⟩
attribute [local go_sem ↓] neq3_run
set_option maxHeartbeats 4000000 in
theorem EqT_any (q:Option Addr) (n c:Nat) (f:Nat→Int) (p:Option Addr) (m d:Nat) (g:Nat→Int) (hn:n≤100000) (w:World) (hq:NmS w 3 q n f) (hp:NmS w 3 p m g) :
  Calls Tryz.prog 53 #[.slice q n c,.slice p m d] w fun e w'=>e = .returned (.bool (eqS3 n m f g))∧Below w.heap.size w w':=by
 have HN:=Lib.hid hn;have HQ:=Lib.hid hq;have HP:=Lib.hid hp
 obtain⟨b,eb⟩:∃ b,eqS3 n m f g=b:=⟨_,rfl⟩
 have EB:=Lib.hid eb
 rw[eb]
 clear hn hq hp eb
 go_enter Tryz.func53,Tryz.ntmps53
 by_cases e:n=m
 ·subst e
  go_wp2_with (fail)
  go_loopw [5,6,14] (fun _ _ iv wr=>∃ (k:Nat),k≤n∧iv = .int .i64 k∧Hid (∀ j,j<k→el3 f g j=true)∧Hid (Below w.heap.size w wr)) (fun _ _ iv _=>(n - (intOf iv).toNat))
  case atStart=>exact⟨0,Nat.zero_le _,rfl,Lib.hid (fun j hj=>absurd hj (Nat.not_lt_zero j)),Lib.hid (Below.refl _ _)⟩
  case round =>
   obtain⟨k,hk,rfl,ALL,HB⟩:=hrel
   by_cases hlt:k<n
   ·obtain⟨D,o,rfl,hD,c0,c1,c2⟩:=(HQ.out.later HB.out).at3 hlt
    obtain⟨D2,o2,rfl,hD2,d0,d1,d2⟩:=(HP.out.later HB.out).at3 hlt
    have hki:(k:Int)<(n:Int):=by omega
    have k0:(0:Int)≤(k:Int):=by omega
    have wk:IntKind.i64.wrap ((k:Int)+1)=(k:Int)+1:=IntWalk.i64_in _ (by have:=HN.out;omega)
    have HLT:=Lib.hid hlt
    obtain⟨u,eu⟩:∃ u,el3 f g k=u:=⟨_,rfl⟩
    have EU:=Lib.hid eu
    unfold el3 at eu
    generalize f (k*3)=x0 at c0 eu
    generalize f (k*3+1)=x1 at c1 eu
    generalize f (k*3+2)=x2 at c2 eu
    generalize g (k*3)=y0 at d0 eu
    generalize g (k*3+1)=y1 at d1 eu
    generalize g (k*3+2)=y2 at d2 eu
    clear hk hlt
    go_upto_region 6 with fail
    obtain⟨Vw,hW⟩:∃ Vw,Vw=(wr.alloc (.cells #[.int .i64 x0,.int .i64 x1,.int .i64 x2] 37)):=⟨_,rfl⟩
    have hBx:Below wr.heap.size wr Vw:=hW ▸ (Below.al (Below.refl _ _))
    have HE:Hid (Own wr.heap.size ([.int .i64 x0,.int .i64 x1,.int .i64 x2]) Vw):=Lib.hid (hW ▸ (show Own wr.heap.size ([.int .i64 x0,.int .i64 x1,.int .i64 x2]) (wr.alloc (.cells #[.int .i64 x0,.int .i64 x1,.int .i64 x2] 37)) from Own.newAt (by simp)))
    rw[← hW]
    clear hW
    obtain⟨Q,eQ⟩:∃ X,X=wr.heap.size:=⟨_,rfl⟩
    rw[← eQ] at HE ⊢
    have Qw:wr.heap.size≤Q:=by omega
    clear eQ
    have HB_:=Lib.hid (Below.go HB.out hBx)
    have HDD:=(Has.later (b:=D2) (o:=o2+k*3) (cs:=[.int .i64 y0,.int .i64 y1,.int .i64 y2]) ⟨hD2,fun j v hj=>by
     match j,hj with
     | 0,hj=>cases hj;exact d0
     | 1,hj=>cases hj;exact d1
     | 2,hj=>cases hj;exact d2⟩ hBx)
    clear d0 c0 d1 c1 d2 c2 hD hD2 hBx HB Qw
    have d0:=HDD.at 0 _ rfl;have d1:=HDD.at 1 _ rfl;have d2:=HDD.at 2 _ rfl
    rw[Nat.add_zero] at d0
    have hD2:=HDD.lt
    clear HDD
    have oQ:=HE.out
    have Q0:=oQ.at 0 _ rfl
    have Q1:=oQ.at 1 _ rfl
    have Q2:=oQ.at 2 _ rfl
    have Ql:=oQ.lt
    clear oQ
    go_quiet (fail)
    have hBd:Below Vw.heap.size Vw (Vw.drewN nq):=below_drewN (Below.refl _ _) _
    have HB1:=Lib.hid (Below.go HB_.out hBd)
    clear HB_ hBd hD2 d0 Q0 d1 Q1 d2 Q2 Ql HE
    generalize Vw.drewN nq=z1 at *
    cases u with
    | false =>
     obtain rfl:b=false:=EB.out.symm.trans (eqS3_no HLT.out EU.out)
     clear eu ALL
     go_wp2_with (fail)
     go_ret
     exact⟨rfl,HB1.out⟩
    | true =>
     have ALL2:Hid (∀ j,j<k+1→el3 f g j=true):=Lib.hid fun j hj=>(Nat.lt_succ_iff_lt_or_eq.1 hj).elim (ALL.out j) (fun e=>by rw[e];exact EU.out)
     clear eu ALL
     go_wp2_with (fail)
     go_roundw
     case rel=>(first | exact⟨k+1,HLT.out,by go_num,ALL2,HB1⟩ | ((repeat apply Exists.intro);exact⟨⟨k+1,HLT.out,by go_num,ALL2,HB1⟩,rfl⟩))
     case measure=>(have:=HLT.out;simp[intOf];omega)
   ·obtain rfl:k=n:=by omega
    obtain rfl:b=true:=EB.out.symm.trans (eqS3_yes rfl ALL.out)
    clear hlt hk ALL
    go_wp2_with (fail)
    go_ret
    exact⟨rfl,HB.out⟩
 ·obtain rfl:b=false:=EB.out.symm.trans (eqS3_len e)
  have d0:((n:Int) != (m:Int))=true:=by simp;omega
  clear e
  go_wp2_with (fail)
  go_ret
  exact⟨rfl,Below.refl _ _⟩
end Go.Proofs.YtbilamnnneddmaaGreatDoor
namespace Go.Proofs.YtbilamnnneddmaaGreatDoor
set_option linter.unusedVariables false
set_option maxRecDepth 2000
set_option linter.unusedSimpArgs false
open Go.RowKit
theorem eql3d (d:Nat) (a0 a1 a2 b0 b1 b2:Int) (w:World):(Op.equalIn (d+2) 37 (.agg #[.int .i64 a0,.int .i64 a1,.int .i64 a2]) (.agg #[.int .i64 b0,.int .i64 b1,.int .i64 b2])).run Tryz.prog w = .ok (eq3B a0 a1 a2 b0 b1 b2) w:=by
 rw[Op.equalIn]
 simp only[Sem.run_bind,run_underlying Tryz.underlying37,Result.andThen_ok]
 unfold eq3B
 by_cases e0:a0=b0<;>by_cases e1:a1=b1<;>by_cases e2:a2=b2<;>simp[go_sem,List.range',e0,e1,e2]
def matB (f g:Nat→Int):Bool:=(f 0 == g 0) && (eq3B (f 1) (f 2) (f 3) (g 1) (g 2) (g 3) && (f 4 == g 4))
theorem matB_iff {f g:Nat→Int}:matB f g=true↔∀ j,j<5→f j=g j:=by
 unfold matB
 simp only[Bool.and_eq_true,beq_iff_eq,eq3B_iff]
 constructor
 ·rintro ⟨a,⟨b,c,d⟩,e⟩ j hj
  match j,hj with
  | 0,_=>exact a
  | 1,_=>exact b
  | 2,_=>exact c
  | 3,_=>exact d
  | 4,_=>exact e
 ·intro h
  exact⟨h 0 (by decide),⟨h 1 (by decide),h 2 (by decide),h 3 (by decide)⟩,h 4 (by decide)⟩
def lgtB (f g:Nat→Int):Bool:=(f 0 == g 0) && (eq3B (f 1) (f 2) (f 3) (g 1) (g 2) (g 3) && ((f 4 == g 4) && ((f 5 == g 5) && ((f 6 == g 6) && ((f 7 == g 7) && ((f 8 == g 8) && ((f 9 == g 9) && ((f 10 == g 10) && ((f 11 == g 11) && ((f 12 == g 12)))))))))))
theorem lgtB_iff {f g:Nat→Int}:lgtB f g=true↔∀ j,j<13→f j=g j:=by
 unfold lgtB
 simp only[Bool.and_eq_true,beq_iff_eq,eq3B_iff]
 constructor
 ·rintro ⟨a,⟨b,c,d⟩,e0,e1,e2,f0,f1,f2,g0,g1,g2⟩ j hj
  match j,hj with
  | 0,_=>exact a
  | 1,_=>exact b
  | 2,_=>exact c
  | 3,_=>exact d
  | 4,_=>exact e0
  | 5,_=>exact e1
  | 6,_=>exact e2
  | 7,_=>exact f0
  | 8,_=>exact f1
  | 9,_=>exact f2
  | 10,_=>exact g0
  | 11,_=>exact g1
  | 12,_=>exact g2
 ·intro h
  exact⟨h 0 (by decide),⟨h 1 (by decide),h 2 (by decide),h 3 (by decide)⟩,h 4 (by decide),h 5 (by decide),h 6 (by decide),h 7 (by decide),h 8 (by decide),h 9 (by decide),h 10 (by decide),h 11 (by decide),h 12 (by decide)⟩
set_option maxHeartbeats 4000000 in
theorem eqlMat (f g:Nat→Int) (w:World):(binOp .eql 39 (.agg #[.int .i64 (f 0),.int .i64 (f 1),.int .i64 (f 2),.int .i64 (f 3),.int .i64 (f 4)]) (.agg #[.int .i64 (g 0),.int .i64 (g 1),.int .i64 (g 2),.int .i64 (g 3),.int .i64 (g 4)])).run Tryz.prog w = .ok (.bool (matB f g)) w:=by
 have h0:=eql3d 9997 (f 1) (f 2) (f 3) (g 1) (g 2) (g 3) w
 rw[run_eql_struct]
 unfold matB
 simp[go_sem,h0]
 repeat' split
 all_goals simp_all
set_option maxHeartbeats 4000000 in
theorem eqlLgt (f g:Nat→Int) (w:World):(binOp .eql 43 (.agg #[.int .i64 (f 0),.int .i64 (f 1),.int .i64 (f 2),.int .i64 (f 3),.int .i64 (f 4),.int .i64 (f 5),.int .i64 (f 6),.int .i64 (f 7),.int .i64 (f 8),.int .i64 (f 9),.int .i64 (f 10),.int .i64 (f 11),.int .i64 (f 12)]) (.agg #[.int .i64 (g 0),.int .i64 (g 1),.int .i64 (g 2),.int .i64 (g 3),.int .i64 (g 4),.int .i64 (g 5),.int .i64 (g 6),.int .i64 (g 7),.int .i64 (g 8),.int .i64 (g 9),.int .i64 (g 10),.int .i64 (g 11),.int .i64 (g 12)])).run Tryz.prog w = .ok (.bool (lgtB f g)) w:=by
 have h0:=eql3d 9997 (f 1) (f 2) (f 3) (g 1) (g 2) (g 3) w
 rw[run_eql_struct]
 unfold lgtB
 simp[go_sem,h0]
 repeat' split
 all_goals simp_all
end Go.Proofs.YtbilamnnneddmaaGreatDoor
namespace Go.Proofs.YtbilamnnneddmaaGreatDoor
set_option linter.unusedVariables false
set_option maxRecDepth 2000
set_option linter.unusedSimpArgs false
open Go.RowKit
structure Ast where
 k:Int
 M:Msh
 X:Txr
 g:Nat→Int
 l:Nat→Int
structure AstAt (A:Ast) (w:World):Prop where
 m:MeshAt A.M w
 x:TxAt A.X w
theorem AstAt.later {A:Ast} {w w':World} (h:AstAt A w) (hb:Below w.heap.size w w'):AstAt A w':=⟨h.m.later hb,h.x.later hb⟩
def cA (A:Ast):List Value:=[.int .i64 A.k,.slice A.M.qv A.M.nv A.M.cv,.slice A.M.qu A.M.nu A.M.cu,.slice A.M.qt A.M.nt A.M.ct,.int .i64 A.X.S,.slice A.X.q A.X.n A.X.c,.int .i64 (A.g 0),.int .i64 (A.g 1),.int .i64 (A.g 2),.int .i64 (A.g 3),.int .i64 (A.g 4),.int .i64 (A.l 0),.int .i64 (A.l 1),.int .i64 (A.l 2),.int .i64 (A.l 3),.int .i64 (A.l 4),.int .i64 (A.l 5),.int .i64 (A.l 6),.int .i64 (A.l 7),.int .i64 (A.l 8),.int .i64 (A.l 9),.int .i64 (A.l 10),.int .i64 (A.l 11),.int .i64 (A.l 12)]
structure FewA (A:Ast):Prop where
 v:A.M.nv≤10000
 u:A.M.nu≤10000
 t:A.M.nt≤10000
 x:A.X.n≤10000
def sameA (A B:Ast):Bool:=(A.k == B.k) && (eqS3 A.M.nv B.M.nv A.M.V B.M.V && (eqS2 A.M.nu B.M.nu A.M.U B.M.U && (eqS3 A.M.nt B.M.nt A.M.R B.M.R && ((A.X.S == B.X.S) && (eqS3 A.X.n B.X.n A.X.f B.X.f && (matB A.g B.g && lgtB A.l B.l))))))
structure EqA (A B:Ast):Prop where
 k:A.k=B.k
 v:A.M.nv=B.M.nv∧∀ j,j<A.M.nv*3→A.M.V j=B.M.V j
 u:A.M.nu=B.M.nu∧∀ j,j<A.M.nu*2→A.M.U j=B.M.U j
 t:A.M.nt=B.M.nt∧∀ j,j<A.M.nt*3→A.M.R j=B.M.R j
 s:A.X.S=B.X.S
 x:A.X.n=B.X.n∧∀ j,j<A.X.n*3→A.X.f j=B.X.f j
 g:∀ j,j<5→A.g j=B.g j
 l:∀ j,j<13→A.l j=B.l j
theorem sameA_iff {A B:Ast}:sameA A B=true↔EqA A B:=by
 unfold sameA
 simp only[Bool.and_eq_true,beq_iff_eq,eqS3_iff,eqS2_iff,matB_iff,lgtB_iff]
 exact⟨fun ⟨a,b,c,d,e,f,g,h⟩=>⟨a,b,c,d,e,f,g,h⟩,fun ⟨a,b,c,d,e,f,g,h⟩=>⟨a,b,c,d,e,f,g,h⟩⟩
theorem EqA.refl (A:Ast):EqA A A:=⟨rfl,⟨rfl,fun _ _=>rfl⟩,⟨rfl,fun _ _=>rfl⟩,⟨rfl,fun _ _=>rfl⟩,rfl,⟨rfl,fun _ _=>rfl⟩,fun _ _=>rfl,fun _ _=>rfl⟩
theorem sameA_self (A:Ast):sameA A A=true:=sameA_iff.2 (EqA.refl A)
attribute [local go_sem ↓] eqlMat eqlLgt
set_option maxHeartbeats 16000000 in
theorem Same_any (A B:Ast) (w:World) (hA:AstAt A w) (hB:AstAt B w) (hF:FewA A):Calls Tryz.prog 23 #[(.agg (cA A).toArray),(.agg (cA B).toArray)] w fun e w'=>e = .returned (.bool (sameA A B))∧Below w.heap.size w w':=by
 have AA:=Lib.hid hA;have BB:=Lib.hid hB;have FF:=Lib.hid hF
 obtain⟨b,eb⟩:∃ b,sameA A B=b:=⟨_,rfl⟩
 rw[eb]
 have EB:=Lib.hid eb
 unfold sameA at EB
 obtain⟨b0,e0⟩:∃ b,(A.k == B.k)=b:=⟨_,rfl⟩
 obtain⟨b1,e1⟩:∃ b,eqS3 A.M.nv B.M.nv A.M.V B.M.V=b:=⟨_,rfl⟩
 obtain⟨b2,e2⟩:∃ b,eqS2 A.M.nu B.M.nu A.M.U B.M.U=b:=⟨_,rfl⟩
 obtain⟨b3,e3⟩:∃ b,eqS3 A.M.nt B.M.nt A.M.R B.M.R=b:=⟨_,rfl⟩
 obtain⟨b4,e4⟩:∃ b,(A.X.S == B.X.S)=b:=⟨_,rfl⟩
 obtain⟨b5,e5⟩:∃ b,eqS3 A.X.n B.X.n A.X.f B.X.f=b:=⟨_,rfl⟩
 obtain⟨b6,e6⟩:∃ b,matB A.g B.g=b:=⟨_,rfl⟩
 obtain⟨b7,e7⟩:∃ b,lgtB A.l B.l=b:=⟨_,rfl⟩
 rw[e0,e1,e2,e3,e4,e5,e6,e7] at EB
 have E1:=Lib.hid e1;have E2:=Lib.hid e2;have E3:=Lib.hid e3;have E5:=Lib.hid e5
 have E4:=Lib.hid e4;have E6:=Lib.hid e6;have E7:=Lib.hid e7
 clear hA hB hF eb e1 e2 e3 e5 e4 e6 e7
 go_enter Tryz.func23,Tryz.ntmps23
 go_upto_region 1 with fail
 simp only[List.append]
 obtain⟨W0,hW⟩:∃ W0,W0=((w.alloc (.cells (cA A).toArray 45)).alloc (.cells (cA B).toArray 45)):=⟨_,rfl⟩
 have hB0:Below w.heap.size w W0:=hW ▸ (Below.al (Below.al (Below.refl _ _)))
 have HP:Hid (Own w.heap.size ((cA A)) W0):=Lib.hid (hW ▸ (show Own w.heap.size ((cA A)) (w.alloc (.cells (cA A).toArray 45)) from Own.newAt (by simp)).alloc)
 have HQ:Hid (Own (w.heap.size+1) ((cA B)) W0):=Lib.hid (hW ▸ (show Own (w.heap.size+1) ((cA B)) ((w.alloc (.cells (cA A).toArray 45)).alloc (.cells (cA B).toArray 45)) from Own.newAt (by simp)))
 rw[← hW]
 clear hW
 obtain⟨Q,eQ⟩:∃ X,X=(w.heap.size+1):=⟨_,rfl⟩
 rw[← eQ] at HQ ⊢
 have Qw:w.heap.size≤Q:=by omega
 obtain⟨P,eP⟩:∃ X,X=w.heap.size:=⟨_,rfl⟩
 rw[← eP] at HP ⊢
 have Pw:w.heap.size≤P:=by omega
 have nPQ:P≠Q:=by omega
 have nQP:Q≠P:=by omega
 clear eP eQ
 have HB:=Lib.hid hB0
 have AA_:=Lib.hid (AA.out.later hB0)
 clear AA
 have AA:=AA_
 clear AA_
 have BB_:=Lib.hid (BB.out.later hB0)
 clear BB
 have BB:=BB_
 clear BB_
 clear hB0
 have oP:=HP.out
 have P0:=oP.at 0 _ rfl
 have P1:=oP.at 1 _ rfl
 have Pl:=oP.lt
 clear oP
 have oQ:=HQ.out
 have Q0:=oQ.at 0 _ rfl
 have Q1:=oQ.at 1 _ rfl
 have Ql:=oQ.lt
 clear oQ
 cases b0 with
 | false =>
  go_wp2_with (fail)
  go_ret
  exact⟨by rw[← EB.out];rfl,HB.out⟩
 | true =>
  go_wp2_with (fail)
  clear P0 P1 Pl Q0 Q1 Ql
  go_at_call 51
  refine (EqP_any _ _ _ A.M.V _ _ _ B.M.V (Nat.le_trans FF.out.v (by decide)) _ AA.out.m.v BB.out.m.v).mono ?_
  rintro e w1 ⟨rfl,hb⟩
  have HP_:=Lib.hid (HP.out.later hb)
  clear HP
  have HP:=HP_
  clear HP_
  have HQ_:=Lib.hid (HQ.out.later hb)
  clear HQ
  have HQ:=HQ_
  clear HQ_
  have AA_:=Lib.hid (AA.out.later hb)
  clear AA
  have AA:=AA_
  clear AA_
  have BB_:=Lib.hid (BB.out.later hb)
  clear BB
  have BB:=BB_
  clear BB_
  have HB_:=Lib.hid (Below.go HB.out hb)
  clear HB
  have HB:=HB_
  clear HB_
  clear hb
  rw[E1.out]
  have oP:=HP.out
  have P2:=oP.at 2 _ rfl
  have Pl:=oP.lt
  clear oP
  have oQ:=HQ.out
  have Q2:=oQ.at 2 _ rfl
  have Ql:=oQ.lt
  clear oQ
  cases b1 with
  | false =>
   go_wp2_with (fail)
   go_ret
   exact⟨by rw[← EB.out];rfl,HB.out⟩
  | true =>
   go_wp2_with (fail)
   clear P2 Pl Q2 Ql
   go_at_call 52
   refine (EqU_any _ _ _ A.M.U _ _ _ B.M.U (Nat.le_trans FF.out.u (by decide)) _ AA.out.m.u BB.out.m.u).mono ?_
   rintro e w2 ⟨rfl,hb⟩
   have HP_:=Lib.hid (HP.out.later hb)
   clear HP
   have HP:=HP_
   clear HP_
   have HQ_:=Lib.hid (HQ.out.later hb)
   clear HQ
   have HQ:=HQ_
   clear HQ_
   have AA_:=Lib.hid (AA.out.later hb)
   clear AA
   have AA:=AA_
   clear AA_
   have BB_:=Lib.hid (BB.out.later hb)
   clear BB
   have BB:=BB_
   clear BB_
   have HB_:=Lib.hid (Below.go HB.out hb)
   clear HB
   have HB:=HB_
   clear HB_
   clear hb
   rw[E2.out]
   have oP:=HP.out
   have P3:=oP.at 3 _ rfl
   have Pl:=oP.lt
   clear oP
   have oQ:=HQ.out
   have Q3:=oQ.at 3 _ rfl
   have Ql:=oQ.lt
   clear oQ
   cases b2 with
   | false =>
    go_wp2_with (fail)
    go_ret
    exact⟨by rw[← EB.out];rfl,HB.out⟩
   | true =>
    go_wp2_with (fail)
    clear P3 Pl Q3 Ql
    go_at_call 53
    refine (EqT_any _ _ _ A.M.R _ _ _ B.M.R (Nat.le_trans FF.out.t (by decide)) _ AA.out.m.t BB.out.m.t).mono ?_
    rintro e w3 ⟨rfl,hb⟩
    have HP_:=Lib.hid (HP.out.later hb)
    clear HP
    have HP:=HP_
    clear HP_
    have HQ_:=Lib.hid (HQ.out.later hb)
    clear HQ
    have HQ:=HQ_
    clear HQ_
    have AA_:=Lib.hid (AA.out.later hb)
    clear AA
    have AA:=AA_
    clear AA_
    have BB_:=Lib.hid (BB.out.later hb)
    clear BB
    have BB:=BB_
    clear BB_
    have HB_:=Lib.hid (Below.go HB.out hb)
    clear HB
    have HB:=HB_
    clear HB_
    clear hb
    rw[E3.out]
    have oP:=HP.out
    have P4:=oP.at 4 _ rfl
    have P5:=oP.at 5 _ rfl
    have Pl:=oP.lt
    clear oP
    have oQ:=HQ.out
    have Q4:=oQ.at 4 _ rfl
    have Q5:=oQ.at 5 _ rfl
    have Ql:=oQ.lt
    clear oQ
    cases b3 with
    | false =>
     go_wp2_with (fail)
     go_ret
     exact⟨by rw[← EB.out];rfl,HB.out⟩
    | true =>
     have e4:=E4.out
     clear E4
     cases b4 with
     | false =>
      go_wp2_with (fail)
      go_ret
      exact⟨by rw[← EB.out];rfl,HB.out⟩
     | true =>
      go_wp2_with (fail)
      clear P4 P5 Pl Q4 Q5 Ql
      go_at_call 53
      refine (EqT_any _ _ _ A.X.f _ _ _ B.X.f (Nat.le_trans FF.out.x (by decide)) _ AA.out.x.t BB.out.x.t).mono ?_
      rintro e w4 ⟨rfl,hb⟩
      have HP_:=Lib.hid (HP.out.later hb)
      clear HP
      have HP:=HP_
      clear HP_
      have HQ_:=Lib.hid (HQ.out.later hb)
      clear HQ
      have HQ:=HQ_
      clear HQ_
      have AA_:=Lib.hid (AA.out.later hb)
      clear AA
      have AA:=AA_
      clear AA_
      have BB_:=Lib.hid (BB.out.later hb)
      clear BB
      have BB:=BB_
      clear BB_
      have HB_:=Lib.hid (Below.go HB.out hb)
      clear HB
      have HB:=HB_
      clear HB_
      clear hb
      rw[E5.out]
      have oP:=HP.out
      have P6:=oP.at 6 _ rfl
      have P7:=oP.at 7 _ rfl
      have P8:=oP.at 8 _ rfl
      have P9:=oP.at 9 _ rfl
      have P10:=oP.at 10 _ rfl
      have P11:=oP.at 11 _ rfl
      have P12:=oP.at 12 _ rfl
      have P13:=oP.at 13 _ rfl
      have P14:=oP.at 14 _ rfl
      have P15:=oP.at 15 _ rfl
      have P16:=oP.at 16 _ rfl
      have P17:=oP.at 17 _ rfl
      have P18:=oP.at 18 _ rfl
      have P19:=oP.at 19 _ rfl
      have P20:=oP.at 20 _ rfl
      have P21:=oP.at 21 _ rfl
      have P22:=oP.at 22 _ rfl
      have P23:=oP.at 23 _ rfl
      have Pl:=oP.lt
      clear oP
      have oQ:=HQ.out
      have Q6:=oQ.at 6 _ rfl
      have Q7:=oQ.at 7 _ rfl
      have Q8:=oQ.at 8 _ rfl
      have Q9:=oQ.at 9 _ rfl
      have Q10:=oQ.at 10 _ rfl
      have Q11:=oQ.at 11 _ rfl
      have Q12:=oQ.at 12 _ rfl
      have Q13:=oQ.at 13 _ rfl
      have Q14:=oQ.at 14 _ rfl
      have Q15:=oQ.at 15 _ rfl
      have Q16:=oQ.at 16 _ rfl
      have Q17:=oQ.at 17 _ rfl
      have Q18:=oQ.at 18 _ rfl
      have Q19:=oQ.at 19 _ rfl
      have Q20:=oQ.at 20 _ rfl
      have Q21:=oQ.at 21 _ rfl
      have Q22:=oQ.at 22 _ rfl
      have Q23:=oQ.at 23 _ rfl
      have Ql:=oQ.lt
      clear oQ
      cases b5 with
      | false =>
       go_wp2_with (fail)
       go_ret
       exact⟨by rw[← EB.out];rfl,HB.out⟩
      | true =>
       have e6:=E6.out;have e7:=E7.out
       cases b6 with
       | false =>
        go_wp2_with (fail)
        go_ret
        exact⟨by rw[← EB.out];rfl,HB.out⟩
       | true =>
        cases b7 with
        | false =>
         go_wp2_with (fail)
         go_ret
         exact⟨by rw[← EB.out];rfl,HB.out⟩
        | true =>
         go_wp2_with (fail)
         go_ret
         exact⟨by rw[← EB.out];rfl,HB.out⟩
end Go.Proofs.YtbilamnnneddmaaGreatDoor
