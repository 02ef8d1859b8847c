import Derived.Test.YtbilamnnneddmaaGreatDoorZDOx
import Derived.Lib.Hide
import Derived.LoopN
import Derived.LoopTactic
import Derived.Deep.Onto
import Derived.Deep.RegionHeld3
import Derived.Deep.QuietTactic
import Derived.BigQuiet
import Derived.Great.BuildSlice
import Derived.StillTailTactics
import Derived.Lib.SliceRun
namespace Go.Proofs.YtbilamnnneddmaaGreatDoor
set_option linter.unusedVariables false
set_option maxRecDepth 2000
set_option linter.unusedSimpArgs false
open Go.RowKit
theorem has_sub {b o:Nat} {cs ds:List Value} {W:World} (k:Nat) (h:Has b o cs W) (e:∀ j v,ds[j]?=some v→cs[k+j]?=some v):Has b (o+k) ds W:=⟨h.lt,fun j v hv=>by
 have:=h.cell (k+j) v (e j v hv)
 rw[← Nat.add_assoc] at this
 exact this⟩
theorem btw1 (lo hi x:Int) (b:Bool) (h:decide (lo≤x∧x≤hi)=b):btw lo hi (fun _=>x) 1=b:=by rw[btw_1];exact h
theorem Material_any (g:Nat→Int) (w:World):Calls Tryz.prog 124 #[(.agg #[.int .i64 (g 0),.int .i64 (g 1),.int .i64 (g 2),.int .i64 (g 3),.int .i64 (g 4)])] w fun e w'=>e = .returned (.int .i64 (chkG g))∧Below w.heap.size w w':=by
 have KY:=Lib.hid (@chkG_yes g);have KN:=Lib.hid (@chkG_no g);have KI:=Lib.hid (@okG_iff g)
 generalize chkG g=z at *
 generalize okG g=k at *
 obtain⟨b1,e1⟩:∃ b,decide (0≤g 0∧g 0≤4)=b:=⟨_,rfl⟩
 obtain⟨b2,e2⟩:∃ b,btw 0 65535 (fun i=>g (1+i)) 3=b:=⟨_,rfl⟩
 obtain⟨b3,e3⟩:∃ b,decide (0≤g 4∧g 4≤65535)=b:=⟨_,rfl⟩
 have E1:=Lib.hid e1;have E2:=Lib.hid e2;have E3:=Lib.hid e3
 have HK:Hid (k=(b1 && (b2 && b3))):=Lib.hid (by
  have h2:=@btw_3 0 65535 (fun i=>g (1+i))
  rw[e2] at h2
  simp only[Nat.add_zero,Nat.reduceAdd] at h2
  have hk:=KI.out
  subst e1 e3
  clear E1 E2 E3 e2
  have e:(k=true)↔((decide (0≤g 0∧g 0≤4) && (b2 && decide (0≤g 4∧g 4≤65535)))=true):=by
   rw[hk,Bool.and_eq_true,Bool.and_eq_true,decide_eq_true_eq,decide_eq_true_eq,h2]
   omega
  exact Bool.eq_iff_iff.2 e)
 have HZ:Hid (z=if (b1 && (b2 && b3)) then 0 else 5):=Lib.hid (by
  rw[← HK.out]
  split
  ·next h=>exact KY.out h
  ·next h=>exact KN.out h)
 clear KY KN KI HK e1 e2 e3
 go_enter Tryz.func124,Tryz.ntmps124
 go_upto_region 1 with fail
 obtain⟨W0,hW⟩:∃ W0,W0=(w.alloc (.cells #[.int .i64 (g 0),.int .i64 (g 1),.int .i64 (g 2),.int .i64 (g 3),.int .i64 (g 4)] 39)):=⟨_,rfl⟩
 have hB0:Below w.heap.size w W0:=hW ▸ (Below.al (Below.refl _ _))
 have HA:Hid (Own w.heap.size ([.int .i64 (g 0),.int .i64 (g 1),.int .i64 (g 2),.int .i64 (g 3),.int .i64 (g 4)]) W0):=Lib.hid (hW ▸ (show Own w.heap.size ([.int .i64 (g 0),.int .i64 (g 1),.int .i64 (g 2),.int .i64 (g 3),.int .i64 (g 4)]) (w.alloc (.cells #[.int .i64 (g 0),.int .i64 (g 1),.int .i64 (g 2),.int .i64 (g 3),.int .i64 (g 4)] 39)) from Own.newAt (by simp)))
 rw[← hW]
 clear hW
 obtain⟨A,eA⟩:∃ X,X=w.heap.size:=⟨_,rfl⟩
 rw[← eA] at HA ⊢
 have Aw:w.heap.size≤A:=by omega
 clear eA
 have HB:=Lib.hid hB0
 clear hB0
 have oA:=HA.out
 have A0:=oA.at 0 _ rfl
 have Al:=oA.lt
 clear oA
 go_wp2_with (fail)
 clear A0 Al
 go_at_call 152
 refine (within_any 0 4 _ 1 1 (fun _=>g 0) (by decide) (by decide) _ (nm_new rfl)).mono ?_
 rintro e w1 ⟨rfl,hw⟩
 rw[btw1 _ _ _ _ E1.out]
 have hb:=show Below W0.heap.size W0 _ from hw ▸ (Below.al (Below.refl _ _))
 clear hw
 have HA_:=Lib.hid (HA.out.later hb)
 clear HA
 have HA:=HA_
 clear HA_
 have HB_:=Lib.hid (Below.go HB.out hb)
 clear HB
 have HB:=HB_
 clear HB_
 clear hb
 cases b1 with
 | false =>
  go_wp2_with (fail)
  go_ret
  exact⟨by rw[HZ.out];rfl,HB.out⟩
 | true =>
  have oA:=HA.out
  have A0:=oA.at 0 _ rfl
  have A1:=oA.at 1 _ rfl
  have A2:=oA.at 2 _ rfl
  have A3:=oA.at 3 _ rfl
  have A4:=oA.at 4 _ rfl
  have Al:=oA.lt
  clear oA
  go_wp2_with (fail)
  clear A0 A1 A2 A3 A4 Al
  have NA:Nm w1 .i64 (some ⟨A,1,none⟩) 3 (fun i=>g (1+i)) := .inr ⟨A,1,rfl,has_sub 1 HA.out.has (fun j v h=>by
   match j,h with
   | 0,h=>exact h
   | 1,h=>exact h
   | 2,h=>exact h)⟩
  go_at_call 152
  refine (within_any 0 65535 _ 3 3 (fun i=>g (1+i)) (by decide) (by decide) _ NA).mono ?_
  rintro e w2 ⟨rfl,hw⟩
  subst hw
  clear NA
  rw[E2.out]
  cases b2 with
  | false =>
   go_wp2_with (fail)
   go_ret
   exact⟨by rw[HZ.out];rfl,HB.out⟩
  | true =>
   have oA:=HA.out
   have A0:=oA.at 0 _ rfl
   have A1:=oA.at 1 _ rfl
   have A2:=oA.at 2 _ rfl
   have A3:=oA.at 3 _ rfl
   have A4:=oA.at 4 _ rfl
   have Al:=oA.lt
   clear oA
   go_wp2_with (fail)
   clear A0 A1 A2 A3 A4 Al
   go_at_call 152
   refine (within_any 0 65535 _ 1 1 (fun _=>g 4) (by decide) (by decide) _ (nm_new rfl)).mono ?_
   rintro e w3 ⟨rfl,hw⟩
   rw[btw1 _ _ _ _ E3.out]
   have hb:=show Below w2.heap.size w2 _ from hw ▸ (Below.al (Below.refl _ _))
   clear hw
   have HA_:=Lib.hid (HA.out.later hb)
   clear HA
   have HA:=HA_
   clear HA_
   have HB_:=Lib.hid (Below.go HB.out hb)
   clear HB
   have HB:=HB_
   clear HB_
   clear hb
   cases b3 with
   | false =>
    go_wp2_with (fail)
    go_ret
    exact⟨by rw[HZ.out];rfl,HB.out⟩
   | true =>
    go_wp2_with (fail)
    go_ret
    exact⟨by rw[HZ.out];rfl,HB.out⟩
end Go.Proofs.YtbilamnnneddmaaGreatDoor
